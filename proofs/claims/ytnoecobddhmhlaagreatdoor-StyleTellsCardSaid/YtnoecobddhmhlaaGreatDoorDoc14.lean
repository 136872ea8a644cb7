/-
  A document: what Move asks for: how many other children, how many levels.
-/
import Derived.Test.YtnoecobddhmhlaaGreatDoorJ12
import Derived.Test.YtnoecobddhmhlaaGreatDoorJ15
namespace Go.Proofs.YtnoecobddhmhlaaGreatDoor
open Go.RowKit

set_option maxHeartbeats 2000000 in
theorem others_doc {B : Nat} {tg : Tags} {W : World} {DB MB : Nat} {p : Int → Option Nat} {M : Dm} {nx c : Nat} (hd : DocW B tg W DB MB p M nx c) (n par : Int) (e q : Elm) (hn : M n = some e) (hq : M par = some q) (hl : q.kids.length ≤ 1000000) :
    Calls Tryz.prog 67 #[.pointer (some ⟨DB, 0, none⟩), .int .i64 par, .int .i64 n] W fun r w' => r = .returned (.int .i64 (if e.parent = par then (q.kids.length : Int) - 1 else q.kids.length)) ∧ w' = W := by
  have hwn := hd.i64 hn
  have hwp := hd.i64 hq
  have d0 := hd.d0
  obtain ⟨EB, va, vk, hpn, he⟩ := hd.els n e hn
  obtain ⟨QB, qa, qk, hpq, heq⟩ := hd.els par q hq
  obtain ⟨oq, kq, rfl⟩ := own_slice heq.kids
  have x2 := he.c2
  have y3 := heq.c3
  by_cases hp : e.parent = par
  · have hp' : (e.parent == par) = true := by simp [hp]
    have hw : IntKind.i64.wrap ((q.kids.length : Int) - 1) = (q.kids.length : Int) - 1 := IntWalk.i64_in _ (by omega)
    rw [if_pos hp]
    go_enter Tryz.func67, Tryz.ntmps67
    go_wp2_with (at_lookup; first | (refine get_yes _ rfl _ _ 100 rfl Tryz.underlying3 Tryz.underlying100 (zeroEl _) rfl hd.map par rfl hwp QB hpq ?_) | (refine get_yes _ rfl _ _ 100 rfl Tryz.underlying3 Tryz.underlying100 (zeroEl _) rfl hd.map n rfl hwn EB hpn ?_))
    go_ret
    exact ⟨rfl, rfl⟩
  · have hp' : (e.parent == par) = false := by simp [hp]
    rw [if_neg hp]
    go_enter Tryz.func67, Tryz.ntmps67
    go_wp2_with (at_lookup; first | (refine get_yes _ rfl _ _ 100 rfl Tryz.underlying3 Tryz.underlying100 (zeroEl _) rfl hd.map par rfl hwp QB hpq ?_) | (refine get_yes _ rfl _ _ 100 rfl Tryz.underlying3 Tryz.underlying100 (zeroEl _) rfl hd.map n rfl hwn EB hpn ?_))
    go_ret
    exact ⟨rfl, rfl⟩

set_option maxRecDepth 20000 in
set_option maxHeartbeats 4000000 in
theorem walk_levels {B : Nat} {tg : Tags} {Wd : World} {DB MB : Nat} {p : Int → Option Nat} {M : Dm} {nx c : Nat} (hd : DocW B tg Wd DB MB p M nx c) (lb : Array Value) (I : List (Int × Int) → World → Prop) (hI : ∀ done W, I done W → (∀ b t, tg b = some t → W.heap[b]? = Wd.heap[b]?) ∧ Wd.heap.size ≤ W.heap.size)
    (hcall : ∀ done W i d, I done W → done.length < 1000000 → Calls Tryz.prog 113 (#[.int .i64 i, .int .i64 d] ++ lb) W fun e w' => e = .returned (.tuple #[]) ∧ I (done ++ [(i, d)]) w') :
    ∀ (f : Nat) (n d : Int) (done : List (Int × Int)) (W : World), Dp M f n → Wf64 n → 0 ≤ d → d + f ≤ 1000000 → done.length + (pre M f n d).length ≤ 1000000 → I done W →
    Calls Tryz.prog 110 #[.pointer (some ⟨DB, 0, none⟩), .int .i64 n, .int .i64 d, .func (.func 113) #[] lb] W fun e w' => e = .returned (.tuple #[]) ∧ I (done ++ pre M f n d) w'
  | 0, _, _, _, _, hp, _, _, _, _, _ => hp.elim
  | f + 1, n, d, done, W, hp, hn, hd0, hdf, hlen, hi => by
    have IH := walk_levels hd lb I hI hcall f
    have hs := hI done W hi
    have hw := hd.turn hs.1 hs.2
    have d0 := hw.d0
    cases hm : M n with
    | none =>
      have hpn := hd.non n hm
      have hpre : pre M (f + 1) n d = [] := by rw [pre, hm]
      rw [hpre, List.append_nil]
      go_enter Tryz.func110, Tryz.ntmps110
      go_wp2_with (at_lookup; refine look_no _ rfl _ _ 100 rfl Tryz.underlying3 Tryz.underlying100 (zeroEl _) rfl hw.map n rfl hn hpn ?_)
      refine bodyPost_ret (v := .tuple #[]) (by simp [results, Tryz.results110]) rfl ⟨rfl, hi⟩
    | some e =>
      have hpre : pre M (f + 1) n d = (n, d) :: e.kids.flatMap (fun k => pre M f k (d + 1)) := by rw [pre, hm]
      rw [hpre] at hlen ⊢
      rw [List.length_cons] at hlen
      obtain ⟨b, va, vk, hpn, he⟩ := hd.els n e hm
      have he1 := he.turn (tg' := tg) (w' := W) fun g t ht _ => ⟨ht, hs.1 g t ht⟩
      have HCL := hcall done W n d hi (by omega)
      obtain ⟨ov, kv, hvk⟩ := own_slice he.kids
      have HKD : Hid (∀ k ∈ e.kids, Dp M f k ∧ Wf64 k) := (fun k hk => ⟨hp e hm k hk, (hd.wf n e hm).2 k hk⟩ : ∀ k ∈ e.kids, Dp M f k ∧ Wf64 k)
      have HHI : Hid (∀ done W, I done W → (∀ b t, tg b = some t → W.heap[b]? = Wd.heap[b]?) ∧ Wd.heap.size ≤ W.heap.size) := hI
      have HIH : Hid (∀ (n d : Int) (done : List (Int × Int)) (W : World), Dp M f n → Wf64 n → 0 ≤ d → d + f ≤ 1000000 → done.length + (pre M f n d).length ≤ 1000000 → I done W → Calls Tryz.prog 110 #[.pointer (some ⟨DB, 0, none⟩), .int .i64 n, .int .i64 d, .func (.func 113) #[] lb] W fun e w' => e = .returned (.tuple #[]) ∧ I (done ++ pre M f n d) w') := IH
      have hkl : e.kids.length ≤ 9223372036854775807 := own_len he.kids
      clear hI IH hcall hi hp
      go_enter Tryz.func110, Tryz.ntmps110
      go_upto_region 3 with (first | (at_lookup; refine look_yes _ rfl _ _ 100 rfl Tryz.underlying3 Tryz.underlying100 (zeroEl _) rfl hw.map n rfl hn b hpn ?_) | (go_at_call 113; refine HCL.mono ?_; rintro r w1 ⟨rfl, hi1⟩))
      subst hvk
      have x3 := World.cell?_of_block ((HHI.out _ _ hi1).1 b _ he.tag) |>.trans he.c3
      have hd1 : d ≤ 999999 := by omega
      have HHE : Hid (ElW B tg Wd n b e va (.slice ov e.kids.length kv)) := he
      have HI1 : Hid (I (done ++ [(n, d)]) w1) := hi1
      clear he he1 hi1 hw d0 hs HCL
      go_wp2_with fail
      go_loopw [32] (fun y wr => ∃ k : Nat, k ≤ e.kids.length ∧ y = .int .i64 k ∧ I (done ++ ((n, d) :: (e.kids.take k).flatMap (fun i => pre M f i (d + 1)))) wr) (fun y _ => e.kids.length - (intOf y).toNat)
      case atStart => exact ⟨0, Nat.zero_le _, rfl, HI1.out⟩
      case round =>
        obtain ⟨k, hk, rfl, hi2⟩ := hrel
        by_cases hlt : k < e.kids.length
        · have hlt' : (k : Int) < (e.kids.length : Int) := by omega
          obtain ⟨kid, hx, -⟩ := drop_at hlt
          obtain ⟨g, hg, hc⟩ := row_get HHE.out.kids k _ (intsV_get hx)
          have hov : ov = some ⟨g, 0, none⟩ := by
            obtain ⟨o', cap', h1, -, -, -, h2⟩ := row_slice HHE.out.kids
            cases h1
            exact h2 g hg
          subst hov
          have hcw := World.cell?_of_block ((HHI.out _ _ hi2).1 g _ (HHE.out.ktag g hg)) |>.trans hc
          have hkd := HKD.out kid (List.mem_of_getElem? hx)
          have htk : (e.kids.take (k + 1)).flatMap (fun i => pre M f i (d + 1)) = (e.kids.take k).flatMap (fun i => pre M f i (d + 1)) ++ pre M f kid (d + 1) := by
            rw [List.take_add_one, hx]
            simp
          have hle := flat_take_le (fun i => pre M f i (d + 1)) e.kids (k + 1)
          rw [htk, List.length_append] at hle
          have HC := HIH.out kid (d + 1) _ wr hkd.1 hkd.2 (by omega) (by omega) (by rw [List.length_append, List.length_cons]; omega) hi2
          rw [List.append_assoc, List.cons_append, ← htk] at HC
          clear hi2 hc hg hx htk hle
          go_wp2_with (go_at_call 110; refine HC.mono ?_; rintro r w2 ⟨rfl, hi3⟩)
          go_roundw
          case rel => exact ⟨k + 1, by omega, by go_num, hi3⟩
          case measure => simp [intOf]; omega
        · obtain rfl : k = e.kids.length := by omega
          have hge : ¬ (e.kids.length : Int) < (e.kids.length : Int) := by omega
          rw [List.take_length] at hi2
          go_wp2_with fail
          refine bodyPost_end (results_none rfl _ _ _) rfl ⟨rfl, hi2⟩

/-- The deepest of these. -/
def mostD (l : List (Int × Int)) : Int := l.foldl (fun m x => max m x.2) 0
theorem mostD_snoc (l : List (Int × Int)) (x : Int × Int) : mostD (l ++ [x]) = max (mostD l) x.2 := by
  unfold mostD
  rw [List.foldl_append]
  rfl
def LevI (W : World) (done : List (Int × Int)) (Wc : World) : Prop := Below W.heap.size W Wc ∧ Wc.heap[W.heap.size]? = some (.cells #[.int .i64 (mostD done)] 3)
set_option maxHeartbeats 2000000 in
theorem deepest (W : World) (done : List (Int × Int)) (Wc : World) (i d : Int) (h : LevI W done Wc) :
    Calls Tryz.prog 113 (#[.int .i64 i, .int .i64 d] ++ #[.pointer (some ⟨W.heap.size, 0, none⟩)]) Wc fun e w' => e = .returned (.tuple #[]) ∧ LevI W (done ++ [(i, d)]) w' := by
  obtain ⟨hb, hc⟩ := h
  have c0 := bcell hc 0 _ rfl
  have f0 := froz_at hc 0
  have HB : Hid (Below W.heap.size W Wc) := hb
  have HC : Hid (Wc.heap[W.heap.size]? = some (.cells #[.int .i64 (mostD done)] 3)) := hc
  clear hb
  obtain ⟨PL, hPL⟩ : ∃ PL, W.heap.size = PL := ⟨_, rfl⟩
  rw [hPL] at c0 f0 hc ⊢
  obtain ⟨m, hm⟩ : ∃ m, mostD done = m := ⟨_, rfl⟩
  rw [hm] at c0 hc
  show Calls Tryz.prog 113 #[.int .i64 i, .int .i64 d, .pointer (some ⟨PL, 0, none⟩)] Wc _
  go_enter Tryz.func113, Tryz.ntmps113
  go_wp2_with fail
  refine bodyPost_end (results_none rfl _ _ _) rfl ⟨rfl, ?_, ?_⟩
  · have h7 := HB.out
    rw [hPL] at h7 ⊢
    exact h7.setCell (Nat.le_refl _) _
  · rw [hPL, heap_setCell_same Wc PL 0 _ _ _ hc, mostD_snoc, hm]
    simp
set_option maxHeartbeats 2000000 in
theorem levels_doc {B : Nat} {tg : Tags} {W : World} {DB MB : Nat} {p : Int → Option Nat} {M : Dm} {nx c : Nat} (hd : DocW B tg W DB MB p M nx c) (f : Nat) (n : Int) (hf : f ≤ 900000) (hp : Dp M f n) (hn : Wf64 n) (hl : (pre M f n 1).length ≤ 1000000) :
    Calls Tryz.prog 68 #[.pointer (some ⟨DB, 0, none⟩), .int .i64 n] W fun e w' => e = .returned (.int .i64 (mostD (pre M f n 1))) ∧ Below W.heap.size W w' := by
  have HW := walk_levels hd #[.pointer (some ⟨W.heap.size, 0, none⟩)] (LevI W) (fun done Wc h => ⟨fun b t ht => h.1.block b (hd.low b t ht).2, h.1.size⟩) (fun done Wc i d h _ => deepest W done Wc i d h) f n 1 [] (W.alloc (.cells #[.int .i64 0] 3)) hp hn (by decide) (by omega) (by rw [List.length_nil]; omega) ⟨mal W _, mbox W _ _⟩
  rw [List.nil_append] at HW
  go_enter Tryz.func68, Tryz.ntmps68
  go_wp2_with (go_at_call 110; refine HW.mono ?_; rintro e w1 ⟨rfl, h1⟩; obtain ⟨hb1, hc1⟩ := h1; have c1 := bcell hc1 0 _ rfl)
  go_ret
  exact ⟨rfl, hb1⟩

end Go.Proofs.YtnoecobddhmhlaaGreatDoor

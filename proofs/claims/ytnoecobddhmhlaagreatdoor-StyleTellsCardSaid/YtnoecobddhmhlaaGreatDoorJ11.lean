/-
  doc.New of any node.
-/
import Derived.Test.YtnoecobddhmhlaaGreatDoorDoc5
namespace Go.Proofs.YtnoecobddhmhlaaGreatDoor
open Go.RowKit

def tag0 (DB MB : Nat) : Tags := fun x => if x = DB then some .doc else if x = MB then some .map else none
theorem DocW.made {B : Nat} {w : World} {DB MB : Nat} (hd : w.heap[DB]? = some (.cells #[.map (some MB), .int .i64 0] 102)) (hm : PMap Tryz.prog 3 w MB (fun _ => none) 0 0) (hne : MB ≠ DB) (h1 : B ≤ DB) (h2 : B ≤ MB) : DocW B (tag0 DB MB) w DB MB (fun _ => none) (fun _ => none) 0 0 where
  doc := hd
  dtag := by unfold tag0; rw [if_pos rfl]
  map := hm
  mtag := by unfold tag0; rw [if_neg hne, if_pos rfl]
  els := fun _ _ h => by cases h
  non := fun _ _ => rfl
  low := fun b t ht => by
    unfold tag0 at ht
    split at ht
    · rename_i e; subst e; exact ⟨h1, heap_lt hd⟩
    · split at ht
      · rename_i e; subst e; exact ⟨h2, hm.lt⟩
      · cases ht
  dom := fun _ _ h => by cases h
  wf := fun _ _ h => by cases h
  few := by omega
  tnx := fun b i h => by
    unfold tag0 at h
    split at h
    · simp at h
    · split at h <;> simp at h
/-- What New tells of a node. -/
def NewR (E : Nat → Addr) (B : Nat) (n : Nd) (e : Ending) (w : World) : Prop :=
  ((ckN n 1 0).1 ≠ 0 ∧ ∃ pb, e = .returned (.tuple #[.pointer none, .iface 153 (.pointer (some ⟨pb, 0, none⟩))]) ∧ w.cell? ⟨pb, 0, none⟩ = some (.int .i64 (ckN n 1 0).2) ∧ w.cell? ⟨pb, 1, none⟩ = some (.iface 245 (.pointer (some (E (ckN n 1 0).1))))) ∨
  ((ckN n 1 0).1 = 0 ∧ ∃ DB MB tg p, e = .returned (.tuple #[.pointer (some ⟨DB, 0, none⟩), .nilIface]) ∧ DocW B tg w DB MB p (extE (fun _ => none) 0 (elN 0 (-1) n)) (szN n) (szN n))

attribute [local go_sem] run_store_func'

set_option maxRecDepth 20000 in
set_option maxHeartbeats 4000000 in
theorem New_any (E : Nat → Addr) (n : Nd) (c0 c1 c2 : Value) (W : World) (hE : CE E W) (hn : NdC W c0 c1 c2 n) (hs : szN n ≤ 1000000) :
    Calls Tryz.prog 8 #[.agg #[c0, c1, c2]] W fun e w' => Below W.heap.size W w' ∧ NewR E W.heap.size n e w' := by
  obtain ⟨sa, oa, na, ka, oa', na', ka', rfl, rfl, rfl⟩ : ∃ (sa : ByteArray) (oa : Option Addr) (na ka : Nat) (oa' : Option Addr) (na' ka' : Nat), c0 = .string sa ∧ c1 = .slice oa na ka ∧ c2 = .slice oa' na' ka' := by
    obtain ⟨nm, ats, ks⟩ := n
    unfold NdC at hn
    obtain ⟨rfl, -, ⟨o, cap, rfl, -⟩, ok, capk, rfl, -⟩ := hn
    exact ⟨_, _, _, _, _, _, _, rfl, rfl, rfl⟩
  have A0 : NB W.heap.size (.string sa) (.slice oa na ka) (.slice oa' na' ka') (W.alloc (.cells #[.string sa, .slice oa na ka, .slice oa' na' ka'] 25)) := mbox W #[.string sa, .slice oa na ka, .slice oa' na' ka'] 25
  have b0 := mal W (.cells #[.string sa, .slice oa na ka, .slice oa' na' ka'] 25)
  go_enter Tryz.func8, Tryz.ntmps8
  go_upto_region 1 with fail
  obtain ⟨V, hV⟩ : ∃ V, W.alloc (.cells #[.string sa, .slice oa na ka, .slice oa' na' ka'] 25) = V := ⟨_, rfl⟩
  obtain ⟨N, hN⟩ : ∃ N, W.heap.size = N := ⟨_, rfl⟩
  rw [hV] at A0 b0 ⊢
  rw [hN] at A0 ⊢
  have HN : Hid (W.heap.size = N) := hN
  clear hV hN
  have x0 := A0.c0
  have x1 := A0.c1
  have x2 := A0.c2
  have CK := Check_nd E n _ _ _ V (hE.below b0) (NdC.below b0 n hn)
  by_cases hc : (ckN n 1 0).1 = 0
  · have CK1 := CK.mono (R' := fun e w' => e = .returned .nilIface ∧ Below V.heap.size V w') (fun e w' h => by
      refine ⟨?_, h.1⟩
      rcases h.2 with h2 | h2
      · exact h2.2
      · exact absurd hc h2.1)
    have HC : Hid ((ckN n 1 0).1 = 0) := hc
    clear CK hc
    go_upto_region 4 with (go_at_call 48; refine CK1.mono ?_; rintro e w1 ⟨rfl, b1⟩)
    have B1 := mbel b0 b1
    have hsz1 := B1.size
    have hmm := @run_makeMap Tryz.prog
    go_upto_region 5 with fail
    have U0 : ∃ U MB, ((w1.alloc (.map #[] 0)).alloc (.cells #[.map (some w1.heap.size), .int .i64 0] 102)).alloc (.cells #[.pointer (some ⟨w1.heap.size + 1, 0, none⟩)] 30) = U ∧ w1.heap.size = MB ∧ U.heap[MB + 1]? = some (.cells #[.map (some MB), .int .i64 0] 102) ∧ PMap Tryz.prog 3 U MB (fun _ => none) 0 0 ∧ U.cell? ⟨MB + 1 + 1, 0, none⟩ = some (.pointer (some ⟨MB + 1, 0, none⟩)) ∧ U.heap.size = MB + 1 + 1 + 1 ∧ Below w1.heap.size w1 U := by
      refine ⟨_, _, rfl, rfl, ?_, ?_, ?_, by simp, ?_⟩
      · have h1 := mbox (w1.alloc (.map #[] 0)) #[.map (some w1.heap.size), .int .i64 0] 102
        have h2 := (mal ((w1.alloc (.map #[] 0)).alloc (.cells #[.map (some w1.heap.size), .int .i64 0] 102)) (.cells #[.pointer (some ⟨w1.heap.size + 1, 0, none⟩)] 30)).block _ (heap_lt h1)
        simp only [World.size_alloc] at h1 h2
        exact h2.trans h1
      · exact ((PMap.made w1 Tryz.prog 3).kept (World.grownBy_alloc _ _ none) (by simp)).kept (World.grownBy_alloc _ _ none) (by simp)
      · have h1 := mnew ((w1.alloc (.map #[] 0)).alloc (.cells #[.map (some w1.heap.size), .int .i64 0] 102)) #[.pointer (some ⟨w1.heap.size + 1, 0, none⟩)] 30 0 _ rfl
        simp only [World.size_alloc] at h1
        exact h1
      · exact mbel (mbel (mal _ _) (mal _ _)) (mal _ _)
    obtain ⟨U, MB, hU, hMB, dU, pU, cDU, sU, bU⟩ := U0
    rw [hU, hMB]
    have hMN : N < MB := by have := HN.out; have h2 := heap_lt A0; have := b1.size; omega
    clear hU
    have BU := mbel B1 bU
    have F0 := mnew U #[.func (.func 49) #[] #[.pointer (some ⟨MB + 1 + 1, 0, none⟩), .pointer (some ⟨U.heap.size, 0, none⟩)]] 103 0 (.func (.func 49) #[] #[.pointer (some ⟨MB + 1 + 1, 0, none⟩), .pointer (some ⟨U.heap.size, 0, none⟩)]) rfl
    have bF := mal U (.cells #[.func (.func 49) #[] #[.pointer (some ⟨MB + 1 + 1, 0, none⟩), .pointer (some ⟨U.heap.size, 0, none⟩)]] 103)
    have AU := ((mbel b1 bU).block N (heap_lt A0)).trans A0
    have D0 := DocW.made (B := W.heap.size) dU pU (by omega) (by have := HN.out; omega) (by have := HN.out; omega)
    go_upto_region 7 with fail
    obtain ⟨X, hX⟩ : ∃ X, U.alloc (.cells #[.func (.func 49) #[] #[.pointer (some ⟨MB + 1 + 1, 0, none⟩), .pointer (some ⟨U.heap.size, 0, none⟩)]] 103) = X := ⟨_, rfl⟩
    obtain ⟨PP, hPQ⟩ : ∃ PP, MB + 1 + 1 + 1 = PP := ⟨_, rfl⟩
    have hPP : U.heap.size = PP := sU.trans hPQ
    rw [hPP] at hX F0 bF
    rw [hPQ, hX]
    rw [hX] at F0 bF
    have D1 := D0.turn (w' := X) (fun g t ht => bF.block g (by rw [← hPP]; exact (D0.low g t ht).2)) bF.size
    have bX : Below U.heap.size U X := by rw [hPP]; exact bF
    have BX := mbel BU bX
    have AX := (bX.block N (heap_lt AU)).trans AU
    have cDX := (bX.cell (cell_lt3 cDU)).trans cDU
    have HP := put_any W (MB + 1 + 1) PP (MB + 1) MB n _ _ _ (-1) _ X _ _ 0 0 hn (lowN_of n 1 0 HC.out) BX cDX F0 D1 (by unfold tag0; rw [if_neg (by omega), if_neg (by omega)]) (by unfold tag0; rw [if_neg (by omega), if_neg (by omega)]) (by decide) (by omega)
    rw [Nat.zero_add] at HP
    have x0 := NB.c0 AX
    have x1 := NB.c1 AX
    have x2 := NB.c2 AX
    have hMB1 : W.heap.size ≤ MB := by have := HN.out; omega
    clear hX D0 D1 AU
    go_wp2_with (go_at_call 49; refine HP.mono ?_; rintro e w5 ⟨rfl, k5, tg5, p5, -, -, d5⟩; have cD5 := k5.cell cDX (by omega) (by omega))
    go_ret2
    exact ⟨BX.trans ((k5.below (m := W.heap.size) (by omega) hMB1 BX.size)), .inr ⟨HC.out, MB + 1, MB, tg5, p5, rfl, d5⟩⟩
  · have CK1 := CK.mono (R' := fun e w' => (∃ pb, e = .returned (.iface 153 (.pointer (some ⟨pb, 0, none⟩))) ∧ w'.cell? ⟨pb, 0, none⟩ = some (.int .i64 (ckN n 1 0).2) ∧ w'.cell? ⟨pb, 1, none⟩ = some (.iface 245 (.pointer (some (E (ckN n 1 0).1))))) ∧ Below V.heap.size V w') (fun e w' h => by
      refine ⟨?_, h.1⟩
      rcases h.2 with h2 | ⟨-, pb, -, h3⟩
      · exact absurd h2.1 hc
      · exact ⟨pb, h3⟩)
    clear CK
    go_wp2_with (go_at_call 48; refine CK1.mono ?_; rintro e w1 ⟨⟨pb, rfl, h3, h4⟩, b1⟩)
    go_ret2
    exact ⟨mbel b0 b1, .inl ⟨hc, pb, rfl, h3, h4⟩⟩

end Go.Proofs.YtnoecobddhmhlaaGreatDoor

namespace Go.Proofs.YtnoecobddhmhlaaGreatDoor
open Go.RowKit

theorem own_len {w : World} {B k n : Nat} {e : TypeId} {v : Value} {xs : List Value} (h : w.ownsRow B e k v n xs) : n ≤ 9223372036854775807 := by
  obtain ⟨o, cap, -, h1, h2, -⟩ := row_slice h
  rw [maxLen_eq] at h2
  omega
theorem flat_take_le {α β : Type} (g : α → List β) (l : List α) (k : Nat) : ((l.take k).flatMap g).length ≤ (l.flatMap g).length := by
  have h := congrArg (fun x => (List.flatMap g x).length) (List.take_append_drop k l)
  simp only [List.flatMap_append, List.length_append] at h
  omega

set_option maxRecDepth 20000 in
set_option maxHeartbeats 4000000 in
theorem walk_from {B : Nat} {tg : Tags} {Wd : World} {DB MB : Nat} {p : Int → Option Nat} {M : Dm} {nx c : Nat} (hd : DocW B tg Wd DB MB p M nx c) (lb : Array Value) (I : List (Int × Int) → World → Prop) (hI : ∀ done W, I done W → (∀ b t, tg b = some t → W.heap[b]? = Wd.heap[b]?) ∧ Wd.heap.size ≤ W.heap.size)
    (hcall : ∀ done W i d, I done W → done.length < 1000000 → Calls Tryz.prog 111 (#[.int .i64 i, .int .i64 d] ++ lb) W fun e w' => e = .returned (.tuple #[]) ∧ I (done ++ [(i, d)]) w') :
    ∀ (f : Nat) (n d : Int) (done : List (Int × Int)) (W : World), Dp M f n → Wf64 n → 0 ≤ d → d + f ≤ 1000000 → done.length + (pre M f n d).length ≤ 1000000 → I done W →
    Calls Tryz.prog 110 #[.pointer (some ⟨DB, 0, none⟩), .int .i64 n, .int .i64 d, .func (.func 111) #[] lb] W fun e w' => e = .returned (.tuple #[]) ∧ I (done ++ pre M f n d) w'
  | 0, _, _, _, _, hp, _, _, _, _, _ => hp.elim
  | f + 1, n, d, done, W, hp, hn, hd0, hdf, hlen, hi => by
    have IH := walk_from hd lb I hI hcall f
    have hs := hI done W hi
    have hw := hd.turn hs.1 hs.2
    have d0 := hw.d0
    cases hm : M n with
    | none =>
      have hpn := hd.non n hm
      have hpre : pre M (f + 1) n d = [] := by rw [pre, hm]
      rw [hpre, List.append_nil]
      go_enter Tryz.func110, Tryz.ntmps110
      go_wp2_with (at_lookup; refine look_no _ rfl _ _ 100 rfl Tryz.underlying3 Tryz.underlying100 (zeroEl _) rfl hw.map n rfl hn hpn ?_)
      refine bodyPost_ret (v := .tuple #[]) (by simp [results, Tryz.results110]) rfl ⟨rfl, hi⟩
    | some e =>
      have hpre : pre M (f + 1) n d = (n, d) :: e.kids.flatMap (fun k => pre M f k (d + 1)) := by rw [pre, hm]
      rw [hpre] at hlen ⊢
      rw [List.length_cons] at hlen
      obtain ⟨b, va, vk, hpn, he⟩ := hd.els n e hm
      have he1 := he.turn (tg' := tg) (w' := W) fun g t ht _ => ⟨ht, hs.1 g t ht⟩
      have HCL := hcall done W n d hi (by omega)
      obtain ⟨ov, kv, hvk⟩ := own_slice he.kids
      have HKD : Hid (∀ k ∈ e.kids, Dp M f k ∧ Wf64 k) := (fun k hk => ⟨hp e hm k hk, (hd.wf n e hm).2 k hk⟩ : ∀ k ∈ e.kids, Dp M f k ∧ Wf64 k)
      have HHI : Hid (∀ done W, I done W → (∀ b t, tg b = some t → W.heap[b]? = Wd.heap[b]?) ∧ Wd.heap.size ≤ W.heap.size) := hI
      have HIH : Hid (∀ (n d : Int) (done : List (Int × Int)) (W : World), Dp M f n → Wf64 n → 0 ≤ d → d + f ≤ 1000000 → done.length + (pre M f n d).length ≤ 1000000 → I done W → Calls Tryz.prog 110 #[.pointer (some ⟨DB, 0, none⟩), .int .i64 n, .int .i64 d, .func (.func 111) #[] lb] W fun e w' => e = .returned (.tuple #[]) ∧ I (done ++ pre M f n d) w') := IH
      have hkl : e.kids.length ≤ 9223372036854775807 := own_len he.kids
      clear hI IH hcall hi hp
      go_enter Tryz.func110, Tryz.ntmps110
      go_upto_region 3 with (first | (at_lookup; refine look_yes _ rfl _ _ 100 rfl Tryz.underlying3 Tryz.underlying100 (zeroEl _) rfl hw.map n rfl hn b hpn ?_) | (go_at_call 111; refine HCL.mono ?_; rintro r w1 ⟨rfl, hi1⟩))
      subst hvk
      have x3 := World.cell?_of_block ((HHI.out _ _ hi1).1 b _ he.tag) |>.trans he.c3
      have hd1 : d ≤ 999999 := by omega
      have HHE : Hid (ElW B tg Wd n b e va (.slice ov e.kids.length kv)) := he
      have HI1 : Hid (I (done ++ [(n, d)]) w1) := hi1
      clear he he1 hi1 hw d0 hs HCL
      go_wp2_with fail
      go_loopw [32] (fun y wr => ∃ k : Nat, k ≤ e.kids.length ∧ y = .int .i64 k ∧ I (done ++ ((n, d) :: (e.kids.take k).flatMap (fun i => pre M f i (d + 1)))) wr) (fun y _ => e.kids.length - (intOf y).toNat)
      case atStart => exact ⟨0, Nat.zero_le _, rfl, HI1.out⟩
      case round =>
        obtain ⟨k, hk, rfl, hi2⟩ := hrel
        by_cases hlt : k < e.kids.length
        · have hlt' : (k : Int) < (e.kids.length : Int) := by omega
          obtain ⟨kid, hx, -⟩ := drop_at hlt
          obtain ⟨g, hg, hc⟩ := row_get HHE.out.kids k _ (intsV_get hx)
          have hov : ov = some ⟨g, 0, none⟩ := by
            obtain ⟨o', cap', h1, -, -, -, h2⟩ := row_slice HHE.out.kids
            cases h1
            exact h2 g hg
          subst hov
          have hcw := World.cell?_of_block ((HHI.out _ _ hi2).1 g _ (HHE.out.ktag g hg)) |>.trans hc
          have hkd := HKD.out kid (List.mem_of_getElem? hx)
          have htk : (e.kids.take (k + 1)).flatMap (fun i => pre M f i (d + 1)) = (e.kids.take k).flatMap (fun i => pre M f i (d + 1)) ++ pre M f kid (d + 1) := by
            rw [List.take_add_one, hx]
            simp
          have hle := flat_take_le (fun i => pre M f i (d + 1)) e.kids (k + 1)
          rw [htk, List.length_append] at hle
          have HC := HIH.out kid (d + 1) _ wr hkd.1 hkd.2 (by omega) (by omega) (by rw [List.length_append, List.length_cons]; omega) hi2
          rw [List.append_assoc, List.cons_append, ← htk] at HC
          clear hi2 hc hg hx htk hle
          go_wp2_with (go_at_call 110; refine HC.mono ?_; rintro r w2 ⟨rfl, hi3⟩)
          go_roundw
          case rel => exact ⟨k + 1, by omega, by go_num, hi3⟩
          case measure => simp [intOf]; omega
        · obtain rfl : k = e.kids.length := by omega
          have hge : ¬ (e.kids.length : Int) < (e.kids.length : Int) := by omega
          rw [List.take_length] at hi2
          go_wp2_with fail
          refine bodyPost_end (results_none rfl _ _ _) rfl ⟨rfl, hi2⟩

end Go.Proofs.YtnoecobddhmhlaaGreatDoor

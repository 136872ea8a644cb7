/-
  Whether a number is among these.
-/
import Derived.Test.YtnoecobddhmhlaaGreatDoorDoc14
namespace Go.Proofs.YtnoecobddhmhlaaGreatDoor
open Go.RowKit

set_option maxHeartbeats 2000000 in
theorem Index_ints {B : Nat} (W : World) (v : Value) (L : List Int) (x : Int) (h : W.ownsRow B 3 1 v L.length (intsV L)) (hl : L.length ≤ 1000000) :
    Calls Tryz.prog 112 #[v, .int .i64 x] W fun e w' => w' = W ∧ ∃ i : Int, e = .returned (.int .i64 i) ∧ (0 ≤ i ↔ x ∈ L) := by
  have hc : ∀ k y, L[k]? = some y → ∃ g, v.ownBlock = some g ∧ W.cell? ⟨g, k, none⟩ = some (.int .i64 y) := fun k y hk => row_get h k _ (intsV_get hk)
  rcases h.2 with ⟨rfl, hn⟩ | ⟨g, cap, cur, rfl, _, _, h1, h2, _, _⟩
  · have hz : L = [] := List.length_eq_zero_iff.1 hn
    subst hz
    go_enter Tryz.func112, Tryz.ntmps112
    go_wp2_with fail
    go_loop [5, 8] (fun _ i => i = .int .i64 0) (fun _ _ => 0)
    case atStart => rfl
    case round =>
      subst hrel
      go_wp2_with fail
      go_ret
      exact ⟨rfl, -1, rfl, by simp⟩
  · have HC : Hid (∀ (k : Nat) (y : Int), L[k]? = some y → W.cell? ⟨g, k, none⟩ = some (.int .i64 y)) := (fun k y hk => by
      obtain ⟨g', hg, hk'⟩ := hc k y hk
      cases hg
      exact hk' : ∀ (k : Nat) (y : Int), L[k]? = some y → W.cell? ⟨g, k, none⟩ = some (.int .i64 y))
    clear hc h
    go_enter Tryz.func112, Tryz.ntmps112
    go_wp2_with fail
    go_loop [5, 8] (fun _ i => ∃ k : Nat, k ≤ L.length ∧ i = .int .i64 k ∧ Hid (∀ j, j < k → L[j]? ≠ some x)) (fun _ i => match i with | .int _ m => L.length - m.toNat | _ => 0)
    case atStart => exact ⟨0, Nat.zero_le _, rfl, (fun j hj => absurd hj (Nat.not_lt_zero _) : ∀ j, j < 0 → L[j]? ≠ some x)⟩
    case round =>
      obtain ⟨k, hk, rfl, hne⟩ := hrel
      by_cases hkl : k < L.length
      · obtain ⟨y, hy⟩ : ∃ y, L[k]? = some y := ⟨_, List.getElem?_eq_getElem hkl⟩
        have hcell := HC.out k y hy
        have hkl' : (k : Int) < L.length := by omega
        by_cases hxy : x = y
        · subst hxy
          go_wp2_with fail
          go_ret
          exact ⟨rfl, k, rfl, ⟨fun _ => List.mem_of_getElem? hy, fun _ => by omega⟩⟩
        · have hxy' : (x == y) = false := by simp [hxy]
          go_wp2_with fail
          refine ⟨⟨k + 1, by omega, rfl, (fun j hj => ?_ : ∀ j, j < k + 1 → L[j]? ≠ some x)⟩, ?_⟩
          · by_cases e : j = k
            · subst e
              rw [hy]
              exact fun e => hxy (by cases e; rfl)
            · exact hne.out j (by omega)
          · show L.length - ((k : Int) + 1).toNat < L.length - (k : Int).toNat
            omega
      · have hkl' : ¬ (k : Int) < L.length := by omega
        go_wp2_with fail
        go_ret
        refine ⟨rfl, -1, rfl, ⟨fun h => by omega, fun hm => ?_⟩⟩
        obtain ⟨j, hj⟩ := List.getElem?_of_mem hm
        exact absurd hj (hne.out j (by have := (List.getElem?_eq_some_iff.1 hj).1; omega))
theorem Contains_ints {B : Nat} (W : World) (v : Value) (L : List Int) (x : Int) (h : W.ownsRow B 3 1 v L.length (intsV L)) (hl : L.length ≤ 1000000) :
    Calls Tryz.prog 66 #[v, .int .i64 x] W fun e w' => w' = W ∧ e = .returned (.bool (decide (x ∈ L))) := by
  have HI := Index_ints W v L x h hl
  go_enter Tryz.func66, Tryz.ntmps66
  go_wp2_with (go_at_call 112; refine HI.mono ?_; rintro e w1 ⟨rfl, i, rfl, hi⟩)
  go_ret
  exact ⟨rfl, rfl⟩

end Go.Proofs.YtnoecobddhmhlaaGreatDoor

namespace Go.Proofs.YtnoecobddhmhlaaGreatDoor
open Go.RowKit

theorem DocW.par {B : Nat} {tg : Tags} {w : World} {DB MB : Nat} {p : Int → Option Nat} {M : Dm} {nx c EB : Nat} {i : Int} {e : Elm} {va vk : Value} (h : DocW B tg w DB MB p M nx c) (hi : M i = some e) (hp : p i = some EB) (he : ElW B tg w i EB e va vk) (par : Int) (hw : Wf64 par) :
    DocW B tg (w.setCell ⟨EB, 2, none⟩ (.int .i64 par)) DB MB p (putE M i ⟨e.name, e.ats, par, e.kids⟩) nx c ∧ KT tg w (w.setCell ⟨EB, 2, none⟩ (.int .i64 par)) := by
  have hset := (Below.refl EB w).setCell (p := ⟨EB, 2, none⟩) (Nat.le_refl _) (.int .i64 par)
  have blk : ∀ x, x ≠ EB → (w.setCell ⟨EB, 2, none⟩ (.int .i64 par)).heap[x]? = w.heap[x]? := fun x h1 => Below.heap_setCell _ _ _ x h1
  have nea : ∀ g, va.ownBlock = some g → g ≠ EB := fun g hg e1 => by have h1 := he.atag g hg; rw [e1, he.tag] at h1; cases h1
  have nek : ∀ g, vk.ownBlock = some g → g ≠ EB := fun g hg e1 => by have h1 := he.ktag g hg; rw [e1, he.tag] at h1; cases h1
  refine ⟨h.put hi hp (va := va) (vk := vk) ⟨?_, he.tag, own_same he.ats fun g hg => blk g (nea g hg), he.atag, own_same he.kids fun g hg => blk g (nek g hg), he.ktag⟩ hset.size ⟨hw, (h.wf i e hi).2⟩ (fun _ _ => rfl) ?_ ?_ ?_, ⟨hset.os, hset.tape, hset.output, hset.size, fun x hx hn => ?_⟩⟩
  · rw [heap_setCell_same w EB 2 _ _ _ he.cells]
    rfl
  · intro x t ht
    have := h.low x t ht
    have := hset.size
    omega
  · intro x hx
    exact .inl (h.new hx)
  · intro x t ht h1 h2 h3
    exact blk x (fun e1 => by rw [e1, he.tag] at ht; cases ht; exact h1 rfl)
  · exact blk x (fun e1 => by rw [e1, he.tag] at hn; cases hn)

/-- An element n is taken out of its parent's children. -/
def outE (M : Dm) (n : Int) (e o : Elm) : Dm := putE M e.parent ⟨o.name, o.ats, o.parent, woL o.kids n⟩
/-- And put among those of another one. -/
def movE (M : Dm) (n par : Int) (a : Nat) (e o q : Elm) : Dm := putE (putE (outE M n e o) n ⟨e.name, e.ats, par, e.kids⟩) par ⟨q.name, q.ats, q.parent, insAt q.kids a n⟩
set_option maxRecDepth 20000 in
set_option maxHeartbeats 4000000 in
theorem Move_doc {B : Nat} {tg : Tags} {W : World} {DB MB : Nat} {p : Int → Option Nat} {M : Dm} {nx c : Nat} (hd : DocW B tg W DB MB p M nx c) (n par : Int) (a : Nat) (e o q0 q : Elm) (hn : M n = some e) (hn0 : n ≠ 0) (ho : M e.parent = some o) (hok : o.kids ≠ []) (hen : e.parent ≠ n) (hq0 : M par = some q0) (hq : outE M n e o par = some q) (hpn : par ≠ n)
    (f : Nat) (hf : f ≤ 900000) (hp : Dp M f n) (hl : (pre M f n 1).length ≤ 1000000) (hnot : par ∉ fromL M f n) (hql : q0.kids.length ≤ 1000000) (hal : (a : Int) ≤ if e.parent = par then (q0.kids.length : Int) - 1 else q0.kids.length) (haq : a ≤ q.kids.length) (hqb : q.kids.length ≤ 1000000)
    (d : Nat) (hu : Up M par d) (hdd : (d : Int) + mostD (pre M f n 1) ≤ 10) (hdp : 0 ≤ mostD (pre M f n 1)) (hB : B ≤ W.heap.size) :
    Calls Tryz.prog 17 #[.pointer (some ⟨DB, 0, none⟩), .int .i64 n, .int .i64 par, .int .i64 a] W fun r w' => r = .returned .nilIface ∧ KT tg W w' ∧ ∃ tg', (∀ x, x < W.heap.size → tg' x = tg x) ∧ DocW B tg' w' DB MB p (movE M n par a e o q) nx c := by
  obtain ⟨EB, va, vk, hpe, he⟩ := hd.els n e hn
  obtain ⟨QB, qa, qk, hpq, heq⟩ := hd.els par q0 hq0
  have hwn := hd.i64 hn
  have hwp := hd.i64 hq0
  have d0 := hd.d0
  have hn0' : (n == 0) = false := by rw [beq_eq_false_iff_ne]; exact hn0
  have hll : (fromL M f n).length ≤ 1000000 := by unfold fromL; rw [List.length_map]; exact hl
  have FD := from_doc hd f n hf hp hwn hll
  have hnot' : decide (par ∈ fromL M f n) = false := decide_eq_false hnot
  have ha0 : ¬ (a : Int) < 0 := by omega
  have HD : Hid (DocW B tg W DB MB p M nx c) := hd
  obtain ⟨ot, hot⟩ : ∃ ot : Int, (if e.parent = par then (q0.kids.length : Int) - 1 else q0.kids.length) = ot := ⟨_, rfl⟩
  rw [hot] at hal
  have hal' : ¬ ot < (a : Int) := by omega
  obtain ⟨mo, hmo⟩ : ∃ mo : Int, mostD (pre M f n 1) = mo := ⟨_, rfl⟩
  rw [hmo] at hdd hdp
  have hw10 : IntKind.i64.wrap ((d : Int) + mo) = (d : Int) + mo := IntWalk.i64_in _ (by omega)
  have hd10 : ¬ (10 : Int) < (d : Int) + mo := by omega
  have HOT : Hid ((if e.parent = par then (q0.kids.length : Int) - 1 else q0.kids.length) = ot) := hot
  have HMO : Hid (mostD (pre M f n 1) = mo) := hmo
  clear hot hmo
  go_enter Tryz.func17, Tryz.ntmps17
  go_upto_region 7 with (at_lookup; first | refine look_yes _ rfl _ _ 100 rfl Tryz.underlying3 Tryz.underlying100 (zeroEl _) rfl hd.map n rfl hwn EB hpe ?_ | refine look_yes _ rfl _ _ 100 rfl Tryz.underlying3 Tryz.underlying100 (zeroEl _) rfl hd.map par rfl hwp QB hpq ?_)
  go_upto_region 9 with (first | (go_at_call 63; refine FD.mono ?_; rintro r w1 ⟨o1, k1, rfl, b1, ow1⟩; have CI := Contains_ints w1 _ (fromL M f n) par ow1 hll) | (go_at_call 66; refine CI.mono ?_; rintro r w2 ⟨rfl, rfl⟩))
  have hd1 := HD.out.below b1
  have OD := others_doc hd1 n par e q0 hn hq0 hql
  rw [HOT.out] at OD
  go_upto_region 11 with (go_at_call 67; refine OD.mono ?_; rintro r w3 ⟨rfl, rfl⟩)
  have DD := deep_doc hd1 par d hwp hu (by omega)
  go_upto_region 13 with (first | (go_at_call 58; refine DD.mono ?_; rintro r w4 ⟨rfl, b4⟩; have LD := levels_doc (HD.out.below (mbel b1 b4)) f n hf hp hwn hl; rw [HMO.out] at LD) | (go_at_call 68; refine LD.mono ?_; rintro r w5 ⟨rfl, b5⟩))
  have hU := mbel (mbel b1 b4) b5
  have TO := takeOut_doc (HD.out.below hU) n e o hn ho hok
  go_upto_region 14 with (go_at_call 62; refine TO.mono ?_; rintro r w6 ⟨rfl, k6, T6, t6, d6⟩)
  have hM1 : outE M n e o n = some e := by unfold outE putE; rw [if_neg (fun h => hen h.symm)]; exact hn
  have d6 : DocW B T6 w6 DB MB p (outE M n e o) nx c := d6
  obtain ⟨EB', va6, vk6, hpe', he6⟩ := d6.els n e hM1
  have hEE : EB' = EB := by rw [hpe] at hpe'; cases hpe'; rfl
  subst hEE
  obtain ⟨d7, k7⟩ := d6.par hM1 hpe he6 par hwp
  have f6 := froz_at he6.cells 2
  have x6 := he6.c2
  have hMq : putE (outE M n e o) n ⟨e.name, e.ats, par, e.kids⟩ par = some q := by unfold putE; rw [if_neg hpn]; exact hq
  have s7 : w6.heap.size ≤ (w6.setCell ⟨EB', 2, none⟩ (.int .i64 par)).heap.size := k7.size
  obtain ⟨U, hU7⟩ : ∃ U, w6.setCell ⟨EB', 2, none⟩ (.int .i64 par) = U := ⟨_, rfl⟩
  go_upto_region 15 with fail
  rw [hU7] at d7 k7 s7
  obtain ⟨QB', qa7, qk7, hpq', hq7⟩ := d7.els par q hMq
  have hQQ : QB' = QB := by rw [hpq] at hpq'; cases hpq'; rfl
  subst hQQ
  obtain ⟨oq, kq, rfl⟩ := own_slice hq7.kids
  have b8 := mal U (.cells #[.int .i64 n] 3)
  have H8 := mbox U #[.int .i64 n] 3
  have d8 := d7.below b8
  have hq8 := hq7.turn (tg' := T6) (w' := U.alloc (.cells #[.int .i64 n] 3)) fun g t ht _ => ⟨ht, b8.block g (d7.low g t ht).2⟩
  have y8 := hq8.c3
  have z7 := hq7.c3
  have IE := InsE (k := n) (i := a) hq8.kids haq hqb H8 (fun e1 => by have h1 := hq7.ktag _ e1; rw [d7.new (Nat.le_refl _)] at h1; cases h1) (by have h1 := hU.size; have h2 := k6.size; have h3 := b8.size; omega)
  have neQ : some QB' ≠ (Value.slice oq q.kids.length kq).ownBlock := fun e1 => by have h1 := hq7.ktag QB' e1.symm; rw [hq7.tag] at h1; cases h1
  have lQ := heap_lt hq8.cells
  have cQ := hq8.cells
  have HK6 : Hid (KT tg w5 w6) := k6
  have HK7 : Hid (KT T6 w6 U) := k7
  have HT6 : Hid (∀ x, x < w5.heap.size → T6 x = tg x) := t6
  clear hU7 k6 k7 t6 d6 TO
  go_wp2_with (go_at_call 59; refine IE.mono ?_; rintro r w9 ⟨o9, k9, rfl, ow9, gr9, lc9⟩; have e9 := (gr9.block QB' lQ neQ).trans cQ; have c9 := bcell e9 3 _ rfl; have f9 := froz_at e9)
  have hL : (insAt q.kids a n).length = q.kids.length + 1 := insAt_len _ _ _ haq
  rw [← hL] at ow9
  obtain ⟨r1, r2, r3⟩ := d8.kids hMq hpq hq8 (fun k hk => by
    unfold insAt at hk
    rcases List.mem_append.1 hk with hk | hk
    · exact (d7.wf par q hMq).2 k (List.mem_of_mem_take hk)
    · rcases List.mem_cons.1 hk with rfl | hk
      · exact hwn
      · exact (d7.wf par q hMq).2 k (List.mem_of_mem_drop hk)) ow9 gr9 (by rw [hL]; exact lc9)
  rw [hL] at r1 r2 r3
  go_ret
  have h6 := HK6.out
  have h7 := HK7.out
  refine ⟨rfl, ?_, _, fun x hx => ?_, r1⟩
  · have ku : KT tg W w6 := KT.trans (KT.of_below hU) h6 (fun _ _ => rfl)
    have kv : KT tg W U := ku.trans (tg' := T6) h7 (fun x hx => HT6.out x (by have := hU.size; omega))
    exact kv.trans (tg' := T6) (KT.trans (KT.of_below b8) r3 (fun _ _ => rfl)) (fun x hx => HT6.out x (by have := hU.size; omega))
  · have h1 := hU.size
    have h2 := h6.size
    have h3 := h7.size
    have h4 := b8.size
    rw [r2 x (by omega)]
    exact HT6.out x (by omega)

end Go.Proofs.YtnoecobddhmhlaaGreatDoor

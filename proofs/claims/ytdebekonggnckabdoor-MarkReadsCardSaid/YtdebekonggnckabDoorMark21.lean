/-
  Attributes as the reader reads them.
-/
import Derived.Test.YtdebekonggnckabDoorMark20
namespace Go.Proofs.YtdebekonggnckabDoor
open Go.RowKit

/-- A node's three cells, at its block. -/
def NB (N : Nat) (c0 c1 c2 : Value) (w : World) : Prop := w.heap[N]? = some (.cells #[c0, c1, c2] 40)
theorem NB.c0 {N : Nat} {c0 c1 c2 : Value} {w : World} (h : NB N c0 c1 c2 w) : w.cell? ⟨N, 0, none⟩ = some c0 := bcell h 0 _ rfl
theorem NB.c1 {N : Nat} {c0 c1 c2 : Value} {w : World} (h : NB N c0 c1 c2 w) : w.cell? ⟨N, 1, none⟩ = some c1 := bcell h 1 _ rfl
theorem NB.c2 {N : Nat} {c0 c1 c2 : Value} {w : World} (h : NB N c0 c1 c2 w) : w.cell? ⟨N, 2, none⟩ = some c2 := bcell h 2 _ rfl
theorem NB.froz {N : Nat} {c0 c1 c2 : Value} {w : World} (h : NB N c0 c1 c2 w) (i : Nat) : w.frozen? ⟨N, i, none⟩ = false := by
  unfold NB at h
  unfold World.frozen?
  rw [h]
  simp
theorem NB.lt {N : Nat} {c0 c1 c2 : Value} {w : World} (h : NB N c0 c1 c2 w) : N < w.heap.size := heap_lt h
theorem NB.keep {N R : Nat} {c0 c1 c2 : Value} {w w' : World} (h : NB N c0 c1 c2 w) (k : Keep R w w') (hne : R ≠ N) : NB N c0 c1 c2 w' := k.blk h (fun e => hne e.symm)
theorem NB.al {N : Nat} {c0 c1 c2 : Value} {w : World} (h : NB N c0 c1 c2 w) (o : Obj) : NB N c0 c1 c2 (w.alloc o) := by
  have := h.lt
  unfold NB at h ⊢
  rw [← h]
  exact (mal w o).block N this
theorem NB.grown {N : Nat} {g : Option Nat} {c0 c1 c2 : Value} {w w' : World} (h : NB N c0 c1 c2 w) (k : w.grownBy w' g) (hne : some N ≠ g) : NB N c0 c1 c2 w' := by
  have := h.lt
  unfold NB at h ⊢
  rw [← h]
  exact k.block N this hne
theorem NB.set1 {N : Nat} {c0 c1 c2 : Value} {w : World} (h : NB N c0 c1 c2 w) (v : Value) : NB N c0 v c2 (w.setCell ⟨N, 1, none⟩ v) := by
  unfold NB at h ⊢
  rw [heap_setCell_same w N 1 _ _ _ h]
  rfl
theorem NB.set2 {N : Nat} {c0 c1 c2 : Value} {w : World} (h : NB N c0 c1 c2 w) (v : Value) : NB N c0 c1 v (w.setCell ⟨N, 2, none⟩ v) := by
  unfold NB at h ⊢
  rw [heap_setCell_same w N 2 _ _ _ h]
  rfl
theorem RD.grown {R : Nat} {g : Option Nat} {s : Bs} {w w' : World} (h : RD R s w) (k : w.grownBy w' g) (hne : some R ≠ g) : RD R s w' := by
  have := h.lt
  unfold RD at h ⊢
  rw [← h]
  exact k.block R this hne
theorem RD.setN {R N : Nat} {s : Bs} {w : World} (h : RD R s w) (i : Nat) (v : Value) (hne : R ≠ N) : RD R s (w.setCell ⟨N, i, none⟩ v) := by
  unfold RD at h ⊢
  rw [← h]
  exact Below.heap_setCell w _ v R hne
theorem Keep.set (N : Nat) (i : Nat) (w : World) (v : Value) : Keep N w (w.setCell ⟨N, i, none⟩ v) := by
  have hs := (Below.refl N w).setCell (p := ⟨N, i, none⟩) (Nat.le_refl _) v
  exact ⟨hs.os, hs.tape, hs.output, hs.size, fun k _ hb => Below.heap_setCell _ _ _ k hb⟩
/-- An owned row is as it was. -/
theorem own_keep {R B k n : Nat} {e : TypeId} {v : Value} {xs : List Value} {w w' : World} (h : w.ownsRow B e k v n xs) (hk : Keep R w w') (hR : R < B) : w'.ownsRow B e k v n xs :=
  h.kept hk.grown (.inr fun e => by have := (h.lt R e).1; omega)
theorem own_ne {R B k n : Nat} {e : TypeId} {v : Value} {xs : List Value} {w : World} (h : w.ownsRow B e k v n xs) (hR : R < B) : some R ≠ v.ownBlock := fun e => by have := (h.lt R e.symm).1; omega
theorem two_cells (w : World) (a b : Value) (t : TypeId) : ∀ j u, [a, b][j]? = some u → (w.alloc (.cells #[a, b] t)).cell? ((⟨w.heap.size, 0, none⟩ : Addr).add j) = some u := by
  intro j u h
  have e : (⟨w.heap.size, 0, none⟩ : Addr).add j = ⟨w.heap.size, j, none⟩ := by unfold Addr.add; split <;> simp_all
  rw [e]
  exact mnew w #[a, b] t j u (by simpa using h)
theorem own_slice2 {w : World} {B : Nat} {e : TypeId} {k : Nat} {v : Value} {n : Nat} {xs : List Value} (h : w.ownsRow B e k v n xs) : ∃ o cap, v = .slice o n cap := by
  obtain ⟨o, cap, h1, -⟩ := row_slice h
  exact ⟨o, cap, h1⟩
theorem attrInfo : (Tryd.prog.info? 77).map (fun i => (i.zero, i.size, i.bytes)) = some (some (.agg #[.string ⟨#[]⟩, .string ⟨#[]⟩]), 2, 32) := by kernel_rfl

theorem rdA_no {f : Nat} {s : Bs} (h : [32].isPrefixOf s = false) : rdA (f + 1) s = some ([], s) := by rw [rdA, if_neg (by rw [h]; simp)]
theorem rdA_bad {f : Nat} {s : Bs} (h : [32].isPrefixOf s = true) (h1 : rdA1 (s.drop 1) = none) : rdA (f + 1) s = none := by rw [rdA, if_pos h, h1]
theorem rdA_on {f : Nat} {s : Bs} {a : Bs × Bs} {r : Bs} (h : [32].isPrefixOf s = true) (h1 : rdA1 (s.drop 1) = some (a, r)) : rdA (f + 1) s = preA [a] (rdA f r) := by rw [rdA, if_pos h, h1]
theorem rdA1_nil {r : Bs} (h : tkE r = []) : rdA1 r = none := by rw [rdA1, if_pos h]
theorem rdA1_q {r : Bs} (h : [61, 34].isPrefixOf (drE r) = false) : rdA1 r = none := by
  rw [rdA1]
  split
  · rfl
  · rw [if_neg (by rw [h]; simp)]
theorem rdA1_v {r : Bs} (h0 : tkE r ≠ []) (h : [61, 34].isPrefixOf (drE r) = true) (hv : rdV (((drE r).drop 2).length + 1) ((drE r).drop 2) = none) : rdA1 r = none := by rw [rdA1, if_neg h0, if_pos h, hv]
theorem rdA1_ok {r v z : Bs} (h0 : tkE r ≠ []) (h : [61, 34].isPrefixOf (drE r) = true) (hv : rdV (((drE r).drop 2).length + 1) ((drE r).drop 2) = some (v, z)) : rdA1 r = some ((tkE r, v), z) := by rw [rdA1, if_neg h0, if_pos h, hv]
/-- What the reader of attributes tells. -/
def AtR (R N B : Nat) (c0 c2 : Value) (o : Option (List (Bs × Bs) × Bs)) (e : Ending) (w : World) : Prop := ∃ vA, NB N c0 vA c2 w ∧ ((o = none ∧ e = .returned (.bool false)) ∨ ∃ (ats : List (Bs × Bs)) (r : Bs), o = some (ats, r) ∧ e = .returned (.bool true) ∧ RD R r w ∧ w.ownsRow B 77 2 vA ats.length (cellsA ats))

set_option maxRecDepth 20000 in
set_option maxHeartbeats 4000000 in
theorem attrs_rd (R N : Nat) (s : Bs) (c0 c2 : Value) (W : World) (h : RD R s W) (hN : NB N c0 (.slice none 0 0) c2 W) (hne : R ≠ N) (hl : s.length ≤ 10000) :
    Calls Tryd.prog 65 #[.pointer (some ⟨R, 0, none⟩), .pointer (some ⟨N, 0, none⟩)] W fun e w' => Keep2 R N W w' ∧ AtR R N W.heap.size c0 c2 (rdA (s.length + 1) s) e w' := by
  have hR := h.lt
  have hNl := hN.lt
  obtain ⟨i0, hi, hz0, hz1, hz2⟩ := info_parts attrInfo
  go_enter Tryd.func65, Tryd.ntmps65
  go_wp2_with fail
  go_loopw [] (fun wr => ∃ (acc : List (Bs × Bs)) (rest : Bs) (f : Nat) (vA : Value), rest.length < f ∧ rest.length + 4 * acc.length ≤ s.length ∧ rdA (s.length + 1) s = preA acc (rdA f rest) ∧ RD R rest wr ∧ NB N c0 vA c2 wr ∧ wr.ownsRow W.heap.size 77 2 vA acc.length (cellsA acc) ∧ Keep2 R N W wr) (fun wr => left R wr)
  case atStart => exact ⟨[], s, s.length + 1, .slice none 0 0, by omega, by simp, (preA_nil _).symm, h, hN, World.ownsRow_nil _ _ _ _, Keep2.of_below (Below.refl _ _)⟩
  case round =>
    obtain ⟨acc, rest, f, vA, hf, hal, heq, hrd, hnb, hown, hkp⟩ := hrel
    have HQ : Hid (rdA (s.length + 1) s = preA acc (rdA f rest)) := heq
    clear heq
    obtain ⟨f, rfl⟩ : ∃ g, f = g + 1 := ⟨f - 1, by omega⟩
    have hsz := hkp.size
    have HL : Hid (left R wr = rest.length) := hrd.left
    cases hp : [32].isPrefixOf rest with
    | false =>
      have HZ : Hid (rdA (s.length + 1) s = some (acc, rest)) := (by rw [HQ.out, rdA_no hp]; simp [preA] : rdA (s.length + 1) s = some (acc, rest))
      go_wp2_with (go_at_call 62; refine (skip_no R _ [32] _ hrd hp).mono ?_; rintro e w1 ⟨rfl, rd1, k1⟩)
      go_ret
      exact ⟨hkp.trans (Keep2.of_keep k1), vA, hnb.keep k1 hne, .inr ⟨acc, rest, HZ.out, rfl, rd1, own_keep hown k1 hR⟩⟩
    | true =>
      have hlr := pre_len hp
      have SK1 := skip_yes R rest [32] wr hrd hp
      obtain ⟨r, hr⟩ : ∃ r, rest.drop 1 = r := ⟨_, rfl⟩
      have hlr' : 1 + r.length = rest.length := by rw [← hr]; exact hlr
      rw [show rest.drop ([32] : Bs).length = r from hr] at SK1
      have HB : Hid (rdA1 r = none → rdA (s.length + 1) s = none) := (fun h1 => by rw [HQ.out, rdA_bad hp (by rw [hr]; exact h1)]; rfl : rdA1 r = none → rdA (s.length + 1) s = none)
      have HO : Hid (∀ a z, rdA1 r = some (a, z) → rdA (s.length + 1) s = preA (acc ++ [a]) (rdA f z)) := (fun a z h1 => by rw [HQ.out, rdA_on hp (by rw [hr]; exact h1), preA_app] : ∀ a z, rdA1 r = some (a, z) → rdA (s.length + 1) s = preA (acc ++ [a]) (rdA f z))
      clear hlr hr hp
      have hte := tkE_len r
      by_cases he : tkE r = []
      · have HZ : Hid (rdA (s.length + 1) s = none) := HB.out (rdA1_nil he)
        go_wp2_with (first | (go_at_call 63; refine (takeE_any R r _ _ rd2 nx (by omega)).mono ?_; rintro e w3 ⟨rfl, rd3, k3⟩; have nb3 := nb2.keep k3 hne; have ow3 := own_keep ow2 k3 hR; have K3 := K2.trans (Keep2.of_keep k3); clear rd2 nb2 ow2; rw [he]) | (go_at_call 64; refine (noneOf_any [32, 61, 34, 60, 62, 47] _).mono ?_; rintro e w2 ⟨rfl, rfl⟩) | (go_at_call 62; refine SK1.mono ?_; rintro e w1 ⟨rfl, rd1, k1⟩; have nx := mbox w1 #[.string ⟨([32, 61, 34, 60, 62, 47] : Bs).toArray⟩] 9; have rd2 := rd1.al (.cells #[.string ⟨([32, 61, 34, 60, 62, 47] : Bs).toArray⟩] 9); have nb2 := (hnb.keep k1 hne).al (.cells #[.string ⟨([32, 61, 34, 60, 62, 47] : Bs).toArray⟩] 9); have ow2 := World.ownsRow.alloc (own_keep hown k1 hR) (.cells #[.string ⟨([32, 61, 34, 60, 62, 47] : Bs).toArray⟩] 9); have K2 := (hkp.trans (Keep2.of_keep k1)).trans (Keep2.of_below (mal w1 (.cells #[.string ⟨([32, 61, 34, 60, 62, 47] : Bs).toArray⟩] 9))); clear rd1))
        go_ret
        exact ⟨K3, vA, nb3, .inl ⟨HZ.out, rfl⟩⟩
      · have hem : (tkE r).isEmpty = false := by
          cases ht : tkE r with
          | nil => exact absurd ht he
          | cons _ _ => rfl
        cases hq : [61, 34].isPrefixOf (drE r) with
        | false =>
          have HZ : Hid (rdA (s.length + 1) s = none) := HB.out (rdA1_q hq)
          go_wp2_with (first | (have z3 := rd3; go_at_call 62; refine (skip_no R (drE r) [61, 34] _ z3 hq).mono ?_; rintro e w4 ⟨rfl, rd4, k4⟩; have nb4 := nb3.keep k4 hne; have K4 := K3.trans (Keep2.of_keep k4)) | (go_at_call 63; refine (takeE_any R r _ _ rd2 nx (by omega)).mono ?_; rintro e w3 ⟨rfl, rd3, k3⟩; have nb3 := nb2.keep k3 hne; have ow3 := own_keep ow2 k3 hR; have K3 := K2.trans (Keep2.of_keep k3); clear rd2 nb2 ow2) | (go_at_call 64; refine (noneOf_any [32, 61, 34, 60, 62, 47] _).mono ?_; rintro e w2 ⟨rfl, rfl⟩) | (go_at_call 62; refine SK1.mono ?_; rintro e w1 ⟨rfl, rd1, k1⟩; have nx := mbox w1 #[.string ⟨([32, 61, 34, 60, 62, 47] : Bs).toArray⟩] 9; have rd2 := rd1.al (.cells #[.string ⟨([32, 61, 34, 60, 62, 47] : Bs).toArray⟩] 9); have nb2 := (hnb.keep k1 hne).al (.cells #[.string ⟨([32, 61, 34, 60, 62, 47] : Bs).toArray⟩] 9); have ow2 := World.ownsRow.alloc (own_keep hown k1 hR) (.cells #[.string ⟨([32, 61, 34, 60, 62, 47] : Bs).toArray⟩] 9); have K2 := (hkp.trans (Keep2.of_keep k1)).trans (Keep2.of_below (mal w1 (.cells #[.string ⟨([32, 61, 34, 60, 62, 47] : Bs).toArray⟩] 9))); clear rd1))
          go_ret
          exact ⟨K4, vA, nb4, .inl ⟨HZ.out, rfl⟩⟩
        | true =>
          have hlq := pre_len hq
          have SK2 := fun W h => skip_yes R (drE r) [61, 34] W h hq
          obtain ⟨x, hx⟩ : ∃ x, (drE r).drop 2 = x := ⟨_, rfl⟩
          have hlq' : 2 + x.length = (drE r).length := by rw [← hx]; exact hlq
          rw [show (drE r).drop ([61, 34] : Bs).length = x from hx] at SK2
          have HV : Hid (rdV (x.length + 1) x = none → rdA1 r = none) := (fun h => rdA1_v he hq (by rw [hx]; exact h) : rdV (x.length + 1) x = none → rdA1 r = none)
          have HW : Hid (∀ v z, rdV (x.length + 1) x = some (v, z) → rdA1 r = some ((tkE r, v), z)) := (fun v z h => rdA1_ok he hq (by rw [hx]; exact h) : ∀ v z, rdV (x.length + 1) x = some (v, z) → rdA1 r = some ((tkE r, v), z))
          clear hlq hx hq
          cases hv : rdV (x.length + 1) x with
          | none =>
            have HZ : Hid (rdA (s.length + 1) s = none) := HB.out (HV.out hv)
            have VL : ∀ W, RD R x W → Calls Tryd.prog 94 #[.pointer (some ⟨R, 0, none⟩)] W fun e w' => Keep R W w' ∧ e = .returned (.tuple #[.string ⟨#[]⟩, .bool false]) := fun W h => (value_any R _ W h (by omega)).mono (fun e w' ⟨h1, h2⟩ => ⟨h1, by
              rcases h2 with h2 | ⟨c, r, h2, -⟩
              · exact h2.2
              · rw [hv] at h2; cases h2⟩)
            clear hv
            go_wp2_with (first | (go_at_call 94; refine (VL _ rd4).mono ?_; rintro e w5 ⟨k5, rfl⟩; have nb5 := nb4.keep k5 hne; have K5 := K4.trans (Keep2.of_keep k5)) | (have z3 := rd3; go_at_call 62; refine (SK2 _ z3).mono ?_; rintro e w4 ⟨rfl, rd4, k4⟩; have nb4 := nb3.keep k4 hne; have ow4 := own_keep ow3 k4 hR; have K4 := K3.trans (Keep2.of_keep k4); clear z3 rd3 nb3 ow3) | (go_at_call 63; refine (takeE_any R r _ _ rd2 nx (by omega)).mono ?_; rintro e w3 ⟨rfl, rd3, k3⟩; have nb3 := nb2.keep k3 hne; have ow3 := own_keep ow2 k3 hR; have K3 := K2.trans (Keep2.of_keep k3); clear rd2 nb2 ow2) | (go_at_call 64; refine (noneOf_any [32, 61, 34, 60, 62, 47] _).mono ?_; rintro e w2 ⟨rfl, rfl⟩) | (go_at_call 62; refine SK1.mono ?_; rintro e w1 ⟨rfl, rd1, k1⟩; have nx := mbox w1 #[.string ⟨([32, 61, 34, 60, 62, 47] : Bs).toArray⟩] 9; have rd2 := rd1.al (.cells #[.string ⟨([32, 61, 34, 60, 62, 47] : Bs).toArray⟩] 9); have nb2 := (hnb.keep k1 hne).al (.cells #[.string ⟨([32, 61, 34, 60, 62, 47] : Bs).toArray⟩] 9); have ow2 := World.ownsRow.alloc (own_keep hown k1 hR) (.cells #[.string ⟨([32, 61, 34, 60, 62, 47] : Bs).toArray⟩] 9); have K2 := (hkp.trans (Keep2.of_keep k1)).trans (Keep2.of_below (mal w1 (.cells #[.string ⟨([32, 61, 34, 60, 62, 47] : Bs).toArray⟩] 9))); clear rd1))
            go_ret
            exact ⟨K5, vA, nb5, .inl ⟨HZ.out, rfl⟩⟩
          | some q =>
            obtain ⟨v, z⟩ := q
            have hlv : v.length + z.length + 1 ≤ x.length := rdV_len _ _ _ hv
            have HZ : Hid (rdA (s.length + 1) s = preA (acc ++ [(tkE r, v)]) (rdA f z)) := HO.out _ _ (HW.out _ _ hv)
            have VL : ∀ W, RD R x W → Calls Tryd.prog 94 #[.pointer (some ⟨R, 0, none⟩)] W fun e w' => Keep R W w' ∧ e = .returned (.tuple #[.string ⟨v.toArray⟩, .bool true]) ∧ RD R z w' := fun W h => (value_any R _ W h (by omega)).mono (fun e w' ⟨h1, h2⟩ => ⟨h1, by
              rcases h2 with h2 | ⟨v', z', h2, h3, h4⟩
              · rw [hv] at h2; cases h2.1
              · rw [hv] at h2; cases h2; exact ⟨h3, h4⟩⟩)
            clear hv
            obtain ⟨oA, capA, rfl⟩ := own_slice2 hown
            go_upto_region 8 with (first | (go_at_call 94; refine (VL _ rd4).mono ?_; rintro e w5 ⟨k5, rfl, rd5⟩; have nb5 := nb4.keep k5 hne; have ow5 := own_keep ow4 k5 hR; have K5 := K4.trans (Keep2.of_keep k5); have n1 := nb5.c1; clear rd4 nb4 ow4) | (have z3 := rd3; go_at_call 62; refine (SK2 _ z3).mono ?_; rintro e w4 ⟨rfl, rd4, k4⟩; have nb4 := nb3.keep k4 hne; have ow4 := own_keep ow3 k4 hR; have K4 := K3.trans (Keep2.of_keep k4); clear z3 rd3 nb3 ow3) | (go_at_call 63; refine (takeE_any R r _ _ rd2 nx (by omega)).mono ?_; rintro e w3 ⟨rfl, rd3, k3⟩; have nb3 := nb2.keep k3 hne; have ow3 := own_keep ow2 k3 hR; have K3 := K2.trans (Keep2.of_keep k3); clear rd2 nb2 ow2) | (go_at_call 64; refine (noneOf_any [32, 61, 34, 60, 62, 47] _).mono ?_; rintro e w2 ⟨rfl, rfl⟩) | (go_at_call 62; refine SK1.mono ?_; rintro e w1 ⟨rfl, rd1, k1⟩; have nx := mbox w1 #[.string ⟨([32, 61, 34, 60, 62, 47] : Bs).toArray⟩] 9; have rd2 := rd1.al (.cells #[.string ⟨([32, 61, 34, 60, 62, 47] : Bs).toArray⟩] 9); have nb2 := (hnb.keep k1 hne).al (.cells #[.string ⟨([32, 61, 34, 60, 62, 47] : Bs).toArray⟩] 9); have ow2 := World.ownsRow.alloc (own_keep hown k1 hR) (.cells #[.string ⟨([32, 61, 34, 60, 62, 47] : Bs).toArray⟩] 9); have K2 := (hkp.trans (Keep2.of_keep k1)).trans (Keep2.of_below (mal w1 (.cells #[.string ⟨([32, 61, 34, 60, 62, 47] : Bs).toArray⟩] 9))); clear rd1))
            go_wp2_with (at_builtin; refine wpList_append_own _ rfl _ _ 37 rfl W.heap.size 77 i0 (.agg #[.string ⟨#[]⟩, .string ⟨#[]⟩]) 2 32 Tryd.underlying37 hi hz0 hz1 hz2 rfl (by decide) _ _ _ rfl (World.ownsRow.alloc ow5 _) ⟨w5.heap.size, 0, none⟩ 1 1 [.string ⟨(tkE r).toArray⟩, .string ⟨v.toArray⟩] rfl rfl (two_cells w5 _ _ _) (fun u hu => by simp at hu; rcases hu with rfl | rfl <;> rfl) (by rw [maxLen_eq]; omega) (by omega) (by have := K5.size; simp; omega) ?_; intro v7 w7 ow7 gr7 _; have nb7 := (nb5.al _).grown gr7 (own_ne ow5 hNl); have m1 := nb7.c1; have m2 := nb7.froz 1; obtain ⟨o7, cap7, rfl⟩ := own_slice2 ow7)
            have rd7 := (rd5.al (.cells #[.string ⟨(tkE r).toArray⟩, .string ⟨v.toArray⟩] 77)).grown gr7 (own_ne ow5 hR)
            have K7 := (K5.trans (Keep2.of_below (mal w5 (.cells #[.string ⟨(tkE r).toArray⟩, .string ⟨v.toArray⟩] 77)))).grown gr7 (fun b hb => (ow5.lt b hb).1)
            have ow8 := own_keep ow7 (Keep.set N 1 w7 (.slice o7 (acc.length + 1) cap7)) hNl
            have rd8 := rd7.setN (N := N) 1 (.slice o7 (acc.length + 1) cap7) hne
            go_roundw
            case rel => exact ⟨acc ++ [(tkE r, v)], z, f, .slice o7 (acc.length + 1) cap7, by omega, by simp; omega, HZ.out, rd8, nb7.set1 _, by rw [cellsA_snoc, List.length_append]; exact ow8, K7.trans (Keep2.setN _ _ _)⟩
            case measure => have h1 := HL.out; have h2 := rd8.left; omega

end Go.Proofs.YtdebekonggnckabDoor

/-
  A number put among others: the library's Insert.
-/
import Derived.Test.YtmlajdhkkcmjnacDoorDoc10
namespace Go.Proofs.YtmlajdhkkcmjnacDoor
open Go.RowKit

def putL : Array Value → Nat → List Value → Array Value
  | cur, _, [] => cur
  | cur, o, v :: r => putL (cur.setIfInBounds o v) (o + 1) r
theorem putL_size : ∀ (vs : List Value) (cur : Array Value) (o : Nat), (putL cur o vs).size = cur.size
  | [], _, _ => rfl
  | v :: r, cur, o => by rw [putL, putL_size r]; simp
theorem putL_get : ∀ (vs : List Value) (cur : Array Value) (o j : Nat), o + vs.length ≤ cur.size → (putL cur o vs)[j]? = if o ≤ j ∧ j < o + vs.length then vs[j - o]? else cur[j]?
  | [], cur, o, j, _ => by rw [putL, if_neg (by simp only [List.length_nil]; omega)]
  | v :: r, cur, o, j, h => by
    rw [List.length_cons] at h
    rw [putL, putL_get r _ _ _ (by simp; omega)]
    by_cases h1 : o + 1 ≤ j ∧ j < o + 1 + r.length
    · rw [if_pos h1, if_pos (by rw [List.length_cons]; omega), show j - o = (j - (o + 1)) + 1 from by omega]
      simp
    · rw [if_neg h1, Array.getElem?_setIfInBounds]
      by_cases h2 : o = j
      · subst h2
        rw [if_pos rfl, if_pos (by omega), if_pos (by rw [List.length_cons]; omega)]
        simp
      · rw [if_neg h2, if_neg (by rw [List.length_cons]; omega)]
theorem setCells_at : ∀ (vs : List Value) (w : World) (g o : Nat) (cur : Array Value) (t : TypeId), w.heap[g]? = some (.cells cur t) → (w.setCells g o vs).heap[g]? = some (.cells (putL cur o vs) t)
  | [], _, _, _, _, _, h => h
  | v :: r, w, g, o, cur, t, h => by
    rw [World.setCells, putL]
    exact setCells_at r _ g (o + 1) _ t (heap_setCell_same w g o cur t v h)
theorem setCells_far : ∀ (vs : List Value) (w : World) (g o x : Nat), x ≠ g → (w.setCells g o vs).heap[x]? = w.heap[x]?
  | [], _, _, _, _, _ => rfl
  | v :: r, w, g, o, x, h => by
    rw [World.setCells, setCells_far r _ g (o + 1) x h]
    exact Below.heap_setCell _ _ _ x h
theorem setCells_kept : ∀ (vs : List Value) (w : World) (g o : Nat), w.grownBy (w.setCells g o vs) (some g)
  | [], w, g, o => ⟨rfl, rfl, rfl, Nat.le_refl _, fun _ _ _ => rfl⟩
  | v :: r, w, g, o => by
    rw [World.setCells]
    have h1 := setCells_kept r (w.setCell ⟨g, o, none⟩ v) g (o + 1)
    have h2 := (Below.refl g w).setCell (p := ⟨g, o, none⟩) (Nat.le_refl _) v
    have h3 : w.grownBy (w.setCell ⟨g, o, none⟩ v) (some g) := ⟨h2.os, h2.tape, h2.output, h2.size, fun x _ hx => Below.heap_setCell _ _ _ x (fun e => hx (by rw [e]))⟩
    exact h3.trans h1
/-- With one more at a place. -/
def insAt (L : List Int) (i : Nat) (k : Int) : List Int := L.take i ++ k :: L.drop i
theorem insAt_len (L : List Int) (i : Nat) (k : Int) (h : i ≤ L.length) : (insAt L i k).length = L.length + 1 := by
  unfold insAt
  simp
  omega
theorem insAt_get (L : List Int) (i j : Nat) (k : Int) (h : i ≤ L.length) : (intsV (insAt L i k))[j]? = if j < i then (intsV L)[j]? else if j = i then some (.int .i64 k) else (intsV L)[j - 1]? := by
  unfold insAt intsV
  rw [List.getElem?_map, List.getElem?_map, List.getElem?_map]
  by_cases h1 : j < i
  · rw [if_pos h1, List.getElem?_append_left (by simp; omega), List.getElem?_take, if_pos h1]
  · rw [if_neg h1, List.getElem?_append_right (by simp; omega), List.length_take, Nat.min_eq_left h]
    by_cases h2 : j = i
    · subst h2
      rw [if_pos rfl, Nat.sub_self]
      rfl
    · rw [if_neg h2, show j - i = (j - i - 1) + 1 from by omega, List.getElem?_cons_succ, List.getElem?_drop, show i + (j - i - 1) = j - 1 from by omega]
theorem take_is {cur : Array Value} {xs : List Value} {n : Nat} (hn : xs.length = n) (h : ∀ j, j < n → cur[j]? = xs[j]?) : cur.toList.take (n * 1) = xs := by
  apply List.ext_getElem?
  intro j
  rw [Nat.mul_one, List.getElem?_take]
  by_cases hj : j < n
  · rw [if_pos hj, Array.getElem?_toList]; exact h j hj
  · rw [if_neg hj, List.getElem?_eq_none (by omega)]
theorem grown_drew {w w' : World} {r : Option Nat} {k : Nat} (h : (w.drewN k).grownBy w' r) : w.grownBy w' r := ⟨h.os, h.tape, h.output, h.size, h.block⟩

theorem own_make {w : World} {B g cap n : Nat} {cur : Array Value} {xs : List Value} (hB : B ≤ g) (hg : w.heap[g]? = some (.cells cur 3)) (h1 : xs.length = n) (h2 : n ≤ cap) (h3 : cap ≤ maxLen) (h4 : cur.size = cap) (h5 : ∀ j, j < n → cur[j]? = xs[j]?) : w.ownsRow B 3 1 (.slice (some ⟨g, 0, none⟩) n cap) n xs :=
  ⟨by rw [h1, Nat.mul_one], .inr ⟨g, cap, cur, rfl, hB, hg, h2, h3, by rw [h4, Nat.mul_one], take_is h1 h5⟩⟩
theorem two_sizes (w : World) (o : Obj) (g i j : Nat) (a b : List Value) : w.heap.size ≤ ((((w.alloc o).drew.setCells g i a).drew).setCells g j b).heap.size := by
  have h1 : w.heap.size ≤ (w.alloc o).heap.size := (mal w o).size
  have h2 : (w.alloc o).heap.size ≤ ((w.alloc o).drew.setCells g i a).heap.size := (setCells_kept a ((w.alloc o).drew) g i).size
  have h3 : ((w.alloc o).drew.setCells g i a).heap.size ≤ ((((w.alloc o).drew.setCells g i a).drew).setCells g j b).heap.size := (setCells_kept b (((w.alloc o).drew.setCells g i a).drew) g j).size
  omega
theorem zero_size (n : Nat) : (Builtin.zeroCells (Value.int .i64 0).cells n).size = n := by
  simp [Builtin.zeroCells, Value.cells]

set_option maxHeartbeats 2000000 in
theorem InsE {B : Nat} {w : World} {v : Value} {L : List Int} {k : Int} {i vb : Nat} (ho : w.ownsRow B 3 1 v L.length (intsV L)) (hi : i ≤ L.length) (hb : L.length ≤ 1000000) (hv : w.heap[vb]? = some (.cells #[.int .i64 k] 3)) (hne : v.ownBlock ≠ some vb) (hB : B ≤ w.heap.size) :
    Calls Tryd.prog 33 #[v, .int .i64 i, .slice (some ⟨vb, 0, none⟩) 1 1] w fun e w' => ∃ o c, e = .returned (.slice o (L.length + 1) c) ∧ w'.ownsRow B 3 1 (.slice o (L.length + 1) c) (L.length + 1) (intsV (insAt L i k)) ∧ w.grownBy w' v.ownBlock ∧ ((Value.slice o (L.length + 1) c).ownBlock = v.ownBlock ∨ ∀ g, (Value.slice o (L.length + 1) c).ownBlock = some g → w.heap.size ≤ g) := by
  have hlen : (intsV L).length = L.length := intsV_len L
  have hil : (intsV (insAt L i k)).length = L.length + 1 := (intsV_len _).trans (insAt_len L i k hi)
  have hvs : ∀ j u, [Value.int .i64 k][j]? = some u → w.cell? ⟨vb, 0 + j, none⟩ = some u := fun j u hu => by
    rw [Nat.zero_add]
    exact bcell hv j u (by simpa using hu)
  have h1v : ∀ u ∈ [Value.int .i64 k], u.oneCell' = true := fun u hu => by simp at hu; rw [hu]; rfl
  have h1c : ∀ u ∈ intsV L, u.oneCell' = true := fun u hu => by
    obtain ⟨x, -, rfl⟩ := List.mem_map.1 hu
    rfl
  have fresh : ∀ (o : Option Addr) (c : Nat), (∀ a, o = some a → ∀ j u, (intsV L)[j]? = some u → w.cell? (a.add j) = some u) → (o = none → L.length = 0) → L.length ≤ c → c < L.length + 1 → i = L.length →
      Calls Tryd.prog 33 #[.slice o L.length c, .int .i64 i, .slice (some ⟨vb, 0, none⟩) 1 1] w fun e w' => ∃ o' c', e = .returned (.slice o' (L.length + 1) c') ∧ w'.ownsRow B 3 1 (.slice o' (L.length + 1) c') (L.length + 1) (intsV (insAt L i k)) ∧ (∀ r, w.grownBy w' r) ∧ ∀ g, (Value.slice o' (L.length + 1) c').ownBlock = some g → w.heap.size ≤ g := fun o c hc hz h3 h4 h5 => by
    subst h5
    have H := Any2.slices_Insert_int_end_grow Tryd.lays2x21 o L.length c vb 0 1 1 (intsV L) [.int .i64 k] w (by decide) h3 (by omega) (by omega) hlen rfl hz hc hvs h1v
    refine H.mono fun e w' ⟨he, hw⟩ => ⟨_, _, he, ?_, fun r => ?_, fun g hg => by cases hg; exact Nat.le_refl _⟩
    · rw [hw]
      have hcg := grownCap_ge w (L.length + 1) c (Tryd.lays2x21_ren.t 3)
      refine own_make hB (mbox w.drew _ _) hil hcg (grownCap_le_maxLen _ _ _ _ (by rw [maxLen_eq]; omega)) ?_ fun j hj => ?_
      · rw [Array.size_append, zero_size]
        simp [hlen]
        omega
      · rw [Array.getElem?_append_left (by simp [hlen]; omega), List.getElem?_toArray, insAt_get L _ j k (Nat.le_refl _)]
        by_cases h6 : j < L.length
        · rw [if_pos h6, List.getElem?_append_left (by omega)]
        · rw [if_neg h6, if_pos (by omega), List.getElem?_append_right (by omega), show j - (intsV L).length = 0 from by omega]
          rfl
    · rw [hw]
      exact ⟨rfl, rfl, rfl, (mal w _).size, fun x hx _ => (mal w _).block x hx⟩
  obtain ⟨h1, h2⟩ := ho
  rcases h2 with ⟨rfl, h2⟩ | ⟨g, cap, cur, rfl, h3, h4, h5, h6, h7, h8⟩
  · have H := fresh none 0 (fun a ha => by cases ha) (fun _ => h2) (by omega) (by omega) (by omega)
    rw [h2] at H
    rw [h2]
    exact H.mono fun e w' ⟨o', c', r1, r2, r3, r4⟩ => ⟨o', c', r1, r2, r3 _, .inr r4⟩
  rw [Nat.mul_one] at h7 h8
  have hgv : vb ≠ g := fun e => hne (by rw [e]; rfl)
  have hcur : ∀ j, j < L.length → cur[j]? = (intsV L)[j]? := fun j hj => by
    rw [← h8, List.getElem?_take, if_pos hj, Array.getElem?_toList]
  have hcs : ∀ j u, (intsV L)[j]? = some u → w.cell? ⟨g, 0 + j, none⟩ = some u := fun j u hu => by
    have hj : j < L.length := by rw [← hlen]; exact (List.getElem?_eq_some_iff.1 hu).1
    rw [Nat.zero_add]
    exact bcell h4 j u ((hcur j hj).trans hu)
  rw [maxLen_eq] at h6
  have hin : ∀ j, j < cap → (w.cell? ⟨g, 0 + j, none⟩).isSome = true := fun j hj => by
    rw [Nat.zero_add, bcell h4 j _ (Array.getElem?_eq_getElem (by omega))]
    rfl
  by_cases hroom : L.length + 1 ≤ cap
  · by_cases hil2 : i < L.length
    · have H := Any2.slices_Insert_int_shift Tryd.lays2x21 g 0 L.length cap i vb 0 1 1 (intsV L) [.int .i64 k] w hil2 (by decide) hroom (by omega) hgv hlen rfl hcs (fun j hj => hin j (by omega)) (fun j _ => froz_at h4 _) hvs h1c h1v 3 3 1 cap (by unfold World.shape?; rw [hv]; rfl) (by unfold World.shape?; rw [h4]; simp [h7]) (by omega) (froz_at hv _) (froz_at hv _)
      refine H.mono fun e w' ⟨he, hw⟩ => ⟨_, _, he, ?_, ?_, .inl rfl⟩
      · rw [hw, Nat.zero_add, Nat.zero_add]
        refine own_make h3 (setCells_at _ _ g i _ _ (setCells_at _ w.drew g (i + 1) cur _ h4)) hil hroom (by rw [maxLen_eq]; omega) (by rw [putL_size, putL_size, h7]) fun j hj => ?_
        rw [putL_get _ _ _ _ (by rw [putL_size]; simp; omega), putL_get _ _ _ _ (by rw [List.length_drop]; omega), insAt_get L i j k hi]
        by_cases h9 : j < i
        · rw [if_pos h9, if_neg (by simp; omega), if_neg (by omega)]
          exact hcur j (by omega)
        · rw [if_neg h9]
          by_cases h10 : j = i
          · subst h10
            rw [if_pos rfl, if_pos (by simp), Nat.sub_self]
            rfl
          · rw [if_neg h10, if_neg (by simp; omega), if_pos (by rw [List.length_drop]; omega), List.getElem?_drop, show i + (j - (i + 1)) = j - 1 from by omega]
      · rw [hw]
        exact grown_drew (k := 1) ((setCells_kept _ w.drew g _).trans (setCells_kept _ _ g _))
    · obtain rfl : i = L.length := by omega
      have H := Any2.slices_Insert_int_end_room Tryd.lays2x21 g 0 L.length cap vb 0 1 1 [.int .i64 k] w (by decide) hroom (by omega) rfl (fun j hj => by rw [show 0 + L.length + j = 0 + (L.length + j) from by omega]; exact hin _ (by omega)) (fun j _ => froz_at h4 _) hvs h1v
      refine H.mono fun e w' ⟨he, hw⟩ => ⟨_, _, he, ?_, ?_, .inl rfl⟩
      · rw [hw, Nat.zero_add]
        refine own_make h3 (setCells_at _ w g L.length cur _ h4) hil hroom (by rw [maxLen_eq]; omega) (by rw [putL_size, h7]) fun j hj => ?_
        rw [putL_get _ _ _ _ (by simp; omega), insAt_get L _ j k (Nat.le_refl _)]
        by_cases h9 : j < L.length
        · rw [if_pos h9, if_neg (by omega)]
          exact hcur j h9
        · obtain rfl : j = L.length := by omega
          rw [if_pos ⟨Nat.le_refl _, by simp⟩, if_neg (Nat.lt_irrefl _), if_pos rfl, Nat.sub_self]
          rfl
      · rw [hw]
        exact setCells_kept _ w g _
  · by_cases hil2 : i < L.length
    · have H := Any2.slices_Insert_int_grow Tryd.lays2x21 g 0 L.length cap i vb 0 1 1 (intsV L) [.int .i64 k] w hil2 (by decide) h5 (by omega) (by omega) hlen rfl hcs hvs h1c h1v
      have hcg := grownCap_ge w (L.length + 1) cap (Tryd.lays2x21_ren.t 3)
      refine H.mono fun e w' ⟨he, hw⟩ => ⟨_, _, he, ?_, ?_, .inr fun g' hg' => by cases hg'; exact Nat.le_refl _⟩
      · rw [hw]
        have hs0 : ((intsV L).take i).toArray.size = i := by simp [hlen]; omega
        refine own_make hB (setCells_at _ _ w.heap.size (i + 1) _ _ (setCells_at _ _ w.heap.size i _ _ (mbox w _ _))) hil hcg (grownCap_le_maxLen _ _ _ _ (by rw [maxLen_eq]; omega)) ?_ fun j hj => ?_
        · rw [putL_size, putL_size, Array.size_append, Array.size_append, zero_size, zero_size, hs0]
          omega
        · rw [putL_get _ _ _ _ (by rw [putL_size, Array.size_append, Array.size_append, zero_size, zero_size, hs0, List.length_drop]; omega), putL_get _ _ _ _ (by rw [Array.size_append, Array.size_append, zero_size, zero_size, hs0]; simp; omega), insAt_get L i j k hi]
          by_cases h9 : j < i
          · rw [if_pos h9, if_neg (by omega), if_neg (by simp; omega), Array.getElem?_append_left (by rw [Array.size_append, hs0]; omega), Array.getElem?_append_left (by omega), List.getElem?_toArray, List.getElem?_take, if_pos h9]
          · rw [if_neg h9]
            by_cases h10 : j = i
            · subst h10
              rw [if_pos rfl, if_neg (by omega), if_pos (by simp), Nat.sub_self]
              rfl
            · rw [if_neg h10, if_pos (by rw [List.length_drop]; omega), List.getElem?_drop, show i + (j - (i + 1)) = j - 1 from by omega]
      · rw [hw]
        refine ⟨?_, ?_, ?_, ?_, fun x hx hne2 => ?_⟩
        · exact (setCells_kept _ _ _ _).os.trans (setCells_kept _ ((w.alloc _).drew) _ _).os
        · exact (setCells_kept _ _ _ _).tape.trans (setCells_kept _ ((w.alloc _).drew) _ _).tape
        · exact (setCells_kept _ _ _ _).output.trans (setCells_kept _ ((w.alloc _).drew) _ _).output
        · exact two_sizes w _ _ _ _ _ _
        · rw [setCells_far _ _ _ _ x (by omega)]
          refine Eq.trans (setCells_far _ _ _ _ x (by omega)) ((mal w _).block x hx)
    · obtain rfl : i = L.length := by omega
      have H := fresh (some ⟨g, 0, none⟩) cap (fun a ha j u hu => by
        cases ha
        have hadd : (⟨g, 0, none⟩ : Addr).add j = ⟨g, j, none⟩ := by unfold Addr.add; split <;> simp_all
        rw [hadd]
        have := hcs j u hu
        rw [Nat.zero_add] at this
        exact this) (fun h => by cases h) h5 (by omega) rfl
      exact H.mono fun e w' ⟨o', c', r1, r2, r3, r4⟩ => ⟨o', c', r1, r2, r3 _, .inr r4⟩

end Go.Proofs.YtmlajdhkkcmjnacDoor

/-
  How a node lies in memory; a node that came in lies so.
-/
import Derived.Test.YtlnnpileegoglabDoorMark2
import Derived.ChangeArms
import Derived.ChangeMaps5
namespace Go.Proofs.YtlnnpileegoglabDoor
open Go.RowKit

/-- A text's value. -/
def strV (s : Bs) : Value := .string ⟨s.toArray⟩
theorem strV_of (s : ByteArray) : Value.string s = strV s.data.toList := by cases s; rfl
theorem strV_size (s : Bs) : (⟨s.toArray⟩ : ByteArray).size = s.length := by simp [ByteArray.size]

/-- Attributes in memory. -/
def AtsAt (w : World) (o : Option Addr) (ats : List (Bs × Bs)) : Prop := ∀ i x, ats[i]? = some x → ∃ b off, o = some ⟨b, off, none⟩ ∧ w.cell? ⟨b, off + i * 2, none⟩ = some (strV x.1) ∧ w.cell? ⟨b, off + i * 2 + 1, none⟩ = some (strV x.2) ∧ x.1.length ≤ maxLen ∧ x.2.length ≤ maxLen
def AtsIn (w : World) (v : Value) (ats : List (Bs × Bs)) : Prop := ∃ o cap, v = .slice o ats.length cap ∧ ats.length ≤ cap ∧ cap ≤ maxLen ∧ (o = none → cap = 0) ∧ AtsAt w o ats
mutual
/-- A node in memory, by its three cells. -/
def NdC (w : World) (c0 c1 c2 : Value) : Nd → Prop
  | .mk nm ats ks => c0 = strV nm ∧ nm.length ≤ maxLen ∧ AtsIn w c1 ats ∧ ∃ o cap, c2 = .slice o ks.length cap ∧ ks.length ≤ cap ∧ cap ≤ maxLen ∧ (o = none → cap = 0) ∧ KdsAt w o 0 ks
def KdsAt (w : World) (o : Option Addr) (i : Nat) : List Nd → Prop
  | [] => True
  | k :: l => (∃ b off c0 c1 c2, o = some ⟨b, off, none⟩ ∧ w.cell? ⟨b, off + i * 3, none⟩ = some c0 ∧ w.cell? ⟨b, off + i * 3 + 1, none⟩ = some c1 ∧ w.cell? ⟨b, off + i * 3 + 2, none⟩ = some c2 ∧ NdC w c0 c1 c2 k) ∧ KdsAt w o (i + 1) l
end

theorem cell_lt3 {w : World} {a : Addr} {v : Value} (h : w.cell? a = some v) : a.block < w.heap.size := by
  rcases Nat.lt_or_ge a.block w.heap.size with h' | h'
  · exact h'
  · simp [World.cell?, Array.getElem?_eq_none h'] at h
theorem AtsAt.below {w w' : World} {o : Option Addr} {ats : List (Bs × Bs)} (h : AtsAt w o ats) (hb : Below w.heap.size w w') : AtsAt w' o ats := fun i x hx => by
  obtain ⟨b, off, h1, h2, h3, h4⟩ := h i x hx
  exact ⟨b, off, h1, (hb.cell (cell_lt3 h2)).trans h2, (hb.cell (cell_lt3 h3)).trans h3, h4⟩
theorem AtsIn.below {w w' : World} {v : Value} {ats : List (Bs × Bs)} (h : AtsIn w v ats) (hb : Below w.heap.size w w') : AtsIn w' v ats := by
  obtain ⟨o, cap, h1, h2, h3, h5, h4⟩ := h
  exact ⟨o, cap, h1, h2, h3, h5, h4.below hb⟩
mutual
theorem NdC.below {w w' : World} (hb : Below w.heap.size w w') : ∀ {c0 c1 c2 : Value} (n : Nd), NdC w c0 c1 c2 n → NdC w' c0 c1 c2 n
  | _, _, _, .mk _ _ ks, h => by
    unfold NdC at h ⊢
    obtain ⟨h1, h2, h3, o, cap, h4, h5, h6, h8, h7⟩ := h
    exact ⟨h1, h2, h3.below hb, o, cap, h4, h5, h6, h8, KdsAt.below hb ks h7⟩
theorem KdsAt.below {w w' : World} (hb : Below w.heap.size w w') : ∀ {o : Option Addr} {i : Nat} (l : List Nd), KdsAt w o i l → KdsAt w' o i l
  | _, _, [], _ => by unfold KdsAt; trivial
  | _, _, k :: l, h => by
    unfold KdsAt at h ⊢
    obtain ⟨⟨b, off, c0, c1, c2, h1, h2, h3, h4, h5⟩, h6⟩ := h
    exact ⟨⟨b, off, c0, c1, c2, h1, (hb.cell (cell_lt3 h2)).trans h2, (hb.cell (cell_lt3 h3)).trans h3, (hb.cell (cell_lt3 h4)).trans h4, NdC.below hb k h5⟩, KdsAt.below hb l h6⟩
end
theorem KdsAt.get {w : World} {o : Option Addr} : ∀ {l : List Nd} {i j : Nat} {k : Nd}, KdsAt w o i l → l[j]? = some k → ∃ b off c0 c1 c2, o = some ⟨b, off, none⟩ ∧ w.cell? ⟨b, off + (i + j) * 3, none⟩ = some c0 ∧ w.cell? ⟨b, off + (i + j) * 3 + 1, none⟩ = some c1 ∧ w.cell? ⟨b, off + (i + j) * 3 + 2, none⟩ = some c2 ∧ NdC w c0 c1 c2 k
  | [], _, _, _, _, hk => by simp at hk
  | k :: l, i, j, k', h, hk => by
    unfold KdsAt at h
    cases j with
    | zero => simp at hk; subst hk; exact h.1
    | succ j =>
      have := KdsAt.get (i := i + 1) (j := j) h.2 (by simpa using hk)
      rw [show i + 1 + j = i + (j + 1) from by omega] at this
      exact this
theorem kdsAt_of {w : World} {o : Option Addr} : ∀ {l : List Nd} {i : Nat}, (∀ j k, l[j]? = some k → ∃ b off c0 c1 c2, o = some ⟨b, off, none⟩ ∧ w.cell? ⟨b, off + (i + j) * 3, none⟩ = some c0 ∧ w.cell? ⟨b, off + (i + j) * 3 + 1, none⟩ = some c1 ∧ w.cell? ⟨b, off + (i + j) * 3 + 2, none⟩ = some c2 ∧ NdC w c0 c1 c2 k) → KdsAt w o i l
  | [], _, _ => by unfold KdsAt; trivial
  | k :: l, i, h => by
    unfold KdsAt
    refine ⟨h 0 k rfl, kdsAt_of fun j k' hk => ?_⟩
    have := h (j + 1) k' (by simpa using hk)
    rw [show i + (j + 1) = i + 1 + j from by omega] at this
    exact this

/-- One of each, in a list. -/
theorem list_of {α : Type} {P : Nat → α → Prop} : ∀ (n : Nat), (∀ i, i < n → ∃ x, P i x) → ∃ l : List α, l.length = n ∧ ∀ i x, l[i]? = some x → P i x
  | 0, _ => ⟨[], rfl, fun i x h => by simp at h⟩
  | n + 1, h => by
    obtain ⟨l, hl, hP⟩ := list_of n (fun i hi => h i (by omega))
    obtain ⟨x, hx⟩ := h n (by omega)
    refine ⟨l ++ [x], by simp [hl], fun i y hy => ?_⟩
    rcases Nat.lt_or_ge i n with hi | hi
    · rw [List.getElem?_append_left (by omega)] at hy; exact hP i y hy
    · rw [List.getElem?_append_right (by omega)] at hy
      have : i - l.length = 0 := by
        rcases Nat.eq_zero_or_pos (i - l.length) with e | e
        · exact e
        · rw [List.getElem?_eq_none (by simp; omega)] at hy; cases hy
      rw [this] at hy
      simp at hy
      subst hy
      obtain rfl : i = n := by omega
      exact hx
theorem cells_two {w : World} {base : Nat} {a : Addr} {cs : List Value} (h : w.cells? base a 2 = some cs) : ∃ b off c0 c1, a = ⟨b, off, none⟩ ∧ cs = [c0, c1] ∧ w.cell? ⟨b, off, none⟩ = some c0 ∧ w.cell? ⟨b, off + 1, none⟩ = some c1 := by
  unfold World.cells? at h
  split at h
  · simp only [List.range_succ, List.range_zero, List.nil_append, List.cons_append, List.mapM_cons, List.mapM_nil] at h
    cases h0 : w.cell? (a.add 0) with
    | none => simp [h0] at h
    | some c0 =>
      cases h1 : w.cell? (a.add 1) with
      | none => simp [h0, h1] at h
      | some c1 =>
        simp [h0, h1] at h
        obtain ⟨b, off, sp⟩ := a
        cases sp with
        | some s =>
          simp [Addr.add, World.cell?] at h0
          split at h0 <;> cases h0
        | none => exact ⟨b, off, c0, c1, rfl, h.symm, by simpa [Addr.add] using h0, by simpa [Addr.add] using h1⟩
  · cases h
theorem cells_three {w : World} {base : Nat} {a : Addr} {cs : List Value} (h : w.cells? base a 3 = some cs) : ∃ b off c0 c1 c2, a = ⟨b, off, none⟩ ∧ cs = [c0, c1, c2] ∧ w.cell? ⟨b, off, none⟩ = some c0 ∧ w.cell? ⟨b, off + 1, none⟩ = some c1 ∧ w.cell? ⟨b, off + 2, none⟩ = some c2 := by
  unfold World.cells? at h
  split at h
  · simp only [List.range_succ, List.range_zero, List.nil_append, List.cons_append, List.mapM_cons, List.mapM_nil] at h
    cases h0 : w.cell? (a.add 0) with
    | none => simp [h0] at h
    | some c0 =>
      cases h1 : w.cell? (a.add 1) with
      | none => simp [h0, h1] at h
      | some c1 =>
        cases h2 : w.cell? (a.add 2) with
        | none => simp [h0, h1, h2] at h
        | some c2 =>
          simp [h0, h1, h2] at h
          obtain ⟨b, off, sp⟩ := a
          cases sp with
          | some s =>
            simp [Addr.add, World.cell?] at h0
            split at h0 <;> cases h0
          | none => exact ⟨b, off, c0, c1, c2, rfl, h.symm, by simpa [Addr.add] using h0, by simpa [Addr.add] using h1, by simpa [Addr.add] using h2⟩
  · cases h

end Go.Proofs.YtlnnpileegoglabDoor

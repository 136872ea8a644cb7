/-
  Rows of attributes in memory; rows that are owned, cell by cell.
-/
import Derived.Test.YtmlajdhkkcmjnacDoorMark14
import Derived.Maps.AppendAt
namespace Go.Proofs.YtmlajdhkkcmjnacDoor
open Go.RowKit

/-- Rows of attributes. -/
def cellsA : List (Bs × Bs) → List Value
  | [] => []
  | x :: r => [.string ⟨x.1.toArray⟩, .string ⟨x.2.toArray⟩] ++ cellsA r
theorem cellsA_append : ∀ a c : List (Bs × Bs), cellsA (a ++ c) = cellsA a ++ cellsA c
  | [], _ => rfl
  | x :: a, c => by simp [cellsA, cellsA_append a c]
theorem cellsA_snoc (a : List (Bs × Bs)) (x : Bs × Bs) : cellsA (a ++ [x]) = cellsA a ++ [.string ⟨x.1.toArray⟩, .string ⟨x.2.toArray⟩] := by rw [cellsA_append]; simp [cellsA]
theorem cellsA_get : ∀ (M : List (Bs × Bs)) (i : Nat) (x : Bs × Bs), M[i]? = some x → (cellsA M)[i * 2]? = some (strV x.1) ∧ (cellsA M)[i * 2 + 1]? = some (strV x.2)
  | [], i, x, h => by simp at h
  | y :: r, 0, x, h => by
    simp at h
    subst h
    exact ⟨rfl, rfl⟩
  | y :: r, i + 1, x, h => by
    have := cellsA_get r i x (by simpa using h)
    rw [show (i + 1) * 2 = i * 2 + 1 + 1 from by omega, show i * 2 + 1 + 1 + 1 = (i * 2 + 1) + 1 + 1 from rfl]
    simp only [cellsA, List.cons_append, List.nil_append, List.getElem?_cons_succ]
    exact this
/-- A row that is owned, cell by cell. -/
theorem row_get {w : World} {B k : Nat} {e : TypeId} {v : Value} {n : Nat} {xs : List Value} (h : w.ownsRow B e k v n xs) (j : Nat) (u : Value) (hj : xs[j]? = some u) : ∃ g, v.ownBlock = some g ∧ w.cell? ⟨g, j, none⟩ = some u := by
  obtain ⟨h1, h2⟩ := h
  rcases h2 with ⟨_, h2⟩ | ⟨g, cap, cur, h3, h4, h5, h6, h7, h8, h9⟩
  · subst h2
    have hx : xs = [] := List.eq_nil_of_length_eq_zero (by simpa using h1)
    rw [hx] at hj
    simp at hj
  · refine ⟨g, by rw [h3]; rfl, ?_⟩
    rw [← h9, List.getElem?_take] at hj
    split at hj
    · unfold World.cell?
      rw [h5]
      simpa using hj
    · cases hj
theorem row_slice {w : World} {B k : Nat} {e : TypeId} {v : Value} {n : Nat} {xs : List Value} (h : w.ownsRow B e k v n xs) : ∃ o cap, v = .slice o n cap ∧ n ≤ cap ∧ cap ≤ maxLen ∧ (o = none → cap = 0) ∧ ∀ g, v.ownBlock = some g → o = some ⟨g, 0, none⟩ := by
  rcases h.2 with ⟨h1, h2⟩ | ⟨g, cap, cur, h3, h4, h5, h6, h7, h8, h9⟩
  · exact ⟨none, 0, by rw [h1, h2], by omega, by omega, fun _ => rfl, fun g hg => by rw [h1] at hg; cases hg⟩
  · exact ⟨_, cap, h3, h6, h7, (fun h => by cases h), (fun g' hg => by rw [h3] at hg; cases hg; rfl)⟩
/-- An owned row where its block is as it was. -/
theorem own_same {w w' : World} {B k n : Nat} {e : TypeId} {v : Value} {xs : List Value} (h : w.ownsRow B e k v n xs) (hs : ∀ g, v.ownBlock = some g → w'.heap[g]? = w.heap[g]?) : w'.ownsRow B e k v n xs := by
  obtain ⟨h1, h2⟩ := h
  refine ⟨h1, ?_⟩
  rcases h2 with h2 | ⟨g, cap, cur, h3, h4, h5, h6⟩
  · exact .inl h2
  · exact .inr ⟨g, cap, cur, h3, h4, (hs g (by rw [h3]; rfl)).trans h5, h6⟩
theorem own_bel {B k n : Nat} {e : TypeId} {v : Value} {xs : List Value} {w w' : World} (h : w.ownsRow B e k v n xs) (hb : Below w.heap.size w w') : w'.ownsRow B e k v n xs :=
  own_same h fun g hg => hb.block g (h.lt g hg).2
theorem own_ne {R B k n : Nat} {e : TypeId} {v : Value} {xs : List Value} {w : World} (h : w.ownsRow B e k v n xs) (hR : R < B) : some R ≠ v.ownBlock := fun e => by have := (h.lt R e.symm).1; omega
theorem attrInfo : (Tryd.prog.info? 65).map (fun i => (i.zero, i.size, i.bytes)) = some (some (.agg #[.string ⟨#[]⟩, .string ⟨#[]⟩]), 2, 32) := by kernel_rfl
theorem intInfo : (Tryd.prog.info? 3).map (fun i => (i.zero, i.size, i.bytes)) = some (some (.int .i64 0), 1, 8) := by kernel_rfl
/-- A node's three cells, at its block. -/
def NB (N : Nat) (c0 c1 c2 : Value) (w : World) : Prop := w.heap[N]? = some (.cells #[c0, c1, c2] 25)
theorem NB.c0 {N : Nat} {c0 c1 c2 : Value} {w : World} (h : NB N c0 c1 c2 w) : w.cell? ⟨N, 0, none⟩ = some c0 := bcell h 0 _ rfl
theorem NB.c1 {N : Nat} {c0 c1 c2 : Value} {w : World} (h : NB N c0 c1 c2 w) : w.cell? ⟨N, 1, none⟩ = some c1 := bcell h 1 _ rfl
theorem NB.c2 {N : Nat} {c0 c1 c2 : Value} {w : World} (h : NB N c0 c1 c2 w) : w.cell? ⟨N, 2, none⟩ = some c2 := bcell h 2 _ rfl

end Go.Proofs.YtmlajdhkkcmjnacDoor

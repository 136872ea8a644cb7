/-
  Nodes in memory that the reader made: in which blocks they lie.
-/
import Derived.Test.YtdebekonggnckabDoorMark13
import Derived.Test.YtdebekonggnckabDoorMarkQ
import Derived.Maps.AppendAt
namespace Go.Proofs.YtdebekonggnckabDoor
open Go.RowKit

/-- Attributes in memory, in blocks that Q allows. -/
def AtsQ (Q : Nat → Prop) (w : World) (v : Value) (ats : List (Bs × Bs)) : Prop := ∃ o cap, v = .slice o ats.length cap ∧ ats.length ≤ cap ∧ cap ≤ maxLen ∧ (o = none → cap = 0) ∧ ∀ i x, ats[i]? = some x → ∃ b off, Q b ∧ o = some ⟨b, off, none⟩ ∧ w.cell? ⟨b, off + i * 2, none⟩ = some (strV x.1) ∧ w.cell? ⟨b, off + i * 2 + 1, none⟩ = some (strV x.2) ∧ x.1.length ≤ maxLen ∧ x.2.length ≤ maxLen
mutual
/-- A node in memory, all of it in blocks that Q allows. -/
def NdQ (Q : Nat → Prop) (w : World) (c0 c1 c2 : Value) : Nd → Prop
  | .mk nm ats ks => c0 = strV nm ∧ nm.length ≤ maxLen ∧ AtsQ Q w c1 ats ∧ ∃ o cap, c2 = .slice o ks.length cap ∧ ks.length ≤ cap ∧ cap ≤ maxLen ∧ (o = none → cap = 0) ∧ KdsQ Q w o 0 ks
def KdsQ (Q : Nat → Prop) (w : World) (o : Option Addr) (i : Nat) : List Nd → Prop
  | [] => True
  | k :: l => (∃ b off c0 c1 c2, Q b ∧ o = some ⟨b, off, none⟩ ∧ w.cell? ⟨b, off + i * 3, none⟩ = some c0 ∧ w.cell? ⟨b, off + i * 3 + 1, none⟩ = some c1 ∧ w.cell? ⟨b, off + i * 3 + 2, none⟩ = some c2 ∧ NdQ Q w c0 c1 c2 k) ∧ KdsQ Q w o (i + 1) l
end
theorem AtsQ.ats {Q : Nat → Prop} {w : World} {v : Value} {ats : List (Bs × Bs)} (h : AtsQ Q w v ats) : AtsIn w v ats := by
  obtain ⟨o, cap, h1, h2, h3, h4, h5⟩ := h
  refine ⟨o, cap, h1, h2, h3, h4, fun i x hx => ?_⟩
  obtain ⟨b, off, -, h6⟩ := h5 i x hx
  exact ⟨b, off, h6⟩
mutual
theorem NdQ.nd {Q : Nat → Prop} {w : World} : ∀ {c0 c1 c2 : Value} (n : Nd), NdQ Q w c0 c1 c2 n → NdC w c0 c1 c2 n
  | _, _, _, .mk _ _ ks, h => by
    unfold NdQ at h
    unfold NdC
    obtain ⟨h1, h2, h3, o, cap, h4, h5, h6, h8, h7⟩ := h
    exact ⟨h1, h2, h3.ats, o, cap, h4, h5, h6, h8, KdsQ.kds ks h7⟩
theorem KdsQ.kds {Q : Nat → Prop} {w : World} : ∀ {o : Option Addr} {i : Nat} (l : List Nd), KdsQ Q w o i l → KdsAt w o i l
  | _, _, [], _ => by unfold KdsAt; trivial
  | _, _, k :: l, h => by
    unfold KdsQ at h
    unfold KdsAt
    obtain ⟨⟨b, off, c0, c1, c2, -, h1, h2, h3, h4, h5⟩, h6⟩ := h
    exact ⟨⟨b, off, c0, c1, c2, h1, h2, h3, h4, NdQ.nd k h5⟩, KdsQ.kds l h6⟩
end
/-- From world to world: blocks that Q allows are as they were, and Q' allows them. -/
def Turn (Q Q' : Nat → Prop) (w w' : World) : Prop := ∀ b, Q b → b < w.heap.size → Q' b ∧ w'.heap[b]? = w.heap[b]?
theorem Turn.cell {Q Q' : Nat → Prop} {w w' : World} (h : Turn Q Q' w w') {b i : Nat} {v : Value} (hq : Q b) (hc : w.cell? ⟨b, i, none⟩ = some v) : w'.cell? ⟨b, i, none⟩ = some v := by
  rw [World.cell?_of_block (h b hq (cell_lt3 hc)).2]; exact hc
theorem AtsQ.turn {Q Q' : Nat → Prop} {w w' : World} {v : Value} {ats : List (Bs × Bs)} (h : AtsQ Q w v ats) (t : Turn Q Q' w w') : AtsQ Q' w' v ats := by
  obtain ⟨o, cap, h1, h2, h3, h4, h5⟩ := h
  refine ⟨o, cap, h1, h2, h3, h4, fun i x hx => ?_⟩
  obtain ⟨b, off, hq, h6, h7, h8, h9⟩ := h5 i x hx
  exact ⟨b, off, (t b hq (cell_lt3 h7)).1, h6, t.cell hq h7, t.cell hq h8, h9⟩
mutual
theorem NdQ.turn {Q Q' : Nat → Prop} {w w' : World} (t : Turn Q Q' w w') : ∀ {c0 c1 c2 : Value} (n : Nd), NdQ Q w c0 c1 c2 n → NdQ Q' w' c0 c1 c2 n
  | _, _, _, .mk _ _ ks, h => by
    unfold NdQ at h ⊢
    obtain ⟨h1, h2, h3, o, cap, h4, h5, h6, h8, h7⟩ := h
    exact ⟨h1, h2, h3.turn t, o, cap, h4, h5, h6, h8, KdsQ.turn t ks h7⟩
theorem KdsQ.turn {Q Q' : Nat → Prop} {w w' : World} (t : Turn Q Q' w w') : ∀ {o : Option Addr} {i : Nat} (l : List Nd), KdsQ Q w o i l → KdsQ Q' w' o i l
  | _, _, [], _ => by unfold KdsQ; trivial
  | _, _, k :: l, h => by
    unfold KdsQ at h ⊢
    obtain ⟨⟨b, off, c0, c1, c2, hq, h1, h2, h3, h4, h5⟩, h6⟩ := h
    exact ⟨⟨b, off, c0, c1, c2, (t b hq (cell_lt3 h2)).1, h1, t.cell hq h2, t.cell hq h3, t.cell hq h4, NdQ.turn t k h5⟩, KdsQ.turn t l h6⟩
end

/-- Rows of attributes. -/
def cellsA : List (Bs × Bs) → List Value
  | [] => []
  | x :: r => [.string ⟨x.1.toArray⟩, .string ⟨x.2.toArray⟩] ++ cellsA r
theorem cellsA_append : ∀ a c : List (Bs × Bs), cellsA (a ++ c) = cellsA a ++ cellsA c
  | [], _ => rfl
  | x :: a, c => by simp [cellsA, cellsA_append a c]
theorem cellsA_snoc (a : List (Bs × Bs)) (x : Bs × Bs) : cellsA (a ++ [x]) = cellsA a ++ [.string ⟨x.1.toArray⟩, .string ⟨x.2.toArray⟩] := by rw [cellsA_append]; simp [cellsA]
theorem cellsA_get : ∀ (M : List (Bs × Bs)) (i : Nat) (x : Bs × Bs), M[i]? = some x → (cellsA M)[i * 2]? = some (strV x.1) ∧ (cellsA M)[i * 2 + 1]? = some (strV x.2)
  | [], i, x, h => by simp at h
  | y :: r, 0, x, h => by
    simp at h
    subst h
    exact ⟨rfl, rfl⟩
  | y :: r, i + 1, x, h => by
    have := cellsA_get r i x (by simpa using h)
    rw [show (i + 1) * 2 = i * 2 + 1 + 1 from by omega, show i * 2 + 1 + 1 + 1 = (i * 2 + 1) + 1 + 1 from rfl]
    simp only [cellsA, List.cons_append, List.nil_append, List.getElem?_cons_succ]
    exact this
/-- A row that is owned, cell by cell. -/
theorem row_get {w : World} {B k : Nat} {e : TypeId} {v : Value} {n : Nat} {xs : List Value} (h : w.ownsRow B e k v n xs) (j : Nat) (u : Value) (hj : xs[j]? = some u) : ∃ g, v.ownBlock = some g ∧ w.cell? ⟨g, j, none⟩ = some u := by
  obtain ⟨h1, h2⟩ := h
  rcases h2 with ⟨_, h2⟩ | ⟨g, cap, cur, h3, h4, h5, h6, h7, h8, h9⟩
  · subst h2
    have hx : xs = [] := List.eq_nil_of_length_eq_zero (by simpa using h1)
    rw [hx] at hj
    simp at hj
  · refine ⟨g, by rw [h3]; rfl, ?_⟩
    rw [← h9, List.getElem?_take] at hj
    split at hj
    · unfold World.cell?
      rw [h5]
      simpa using hj
    · cases hj
theorem row_slice {w : World} {B k : Nat} {e : TypeId} {v : Value} {n : Nat} {xs : List Value} (h : w.ownsRow B e k v n xs) : ∃ o cap, v = .slice o n cap ∧ n ≤ cap ∧ cap ≤ maxLen ∧ (o = none → cap = 0) ∧ ∀ g, v.ownBlock = some g → o = some ⟨g, 0, none⟩ := by
  rcases h.2 with ⟨h1, h2⟩ | ⟨g, cap, cur, h3, h4, h5, h6, h7, h8, h9⟩
  · exact ⟨none, 0, by rw [h1, h2], by omega, by omega, fun _ => rfl, fun g hg => by rw [h1] at hg; cases hg⟩
  · exact ⟨_, cap, h3, h6, h7, (fun h => by cases h), (fun g' hg => by rw [h3] at hg; cases hg; rfl)⟩
theorem AtsQ.of_row {w : World} {B : Nat} {v : Value} {ats : List (Bs × Bs)} (h : w.ownsRow B 77 2 v ats.length (cellsA ats)) (hl : ∀ x ∈ ats, x.1.length ≤ maxLen ∧ x.2.length ≤ maxLen) : AtsQ (fun b => v.ownBlock = some b) w v ats := by
  obtain ⟨o, cap, h1, h2, h3, h4, h5⟩ := row_slice h
  refine ⟨o, cap, h1, h2, h3, h4, fun i x hx => ?_⟩
  obtain ⟨c0, c1⟩ := cellsA_get ats i x hx
  obtain ⟨g, hg, e0⟩ := row_get h _ _ c0
  obtain ⟨g', hg', e1⟩ := row_get h _ _ c1
  obtain rfl : g = g' := by rw [hg] at hg'; cases hg'; rfl
  exact ⟨g, 0, hg, h5 g hg, by rw [Nat.zero_add]; exact e0, by rw [Nat.zero_add]; exact e1, hl x (List.mem_of_getElem? hx)⟩
/-- Rows of nodes. -/
abbrev V3 := Value × Value × Value
def cellsK : List V3 → List Value
  | [] => []
  | x :: r => [x.1, x.2.1, x.2.2] ++ cellsK r
theorem cellsK_append : ∀ a c : List V3, cellsK (a ++ c) = cellsK a ++ cellsK c
  | [], _ => rfl
  | x :: a, c => by simp [cellsK, cellsK_append a c]
theorem cellsK_snoc (a : List V3) (x : V3) : cellsK (a ++ [x]) = cellsK a ++ [x.1, x.2.1, x.2.2] := by rw [cellsK_append]; simp [cellsK]
theorem cellsK_get : ∀ (M : List V3) (i : Nat) (x : V3), M[i]? = some x → (cellsK M)[i * 3]? = some x.1 ∧ (cellsK M)[i * 3 + 1]? = some x.2.1 ∧ (cellsK M)[i * 3 + 2]? = some x.2.2
  | [], i, x, h => by simp at h
  | y :: r, 0, x, h => by
    simp at h
    subst h
    exact ⟨rfl, rfl, rfl⟩
  | y :: r, i + 1, x, h => by
    have := cellsK_get r i x (by simpa using h)
    rw [show (i + 1) * 3 = i * 3 + 1 + 1 + 1 from by omega, show i * 3 + 1 + 1 + 1 + 1 = (i * 3 + 1) + 1 + 1 + 1 from rfl, show i * 3 + 1 + 1 + 1 + 2 = (i * 3 + 2) + 1 + 1 + 1 from rfl]
    simp only [cellsK, List.cons_append, List.nil_append, List.getElem?_cons_succ]
    exact this
/-- These cells are these nodes. -/
def KR (Q : Nat → Prop) (w : World) : List V3 → List Nd → Prop
  | [], [] => True
  | x :: r, n :: l => NdQ Q w x.1 x.2.1 x.2.2 n ∧ KR Q w r l
  | _, _ => False
theorem KR.len {Q : Nat → Prop} {w : World} : ∀ {a : List V3} {l : List Nd}, KR Q w a l → a.length = l.length
  | [], [], _ => rfl
  | _ :: _, _ :: _, h => by simp [KR.len h.2]
  | [], _ :: _, h => h.elim
  | _ :: _, [], h => h.elim
theorem KR.turn {Q Q' : Nat → Prop} {w w' : World} (t : Turn Q Q' w w') : ∀ {a : List V3} {l : List Nd}, KR Q w a l → KR Q' w' a l
  | [], [], _ => trivial
  | _ :: _, _ :: _, h => ⟨NdQ.turn t _ h.1, KR.turn t h.2⟩
  | [], _ :: _, h => h.elim
  | _ :: _, [], h => h.elim
theorem KR.snoc {Q : Nat → Prop} {w : World} : ∀ {a : List V3} {l : List Nd} {x : V3} {n : Nd}, KR Q w a l → NdQ Q w x.1 x.2.1 x.2.2 n → KR Q w (a ++ [x]) (l ++ [n])
  | [], [], _, _, _, h => ⟨h, trivial⟩
  | _ :: _, _ :: _, _, _, h, k => ⟨h.1, KR.snoc h.2 k⟩
  | [], _ :: _, _, _, h, _ => h.elim
  | _ :: _, [], _, _, h, _ => h.elim
theorem KR.get {Q : Nat → Prop} {w : World} : ∀ {a : List V3} {l : List Nd} {i : Nat} {n : Nd}, KR Q w a l → l[i]? = some n → ∃ x, a[i]? = some x ∧ NdQ Q w x.1 x.2.1 x.2.2 n
  | [], [], _, _, _, h => by simp at h
  | x :: _, _ :: _, 0, _, h, hx => by simp at hx; subst hx; exact ⟨x, rfl, h.1⟩
  | _ :: r, _ :: l, i + 1, n, h, hx => by
    obtain ⟨x, h1, h2⟩ := KR.get (a := r) (l := l) (i := i) (n := n) h.2 (by simpa using hx)
    exact ⟨x, by simpa using h1, h2⟩
  | [], _ :: _, _, _, h, _ => h.elim
  | _ :: _, [], _, _, h, _ => h.elim
theorem kdsQ_of {Q : Nat → Prop} {w : World} {o : Option Addr} : ∀ {l : List Nd} {i : Nat}, (∀ j k, l[j]? = some k → ∃ b off c0 c1 c2, Q b ∧ o = some ⟨b, off, none⟩ ∧ w.cell? ⟨b, off + (i + j) * 3, none⟩ = some c0 ∧ w.cell? ⟨b, off + (i + j) * 3 + 1, none⟩ = some c1 ∧ w.cell? ⟨b, off + (i + j) * 3 + 2, none⟩ = some c2 ∧ NdQ Q w c0 c1 c2 k) → KdsQ Q w o i l
  | [], _, _ => by unfold KdsQ; trivial
  | k :: l, i, h => by
    unfold KdsQ
    refine ⟨h 0 k rfl, kdsQ_of fun j k' hk => ?_⟩
    have := h (j + 1) k' (by simpa using hk)
    rw [show i + (j + 1) = i + 1 + j from by omega] at this
    exact this
/-- A node out of its rows. -/
theorem NdQ.make {Q : Nat → Prop} {w : World} {B : Nat} {nm : Bs} {cA vK : Value} {ats : List (Bs × Bs)} {K : List V3} {ks : List Nd} (hl : nm.length ≤ maxLen) (ha : AtsQ Q w cA ats) (hk : w.ownsRow B 40 3 vK K.length (cellsK K)) (hr : KR Q w K ks) (hq : ∀ b, vK.ownBlock = some b → Q b) : NdQ Q w (.string ⟨nm.toArray⟩) cA vK (.mk nm ats ks) := by
  unfold NdQ
  have hlen := hr.len
  obtain ⟨o, cap, h1, h2, h3, h4, h5⟩ := row_slice hk
  refine ⟨rfl, hl, ha, o, cap, by rw [← hlen]; exact h1, by omega, h3, h4, kdsQ_of fun j k hj => ?_⟩
  obtain ⟨x, hx, hn⟩ := hr.get hj
  obtain ⟨c0, c1, c2⟩ := cellsK_get K j x hx
  obtain ⟨g, hg, e0⟩ := row_get hk _ _ c0
  obtain ⟨g', hg', e1⟩ := row_get hk _ _ c1
  obtain rfl : g = g' := by rw [hg] at hg'; cases hg'; rfl
  obtain ⟨g', hg', e2⟩ := row_get hk _ _ c2
  obtain rfl : g = g' := by rw [hg] at hg'; cases hg'; rfl
  rw [Nat.zero_add]
  exact ⟨g, 0, _, _, _, hq g hg, h5 g hg, by rw [Nat.zero_add]; exact e0, by rw [Nat.zero_add]; exact e1, by rw [Nat.zero_add]; exact e2, hn⟩

/-- All blocks are as they were, but these two. -/
structure Keep2 (r n : Nat) (W w : World) : Prop where
  os : w.os = W.os
  tape : w.tape = W.tape
  output : w.output = W.output
  size : W.heap.size ≤ w.heap.size
  block : ∀ k, k < W.heap.size → k ≠ r → k ≠ n → w.heap[k]? = W.heap[k]?
theorem Keep2.trans {r n : Nat} {A B C : World} (h : Keep2 r n A B) (k : Keep2 r n B C) : Keep2 r n A C :=
  ⟨k.os.trans h.os, k.tape.trans h.tape, k.output.trans h.output, Nat.le_trans h.size k.size, fun i hi h1 h2 => (k.block i (Nat.lt_of_lt_of_le hi h.size) h1 h2).trans (h.block i hi h1 h2)⟩
theorem Keep2.of_keep {r n : Nat} {A B : World} (h : Keep r A B) : Keep2 r n A B := ⟨h.os, h.tape, h.output, h.size, fun i hi h1 _ => h.block i hi h1⟩
theorem Keep2.of_below {r n : Nat} {A B : World} (h : Below A.heap.size A B) : Keep2 r n A B := ⟨h.os, h.tape, h.output, h.size, fun i hi _ _ => h.block i hi⟩
theorem Keep2.setN {r n : Nat} (A : World) (i : Nat) (v : Value) : Keep2 r n A (A.setCell ⟨n, i, none⟩ v) := by
  have hs := (Below.refl n A).setCell (p := ⟨n, i, none⟩) (Nat.le_refl _) v
  exact ⟨hs.os, hs.tape, hs.output, hs.size, fun k _ _ hb => Below.heap_setCell _ _ _ k hb⟩
/-- A block that was made behind is none of them. -/
theorem Keep2.keep {r n : Nat} {A B C : World} (h : Keep r A B) (k : Keep2 r n B C) (hn : A.heap.size ≤ n) : Keep r A C :=
  ⟨k.os.trans h.os, k.tape.trans h.tape, k.output.trans h.output, Nat.le_trans h.size k.size, fun i hi h1 => (k.block i (Nat.lt_of_lt_of_le hi h.size) h1 (by omega)).trans (h.block i hi h1)⟩
theorem Keep2.grown {r n : Nat} {A B C : World} {g : Option Nat} (h : Keep2 r n A B) (k : B.grownBy C g) (hg : ∀ b, g = some b → A.heap.size ≤ b) : Keep2 r n A C :=
  ⟨k.os.trans h.os, k.tape.trans h.tape, k.output.trans h.output, Nat.le_trans h.size k.size, fun i hi h1 h2 => (k.block i (Nat.lt_of_lt_of_le hi h.size) (fun e => by have := hg i e.symm; omega)).trans (h.block i hi h1 h2)⟩
theorem Keep.drew {b : Nat} {A B : World} (h : Keep b A B) (k : Nat) : Keep b A (B.drewN k) := ⟨h.os, h.tape, h.output, h.size, h.block⟩
theorem Keep.al {b : Nat} {A B : World} (h : Keep b A B) (o : Obj) : Keep b A (B.alloc o) := h.trans (Keep.of_below (mal B o))
/-- The reader, at its block. -/
def RD (R : Nat) (s : Bs) (w : World) : Prop := w.heap[R]? = some (.cells #[.string ⟨s.toArray⟩] 98)
theorem RD.cell {R : Nat} {s : Bs} {w : World} (h : RD R s w) : w.cell? ⟨R, 0, none⟩ = some (.string ⟨s.toArray⟩) := bcell h 0 _ rfl
theorem RD.froz {R : Nat} {s : Bs} {w : World} (h : RD R s w) : w.frozen? ⟨R, 0, none⟩ = false := by
  unfold RD at h
  unfold World.frozen?
  rw [h]
  rfl
theorem RD.lt {R : Nat} {s : Bs} {w : World} (h : RD R s w) : R < w.heap.size := heap_lt h
theorem RD.set {R : Nat} {s t : Bs} {w : World} (h : RD R s w) : RD R t (w.setCell ⟨R, 0, none⟩ (.string ⟨t.toArray⟩)) := by
  unfold RD at h ⊢
  rw [heap_setCell_same w R 0 _ _ _ h]
  rfl
theorem RD.al {R : Nat} {s : Bs} {w : World} (h : RD R s w) (o : Obj) : RD R s (w.alloc o) := by
  have := h.lt
  unfold RD at h ⊢
  rw [← h]
  exact (mal w o).block R this
theorem RD.below {R : Nat} {s : Bs} {w w' : World} (h : RD R s w) (hb : Below w.heap.size w w') : RD R s w' := by
  have := h.lt
  unfold RD at h ⊢
  rw [← h]
  exact hb.block R this

end Go.Proofs.YtdebekonggnckabDoor

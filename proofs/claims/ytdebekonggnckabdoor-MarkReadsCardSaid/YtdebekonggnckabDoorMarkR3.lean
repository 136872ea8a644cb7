/-
  The document's reader: what its steps are, by places in the text; its list in memory.
-/
import Derived.Test.YtdebekonggnckabDoorMarkR2
import Derived.Test.YtdebekonggnckabDoorMark21
import Derived.Deep.RegionLaw
import Derived.Deep.AppendLies
namespace Go.Proofs.YtdebekonggnckabDoor
open Go.RowKit

theorem foS_done {L : List Fl} {op : Int} {s : Bs} (h : L ≠ [] ∧ op < 0) : foS L op s = none := by unfold foS; rw [if_pos h]
theorem foS_noOpen {L : List Fl} {op : Int} {s : Bs} (h : ¬ (L ≠ [] ∧ op < 0)) (h1 : [60, 47].isPrefixOf s = true) (h2 : op < 0) : foS L op s = none := by unfold foS; rw [if_neg h, if_pos h1, if_pos h2]
theorem foS_end {L : List Fl} {j : Nat} {f : Fl} {s : Bs} (h1 : [60, 47].isPrefixOf s = true) (hf : L[j]? = some f) (h2 : (endT f.name).isPrefixOf s = true) : foS L j s = some (L, f.parent, s.drop (endT f.name).length) := by
  unfold foS
  rw [if_neg (by omega), if_pos h1, if_neg (by omega)]
  simp [hf, h2, - List.isPrefixOf_iff_prefix]
theorem foS_other {L : List Fl} {j : Nat} {f : Fl} {s : Bs} (h1 : [60, 47].isPrefixOf s = true) (hf : L[j]? = some f) (h2 : (endT f.name).isPrefixOf s = false) : foS L j s = none := by
  unfold foS
  rw [if_neg (by omega), if_pos h1, if_neg (by omega)]
  simp [hf, h2]
theorem foS_byte {L : List Fl} {op : Int} {s : Bs} (h : ¬ (L ≠ [] ∧ op < 0)) (h1 : [60, 47].isPrefixOf s = false) (h2 : [60].isPrefixOf s = false) : foS L op s = none := by
  unfold foS
  rw [if_neg h, if_neg (by rw [h1]; simp), if_neg (by rw [h2]; simp)]
theorem foS_el {L : List Fl} {op : Int} {s : Bs} (h : ¬ (L ≠ [] ∧ op < 0)) (h1 : [60, 47].isPrefixOf s = false) (h2 : [60].isPrefixOf s = true) : foS L op s = match elT s with
      | none => none
      | some a => if [47, 62].isPrefixOf a.2.2 = true then some (L ++ [⟨a.1, a.2.1, op, dpO L op⟩], op, a.2.2.drop 2)
        else if [62].isPrefixOf a.2.2 = true then some (L ++ [⟨a.1, a.2.1, op, dpO L op⟩], (L.length : Int), a.2.2.drop 1)
        else none := by
  unfold foS
  rw [if_neg h, if_neg (by rw [h1]; simp), if_pos h2]
  rfl
theorem tkE_take (r : Bs) : r.take (tkE r).length = tkE r ∧ r.drop (tkE r).length = drE r := by
  have key : ∀ a b : Bs, r = a ++ b → r.take a.length = a ∧ r.drop a.length = b := fun a b h => by
    rw [h]
    exact ⟨List.take_left, List.drop_left⟩
  exact key _ _ (tk_dr _ r)

/-- These flat ones lie in memory, their attributes in blocks that Q allows. -/
def FR (Q : Nat → Prop) (w : World) : List FlM → List Fl → Prop
  | [], [] => True
  | x :: r, f :: l => (x.nm = f.name ∧ AtsQ Q w x.c f.attrs ∧ x.parent = f.parent ∧ x.deep = f.deep ∧ x.nm.length ≤ maxLen) ∧ FR Q w r l
  | _, _ => False
theorem FR.len {Q : Nat → Prop} {w : World} : ∀ {a : List FlM} {l : List Fl}, FR Q w a l → a.length = l.length
  | [], [], _ => rfl
  | _ :: _, _ :: _, h => by simp [FR.len h.2]
  | [], _ :: _, h => h.elim
  | _ :: _, [], h => h.elim
theorem FR.turn {Q Q' : Nat → Prop} {w w' : World} (t : Turn Q Q' w w') : ∀ {a : List FlM} {l : List Fl}, FR Q w a l → FR Q' w' a l
  | [], [], _ => trivial
  | _ :: _, _ :: _, h => ⟨⟨h.1.1, h.1.2.1.turn t, h.1.2.2⟩, FR.turn t h.2⟩
  | [], _ :: _, h => h.elim
  | _ :: _, [], h => h.elim
theorem FR.snoc {Q : Nat → Prop} {w : World} : ∀ {a : List FlM} {l : List Fl} {x : FlM} {f : Fl}, FR Q w a l → (x.nm = f.name ∧ AtsQ Q w x.c f.attrs ∧ x.parent = f.parent ∧ x.deep = f.deep ∧ x.nm.length ≤ maxLen) → FR Q w (a ++ [x]) (l ++ [f])
  | [], [], _, _, _, h => ⟨h, trivial⟩
  | _ :: _, _ :: _, _, _, h, k => ⟨h.1, FR.snoc h.2 k⟩
  | [], _ :: _, _, _, h, _ => h.elim
  | _ :: _, [], _, _, h, _ => h.elim
theorem FR.get {Q : Nat → Prop} {w : World} : ∀ {a : List FlM} {l : List Fl} {i : Nat} {f : Fl}, FR Q w a l → l[i]? = some f → ∃ x, a[i]? = some x ∧ x.nm = f.name ∧ x.parent = f.parent ∧ x.deep = f.deep
  | [], [], _, _, _, h => by simp at h
  | x :: _, _ :: _, 0, _, h, hx => by simp at hx; subst hx; exact ⟨x, rfl, h.1.1, h.1.2.2.1, h.1.2.2.2.1⟩
  | _ :: r, _ :: l, i + 1, f, h, hx => by
    obtain ⟨x, h1, h2⟩ := FR.get (a := r) (l := l) (i := i) (f := f) h.2 (by simpa using hx)
    exact ⟨x, by simpa using h1, h2⟩
  | [], _ :: _, _, _, h, _ => h.elim
  | _ :: _, [], _, _, h, _ => h.elim
theorem FR.flrs {Q : Nat → Prop} {w : World} : ∀ {a : List FlM} {l : List Fl}, FR Q w a l → FlRs w a l
  | [], [], _ => trivial
  | _ :: _, _ :: _, h => ⟨⟨h.1.1, h.1.2.1.ats, h.1.2.2⟩, FR.flrs h.2⟩
  | [], _ :: _, h => h.elim
  | _ :: _, [], h => h.elim
/-- A flat one's four cells, at its block. -/
def FX (X : Nat) (a b c d : Value) (w : World) : Prop := w.heap[X]? = some (.cells #[a, b, c, d] 80)
theorem FX.cell {X : Nat} {a b c d : Value} {w : World} (h : FX X a b c d w) : w.cell? ⟨X, 0, none⟩ = some a ∧ w.cell? ⟨X, 1, none⟩ = some b ∧ w.cell? ⟨X, 2, none⟩ = some c ∧ w.cell? ⟨X, 3, none⟩ = some d := ⟨bcell h 0 _ rfl, bcell h 1 _ rfl, bcell h 2 _ rfl, bcell h 3 _ rfl⟩
theorem FX.froz {X : Nat} {a b c d : Value} {w : World} (h : FX X a b c d w) (i : Nat) : w.frozen? ⟨X, i, none⟩ = false := by
  unfold FX at h
  unfold World.frozen?
  rw [h]
  simp
theorem FX.bel {X : Nat} {a b c d : Value} {w w' : World} (h : FX X a b c d w) (hb : Below w.heap.size w w') : FX X a b c d w' := (hb.block X (heap_lt h)).trans h
theorem FX.grown {X : Nat} {g : Option Nat} {a b c d : Value} {w w' : World} (h : FX X a b c d w) (k : w.grownBy w' g) (hne : some X ≠ g) : FX X a b c d w' := (k.block X (heap_lt h) hne).trans h
theorem FX.set1 {X : Nat} {a b c d : Value} {w : World} (h : FX X a b c d w) (v : Value) : FX X a v c d (w.setCell ⟨X, 1, none⟩ v) := by
  unfold FX at h ⊢
  rw [heap_setCell_same w X 1 _ _ _ h]
  rfl
theorem FX.set3 {X : Nat} {a b c d : Value} {w : World} (h : FX X a b c d w) (v : Value) : FX X a b c v (w.setCell ⟨X, 3, none⟩ v) := by
  unfold FX at h ⊢
  rw [heap_setCell_same w X 3 _ _ _ h]
  rfl
theorem own_bel {B k n : Nat} {e : TypeId} {v : Value} {xs : List Value} {w w' : World} (h : w.ownsRow B e k v n xs) (hb : Below w.heap.size w w') : w'.ownsRow B e k v n xs :=
  h.kept (row := none) ⟨hb.os, hb.tape, hb.output, hb.size, fun i hi _ => hb.block i hi⟩ (by
    cases hv : v.ownBlock with
    | none => exact .inl rfl
    | some g => exact .inr (by simp))
/-- What may be said of the list and of the open one. -/
def LOk (L : List Fl) (op : Int) (k : Nat) : Prop := L.length ≤ k ∧ (∀ f ∈ L, -1 ≤ f.parent ∧ f.parent < L.length ∧ f.deep ≤ L.length ∧ f.name.length ≤ 10000) ∧ -1 ≤ op ∧ op < L.length
theorem dpO_le {L : List Fl} {op : Int} {k : Nat} (h : LOk L op k) : dpO L op ≤ L.length + 1 := by
  unfold dpO
  split
  · omega
  · split
    · omega
    · rename_i f hf
      have := (h.2.1 f (List.mem_of_getElem? hf)).2.2.1
      omega
theorem LOk.up {L : List Fl} {op : Int} {k k' j : Nat} {f : Fl} (h : LOk L op k) (hf : L[j]? = some f) (hk : k ≤ k') : LOk L f.parent k' := by
  have := h.2.1 f (List.mem_of_getElem? hf)
  exact ⟨Nat.le_trans h.1 hk, h.2.1, this.1, this.2.1⟩
theorem LOk.snoc {L : List Fl} {op op' : Int} {k k' : Nat} {nm : Bs} {ats : List (Bs × Bs)} (h : LOk L op k) (hn : nm.length ≤ 10000) (hk : k < k') (ho : op' = op ∨ op' = L.length) : LOk (L ++ [⟨nm, ats, op, dpO L op⟩]) op' k' := by
  have hd := dpO_le h
  obtain ⟨h1, h2, h3, h4⟩ := h
  refine ⟨by simp; omega, fun f hf => ?_, by omega, by simp; omega⟩
  rcases List.mem_append.1 hf with hf | hf
  · have := h2 f hf
    simp
    omega
  · simp at hf
    subst hf
    simp
    omega

end Go.Proofs.YtdebekonggnckabDoor

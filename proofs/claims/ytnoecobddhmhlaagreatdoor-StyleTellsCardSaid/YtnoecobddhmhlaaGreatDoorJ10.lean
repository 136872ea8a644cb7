/-
  Rows of attributes in memory; rows that are owned, cell by cell.
-/
import Derived.Test.YtnoecobddhmhlaaGreatDoorMark14
import Derived.Maps.AppendAt
import Derived.Test.YtnoecobddhmhlaaGreatDoorJ6
namespace Go.Proofs.YtnoecobddhmhlaaGreatDoor
open Go.RowKit

/-- Rows of attributes. -/
def cellsA : List (Bs × Bs) → List Value
  | [] => []
  | x :: r => [.string ⟨x.1.toArray⟩, .string ⟨x.2.toArray⟩] ++ cellsA r
theorem cellsA_append : ∀ a c : List (Bs × Bs), cellsA (a ++ c) = cellsA a ++ cellsA c
  | [], _ => rfl
  | x :: a, c => by simp [cellsA, cellsA_append a c]
theorem cellsA_snoc (a : List (Bs × Bs)) (x : Bs × Bs) : cellsA (a ++ [x]) = cellsA a ++ [.string ⟨x.1.toArray⟩, .string ⟨x.2.toArray⟩] := by rw [cellsA_append]; simp [cellsA]
theorem cellsA_get : ∀ (M : List (Bs × Bs)) (i : Nat) (x : Bs × Bs), M[i]? = some x → (cellsA M)[i * 2]? = some (strV x.1) ∧ (cellsA M)[i * 2 + 1]? = some (strV x.2)
  | [], i, x, h => by simp at h
  | y :: r, 0, x, h => by
    simp at h
    subst h
    exact ⟨rfl, rfl⟩
  | y :: r, i + 1, x, h => by
    have := cellsA_get r i x (by simpa using h)
    rw [show (i + 1) * 2 = i * 2 + 1 + 1 from by omega, show i * 2 + 1 + 1 + 1 = (i * 2 + 1) + 1 + 1 from rfl]
    simp only [cellsA, List.cons_append, List.nil_append, List.getElem?_cons_succ]
    exact this
/-- A row that is owned, cell by cell. -/
theorem row_get {w : World} {B k : Nat} {e : TypeId} {v : Value} {n : Nat} {xs : List Value} (h : w.ownsRow B e k v n xs) (j : Nat) (u : Value) (hj : xs[j]? = some u) : ∃ g, v.ownBlock = some g ∧ w.cell? ⟨g, j, none⟩ = some u := by
  obtain ⟨h1, h2⟩ := h
  rcases h2 with ⟨_, h2⟩ | ⟨g, cap, cur, h3, h4, h5, h6, h7, h8, h9⟩
  · subst h2
    have hx : xs = [] := List.eq_nil_of_length_eq_zero (by simpa using h1)
    rw [hx] at hj
    simp at hj
  · refine ⟨g, by rw [h3]; rfl, ?_⟩
    rw [← h9, List.getElem?_take] at hj
    split at hj
    · unfold World.cell?
      rw [h5]
      simpa using hj
    · cases hj
theorem row_slice {w : World} {B k : Nat} {e : TypeId} {v : Value} {n : Nat} {xs : List Value} (h : w.ownsRow B e k v n xs) : ∃ o cap, v = .slice o n cap ∧ n ≤ cap ∧ cap ≤ maxLen ∧ (o = none → cap = 0) ∧ ∀ g, v.ownBlock = some g → o = some ⟨g, 0, none⟩ := by
  rcases h.2 with ⟨h1, h2⟩ | ⟨g, cap, cur, h3, h4, h5, h6, h7, h8, h9⟩
  · exact ⟨none, 0, by rw [h1, h2], by omega, by omega, fun _ => rfl, fun g hg => by rw [h1] at hg; cases hg⟩
  · exact ⟨_, cap, h3, h6, h7, (fun h => by cases h), (fun g' hg => by rw [h3] at hg; cases hg; rfl)⟩
/-- An owned row where its block is as it was. -/
theorem own_same {w w' : World} {B k n : Nat} {e : TypeId} {v : Value} {xs : List Value} (h : w.ownsRow B e k v n xs) (hs : ∀ g, v.ownBlock = some g → w'.heap[g]? = w.heap[g]?) : w'.ownsRow B e k v n xs := by
  obtain ⟨h1, h2⟩ := h
  refine ⟨h1, ?_⟩
  rcases h2 with h2 | ⟨g, cap, cur, h3, h4, h5, h6⟩
  · exact .inl h2
  · exact .inr ⟨g, cap, cur, h3, h4, (hs g (by rw [h3]; rfl)).trans h5, h6⟩
theorem own_bel {B k n : Nat} {e : TypeId} {v : Value} {xs : List Value} {w w' : World} (h : w.ownsRow B e k v n xs) (hb : Below w.heap.size w w') : w'.ownsRow B e k v n xs :=
  own_same h fun g hg => hb.block g (h.lt g hg).2
theorem own_ne {R B k n : Nat} {e : TypeId} {v : Value} {xs : List Value} {w : World} (h : w.ownsRow B e k v n xs) (hR : R < B) : some R ≠ v.ownBlock := fun e => by have := (h.lt R e.symm).1; omega
theorem attrInfo : (Tryz.prog.info? 59).map (fun i => (i.zero, i.size, i.bytes)) = some (some (.agg #[.string ⟨#[]⟩, .string ⟨#[]⟩]), 2, 32) := by kernel_rfl
theorem intInfo : (Tryz.prog.info? 3).map (fun i => (i.zero, i.size, i.bytes)) = some (some (.int .i64 0), 1, 8) := by kernel_rfl
/-- A node's three cells, at its block. -/
def NB (N : Nat) (c0 c1 c2 : Value) (w : World) : Prop := w.heap[N]? = some (.cells #[c0, c1, c2] 25)
theorem NB.c0 {N : Nat} {c0 c1 c2 : Value} {w : World} (h : NB N c0 c1 c2 w) : w.cell? ⟨N, 0, none⟩ = some c0 := bcell h 0 _ rfl
theorem NB.c1 {N : Nat} {c0 c1 c2 : Value} {w : World} (h : NB N c0 c1 c2 w) : w.cell? ⟨N, 1, none⟩ = some c1 := bcell h 1 _ rfl
theorem NB.c2 {N : Nat} {c0 c1 c2 : Value} {w : World} (h : NB N c0 c1 c2 w) : w.cell? ⟨N, 2, none⟩ = some c2 := bcell h 2 _ rfl

end Go.Proofs.YtnoecobddhmhlaaGreatDoor

namespace Go.Proofs.YtnoecobddhmhlaaGreatDoor
open Go.RowKit

/-- What a block of a document is. -/
inductive Tg where
  | doc
  | map
  | el (i : Int)
  | ats (i : Int)
  | kids (i : Int)
abbrev Tags := Nat → Option Tg
def intsV (l : List Int) : List Value := l.map (Value.int .i64)
theorem intsV_app (a b : List Int) : intsV (a ++ b) = intsV a ++ intsV b := List.map_append
theorem intsV_len (l : List Int) : (intsV l).length = l.length := List.length_map ..
theorem intsV_get {l : List Int} {j : Nat} {k : Int} (h : l[j]? = some k) : (intsV l)[j]? = some (.int .i64 k) := by
  unfold intsV
  rw [List.getElem?_map, h]
  rfl
abbrev Wf64 (k : Int) : Prop := (Lit.int .i64 k).wf = true

/-- An element in memory, at block b. -/
structure ElW (B : Nat) (tg : Tags) (w : World) (i : Int) (b : Nat) (e : Elm) (va vk : Value) : Prop where
  cells : w.heap[b]? = some (.cells #[.string ⟨e.name.toArray⟩, va, .int .i64 e.parent, vk] 107)
  tag : tg b = some (.el i)
  ats : w.ownsRow B 59 2 va e.ats.length (cellsA e.ats)
  atag : ∀ g, va.ownBlock = some g → tg g = some (.ats i)
  kids : w.ownsRow B 3 1 vk e.kids.length (intsV e.kids)
  ktag : ∀ g, vk.ownBlock = some g → tg g = some (.kids i)
theorem ElW.turn {B : Nat} {tg tg' : Tags} {w w' : World} {i : Int} {b : Nat} {e : Elm} {va vk : Value} (h : ElW B tg w i b e va vk) (hs : ∀ g t, tg g = some t → (t = .el i ∨ t = .ats i ∨ t = .kids i) → tg' g = some t ∧ w'.heap[g]? = w.heap[g]?) : ElW B tg' w' i b e va vk where
  cells := ((hs b _ h.tag (.inl rfl)).2).trans h.cells
  tag := (hs b _ h.tag (.inl rfl)).1
  ats := own_same h.ats fun g hg => (hs g _ (h.atag g hg) (.inr (.inl rfl))).2
  atag := fun g hg => (hs g _ (h.atag g hg) (.inr (.inl rfl))).1
  kids := own_same h.kids fun g hg => (hs g _ (h.ktag g hg) (.inr (.inr rfl))).2
  ktag := fun g hg => (hs g _ (h.ktag g hg) (.inr (.inr rfl))).1
theorem ElW.c0 {B : Nat} {tg : Tags} {w : World} {i : Int} {b : Nat} {e : Elm} {va vk : Value} (h : ElW B tg w i b e va vk) : w.cell? ⟨b, 0, none⟩ = some (.string ⟨e.name.toArray⟩) := bcell h.cells 0 _ rfl
theorem ElW.c1 {B : Nat} {tg : Tags} {w : World} {i : Int} {b : Nat} {e : Elm} {va vk : Value} (h : ElW B tg w i b e va vk) : w.cell? ⟨b, 1, none⟩ = some va := bcell h.cells 1 _ rfl
theorem ElW.c2 {B : Nat} {tg : Tags} {w : World} {i : Int} {b : Nat} {e : Elm} {va vk : Value} (h : ElW B tg w i b e va vk) : w.cell? ⟨b, 2, none⟩ = some (.int .i64 e.parent) := bcell h.cells 2 _ rfl
theorem ElW.c3 {B : Nat} {tg : Tags} {w : World} {i : Int} {b : Nat} {e : Elm} {va vk : Value} (h : ElW B tg w i b e va vk) : w.cell? ⟨b, 3, none⟩ = some vk := bcell h.cells 3 _ rfl
theorem froz_at {w : World} {b : Nat} {cs : Array Value} {t : TypeId} (h : w.heap[b]? = some (.cells cs t)) (i : Nat) : w.frozen? ⟨b, i, none⟩ = false := by
  unfold World.frozen?
  rw [h]
  simp

/-- A document in memory: its blocks lie at B or behind. -/
structure DocW (B : Nat) (tg : Tags) (w : World) (DB MB : Nat) (p : Int → Option Nat) (M : Dm) (nx c : Nat) : Prop where
  doc : w.heap[DB]? = some (.cells #[.map (some MB), .int .i64 nx] 102)
  dtag : tg DB = some .doc
  map : PMap Tryz.prog 3 w MB p nx c
  mtag : tg MB = some .map
  els : ∀ i e, M i = some e → ∃ b va vk, p i = some b ∧ ElW B tg w i b e va vk
  non : ∀ i, M i = none → p i = none
  low : ∀ b t, tg b = some t → B ≤ b ∧ b < w.heap.size
  dom : ∀ i e, M i = some e → 0 ≤ i ∧ i < nx
  wf : ∀ i e, M i = some e → Wf64 e.parent ∧ ∀ k ∈ e.kids, Wf64 k
  few : nx ≤ 1000000
  tnx : ∀ b i, tg b = some (.el i) ∨ tg b = some (.ats i) ∨ tg b = some (.kids i) → i < nx
/-- All blocks are as they were, but these two. -/
structure K2 (r n : Nat) (W w : World) : Prop where
  os : w.os = W.os
  tape : w.tape = W.tape
  output : w.output = W.output
  size : W.heap.size ≤ w.heap.size
  block : ∀ k, k < W.heap.size → k ≠ r → k ≠ n → w.heap[k]? = W.heap[k]?
theorem K2.refl (r n : Nat) (W : World) : K2 r n W W := ⟨rfl, rfl, rfl, Nat.le_refl _, fun _ _ _ _ => rfl⟩
theorem K2.trans {r n : Nat} {A B C : World} (h : K2 r n A B) (k : K2 r n B C) : K2 r n A C :=
  ⟨k.os.trans h.os, k.tape.trans h.tape, k.output.trans h.output, Nat.le_trans h.size k.size, fun i hi h1 h2 => (k.block i (Nat.lt_of_lt_of_le hi h.size) h1 h2).trans (h.block i hi h1 h2)⟩
theorem K2.of_below {r n : Nat} {A B : World} (h : Below A.heap.size A B) : K2 r n A B := ⟨h.os, h.tape, h.output, h.size, fun i hi _ _ => h.block i hi⟩
theorem K2.below {r n m : Nat} {A B : World} (h : K2 r n A B) (h1 : m ≤ r) (h2 : m ≤ n) (hm : m ≤ A.heap.size) : Below m A B := ⟨h.os, h.tape, h.output, h.size, fun i hi => h.block i (by omega) (by omega) (by omega)⟩
theorem K2.cell {r n : Nat} {A B : World} (h : K2 r n A B) {b i : Nat} {v : Value} (hc : A.cell? ⟨b, i, none⟩ = some v) (h1 : b ≠ r) (h2 : b ≠ n) : B.cell? ⟨b, i, none⟩ = some v := by
  rw [World.cell?_of_block (h.block b (cell_lt3 hc) h1 h2)]; exact hc
/-- All that is not a document's is as it was. -/
structure KT (tg : Tags) (w w' : World) : Prop where
  os : w'.os = w.os
  tape : w'.tape = w.tape
  output : w'.output = w.output
  size : w.heap.size ≤ w'.heap.size
  block : ∀ b, b < w.heap.size → tg b = none → w'.heap[b]? = w.heap[b]?
theorem KT.refl (tg : Tags) (w : World) : KT tg w w := ⟨rfl, rfl, rfl, Nat.le_refl _, fun _ _ _ => rfl⟩
theorem KT.of_below {tg : Tags} {w w' : World} (h : Below w.heap.size w w') : KT tg w w' := ⟨h.os, h.tape, h.output, h.size, fun b hb _ => h.block b hb⟩
theorem KT.trans {tg tg' : Tags} {w w' w'' : World} (h : KT tg w w') (k : KT tg' w' w'') (hg : ∀ b, b < w.heap.size → tg' b = tg b) : KT tg w w'' :=
  ⟨k.os.trans h.os, k.tape.trans h.tape, k.output.trans h.output, Nat.le_trans h.size k.size, fun b hb hn => (k.block b (Nat.lt_of_lt_of_le hb h.size) ((hg b hb).trans hn)).trans (h.block b hb hn)⟩
/-- What lies below all of it. -/
theorem KT.below {B : Nat} {tg : Tags} {w w' : World} (h : KT tg w w') (hl : ∀ b t, tg b = some t → B ≤ b) (hB : B ≤ w.heap.size) : Below B w w' :=
  ⟨h.os, h.tape, h.output, h.size, fun b hb => h.block b (Nat.lt_of_lt_of_le hb hB) (by
    cases ht : tg b with
    | none => rfl
    | some t => have := hl b t ht; omega)⟩
section
variable {B : Nat} {tg tg' : Tags} {w w' : World} {DB MB : Nat} {p : Int → Option Nat} {M : Dm} {nx c : Nat}
theorem DocW.turn (h : DocW B tg w DB MB p M nx c) (hs : ∀ g t, tg g = some t → w'.heap[g]? = w.heap[g]?) (hz : w.heap.size ≤ w'.heap.size) : DocW B tg w' DB MB p M nx c where
  doc := (hs DB _ h.dtag).trans h.doc
  dtag := h.dtag
  map := h.map.same (hs MB _ h.mtag)
  mtag := h.mtag
  els := fun i e he => by
    obtain ⟨b, va, vk, h1, h2⟩ := h.els i e he
    exact ⟨b, va, vk, h1, h2.turn fun g t ht _ => ⟨ht, hs g t ht⟩⟩
  non := h.non
  low := fun b t ht => ⟨(h.low b t ht).1, Nat.lt_of_lt_of_le (h.low b t ht).2 hz⟩
  dom := h.dom
  wf := h.wf
  few := h.few
  tnx := h.tnx
theorem DocW.below (h : DocW B tg w DB MB p M nx c) (hb : Below w.heap.size w w') : DocW B tg w' DB MB p M nx c :=
  h.turn (fun g t ht => hb.block g (h.low g t ht).2) hb.size
theorem DocW.d0 (h : DocW B tg w DB MB p M nx c) : w.cell? ⟨DB, 0, none⟩ = some (.map (some MB)) := bcell h.doc 0 _ rfl
theorem DocW.d1 (h : DocW B tg w DB MB p M nx c) : w.cell? ⟨DB, 1, none⟩ = some (.int .i64 nx) := bcell h.doc 1 _ rfl
theorem DocW.i64 (h : DocW B tg w DB MB p M nx c) {i : Int} {e : Elm} (he : M i = some e) : Wf64 i := by
  have := h.dom i e he
  have := h.few
  exact WalkArith.wf_i64 (by omega)
/-- A block that is none of it. -/
theorem DocW.new (h : DocW B tg w DB MB p M nx c) {b : Nat} (hb : w.heap.size ≤ b) : tg b = none := by
  cases ht : tg b with
  | none => rfl
  | some t => have := (h.low b t ht).2; omega
/-- One element is another now; the others are as they were. -/
theorem DocW.put (h : DocW B tg w DB MB p M nx c) {i : Int} {e e' : Elm} {b : Nat} {va vk : Value} (hi : M i = some e) (hb : p i = some b) (he : ElW B tg' w' i b e' va vk) (_hz : w.heap.size ≤ w'.heap.size) (hw : Wf64 e'.parent ∧ ∀ k ∈ e'.kids, Wf64 k)
    (hg : ∀ x, x < w.heap.size → tg' x = tg x) (hl : ∀ x t, tg' x = some t → B ≤ x ∧ x < w'.heap.size) (ht : ∀ x, w.heap.size ≤ x → tg' x = none ∨ tg' x = some (.el i) ∨ tg' x = some (.ats i) ∨ tg' x = some (.kids i)) (hs : ∀ x t, tg x = some t → t ≠ .el i → t ≠ .ats i → t ≠ .kids i → w'.heap[x]? = w.heap[x]?) : DocW B tg' w' DB MB p (putE M i e') nx c where
  doc := (hs DB _ h.dtag (by simp) (by simp) (by simp)).trans h.doc
  dtag := (hg DB (h.low _ _ h.dtag).2).trans h.dtag
  map := h.map.same (hs MB _ h.mtag (by simp) (by simp) (by simp))
  mtag := (hg MB (h.low _ _ h.mtag).2).trans h.mtag
  els := fun j f hf => by
    unfold putE at hf
    split at hf
    · rename_i hj
      subst hj
      cases hf
      exact ⟨b, va, vk, hb, he⟩
    · rename_i hj
      obtain ⟨b', va', vk', h1, h2⟩ := h.els j f hf
      refine ⟨b', va', vk', h1, h2.turn fun g t ht hk => ⟨(hg g (h.low g t ht).2).trans ht, hs g t ht ?_ ?_ ?_⟩⟩
      all_goals rcases hk with rfl | rfl | rfl <;> simp [hj]
  non := fun j hj => by
    unfold putE at hj
    split at hj
    · cases hj
    · exact h.non j hj
  low := hl
  dom := fun j f hf => by
    unfold putE at hf
    split at hf
    · rename_i hj; subst hj; exact h.dom _ e hi
    · exact h.dom j f hf
  wf := fun j f hf => by
    unfold putE at hf
    split at hf
    · cases hf; exact hw
    · exact h.wf j f hf
  few := h.few
  tnx := fun x j hj => by
    by_cases hx : x < w.heap.size
    · rw [hg x hx] at hj
      exact h.tnx x j hj
    · have hij : j = i := by
        rcases ht x (by omega) with h1 | h1 | h1 | h1 <;> rw [h1] at hj <;> simp at hj <;> exact hj.symm
      rw [hij]
      exact (h.dom i e hi).2
theorem KT.of_K2 (h : DocW B tg w DB MB p M nx c) (k : K2 DB MB w w') : KT tg w w' :=
  ⟨k.os, k.tape, k.output, k.size, fun b hb hn => k.block b hb (fun e => by rw [e, h.dtag] at hn; cases hn) (fun e => by rw [e, h.mtag] at hn; cases hn)⟩
end

end Go.Proofs.YtnoecobddhmhlaaGreatDoor

namespace Go.Proofs.YtnoecobddhmhlaaGreatDoor
open Go.RowKit

theorem zeroEl (w : World) : (zeroValue 104).run Tryz.prog w = .ok (.pointer none) w := by kernel_rfl
/-- A new element, none of the document's yet. -/
structure NewE (B : Nat) (tg : Tags) (w : World) (b : Nat) (e : Elm) (va vk : Value) : Prop where
  cells : w.heap[b]? = some (.cells #[.string ⟨e.name.toArray⟩, va, .int .i64 e.parent, vk] 107)
  low : B ≤ b
  tag : tg b = none
  ats : w.ownsRow B 59 2 va e.ats.length (cellsA e.ats)
  atag : ∀ g, va.ownBlock = some g → tg g = none ∧ g ≠ b
  kids : w.ownsRow B 3 1 vk e.kids.length (intsV e.kids)
  ktag : ∀ g, vk.ownBlock = some g → tg g = none ∧ g ≠ b ∧ va.ownBlock ≠ some g
/-- Its blocks are the document's now. -/
def tagE (tg : Tags) (i : Int) (b : Nat) (va vk : Value) : Tags := fun x => if x = b then some (.el i) else if va.ownBlock = some x then some (.ats i) else if vk.ownBlock = some x then some (.kids i) else tg x
theorem tagE_old {tg : Tags} {i : Int} {b : Nat} {va vk : Value} {x : Nat} {t : Tg} (h : tg x = some t) (hb : tg b = none) (ha : ∀ g, va.ownBlock = some g → tg g = none) (hk : ∀ g, vk.ownBlock = some g → tg g = none) : tagE tg i b va vk x = some t := by
  unfold tagE
  rw [if_neg (fun e => by rw [e, hb] at h; cases h), if_neg (fun e => by rw [ha x e] at h; cases h), if_neg (fun e => by rw [hk x e] at h; cases h)]
  exact h
theorem tagE_none {tg : Tags} {i : Int} {b : Nat} {va vk : Value} {x : Nat} (h1 : x ≠ b) (h2 : va.ownBlock ≠ some x) (h3 : vk.ownBlock ≠ some x) : tagE tg i b va vk x = tg x := by
  unfold tagE
  rw [if_neg h1, if_neg h2, if_neg h3]
section
variable {B : Nat} {tg : Tags} {w w' : World} {DB MB : Nat} {p : Int → Option Nat} {M : Dm} {nx c : Nat}
theorem DocW.add (h : DocW B tg w DB MB p M nx c) {b : Nat} {e : Elm} {va vk : Value} (hn : NewE B tg w b e va vk) (hw : Wf64 e.parent ∧ ∀ k ∈ e.kids, Wf64 k) (hnx : nx < 1000000)
    (hm : PMap Tryz.prog 3 w' MB (fun i => if i = (nx : Int) then some b else p i) (nx + 1) (c + 1)) (hd : w'.heap[DB]? = some (.cells #[.map (some MB), .int .i64 ((nx + 1 : Nat) : Int)] 102))
    (hs : ∀ x, x ≠ DB → x ≠ MB → w'.heap[x]? = w.heap[x]?) (hz : w.heap.size ≤ w'.heap.size) : DocW B (tagE tg nx b va vk) w' DB MB (fun i => if i = (nx : Int) then some b else p i) (putE M nx e) (nx + 1) (c + 1) := by
  have old : ∀ x t, tg x = some t → tagE tg nx b va vk x = some t := fun x t ht => tagE_old ht hn.tag (fun g hg => (hn.atag g hg).1) (fun g hg => (hn.ktag g hg).1)
  have ne : ∀ x t, tg x = some t → t ≠ .doc → t ≠ .map → x ≠ DB ∧ x ≠ MB := fun x t ht h1 h2 => ⟨fun e => h1 (Option.some.inj (ht.symm.trans (e ▸ h.dtag))), fun e => h2 (Option.some.inj (ht.symm.trans (e ▸ h.mtag)))⟩
  have nne : ∀ x, tg x = none → x ≠ DB ∧ x ≠ MB := fun x hx => ⟨fun e => (by rw [e, h.dtag] at hx; exact absurd hx (by simp)), fun e => (by rw [e, h.mtag] at hx; exact absurd hx (by simp))⟩
  have hbn := nne b hn.tag
  refine ⟨hd, old _ _ h.dtag, hm, old _ _ h.mtag, fun i f hf => ?_, fun i hi => ?_, fun x t ht => ?_, fun i f hf => ?_, fun i f hf => ?_, by omega, fun x j hj => ?_⟩
  · unfold putE at hf
    by_cases hi : i = nx
    · rw [if_pos hi] at hf
      cases hf
      subst hi
      refine ⟨b, va, vk, by simp, ⟨(hs b hbn.1 hbn.2).trans hn.cells, by unfold tagE; rw [if_pos rfl], own_same hn.ats fun g hg => ?_, fun g hg => ?_, own_same hn.kids fun g hg => ?_, fun g hg => ?_⟩⟩
      · have := nne g (hn.atag g hg).1; exact hs g this.1 this.2
      · unfold tagE; rw [if_neg (hn.atag g hg).2, if_pos hg]
      · have := nne g (hn.ktag g hg).1; exact hs g this.1 this.2
      · unfold tagE; rw [if_neg (hn.ktag g hg).2.1, if_neg (hn.ktag g hg).2.2, if_pos hg]
    · rw [if_neg hi] at hf
      obtain ⟨b', va', vk', h1, h2⟩ := h.els i f hf
      refine ⟨b', va', vk', by simp only [if_neg hi]; exact h1, h2.turn fun g t ht hk => ⟨old g t ht, ?_⟩⟩
      have := ne g t ht (by rcases hk with rfl | rfl | rfl <;> simp) (by rcases hk with rfl | rfl | rfl <;> simp)
      exact hs g this.1 this.2
  · unfold putE at hi
    by_cases hj : i = nx
    · rw [if_pos hj] at hi; cases hi
    · rw [if_neg hj] at hi
      simp only [if_neg hj]
      exact h.non i hi
  · unfold tagE at ht
    split at ht
    · rename_i e; subst e; exact ⟨hn.low, Nat.lt_of_lt_of_le (heap_lt hn.cells) hz⟩
    · split at ht
      · rename_i e; have := hn.ats.lt x e; omega
      · split at ht
        · rename_i e; have := hn.kids.lt x e; omega
        · have := h.low x t ht; omega
  · unfold putE at hf
    by_cases hi : i = nx
    · omega
    · rw [if_neg hi] at hf
      have := h.dom i f hf
      omega
  · unfold putE at hf
    by_cases hi : i = nx
    · rw [if_pos hi] at hf; cases hf; exact hw
    · rw [if_neg hi] at hf; exact h.wf i f hf
  · unfold tagE at hj
    split at hj
    · have : (nx : Int) = j := by simpa using hj
      omega
    · split at hj
      · have : (nx : Int) = j := by simpa using hj
        omega
      · split at hj
        · have : (nx : Int) = j := by simpa using hj
          omega
        · have := h.tnx x j hj
          omega
theorem DocW.fresh (h : DocW B tg w DB MB p M nx c) : M nx = none ∧ p nx = none := by
  have : M nx = none := by
    cases hm : M nx with
    | none => rfl
    | some e => have := h.dom nx e hm; omega
  exact ⟨this, h.non nx this⟩
theorem DocW.ne (h : DocW B tg w DB MB p M nx c) : MB ≠ DB := fun e => by have h1 := h.dtag; rw [← e, h.mtag] at h1; cases h1
end

set_option maxHeartbeats 2000000 in
theorem keep_doc (B : Nat) (tg : Tags) (w : World) (DB MB : Nat) (p : Int → Option Nat) (M : Dm) (nx c b : Nat) (e : Elm) (va vk : Value) (h : DocW B tg w DB MB p M nx c) (hn : NewE B tg w b e va vk) (hw : Wf64 e.parent ∧ ∀ k ∈ e.kids, Wf64 k) (hnx : nx < 1000000) :
    Calls Tryz.prog 51 #[.pointer (some ⟨DB, 0, none⟩), .pointer (some ⟨b, 0, none⟩)] w fun r w' => r = .returned (.int .i64 nx) ∧ K2 DB MB w w' ∧ DocW B (tagE tg nx b va vk) w' DB MB (fun i => if i = (nx : Int) then some b else p i) (putE M nx e) (nx + 1) (c + 1) := by
  have d0 := h.d0
  have d1 := h.d1
  have hfr := h.fresh
  have hnx' : (nx : Int) ≤ 1000000 := by omega
  have hmx : nx < maxLen := by rw [maxLen_eq]; omega
  have hne := h.ne
  go_enter Tryz.func51, Tryz.ntmps51
  go_wp2_with (at_mapUpdate; refine store_new _ rfl _ _ _ 100 rfl Tryz.underlying3 Tryz.underlying100 rfl h.map hmx (nx : Int) rfl (WalkArith.wf_i64 (by omega)) b rfl hfr.2 ?_; intro w1 pm1 ht1; have e0 := (ht1.grown.block DB (heap_lt h.doc) (fun e => hne (Option.some.inj e).symm)).trans h.doc; have c0 := bcell e0 0 _ rfl; have c1 := bcell e0 1 _ rfl; have cf := froz_at e0)
  go_ret
  have hs1 := heap_setCell_same w1 DB 1 _ _ (.int .i64 ((nx : Int) + 1)) e0
  have hb : ∀ x, x ≠ DB → x ≠ MB → (w1.setCell ⟨DB, 1, none⟩ (.int .i64 ((nx : Int) + 1))).heap[x]? = w.heap[x]? := fun x h1 h2 => by
    rw [Below.heap_setCell _ _ _ x h1]
    by_cases hx : x < w.heap.size
    · exact ht1.grown.block x hx (fun e => h2 (Option.some.inj e))
    · have : w1.heap.size = w.heap.size := by obtain ⟨es, cl, es', cl', -, rfl⟩ := ht1; simp [Go.ChangeMaps.setBlock]
      rw [Array.getElem?_eq_none (by omega), Array.getElem?_eq_none (by omega)]
  have hz : w.heap.size ≤ (w1.setCell ⟨DB, 1, none⟩ (.int .i64 ((nx : Int) + 1))).heap.size := by
    have := ht1.grown.size
    have := ((Below.refl DB w1).setCell (p := ⟨DB, 1, none⟩) (Nat.le_refl _) (.int .i64 ((nx : Int) + 1))).size
    omega
  have hset := (Below.refl DB w1).setCell (p := ⟨DB, 1, none⟩) (Nat.le_refl _) (.int .i64 ((nx : Int) + 1))
  refine ⟨rfl, ⟨hset.os.trans ht1.grown.os, hset.tape.trans ht1.grown.tape, hset.output.trans ht1.grown.output, hz, fun x _ h1 h2 => hb x h1 h2⟩, h.add hn hw hnx (pm1.same (Below.heap_setCell _ _ _ MB hne)) ?_ hb hz⟩
  rw [hs1]
  rfl

set_option maxHeartbeats 2000000 in
theorem Name_doc {B : Nat} {tg : Tags} {w : World} {DB MB : Nat} {p : Int → Option Nat} {M : Dm} {nx c : Nat} (h : DocW B tg w DB MB p M nx c) (n : Int) (hn : Wf64 n) :
    Calls Tryz.prog 46 #[.pointer (some ⟨DB, 0, none⟩), .int .i64 n] w fun r w' => r = .returned (.string ⟨(match M n with | none => [] | some e => e.name).toArray⟩) ∧ w' = w := by
  have d0 := h.d0
  cases hm : M n with
  | none =>
    have hp := h.non n hm
    go_enter Tryz.func46, Tryz.ntmps46
    go_wp2_with (at_lookup; refine look_no _ rfl _ _ 100 rfl Tryz.underlying3 Tryz.underlying100 (zeroEl _) rfl h.map n rfl hn hp ?_)
    go_ret
    exact ⟨rfl, rfl⟩
  | some e =>
    obtain ⟨b, va, vk, hp, he⟩ := h.els n e hm
    have x0 := he.c0
    go_enter Tryz.func46, Tryz.ntmps46
    go_wp2_with (at_lookup; refine look_yes _ rfl _ _ 100 rfl Tryz.underlying3 Tryz.underlying100 (zeroEl _) rfl h.map n rfl hn b hp ?_)
    go_ret
    exact ⟨rfl, rfl⟩
set_option maxHeartbeats 2000000 in
theorem Parent_doc {B : Nat} {tg : Tags} {w : World} {DB MB : Nat} {p : Int → Option Nat} {M : Dm} {nx c : Nat} (h : DocW B tg w DB MB p M nx c) (n : Int) (hn : Wf64 n) :
    Calls Tryz.prog 45 #[.pointer (some ⟨DB, 0, none⟩), .int .i64 n] w fun r w' => r = .returned (.int .i64 (match M n with | none => -1 | some e => e.parent)) ∧ w' = w := by
  have d0 := h.d0
  cases hm : M n with
  | none =>
    have hp := h.non n hm
    go_enter Tryz.func45, Tryz.ntmps45
    go_wp2_with (at_lookup; refine look_no _ rfl _ _ 100 rfl Tryz.underlying3 Tryz.underlying100 (zeroEl _) rfl h.map n rfl hn hp ?_)
    go_ret
    exact ⟨rfl, rfl⟩
  | some e =>
    obtain ⟨b, va, vk, hp, he⟩ := h.els n e hm
    have x0 := he.c2
    go_enter Tryz.func45, Tryz.ntmps45
    go_wp2_with (at_lookup; refine look_yes _ rfl _ _ 100 rfl Tryz.underlying3 Tryz.underlying100 (zeroEl _) rfl h.map n rfl hn b hp ?_)
    go_ret
    exact ⟨rfl, rfl⟩
theorem Count_doc {B : Nat} {tg : Tags} {w : World} {DB MB : Nat} {p : Int → Option Nat} {M : Dm} {nx c : Nat} (h : DocW B tg w DB MB p M nx c) :
    Calls Tryz.prog 44 #[.pointer (some ⟨DB, 0, none⟩)] w fun r w' => r = .returned (.int .i64 c) ∧ w' = w := by
  have d0 := h.d0
  go_enter Tryz.func44, Tryz.ntmps44
  go_wp2_with (at_len; refine count_it _ rfl _ 100 rfl Tryz.underlying100 rfl h.map ?_)
  go_ret
  exact ⟨rfl, rfl⟩

end Go.Proofs.YtnoecobddhmhlaaGreatDoor

/-
  A document in memory: its blocks, and whose they are.
-/
import Derived.Test.YtdebekonggnckacDoorDocM2
import Derived.Test.YtdebekonggnckacDoorDocP
import Derived.Test.YtdebekonggnckacDoorDocB
namespace Go.Proofs.YtdebekonggnckacDoor
open Go.RowKit

/-- What a block of a document is. -/
inductive Tg where
  | doc
  | map
  | el (i : Int)
  | ats (i : Int)
  | kids (i : Int)
abbrev Tags := Nat → Option Tg
def intsV (l : List Int) : List Value := l.map (Value.int .i64)
theorem intsV_app (a b : List Int) : intsV (a ++ b) = intsV a ++ intsV b := List.map_append
theorem intsV_len (l : List Int) : (intsV l).length = l.length := List.length_map ..
theorem intsV_get {l : List Int} {j : Nat} {k : Int} (h : l[j]? = some k) : (intsV l)[j]? = some (.int .i64 k) := by
  unfold intsV
  rw [List.getElem?_map, h]
  rfl
abbrev Wf64 (k : Int) : Prop := (Lit.int .i64 k).wf = true

/-- An element in memory, at block b. -/
structure ElW (B : Nat) (tg : Tags) (w : World) (i : Int) (b : Nat) (e : Elm) (va vk : Value) : Prop where
  cells : w.heap[b]? = some (.cells #[.string ⟨e.name.toArray⟩, va, .int .i64 e.parent, vk] 74)
  tag : tg b = some (.el i)
  ats : w.ownsRow B 65 2 va e.ats.length (cellsA e.ats)
  atag : ∀ g, va.ownBlock = some g → tg g = some (.ats i)
  kids : w.ownsRow B 3 1 vk e.kids.length (intsV e.kids)
  ktag : ∀ g, vk.ownBlock = some g → tg g = some (.kids i)
theorem ElW.turn {B : Nat} {tg tg' : Tags} {w w' : World} {i : Int} {b : Nat} {e : Elm} {va vk : Value} (h : ElW B tg w i b e va vk) (hs : ∀ g t, tg g = some t → (t = .el i ∨ t = .ats i ∨ t = .kids i) → tg' g = some t ∧ w'.heap[g]? = w.heap[g]?) : ElW B tg' w' i b e va vk where
  cells := ((hs b _ h.tag (.inl rfl)).2).trans h.cells
  tag := (hs b _ h.tag (.inl rfl)).1
  ats := own_same h.ats fun g hg => (hs g _ (h.atag g hg) (.inr (.inl rfl))).2
  atag := fun g hg => (hs g _ (h.atag g hg) (.inr (.inl rfl))).1
  kids := own_same h.kids fun g hg => (hs g _ (h.ktag g hg) (.inr (.inr rfl))).2
  ktag := fun g hg => (hs g _ (h.ktag g hg) (.inr (.inr rfl))).1
theorem ElW.c0 {B : Nat} {tg : Tags} {w : World} {i : Int} {b : Nat} {e : Elm} {va vk : Value} (h : ElW B tg w i b e va vk) : w.cell? ⟨b, 0, none⟩ = some (.string ⟨e.name.toArray⟩) := bcell h.cells 0 _ rfl
theorem ElW.c1 {B : Nat} {tg : Tags} {w : World} {i : Int} {b : Nat} {e : Elm} {va vk : Value} (h : ElW B tg w i b e va vk) : w.cell? ⟨b, 1, none⟩ = some va := bcell h.cells 1 _ rfl
theorem ElW.c2 {B : Nat} {tg : Tags} {w : World} {i : Int} {b : Nat} {e : Elm} {va vk : Value} (h : ElW B tg w i b e va vk) : w.cell? ⟨b, 2, none⟩ = some (.int .i64 e.parent) := bcell h.cells 2 _ rfl
theorem ElW.c3 {B : Nat} {tg : Tags} {w : World} {i : Int} {b : Nat} {e : Elm} {va vk : Value} (h : ElW B tg w i b e va vk) : w.cell? ⟨b, 3, none⟩ = some vk := bcell h.cells 3 _ rfl
theorem froz_at {w : World} {b : Nat} {cs : Array Value} {t : TypeId} (h : w.heap[b]? = some (.cells cs t)) (i : Nat) : w.frozen? ⟨b, i, none⟩ = false := by
  unfold World.frozen?
  rw [h]
  simp

/-- A document in memory: its blocks lie at B or behind. -/
structure DocW (B : Nat) (tg : Tags) (w : World) (DB MB : Nat) (p : Int → Option Nat) (M : Dm) (nx c : Nat) : Prop where
  doc : w.heap[DB]? = some (.cells #[.map (some MB), .int .i64 nx] 69)
  dtag : tg DB = some .doc
  map : PMap Tryd.prog 3 w MB p nx c
  mtag : tg MB = some .map
  els : ∀ i e, M i = some e → ∃ b va vk, p i = some b ∧ ElW B tg w i b e va vk
  non : ∀ i, M i = none → p i = none
  low : ∀ b t, tg b = some t → B ≤ b ∧ b < w.heap.size
  dom : ∀ i e, M i = some e → 0 ≤ i ∧ i < nx
  wf : ∀ i e, M i = some e → Wf64 e.parent ∧ ∀ k ∈ e.kids, Wf64 k
  few : nx ≤ 1000000
  tnx : ∀ b i, tg b = some (.el i) ∨ tg b = some (.ats i) ∨ tg b = some (.kids i) → i < nx
/-- All blocks are as they were, but these two. -/
structure K2 (r n : Nat) (W w : World) : Prop where
  os : w.os = W.os
  tape : w.tape = W.tape
  output : w.output = W.output
  size : W.heap.size ≤ w.heap.size
  block : ∀ k, k < W.heap.size → k ≠ r → k ≠ n → w.heap[k]? = W.heap[k]?
theorem K2.refl (r n : Nat) (W : World) : K2 r n W W := ⟨rfl, rfl, rfl, Nat.le_refl _, fun _ _ _ _ => rfl⟩
theorem K2.trans {r n : Nat} {A B C : World} (h : K2 r n A B) (k : K2 r n B C) : K2 r n A C :=
  ⟨k.os.trans h.os, k.tape.trans h.tape, k.output.trans h.output, Nat.le_trans h.size k.size, fun i hi h1 h2 => (k.block i (Nat.lt_of_lt_of_le hi h.size) h1 h2).trans (h.block i hi h1 h2)⟩
theorem K2.of_below {r n : Nat} {A B : World} (h : Below A.heap.size A B) : K2 r n A B := ⟨h.os, h.tape, h.output, h.size, fun i hi _ _ => h.block i hi⟩
theorem K2.below {r n m : Nat} {A B : World} (h : K2 r n A B) (h1 : m ≤ r) (h2 : m ≤ n) (hm : m ≤ A.heap.size) : Below m A B := ⟨h.os, h.tape, h.output, h.size, fun i hi => h.block i (by omega) (by omega) (by omega)⟩
theorem K2.cell {r n : Nat} {A B : World} (h : K2 r n A B) {b i : Nat} {v : Value} (hc : A.cell? ⟨b, i, none⟩ = some v) (h1 : b ≠ r) (h2 : b ≠ n) : B.cell? ⟨b, i, none⟩ = some v := by
  rw [World.cell?_of_block (h.block b (cell_lt3 hc) h1 h2)]; exact hc
/-- All that is not a document's is as it was. -/
structure KT (tg : Tags) (w w' : World) : Prop where
  os : w'.os = w.os
  tape : w'.tape = w.tape
  output : w'.output = w.output
  size : w.heap.size ≤ w'.heap.size
  block : ∀ b, b < w.heap.size → tg b = none → w'.heap[b]? = w.heap[b]?
theorem KT.refl (tg : Tags) (w : World) : KT tg w w := ⟨rfl, rfl, rfl, Nat.le_refl _, fun _ _ _ => rfl⟩
theorem KT.of_below {tg : Tags} {w w' : World} (h : Below w.heap.size w w') : KT tg w w' := ⟨h.os, h.tape, h.output, h.size, fun b hb _ => h.block b hb⟩
theorem KT.trans {tg tg' : Tags} {w w' w'' : World} (h : KT tg w w') (k : KT tg' w' w'') (hg : ∀ b, b < w.heap.size → tg' b = tg b) : KT tg w w'' :=
  ⟨k.os.trans h.os, k.tape.trans h.tape, k.output.trans h.output, Nat.le_trans h.size k.size, fun b hb hn => (k.block b (Nat.lt_of_lt_of_le hb h.size) ((hg b hb).trans hn)).trans (h.block b hb hn)⟩
/-- What lies below all of it. -/
theorem KT.below {B : Nat} {tg : Tags} {w w' : World} (h : KT tg w w') (hl : ∀ b t, tg b = some t → B ≤ b) (hB : B ≤ w.heap.size) : Below B w w' :=
  ⟨h.os, h.tape, h.output, h.size, fun b hb => h.block b (Nat.lt_of_lt_of_le hb hB) (by
    cases ht : tg b with
    | none => rfl
    | some t => have := hl b t ht; omega)⟩
section
variable {B : Nat} {tg tg' : Tags} {w w' : World} {DB MB : Nat} {p : Int → Option Nat} {M : Dm} {nx c : Nat}
theorem DocW.turn (h : DocW B tg w DB MB p M nx c) (hs : ∀ g t, tg g = some t → w'.heap[g]? = w.heap[g]?) (hz : w.heap.size ≤ w'.heap.size) : DocW B tg w' DB MB p M nx c where
  doc := (hs DB _ h.dtag).trans h.doc
  dtag := h.dtag
  map := h.map.same (hs MB _ h.mtag)
  mtag := h.mtag
  els := fun i e he => by
    obtain ⟨b, va, vk, h1, h2⟩ := h.els i e he
    exact ⟨b, va, vk, h1, h2.turn fun g t ht _ => ⟨ht, hs g t ht⟩⟩
  non := h.non
  low := fun b t ht => ⟨(h.low b t ht).1, Nat.lt_of_lt_of_le (h.low b t ht).2 hz⟩
  dom := h.dom
  wf := h.wf
  few := h.few
  tnx := h.tnx
theorem DocW.below (h : DocW B tg w DB MB p M nx c) (hb : Below w.heap.size w w') : DocW B tg w' DB MB p M nx c :=
  h.turn (fun g t ht => hb.block g (h.low g t ht).2) hb.size
theorem DocW.d0 (h : DocW B tg w DB MB p M nx c) : w.cell? ⟨DB, 0, none⟩ = some (.map (some MB)) := bcell h.doc 0 _ rfl
theorem DocW.d1 (h : DocW B tg w DB MB p M nx c) : w.cell? ⟨DB, 1, none⟩ = some (.int .i64 nx) := bcell h.doc 1 _ rfl
theorem DocW.i64 (h : DocW B tg w DB MB p M nx c) {i : Int} {e : Elm} (he : M i = some e) : Wf64 i := by
  have := h.dom i e he
  have := h.few
  exact WalkArith.wf_i64 (by omega)
/-- A block that is none of it. -/
theorem DocW.new (h : DocW B tg w DB MB p M nx c) {b : Nat} (hb : w.heap.size ≤ b) : tg b = none := by
  cases ht : tg b with
  | none => rfl
  | some t => have := (h.low b t ht).2; omega
/-- One element is another now; the others are as they were. -/
theorem DocW.put (h : DocW B tg w DB MB p M nx c) {i : Int} {e e' : Elm} {b : Nat} {va vk : Value} (hi : M i = some e) (hb : p i = some b) (he : ElW B tg' w' i b e' va vk) (_hz : w.heap.size ≤ w'.heap.size) (hw : Wf64 e'.parent ∧ ∀ k ∈ e'.kids, Wf64 k)
    (hg : ∀ x, x < w.heap.size → tg' x = tg x) (hl : ∀ x t, tg' x = some t → B ≤ x ∧ x < w'.heap.size) (ht : ∀ x, w.heap.size ≤ x → tg' x = none ∨ tg' x = some (.el i) ∨ tg' x = some (.ats i) ∨ tg' x = some (.kids i)) (hs : ∀ x t, tg x = some t → t ≠ .el i → t ≠ .ats i → t ≠ .kids i → w'.heap[x]? = w.heap[x]?) : DocW B tg' w' DB MB p (putE M i e') nx c where
  doc := (hs DB _ h.dtag (by simp) (by simp) (by simp)).trans h.doc
  dtag := (hg DB (h.low _ _ h.dtag).2).trans h.dtag
  map := h.map.same (hs MB _ h.mtag (by simp) (by simp) (by simp))
  mtag := (hg MB (h.low _ _ h.mtag).2).trans h.mtag
  els := fun j f hf => by
    unfold putE at hf
    split at hf
    · rename_i hj
      subst hj
      cases hf
      exact ⟨b, va, vk, hb, he⟩
    · rename_i hj
      obtain ⟨b', va', vk', h1, h2⟩ := h.els j f hf
      refine ⟨b', va', vk', h1, h2.turn fun g t ht hk => ⟨(hg g (h.low g t ht).2).trans ht, hs g t ht ?_ ?_ ?_⟩⟩
      all_goals rcases hk with rfl | rfl | rfl <;> simp [hj]
  non := fun j hj => by
    unfold putE at hj
    split at hj
    · cases hj
    · exact h.non j hj
  low := hl
  dom := fun j f hf => by
    unfold putE at hf
    split at hf
    · rename_i hj; subst hj; exact h.dom _ e hi
    · exact h.dom j f hf
  wf := fun j f hf => by
    unfold putE at hf
    split at hf
    · cases hf; exact hw
    · exact h.wf j f hf
  few := h.few
  tnx := fun x j hj => by
    by_cases hx : x < w.heap.size
    · rw [hg x hx] at hj
      exact h.tnx x j hj
    · have hij : j = i := by
        rcases ht x (by omega) with h1 | h1 | h1 | h1 <;> rw [h1] at hj <;> simp at hj <;> exact hj.symm
      rw [hij]
      exact (h.dom i e hi).2
theorem KT.of_K2 (h : DocW B tg w DB MB p M nx c) (k : K2 DB MB w w') : KT tg w w' :=
  ⟨k.os, k.tape, k.output, k.size, fun b hb hn => k.block b hb (fun e => by rw [e, h.dtag] at hn; cases hn) (fun e => by rw [e, h.mtag] at hn; cases hn)⟩
end

end Go.Proofs.YtdebekonggnckacDoor

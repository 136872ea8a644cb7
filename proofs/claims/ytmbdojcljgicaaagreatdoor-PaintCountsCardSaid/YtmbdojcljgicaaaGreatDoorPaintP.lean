/-
  Pieces in memory.
-/
import Derived.Test.YtmbdojcljgicaaaGreatDoorShape6
import Derived.Test.YtmbdojcljgicaaaGreatDoorPaint0
namespace Go.Proofs.YtmbdojcljgicaaaGreatDoor
open Go.RowKit

/-- a piece's five cells -/
structure P5 where
  nd : Int
  o : Option Addr
  cap : Nat
  s : Pm
  lv : Int
abbrev p5V (x : P5) : Value := .agg #[.int .i64 x.nd, .slice x.o x.s.pts.length x.cap, .string x.s.fill, .string x.s.rule, .int .i64 x.lv]
abbrev p5A (x : P5) : Array Value := #[.int .i64 x.nd, .slice x.o x.s.pts.length x.cap, .string x.s.fill, .string x.s.rule, .int .i64 x.lv]
structure P5C (w : World) (b i : Nat) (x : P5) : Prop where
  c0 : w.cell? ⟨b, i, none⟩ = some (.int .i64 x.nd)
  c1 : w.cell? ⟨b, i + 1, none⟩ = some (.slice x.o x.s.pts.length x.cap)
  c2 : w.cell? ⟨b, i + 2, none⟩ = some (.string x.s.fill)
  c3 : w.cell? ⟨b, i + 3, none⟩ = some (.string x.s.rule)
  c4 : w.cell? ⟨b, i + 4, none⟩ = some (.int .i64 x.lv)
theorem P5C.below {w w' : World} {b i n : Nat} {x : P5} (h : P5C w b i x) (hb : Below n w w') (hn : w.heap.size ≤ n) : P5C w' b i x := by
  have hl : b < n := Nat.lt_of_lt_of_le (cell_lt h.c0) hn
  exact ⟨(hb.cell (p := ⟨b, i, none⟩) hl).trans h.c0, (hb.cell (p := ⟨b, i + 1, none⟩) hl).trans h.c1, (hb.cell (p := ⟨b, i + 2, none⟩) hl).trans h.c2, (hb.cell (p := ⟨b, i + 3, none⟩) hl).trans h.c3, (hb.cell (p := ⟨b, i + 4, none⟩) hl).trans h.c4⟩
theorem P5C.new (w : World) (x : P5) (t : TypeId) : P5C (w.alloc (.cells (p5A x) t)) w.heap.size 0 x := ⟨by simp, by simp, by simp, by simp, by simp⟩
/-- A row of pieces. -/
def P5sAt (w : World) (o : Option Addr) (l : List P5) : Prop := ∀ i x, l[i]? = some x → ∃ b off, o = some ⟨b, off, none⟩ ∧ P5C w b (off + i * 5) x
theorem P5sAt.below {w w' : World} {o : Option Addr} {l : List P5} {n : Nat} (h : P5sAt w o l) (hb : Below n w w') (hn : w.heap.size ≤ n) : P5sAt w' o l := fun i a ha => by
  obtain ⟨b, off, h1, h2⟩ := h i a ha
  exact ⟨b, off, h1, h2.below hb hn⟩
/-- Their points. -/
def PtsOf (w : World) (l : List P5) : Prop := ∀ x ∈ l, PtsAt w x.o x.s.pts
theorem PtsOf.below {w w' : World} {l : List P5} {n : Nat} (h : PtsOf w l) (hb : Below n w w') (hn : w.heap.size ≤ n) : PtsOf w' l := fun x hx => (h x hx).below hb hn
/-- What is asked of a row of pieces. -/
abbrev sP (l : List P5) : List Pm := l.map (·.s)

end Go.Proofs.YtmbdojcljgicaaaGreatDoor

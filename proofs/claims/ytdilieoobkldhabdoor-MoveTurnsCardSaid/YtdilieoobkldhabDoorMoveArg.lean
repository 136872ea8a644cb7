/-
  How a move's six fractions (an array) and a point (a struct of structs) are read as data.
-/
import Derived.Test.YtdilieoobkldhabDoorFracArg
import Derived.Test.YtdilieoobkldhabDoorMove3
namespace Go.Proofs.YtdilieoobkldhabDoor
open Go.ChangeShapes Go.WideShapes Go.ChangeAt Go.RowKit Go.Joins

theorem cellsInt : Tryd.prog.cellsOf 3 = 1 := by kernel_rfl
theorem cellsPoint : Tryd.prog.cellsOf 25 = 4 := by kernel_rfl

def frD {H : Type} (x : Fr) : DataW H := .agg [.lit (.int .i64 x.n), .lit (.int .i64 x.d)]
def mvD {H : Type} (m : Mv) : DataW H := .agg [frD m.a, frD m.b, frD m.c, frD m.d, frD m.e, frD m.f]
def ptD {H : Type} (p : Pt) : DataW H := .agg [frD p.x, frD p.y]

set_option maxRecDepth 100000 in
/-- Two cells that are read as a fraction. -/
theorem trod_frac {H : Type} {enc : TypeId × Value → H} {w : World} {base : Nat} {spare : Nat → Bool} {held : Bool} {k : Nat} {c0 c1 : Value} {y : DataW H × List MemPlace}
    (h : DataW.trod enc Tryd.prog w base spare held k 23 [c0, c1] = some y) : ∃ x : Fr, c0 = .int .i64 x.n ∧ c1 = .int .i64 x.d ∧ y = (frD x, []) ∧ x.i64 := by
  obtain ⟨y0, y1, n, hx, _, h0, h1⟩ := trod_struct2 Tryd.underlying23 h
  obtain ⟨a, e0, rfl, w0⟩ := DataW.trod_int Tryd.underlying3 h0
  obtain ⟨b, e1, rfl, w1⟩ := DataW.trod_int Tryd.underlying3 h1
  simp [cellsInt] at e0 e1
  exact ⟨⟨a, b⟩, by simpa using e0, by simpa using e1, by simpa [frD] using hx, wf_i64.1 w0, wf_i64.1 w1⟩

theorem list12 {cs : List Value} (h : cs.length = 12) : ∃ c0 c1 c2 c3 c4 c5 c6 c7 c8 c9 c10 c11, cs = [c0, c1, c2, c3, c4, c5, c6, c7, c8, c9, c10, c11] := by
  match cs, h with
  | [c0, c1, c2, c3, c4, c5, c6, c7, c8, c9, c10, c11], _ => exact ⟨c0, c1, c2, c3, c4, c5, c6, c7, c8, c9, c10, c11, rfl⟩
theorem list4 {cs : List Value} (h : cs.length = 4) : ∃ c0 c1 c2 c3, cs = [c0, c1, c2, c3] := by
  match cs, h with
  | [c0, c1, c2, c3], _ => exact ⟨c0, c1, c2, c3, rfl⟩
theorem list6 {α : Type} {cs : List α} (h : cs.length = 6) : ∃ c0 c1 c2 c3 c4 c5, cs = [c0, c1, c2, c3, c4, c5] := by
  match cs, h with
  | [c0, c1, c2, c3, c4, c5], _ => exact ⟨c0, c1, c2, c3, c4, c5, rfl⟩

set_option maxRecDepth 100000 in
theorem open_pt {H : Type} {enc : TypeId × Value → H} {w : World} {r : Reach} {b0 base : Nat} {spare : Nat → Bool} {held : Bool} {v : Value} {d : DataW H} {p : List MemPlace}
    (hv : Value.okWide Tryd.prog w r b0 25 v) (h : DataW.Trod enc Tryd.prog w base spare held 25 v d p) :
    ∃ q : Pt, v = pv q ∧ d = ptD q ∧ p = [] ∧ q.i64 := by
  obtain ⟨cs, rfl, hsz⟩ := okWide_struct Tryd.underlying25 hv
  rw [cellsPoint] at hsz
  obtain ⟨c0, c1, c2, c3, hcs⟩ := list4 (cs := cs.toList) (by simpa using hsz)
  obtain rfl : cs = #[c0, c1, c2, c3] := by cases cs; simp at hcs; simp [hcs]
  obtain ⟨fuel, hf⟩ := h
  obtain ⟨y0, y1, n, hx, _, h0, h1⟩ := trod_struct2 Tryd.underlying25 hf
  simp only [cellsFrac, Value.cells] at h0 h1
  obtain ⟨a, e0, e1, rfl, ia⟩ := trod_frac h0
  obtain ⟨b, e2, e3, rfl, ib⟩ := trod_frac h1
  subst e0 e1 e2 e3
  simp only [Prod.mk.injEq] at hx
  exact ⟨⟨a, b⟩, rfl, hx.1, hx.2, ia, ib⟩

set_option maxRecDepth 100000 in
set_option maxHeartbeats 2000000 in
theorem shut_pt {H : Type} {enc : TypeId × Value → H} {w : World} {base : Nat} {spare : Nat → Bool} {held : Bool} {p : Pt} (h : p.i64) :
    DataW.Trod enc Tryd.prog w base spare held 25 (pv p) (ptD p) [] := by
  obtain ⟨⟨a1, a2⟩, b1, b2⟩ := h
  exact ⟨3, by simp [DataW.trod, Tryd.underlying25, Tryd.underlying23, Tryd.underlying3, cellsPoint, cellsFrac, cellsInt, Value.cells, ptD, frD, wf_i64.2 a1, wf_i64.2 a2, wf_i64.2 b1, wf_i64.2 b2]⟩

end Go.Proofs.YtdilieoobkldhabDoor

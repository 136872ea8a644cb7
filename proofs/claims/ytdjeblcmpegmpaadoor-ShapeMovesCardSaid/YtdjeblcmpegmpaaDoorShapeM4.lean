/-
  A move by whole steps, in plain integers: where it takes a point.
-/
import Derived.Test.YtdjeblcmpegmpaaDoorMoveM
import Derived.Test.YtdjeblcmpegmpaaDoorShapeM3
namespace Go.Proofs.YtdjeblcmpegmpaaDoor

def shM (x y : Int) : Mv := ⟨.whole 1, .whole 0, .whole 0, .whole 1, .whole x, .whole y⟩
theorem chk_whole {x : Int} (h1 : -1000 ≤ x) (h2 : x ≤ 1000) : chk x 1 = 0 := by
  rw [chk_zero]
  refine ⟨by decide, ?_, by omega, by decide⟩
  unfold gcdI
  simp
theorem chk_11 : chk 1 1 = 0 := by decide +kernel
theorem chk_01 : chk 0 1 = 0 := by decide +kernel
theorem mul_one' {n d : Int} (h : chk n d = 0) : mul 1 1 n d = ⟨n, d, 0⟩ := mul_some.2 ⟨chk_11, h, h, by grind⟩
theorem mul_nil {n d : Int} (h : chk n d = 0) : mul 0 1 n d = ⟨0, 1, 0⟩ := mul_some.2 ⟨chk_01, h, chk_01, by grind⟩
theorem add_nil {n d : Int} (h : chk n d = 0) : add n d 0 1 = ⟨n, d, 0⟩ := add_some.2 ⟨h, chk_01, h, by grind⟩
theorem nil_add {n d : Int} (h : chk n d = 0) : add 0 1 n d = ⟨n, d, 0⟩ := add_some.2 ⟨chk_01, h, h, by grind⟩
theorem add_whole {n d x : Int} (h : chk n d = 0) (hx : chk x 1 = 0) (hs : chk (n + x * d) d = 0) : add n d x 1 = ⟨n + x * d, d, 0⟩ := add_some.2 ⟨h, hx, hs, by grind⟩
theorem chk_shift {n d x : Int} (h : chk n d = 0) (d2 : d ≤ 20) (n1 : -20000 ≤ n) (n2 : n ≤ 20000) (x1 : -100 ≤ x) (x2 : x ≤ 100) : chk (n + x * d) d = 0 := by
  obtain ⟨h1, h2, h3, h4⟩ := chk_zero.1 h
  have hb : -2000 ≤ x * d ∧ x * d ≤ 2000 := by
    have a1 : (x * d).natAbs ≤ 100 * 20 := by rw [Int.natAbs_mul]; exact Nat.mul_le_mul (by omega) (by omega)
    omega
  exact chk_zero.2 ⟨h1, by rw [gcd_shift]; exact h2, by omega, h4⟩
theorem dot_one {n d n' d' : Int} (h : chk n d = 0) (h' : chk n' d' = 0) : dotF 0 (.whole 1) ⟨n, d⟩ (.whole 0) ⟨n', d'⟩ = (⟨n, d⟩, 0) := by
  unfold dotF doF Fr.whole
  simp only [if_true, mul_one' h, mul_nil h', add_nil h]
theorem dot_two {n d n' d' : Int} (h : chk n d = 0) (h' : chk n' d' = 0) : dotF 0 (.whole 0) ⟨n, d⟩ (.whole 1) ⟨n', d'⟩ = (⟨n', d'⟩, 0) := by
  unfold dotF doF Fr.whole
  simp only [if_true, mul_one' h', mul_nil h, nil_add h']
theorem turned_sh {x y n d n' d' : Int} (h : chk n d = 0) (h' : chk n' d' = 0) : turnedF 0 (shM x y) ⟨⟨n, d⟩, ⟨n', d'⟩⟩ = (⟨⟨n, d⟩, ⟨n', d'⟩⟩, 0) := by
  unfold turnedF shM
  simp only [dot_one h h', dot_two h h']
theorem moved_sh {x y n d n' d' : Int} (h : chk n d = 0) (h' : chk n' d' = 0) (hx : chk x 1 = 0) (hy : chk y 1 = 0) (hs : chk (n + x * d) d = 0) (hs' : chk (n' + y * d') d' = 0) :
    movedF 0 (shM x y) ⟨⟨n, d⟩, ⟨n', d'⟩⟩ = (⟨⟨n + x * d, d⟩, ⟨n' + y * d', d'⟩⟩, 0) := by
  unfold movedF
  rw [turned_sh h h']
  unfold shM doF Fr.whole
  simp only [if_true, add_whole h hx hs, add_whole h' hy hs']
end Go.Proofs.YtdjeblcmpegmpaaDoor

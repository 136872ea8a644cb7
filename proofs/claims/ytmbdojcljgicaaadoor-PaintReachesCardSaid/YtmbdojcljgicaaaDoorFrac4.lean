/-
  The walks of package frac's sum, Add, Sub, Mul, Div, Cmp, for every two fractions.
-/
import Derived.Test.YtmbdojcljgicaaaDoorFrac3
import Derived.Deep.RegionHeld3
namespace Go.Proofs.YtmbdojcljgicaaaDoor
open Go.RowKit

/-- a product of two parts that are not too great -/
theorem mul_bound {a b : Int} (ha : a.natAbs ≤ 1073741824) (hb : b.natAbs ≤ 1073741824) : -1152921504606846976 ≤ a * b ∧ a * b ≤ 1152921504606846976 := by
  have : (a * b).natAbs ≤ 1073741824 * 1073741824 := by rw [Int.natAbs_mul]; exact Nat.mul_le_mul ha hb
  omega

theorem i64_in {n : Int} (h1 : -9223372036854775808 ≤ n) (h2 : n ≤ 9223372036854775807) : IntKind.i64.wrap n = n := by
  simp [IntKind.wrap, IntKind.bits, IntKind.signed]; omega

/-- both right, or the error's number of the first that is not -/
def chk2 (an ad bn bd : Int) : Nat := if chk an ad ≠ 0 then chk an ad else chk bn bd
theorem chk2_cases (an ad bn bd : Int) : (chk an ad = 0 ∧ chk bn bd = 0) ∨ (chk2 an ad bn bd = 2 ∨ chk2 an ad bn bd = 3) := by
  unfold chk2
  rcases chk_cases an ad with h | h | h <;> rcases chk_cases bn bd with h' | h' | h' <;> simp [h, h']
theorem add_err {an ad bn bd : Int} (h : ¬ (chk an ad = 0 ∧ chk bn bd = 0)) : add an ad bn bd = ⟨0, 0, chk2 an ad bn bd⟩ := by
  unfold add chk2; by_cases h1 : chk an ad = 0 <;> by_cases h2 : chk bn bd = 0 <;> simp_all
theorem sub_err {an ad bn bd : Int} (h : ¬ (chk an ad = 0 ∧ chk bn bd = 0)) : sub an ad bn bd = ⟨0, 0, chk2 an ad bn bd⟩ := by
  unfold sub chk2; by_cases h1 : chk an ad = 0 <;> by_cases h2 : chk bn bd = 0 <;> simp_all
theorem mul_err {an ad bn bd : Int} (h : ¬ (chk an ad = 0 ∧ chk bn bd = 0)) : mul an ad bn bd = ⟨0, 0, chk2 an ad bn bd⟩ := by
  unfold mul chk2; by_cases h1 : chk an ad = 0 <;> by_cases h2 : chk bn bd = 0 <;> simp_all
theorem div_err {an ad bn bd : Int} (h : ¬ (chk an ad = 0 ∧ chk bn bd = 0)) : div an ad bn bd = ⟨0, 0, chk2 an ad bn bd⟩ := by
  unfold div chk2; by_cases h1 : chk an ad = 0 <;> by_cases h2 : chk bn bd = 0 <;> simp_all

theorem i64_of_chk {n d : Int} (h : chk n d = 0) : I64 n ∧ I64 d := by
  obtain ⟨_, _, h3, h4⟩ := chk_zero.1 h
  exact ⟨⟨by omega, by omega⟩, ⟨by omega, by omega⟩⟩

end Go.Proofs.YtmbdojcljgicaaaDoor

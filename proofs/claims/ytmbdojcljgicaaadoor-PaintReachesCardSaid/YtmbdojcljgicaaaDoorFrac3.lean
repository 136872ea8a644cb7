/-
  The walk of package frac's lowest, for every two numbers that it is called with.
-/
import Derived.Test.YtmbdojcljgicaaaDoorFrac2
namespace Go.Proofs.YtmbdojcljgicaaaDoor
open Go.RowKit

theorem divisor_at (a b g : Nat) (w : World) (ha : a ≤ 18446744073709551615) (hb : b ≤ 18446744073709551615) (hg : Nat.gcd a b = g) :
    Calls Tryd.prog 36 #[.int .u64 a, .int .u64 b] w fun e w' => e = .returned (.int .u64 g) ∧ ∃ k, w' = w.drewN k := by
  subst hg; exact divisor_any a b w ha hb

/-- what lowest's two divisions give -/
theorem gcd_parts (n d : Int) (n1 : -9223372036854775807 ≤ n) (n2 : n ≤ 9223372036854775807) (d1 : 0 < d) (d2 : d ≤ 9223372036854775807) :
    ∃ (g : Nat) (p q : Int), Nat.gcd n.natAbs d.natAbs = g ∧ 1 ≤ (g : Int) ∧ (g : Int) ≤ 9223372036854775807 ∧ n.tdiv g = p ∧ d / g = q ∧
      -9223372036854775807 ≤ p ∧ p ≤ 9223372036854775807 ∧ 0 ≤ q ∧ q ≤ 9223372036854775807 ∧ low n d = (if isBig p = true ∨ isBig q = true then ⟨0, 0, 2⟩ else ⟨p, q, 0⟩) := by
  have hp := gcdI_pos (n := n) (d := d) (by omega)
  have hle : gcdI n d ≤ d.natAbs := Nat.gcd_le_right _ (by omega)
  obtain ⟨x, hx⟩ := gcdI_dvd_left n d
  obtain ⟨y, hy⟩ := gcdI_dvd_right n d
  have h0 : (gcdI n d : Int) ≠ 0 := by omega
  have ex : n / (gcdI n d : Int) = x := by rw [Int.ediv_eq_iff_eq_mul_right h0 (gcdI_dvd_left n d)]; exact hx
  have ey : d / (gcdI n d : Int) = y := by rw [Int.ediv_eq_iff_eq_mul_right h0 (gcdI_dvd_right n d)]; exact hy
  have et : n.tdiv (gcdI n d : Int) = x := by
    generalize (gcdI n d : Int) = g at *
    rw [hx, Int.mul_tdiv_cancel_left _ h0]
  have bx : x.natAbs ≤ n.natAbs := by
    have : n.natAbs = gcdI n d * x.natAbs := by rw [hx, Int.natAbs_mul, ← hx]; simp
    rw [this]
    exact Nat.le_mul_of_pos_left _ hp
  have yb : 0 ≤ y ∧ y ≤ d := by
    rw [← ey]
    exact ⟨Int.ediv_nonneg (by omega) (by omega), Int.ediv_le_self _ (by omega)⟩
  refine ⟨gcdI n d, x, y, rfl, by omega, by omega, et, ey, by omega, by omega, by omega, by omega, ?_⟩
  unfold low lowP
  rw [if_neg (by omega), ex, ey]
theorem low_neg {n d : Int} (h : d < 0) : low n d = low (-n) (-d) := by unfold low; rw [if_pos h, if_neg (by omega)]
end Go.Proofs.YtmbdojcljgicaaaDoor

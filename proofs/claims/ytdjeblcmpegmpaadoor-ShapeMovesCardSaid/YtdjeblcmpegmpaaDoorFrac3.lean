/-
  The walk of package frac's lowest, for every two numbers that it is called with.
-/
import Derived.Test.YtdjeblcmpegmpaaDoorFrac2
namespace Go.Proofs.YtdjeblcmpegmpaaDoor
open Go.RowKit

theorem divisor_at (a b g : Nat) (w : World) (ha : a ≤ 18446744073709551615) (hb : b ≤ 18446744073709551615) (hg : Nat.gcd a b = g) :
    Calls Tryd.prog 61 #[.int .u64 a, .int .u64 b] w fun e w' => e = .returned (.int .u64 g) ∧ ∃ k, w' = w.drewN k := by
  subst hg; exact divisor_any a b w ha hb

/-- what lowest's two divisions give -/
theorem gcd_parts (n d : Int) (n1 : -9223372036854775807 ≤ n) (n2 : n ≤ 9223372036854775807) (d1 : 0 < d) (d2 : d ≤ 9223372036854775807) :
    ∃ (g : Nat) (p q : Int), Nat.gcd n.natAbs d.natAbs = g ∧ 1 ≤ (g : Int) ∧ (g : Int) ≤ 9223372036854775807 ∧ n.tdiv g = p ∧ d / g = q ∧
      -9223372036854775807 ≤ p ∧ p ≤ 9223372036854775807 ∧ 0 ≤ q ∧ q ≤ 9223372036854775807 ∧ low n d = (if isBig p = true ∨ isBig q = true then ⟨0, 0, 2⟩ else ⟨p, q, 0⟩) := by
  have hp := gcdI_pos (n := n) (d := d) (by omega)
  have hle : gcdI n d ≤ d.natAbs := Nat.gcd_le_right _ (by omega)
  obtain ⟨x, hx⟩ := gcdI_dvd_left n d
  obtain ⟨y, hy⟩ := gcdI_dvd_right n d
  have h0 : (gcdI n d : Int) ≠ 0 := by omega
  have ex : n / (gcdI n d : Int) = x := by rw [Int.ediv_eq_iff_eq_mul_right h0 (gcdI_dvd_left n d)]; exact hx
  have ey : d / (gcdI n d : Int) = y := by rw [Int.ediv_eq_iff_eq_mul_right h0 (gcdI_dvd_right n d)]; exact hy
  have et : n.tdiv (gcdI n d : Int) = x := by
    generalize (gcdI n d : Int) = g at *
    rw [hx, Int.mul_tdiv_cancel_left _ h0]
  have bx : x.natAbs ≤ n.natAbs := by
    have : n.natAbs = gcdI n d * x.natAbs := by rw [hx, Int.natAbs_mul, ← hx]; simp
    rw [this]
    exact Nat.le_mul_of_pos_left _ hp
  have yb : 0 ≤ y ∧ y ≤ d := by
    rw [← ey]
    exact ⟨Int.ediv_nonneg (by omega) (by omega), Int.ediv_le_self _ (by omega)⟩
  refine ⟨gcdI n d, x, y, rfl, by omega, by omega, et, ey, by omega, by omega, by omega, by omega, ?_⟩
  unfold low lowP
  rw [if_neg (by omega), ex, ey]
theorem low_neg {n d : Int} (h : d < 0) : low n d = low (-n) (-d) := by unfold low; rw [if_pos h, if_neg (by omega)]
set_option maxHeartbeats 1000000 in
theorem lowest_pos (aB aS aZ : Addr) (n d : Int) (w : World) (n1 : -9223372036854775807 ≤ n) (n2 : n ≤ 9223372036854775807) (d1 : 0 < d) (d2 : d ≤ 9223372036854775807) (h : E3 aB aS aZ w) :
    Calls Tryd.prog 54 #[.int .i64 n, .int .i64 d] w fun e w' => e = .returned (.tuple #[.agg #[.int .i64 (low n d).n, .int .i64 (low n d).d], er aB aS aZ (low n d).c]) ∧ Below w.heap.size w w' := by
  obtain ⟨g, p, q, hg, g1, g2, hp, hq, p1, p2, q1, q2, hl⟩ := gcd_parts n d n1 n2 d1 d2
  have HL : Hid (low n d = _) := hl
  have HG : Hid (Nat.gcd n.natAbs d.natAbs = g) := hg
  clear hl hg
  have hcB := (h.alloc (.cells #[.int .i64 0, .int .i64 0] 24)).b
  have hlt := cell_lt h.b
  simp only at hlt
  have hne : ¬ w.heap.size = 0 := by omega
  have hne' : ¬ 0 = w.heap.size := by omega
  go_enter Tryd.func54, Tryd.ntmps54
  go_wp2_with (first | (go_at_call 62; refine (size_any _ _ (by omega) (by omega)).mono ?_; rintro e w' ⟨rfl, rfl⟩) | (go_at_call 61; refine (divisor_at _ _ g _ (by omega) (by omega) HG.out).mono ?_; rintro e w' ⟨rfl, k, rfl⟩))
  go_quiet (fail)
  rw [hq]
  clear hp hq
  by_cases b1 : isBig p = true
  · go_wp2_with (go_at_call 63; refine (tooGreat_any _ _ (by omega) (by omega)).mono ?_; rintro e w' ⟨rfl, rfl⟩)
    go_region
    go_wp2
    refine bodyPost_ret (v := .tuple #[.agg #[.int .i64 0, .int .i64 0], .iface 108 (.pointer (some aB))]) (by simp [results, Tryd.results54, go_sem]) rfl ⟨by rw [HL.out, if_pos (Or.inl b1)]; rfl, ?_⟩
    exact ((below_drewN ((Below.refl _ _).alloc (Nat.le_refl _) _) _).setCell (by simp) _).setCell (by simp) _
  · have b1 : isBig p = false := by simpa using b1
    by_cases b2 : isBig q = true
    · go_wp2_with (go_at_call 63; refine (tooGreat_any _ _ (by omega) (by omega)).mono ?_; rintro e w' ⟨rfl, rfl⟩)
      go_region
      go_wp2
      refine bodyPost_ret (v := .tuple #[.agg #[.int .i64 0, .int .i64 0], .iface 108 (.pointer (some aB))]) (by simp [results, Tryd.results54, go_sem]) rfl ⟨by rw [HL.out, if_pos (Or.inr b2)]; rfl, ?_⟩
      exact ((below_drewN ((Below.refl _ _).alloc (Nat.le_refl _) _) _).setCell (by simp) _).setCell (by simp) _
    · have b2 : isBig q = false := by simpa using b2
      go_wp2_with (go_at_call 63; refine (tooGreat_any _ _ (by omega) (by omega)).mono ?_; rintro e w' ⟨rfl, rfl⟩)
      refine bodyPost_ret (v := .tuple #[.agg #[.int .i64 p, .int .i64 q], .nilIface]) (by simp [results, Tryd.results54, go_sem]) rfl ⟨by rw [HL.out, if_neg (by simp [b1, b2])]; rfl, ?_⟩
      exact ((below_drewN ((Below.refl _ _).alloc (Nat.le_refl _) _) _).setCell (by simp) _).setCell (by simp) _
set_option maxHeartbeats 1000000 in
theorem lowest_neg (aB aS aZ : Addr) (n d : Int) (w : World) (n1 : -9223372036854775807 ≤ n) (n2 : n ≤ 9223372036854775807) (d1 : d < 0) (d2 : -9223372036854775807 ≤ d) (h : E3 aB aS aZ w) :
    Calls Tryd.prog 54 #[.int .i64 n, .int .i64 d] w fun e w' => e = .returned (.tuple #[.agg #[.int .i64 (low n d).n, .int .i64 (low n d).d], er aB aS aZ (low n d).c]) ∧ Below w.heap.size w w' := by
  obtain ⟨g, p, q, hg, g1, g2, hp, hq, p1, p2, q1, q2, hl⟩ := gcd_parts (-n) (-d) (by omega) (by omega) (by omega) (by omega)
  have HL : Hid (low n d = _) := (low_neg d1).trans hl
  have HG : Hid (Nat.gcd (-n).natAbs (-d).natAbs = g) := hg
  have hq' : wrap64 (-(d.tdiv g)) = q := by
    rw [← Int.neg_tdiv, Int.tdiv_eq_ediv_of_nonneg (by omega), hq]
    exact IntWalk.wrap64_in q ⟨by omega, q2⟩
  clear hl hg hq
  have hcB := (h.alloc (.cells #[.int .i64 0, .int .i64 0] 24)).b
  have hlt := cell_lt h.b
  simp only at hlt
  have hne : ¬ w.heap.size = 0 := by omega
  have hne' : ¬ 0 = w.heap.size := by omega
  go_enter Tryd.func54, Tryd.ntmps54
  go_wp2_with (first | (go_at_call 62; refine (size_any _ _ (by omega) (by omega)).mono ?_; rintro e w' ⟨rfl, rfl⟩) | (go_at_call 61; refine (divisor_at _ _ g _ (by omega) (by omega) (by first | exact HG.out | simpa using HG.out)).mono ?_; rintro e w' ⟨rfl, k, rfl⟩))
  go_quiet (fail)
  try rw [hq']
  clear hp hq'
  by_cases b1 : isBig p = true
  · go_wp2_with (go_at_call 63; refine (tooGreat_any _ _ (by omega) (by omega)).mono ?_; rintro e w' ⟨rfl, rfl⟩)
    go_region
    go_wp2
    refine bodyPost_ret (v := .tuple #[.agg #[.int .i64 0, .int .i64 0], .iface 108 (.pointer (some aB))]) (by simp [results, Tryd.results54, go_sem]) rfl ⟨by rw [HL.out, if_pos (Or.inl b1)]; rfl, ?_⟩
    exact ((below_drewN ((Below.refl _ _).alloc (Nat.le_refl _) _) _).setCell (by simp) _).setCell (by simp) _
  · have b1 : isBig p = false := by simpa using b1
    by_cases b2 : isBig q = true
    · go_wp2_with (go_at_call 63; refine (tooGreat_any _ _ (by omega) (by omega)).mono ?_; rintro e w' ⟨rfl, rfl⟩)
      go_region
      go_wp2
      refine bodyPost_ret (v := .tuple #[.agg #[.int .i64 0, .int .i64 0], .iface 108 (.pointer (some aB))]) (by simp [results, Tryd.results54, go_sem]) rfl ⟨by rw [HL.out, if_pos (Or.inr b2)]; rfl, ?_⟩
      exact ((below_drewN ((Below.refl _ _).alloc (Nat.le_refl _) _) _).setCell (by simp) _).setCell (by simp) _
    · have b2 : isBig q = false := by simpa using b2
      go_wp2_with (go_at_call 63; refine (tooGreat_any _ _ (by omega) (by omega)).mono ?_; rintro e w' ⟨rfl, rfl⟩)
      refine bodyPost_ret (v := .tuple #[.agg #[.int .i64 p, .int .i64 q], .nilIface]) (by simp [results, Tryd.results54, go_sem]) rfl ⟨by rw [HL.out, if_neg (by simp [b1, b2])]; rfl, ?_⟩
      exact ((below_drewN ((Below.refl _ _).alloc (Nat.le_refl _) _) _).setCell (by simp) _).setCell (by simp) _
theorem lowest_any (aB aS aZ : Addr) (n d : Int) (w : World) (n1 : -9223372036854775807 ≤ n) (n2 : n ≤ 9223372036854775807) (d0 : d ≠ 0) (d1 : -9223372036854775807 ≤ d) (d2 : d ≤ 9223372036854775807) (h : E3 aB aS aZ w) :
    Calls Tryd.prog 54 #[.int .i64 n, .int .i64 d] w fun e w' => e = .returned (.tuple #[.agg #[.int .i64 (low n d).n, .int .i64 (low n d).d], er aB aS aZ (low n d).c]) ∧ Below w.heap.size w w' := by
  rcases Int.lt_or_gt_of_ne d0 with h0 | h0
  · exact lowest_neg aB aS aZ n d w n1 n2 h0 d1 h
  · exact lowest_pos aB aS aZ n d w n1 n2 h0 d2 h
end Go.Proofs.YtdjeblcmpegmpaaDoor

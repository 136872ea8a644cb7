/-
  The document's answer for fractions (leadlightref1), walked: lowest.
-/
import Derived.Test.YtdeahgbjkogjgaaDoorRef1
import Derived.Test.YtdeahgbjkogjgaaDoorFrac5
namespace Go.Proofs.YtdeahgbjkogjgaaDoor
open Go.RowKit

theorem gcd_parts2 (n d : Int) (n1 : -9223372036854775807 ≤ n) (n2 : n ≤ 9223372036854775807) (d1 : 0 < d) (d2 : d ≤ 9223372036854775807) :
    ∃ (g p q : Int), ((gcdI n d : Nat) : Int) = g ∧ 1 ≤ g ∧ g ≤ 9223372036854775807 ∧ n.tdiv g = p ∧ d / g = q ∧ d.tdiv g = q ∧
      -9223372036854775807 ≤ p ∧ p ≤ 9223372036854775807 ∧ 1 ≤ q ∧ q ≤ 9223372036854775807 ∧ chk p q = (low n d).c ∧ ((low n d).c = 0 ∧ (low n d).n = p ∧ (low n d).d = q ∨ (low n d).c = 2 ∧ (low n d).n = 0 ∧ (low n d).d = 0) := by
  obtain ⟨g, p, q, hg, g1, g2, hp, hq, p1, p2, q1, q2, hl⟩ := gcd_parts n d n1 n2 d1 d2
  have hgi : gcdI n d = g := hg
  have e1 : n / (gcdI n d : Int) = p := by
    obtain ⟨x, hx⟩ := gcdI_dvd_left n d
    rw [← hgi] at hp g1
    have h0 : (gcdI n d : Int) ≠ 0 := by omega
    rw [← hp]
    generalize (gcdI n d : Int) = k at *
    rw [hx, Int.mul_tdiv_cancel_left _ h0, Int.mul_ediv_cancel_left _ h0]
  have e2 : d / (gcdI n d : Int) = q := by rw [hgi]; exact hq
  have hc := gcdI_div (n := n) (d := d) (by omega)
  rw [e1, e2] at hc
  have hq1 : 1 ≤ q := by
    have : q ≠ 0 := by
      rintro rfl
      obtain ⟨y, hy⟩ := gcdI_dvd_right n d
      have h0 : (gcdI n d : Int) ≠ 0 := by have := gcdI_pos (n := n) (d := d) (by omega); omega
      rw [Int.ediv_eq_iff_eq_mul_right h0 (gcdI_dvd_right n d)] at e2
      omega
    omega
  refine ⟨g, p, q, by rw [hgi], g1, g2, hp, hq, by rw [Int.tdiv_eq_ediv_of_nonneg (by omega)]; exact hq, p1, p2, hq1, q2, ?_, ?_⟩
  · rw [hl]
    unfold chk
    rw [if_neg (by rintro (h | h); omega; exact h hc)]
    split <;> rfl
  · rw [hl]
    split
    · exact Or.inr ⟨rfl, rfl, rfl⟩
    · exact Or.inl ⟨rfl, rfl, rfl⟩

theorem FracError_at (n d : Int) (c : Nat) (w : World) (hn : I64 n) (hd : I64 d) (hc : chk n d = c) :
    Calls Tryd.prog 16 #[.agg #[.int .i64 n, .int .i64 d]] w fun e w' => e = .returned (.int .i64 c) ∧ Below w.heap.size w w' := by
  subst hc; exact FracError_any n d w hn hd

theorem below_undrew {B : Nat} {w w' : World} (h : Below B w.drew w') : Below B w w' := ⟨h.os, h.tape, h.output, h.size, h.block⟩
set_option maxHeartbeats 1000000 in
theorem rlowest_pos (n d : Int) (w : World) (n1 : -9223372036854775807 ≤ n) (n2 : n ≤ 9223372036854775807) (d1 : 0 < d) (d2 : d ≤ 9223372036854775807) :
    Calls Tryd.prog 33 #[.int .i64 n, .int .i64 d] w fun e w' => e = .returned (.tuple #[.agg #[.int .i64 (low n d).n, .int .i64 (low n d).d], .int .i64 (low n d).c]) ∧ Below w.heap.size w w' := by
  obtain ⟨g, p, q, hg, g1, g2, hp, hq, hq', p1, p2, q1, q2, hc, hl⟩ := gcd_parts2 n d n1 n2 d1 d2
  have HG : Hid (((gcdI n d : Nat) : Int) = g) := hg
  have hn1 : ¬ w.heap.size + 1 = w.heap.size := by omega
  have hn2 : ¬ w.heap.size = w.heap.size + 1 := by omega
  have ip : I64 p := ⟨by omega, p2⟩
  have iq : I64 q := ⟨by omega, q2⟩
  rcases hl with ⟨l1, l2, l3⟩ | ⟨l1, l2, l3⟩
  · rw [l1, l2, l3]
    rw [l1] at hc
    have HC : Hid (chk p q = 0) := hc
    clear l1 l2 l3 hg hc
    go_enter Tryd.func33, Tryd.ntmps33
    go_wp2_with (go_at_call 35; refine (Divisor_at _ _ g _ ⟨by omega, by omega⟩ (by omega) (by omega) HG.out).mono ?_; rintro e w' ⟨rfl, rfl⟩)
    go_region
    go_wp2_with (go_at_call 16; refine (FracError_at p q 0 _ ip iq HC.out).mono ?_; rintro e w1 ⟨rfl, hb⟩; obtain ⟨⟨r1, r2, r3, r4⟩, ⟨s1, s2, s3, s4⟩, hw, hz⟩ := two (below_undrew hb))
    refine bodyPost_ret (v := .tuple #[.agg #[.int .i64 p, .int .i64 q], .int .i64 0]) (by simp [results, Tryd.results33, go_sem, r1, r2]) rfl ⟨rfl, ?_⟩
    exact (hw.setCell (Nat.le_refl _) _).setCell (Nat.le_refl _) _
  · rw [l1, l2, l3]
    rw [l1] at hc
    have HC : Hid (chk p q = 2) := hc
    clear l1 l2 l3 hg hc
    go_enter Tryd.func33, Tryd.ntmps33
    go_wp2_with (go_at_call 35; refine (Divisor_at _ _ g _ ⟨by omega, by omega⟩ (by omega) (by omega) HG.out).mono ?_; rintro e w' ⟨rfl, rfl⟩)
    go_region
    go_wp2_with (go_at_call 16; refine (FracError_at p q 2 _ ip iq HC.out).mono ?_; rintro e w1 ⟨rfl, hb⟩; obtain ⟨⟨r1, r2, r3, r4⟩, ⟨s1, s2, s3, s4⟩, hw, hz⟩ := two (below_undrew hb))
    refine bodyPost_ret (v := .tuple #[.agg #[.int .i64 0, .int .i64 0], .int .i64 2]) (by simp [results, Tryd.results33, go_sem, r1, r2]) rfl ⟨rfl, ?_⟩
    exact (hw.setCell (Nat.le_refl _) _).setCell (Nat.le_refl _) _
set_option maxHeartbeats 1000000 in
theorem rlowest_neg (n d : Int) (w : World) (n1 : -9223372036854775807 ≤ n) (n2 : n ≤ 9223372036854775807) (d1 : d < 0) (d2 : -9223372036854775807 ≤ d) :
    Calls Tryd.prog 33 #[.int .i64 n, .int .i64 d] w fun e w' => e = .returned (.tuple #[.agg #[.int .i64 (low n d).n, .int .i64 (low n d).d], .int .i64 (low n d).c]) ∧ Below w.heap.size w w' := by
  obtain ⟨g, p, q, hg, g1, g2, hp, hq, hq', p1, p2, q1, q2, hc, hl⟩ := gcd_parts2 (-n) (-d) (by omega) (by omega) (by omega) (by omega)
  rw [← low_neg d1] at hc hl
  have hp' : -(n.tdiv g) = p := by rw [← Int.neg_tdiv]; exact hp
  have hw' : wrap64 (-(d.tdiv g)) = q := by rw [← Int.neg_tdiv, hq']; exact IntWalk.wrap64_in q ⟨by omega, q2⟩
  have hwp : wrap64 (-(n.tdiv g)) = p := by rw [hp']; exact IntWalk.wrap64_in p ⟨by omega, p2⟩
  have HG : Hid (((gcdI (-n) (-d) : Nat) : Int) = g) := hg
  have hn1 : ¬ w.heap.size + 1 = w.heap.size := by omega
  have hn2 : ¬ w.heap.size = w.heap.size + 1 := by omega
  have ip : I64 p := ⟨by omega, p2⟩
  have iq : I64 q := ⟨by omega, q2⟩
  rcases hl with ⟨l1, l2, l3⟩ | ⟨l1, l2, l3⟩
  · rw [l1, l2, l3]
    rw [l1] at hc
    have HC : Hid (chk p q = 0) := hc
    clear l1 l2 l3 hg hc
    go_enter Tryd.func33, Tryd.ntmps33
    go_wp2_with (go_at_call 35; refine (Divisor_at _ _ g _ ⟨by omega, by omega⟩ (by omega) (by omega) HG.out).mono ?_; rintro e w' ⟨rfl, rfl⟩)
    go_region
    go_wp2_with (go_at_call 16; refine (FracError_at p q 0 _ ip iq HC.out).mono ?_; rintro e w1 ⟨rfl, hb⟩; obtain ⟨⟨r1, r2, r3, r4⟩, ⟨s1, s2, s3, s4⟩, hw, hz⟩ := two (below_undrew hb))
    refine bodyPost_ret (v := .tuple #[.agg #[.int .i64 p, .int .i64 q], .int .i64 0]) (by simp [results, Tryd.results33, go_sem, r1, r2]) rfl ⟨rfl, ?_⟩
    exact (hw.setCell (Nat.le_refl _) _).setCell (Nat.le_refl _) _
  · rw [l1, l2, l3]
    rw [l1] at hc
    have HC : Hid (chk p q = 2) := hc
    clear l1 l2 l3 hg hc
    go_enter Tryd.func33, Tryd.ntmps33
    go_wp2_with (go_at_call 35; refine (Divisor_at _ _ g _ ⟨by omega, by omega⟩ (by omega) (by omega) HG.out).mono ?_; rintro e w' ⟨rfl, rfl⟩)
    go_region
    go_wp2_with (go_at_call 16; refine (FracError_at p q 2 _ ip iq HC.out).mono ?_; rintro e w1 ⟨rfl, hb⟩; obtain ⟨⟨r1, r2, r3, r4⟩, ⟨s1, s2, s3, s4⟩, hw, hz⟩ := two (below_undrew hb))
    refine bodyPost_ret (v := .tuple #[.agg #[.int .i64 0, .int .i64 0], .int .i64 2]) (by simp [results, Tryd.results33, go_sem, r1, r2]) rfl ⟨rfl, ?_⟩
    exact (hw.setCell (Nat.le_refl _) _).setCell (Nat.le_refl _) _
theorem rlowest_any (n d : Int) (w : World) (n1 : -9223372036854775807 ≤ n) (n2 : n ≤ 9223372036854775807) (d0 : d ≠ 0) (d1 : -9223372036854775807 ≤ d) (d2 : d ≤ 9223372036854775807) :
    Calls Tryd.prog 33 #[.int .i64 n, .int .i64 d] w fun e w' => e = .returned (.tuple #[.agg #[.int .i64 (low n d).n, .int .i64 (low n d).d], .int .i64 (low n d).c]) ∧ Below w.heap.size w w' := by
  rcases Int.lt_or_gt_of_ne d0 with h0 | h0
  · exact rlowest_neg n d w n1 n2 h0 d1
  · exact rlowest_pos n d w n1 n2 h0 d2
end Go.Proofs.YtdeahgbjkogjgaaDoor

/-
  The document's answer for fractions (leadlightref1), walked: Divisor, isSmall, FracError, lowest.
-/
import Derived.Test.YtdjeblcmpegmpaaDoorFrac4
namespace Go.Proofs.YtdjeblcmpegmpaaDoor
open Go.RowKit

theorem tmod_facts (p q : Int) (hq : q ≠ 0) (q1 : -9223372036854775807 ≤ q) (q2 : q ≤ 9223372036854775807) : ∃ r, p.tmod q = r ∧ -9223372036854775807 ≤ r ∧ r ≤ 9223372036854775807 ∧ Nat.gcd q.natAbs r.natAbs = Nat.gcd p.natAbs q.natAbs ∧ r.natAbs < q.natAbs := by
  have e : (p.tmod q).natAbs = p.natAbs % q.natAbs := Int.natAbs_tmod p q
  have hl := Nat.mod_lt p.natAbs (show 0 < q.natAbs by omega)
  refine ⟨_, rfl, by omega, by omega, ?_, by omega⟩
  rw [e, Nat.gcd_comm q.natAbs, ← Nat.gcd_rec, Nat.gcd_comm]

set_option maxHeartbeats 400000 in
theorem Divisor_any (a b : Int) (w : World) (ha : I64 a) (b1 : 1 ≤ b) (b2 : b ≤ 9223372036854775807) :
    Calls Tryd.prog 49 #[.int .i64 a, .int .i64 b] w fun e w' => e = .returned (.int .i64 (gcdI a b : Nat)) ∧ w' = w := by
  obtain ⟨a1, a2⟩ := ha
  go_enter Tryd.func49, Tryd.ntmps49
  go_wp2
  go_loop [0, 1] (fun x y => ∃ p q : Int, -9223372036854775808 ≤ p ∧ p ≤ 9223372036854775807 ∧ -9223372036854775807 ≤ q ∧ q ≤ 9223372036854775807 ∧ x = .int .i64 p ∧ y = .int .i64 q ∧ Nat.gcd p.natAbs q.natAbs = gcdI a b ∧ (q = 0 → -9223372036854775807 ≤ p)) (fun _ y => (intOf y).natAbs)
  case atStart => exact ⟨a, b, a1, a2, by omega, b2, rfl, rfl, rfl, by omega⟩
  case round =>
    obtain ⟨p, q, p1, p2, q1, q2, rfl, rfl, hg, hz⟩ := hrel
    have HG : Hid (Nat.gcd p.natAbs q.natAbs = gcdI a b) := hg
    clear hg
    by_cases h0 : q = 0
    · subst h0
      have hp := hz rfl
      clear hz
      by_cases hn : p < 0
      · go_wp2
        go_ret
        exact ⟨ret_int (by have := HG.out; simp at this; omega), rfl⟩
      · go_wp2
        go_ret
        exact ⟨ret_int (by have := HG.out; simp at this; omega), rfl⟩
    · obtain ⟨r, hr, r1, r2, hgr, hlt⟩ := tmod_facts p q h0 q1 q2
      have HR : Hid (Nat.gcd q.natAbs r.natAbs = Nat.gcd p.natAbs q.natAbs) := hgr
      have HL : Hid (r.natAbs < q.natAbs) := hlt
      have hw : wrap64 r = r := IntWalk.wrap64_in r ⟨by omega, r2⟩
      clear hgr hlt hz
      go_wp2
      go_round
      case rel => exact ⟨q, r, by omega, q2, r1, r2, rfl, by first | rfl | rw [hr], HR.out.trans HG.out, by omega⟩
      case measure => have := HL.out; simp [intOf]; omega

set_option maxHeartbeats 400000 in
theorem isSmall_any (n : Int) (w : World) :
    Calls Tryd.prog 50 #[.int .i64 n] w fun e w' => e = .returned (.bool (!isBig n)) ∧ w' = w := by
  by_cases h1 : -1073741824 ≤ n
  · by_cases h2 : n ≤ 1073741824
    · have hb : isBig n = false := isBig_false.2 (by omega)
      rw [hb]; clear hb
      go_enter Tryd.func50, Tryd.ntmps50
      go_wp2
      go_ret
      exact ⟨rfl, rfl⟩
    · have hb : isBig n = true := isBig_true.2 (by omega)
      rw [hb]; clear hb
      go_enter Tryd.func50, Tryd.ntmps50
      go_wp2
      go_ret
      exact ⟨rfl, rfl⟩
  · have hb : isBig n = true := isBig_true.2 (by omega)
    rw [hb]; clear hb
    go_enter Tryd.func50, Tryd.ntmps50
    go_wp2
    go_ret
    exact ⟨rfl, rfl⟩

theorem Divisor_at (a b g : Int) (w : World) (ha : I64 a) (b1 : 1 ≤ b) (b2 : b ≤ 9223372036854775807) (hg : ((gcdI a b : Nat) : Int) = g) :
    Calls Tryd.prog 49 #[.int .i64 a, .int .i64 b] w fun e w' => e = .returned (.int .i64 g) ∧ w' = w := by
  subst hg; exact Divisor_any a b w ha b1 b2
theorem isSmall_at (n : Int) (b : Bool) (w : World) (h : (!isBig n) = b) :
    Calls Tryd.prog 50 #[.int .i64 n] w fun e w' => e = .returned (.bool b) ∧ w' = w := by
  subst h; exact isSmall_any n w

set_option maxHeartbeats 1000000 in
theorem FracError_any (n d : Int) (w : World) (hn : I64 n) (hd : I64 d) :
    Calls Tryd.prog 28 #[.agg #[.int .i64 n, .int .i64 d]] w fun e w' => e = .returned (.int .i64 (chk n d : Nat)) ∧ Below w.heap.size w w' := by
  have hB : ∀ o, Below w.heap.size w (w.alloc o) := fun o => (Below.refl _ _).alloc (Nat.le_refl _) o
  have HB : Hid (∀ o, Below w.heap.size w (w.alloc o)) := hB
  clear hB
  obtain ⟨d1, d2⟩ := id hd
  by_cases hd1 : d < 1
  · have hc : chk n d = 3 := by unfold chk; rw [if_pos (Or.inl hd1)]
    rw [hc]; clear hc
    go_enter Tryd.func28, Tryd.ntmps28
    go_wp2
    go_ret
    exact ⟨rfl, HB.out _⟩
  by_cases hg : gcdI n d = 1
  · have HG : Hid (((gcdI n d : Nat) : Int) = 1) := by show _ = _; omega
    rcases Bool.eq_false_or_eq_true (isBig n) with b1 | b1
    · have hc : chk n d = 2 := by unfold chk; rw [if_neg (by rintro (h | h); exact hd1 h; exact h hg), if_pos (Or.inl b1)]
      rw [hc]; clear hc hg
      have B1 : Hid ((!isBig n) = false) := by show _ = _; rw [b1]; rfl
      clear b1
      go_enter Tryd.func28, Tryd.ntmps28
      go_wp2_with (first | (go_at_call 49; refine (Divisor_at _ _ 1 _ hn (by omega) d2 HG.out).mono ?_; rintro e w' ⟨rfl, rfl⟩) | (go_at_call_of 50 (Value.int IntKind.i64 n); refine (isSmall_at _ false _ B1.out).mono ?_; rintro e w' ⟨rfl, rfl⟩) | (go_at_call 50; refine (isSmall_any _ _).mono ?_; rintro e w' ⟨rfl, rfl⟩))
      go_ret
      exact ⟨rfl, HB.out _⟩
    · rcases Bool.eq_false_or_eq_true (isBig d) with b2 | b2
      · have hc : chk n d = 2 := by unfold chk; rw [if_neg (by rintro (h | h); exact hd1 h; exact h hg), if_pos (Or.inr b2)]
        rw [hc]; clear hc hg
        go_enter Tryd.func28, Tryd.ntmps28
        go_wp2_with (first | (go_at_call 49; refine (Divisor_at _ _ 1 _ hn (by omega) d2 HG.out).mono ?_; rintro e w' ⟨rfl, rfl⟩) | (go_at_call 50; refine (isSmall_any _ _).mono ?_; rintro e w' ⟨rfl, rfl⟩))
        go_ret
        exact ⟨rfl, HB.out _⟩
      · have hc : chk n d = 0 := by unfold chk; rw [if_neg (by rintro (h | h); exact hd1 h; exact h hg), if_neg (by simp [b1, b2])]
        rw [hc]; clear hc hg
        go_enter Tryd.func28, Tryd.ntmps28
        go_wp2_with (first | (go_at_call 49; refine (Divisor_at _ _ 1 _ hn (by omega) d2 HG.out).mono ?_; rintro e w' ⟨rfl, rfl⟩) | (go_at_call 50; refine (isSmall_any _ _).mono ?_; rintro e w' ⟨rfl, rfl⟩))
        go_ret
        exact ⟨rfl, HB.out _⟩
  · have hc : chk n d = 3 := by unfold chk; rw [if_pos (Or.inr hg)]
    obtain ⟨g, hgg⟩ : ∃ g : Int, ((gcdI n d : Nat) : Int) = g := ⟨_, rfl⟩
    have hg1 : (g != 1) = true := by simp; omega
    have HG : Hid (((gcdI n d : Nat) : Int) = g) := hgg
    rw [hc]; clear hc hg hgg
    go_enter Tryd.func28, Tryd.ntmps28
    go_wp2_with (go_at_call 49; refine (Divisor_at _ _ g _ hn (by omega) d2 HG.out).mono ?_; rintro e w' ⟨rfl, rfl⟩)
    go_ret
    exact ⟨rfl, HB.out _⟩
end Go.Proofs.YtdjeblcmpegmpaaDoor

/-
  The document's answer for fractions (leadlightref1), walked: Divisor, isSmall, FracError, lowest.
-/
import Derived.Test.YtlnnpileegoglabGreatDoorJ1
namespace Go.Proofs.YtlnnpileegoglabGreatDoor
open Go.RowKit

theorem tmod_facts (p q : Int) (hq : q ≠ 0) (q1 : -9223372036854775807 ≤ q) (q2 : q ≤ 9223372036854775807) : ∃ r, p.tmod q = r ∧ -9223372036854775807 ≤ r ∧ r ≤ 9223372036854775807 ∧ Nat.gcd q.natAbs r.natAbs = Nat.gcd p.natAbs q.natAbs ∧ r.natAbs < q.natAbs := by
  have e : (p.tmod q).natAbs = p.natAbs % q.natAbs := Int.natAbs_tmod p q
  have hl := Nat.mod_lt p.natAbs (show 0 < q.natAbs by omega)
  refine ⟨_, rfl, by omega, by omega, ?_, by omega⟩
  rw [e, Nat.gcd_comm q.natAbs, ← Nat.gcd_rec, Nat.gcd_comm]

set_option maxHeartbeats 400000 in
theorem Divisor_any (a b : Int) (w : World) (ha : I64 a) (b1 : 1 ≤ b) (b2 : b ≤ 9223372036854775807) :
    Calls Tryz.prog 53 #[.int .i64 a, .int .i64 b] w fun e w' => e = .returned (.int .i64 (gcdI a b : Nat)) ∧ w' = w := by
  obtain ⟨a1, a2⟩ := ha
  go_enter Tryz.func53, Tryz.ntmps53
  go_wp2
  go_loop [0, 1] (fun x y => ∃ p q : Int, -9223372036854775808 ≤ p ∧ p ≤ 9223372036854775807 ∧ -9223372036854775807 ≤ q ∧ q ≤ 9223372036854775807 ∧ x = .int .i64 p ∧ y = .int .i64 q ∧ Nat.gcd p.natAbs q.natAbs = gcdI a b ∧ (q = 0 → -9223372036854775807 ≤ p)) (fun _ y => (intOf y).natAbs)
  case atStart => exact ⟨a, b, a1, a2, by omega, b2, rfl, rfl, rfl, by omega⟩
  case round =>
    obtain ⟨p, q, p1, p2, q1, q2, rfl, rfl, hg, hz⟩ := hrel
    have HG : Hid (Nat.gcd p.natAbs q.natAbs = gcdI a b) := hg
    clear hg
    by_cases h0 : q = 0
    · subst h0
      have hp := hz rfl
      clear hz
      by_cases hn : p < 0
      · go_wp2
        go_ret
        exact ⟨ret_int (by have := HG.out; simp at this; omega), rfl⟩
      · go_wp2
        go_ret
        exact ⟨ret_int (by have := HG.out; simp at this; omega), rfl⟩
    · obtain ⟨r, hr, r1, r2, hgr, hlt⟩ := tmod_facts p q h0 q1 q2
      have HR : Hid (Nat.gcd q.natAbs r.natAbs = Nat.gcd p.natAbs q.natAbs) := hgr
      have HL : Hid (r.natAbs < q.natAbs) := hlt
      have hw : wrap64 r = r := IntWalk.wrap64_in r ⟨by omega, r2⟩
      clear hgr hlt hz
      go_wp2
      go_round
      case rel => exact ⟨q, r, by omega, q2, r1, r2, rfl, by first | rfl | rw [hr], HR.out.trans HG.out, by omega⟩
      case measure => have := HL.out; simp [intOf]; omega

set_option maxHeartbeats 400000 in
theorem isSmall_any (n : Int) (w : World) :
    Calls Tryz.prog 54 #[.int .i64 n] w fun e w' => e = .returned (.bool (!isBig n)) ∧ w' = w := by
  by_cases h1 : -1073741824 ≤ n
  · by_cases h2 : n ≤ 1073741824
    · have hb : isBig n = false := isBig_false.2 (by omega)
      rw [hb]; clear hb
      go_enter Tryz.func54, Tryz.ntmps54
      go_wp2
      go_ret
      exact ⟨rfl, rfl⟩
    · have hb : isBig n = true := isBig_true.2 (by omega)
      rw [hb]; clear hb
      go_enter Tryz.func54, Tryz.ntmps54
      go_wp2
      go_ret
      exact ⟨rfl, rfl⟩
  · have hb : isBig n = true := isBig_true.2 (by omega)
    rw [hb]; clear hb
    go_enter Tryz.func54, Tryz.ntmps54
    go_wp2
    go_ret
    exact ⟨rfl, rfl⟩

theorem Divisor_at (a b g : Int) (w : World) (ha : I64 a) (b1 : 1 ≤ b) (b2 : b ≤ 9223372036854775807) (hg : ((gcdI a b : Nat) : Int) = g) :
    Calls Tryz.prog 53 #[.int .i64 a, .int .i64 b] w fun e w' => e = .returned (.int .i64 g) ∧ w' = w := by
  subst hg; exact Divisor_any a b w ha b1 b2
theorem isSmall_at (n : Int) (b : Bool) (w : World) (h : (!isBig n) = b) :
    Calls Tryz.prog 54 #[.int .i64 n] w fun e w' => e = .returned (.bool b) ∧ w' = w := by
  subst h; exact isSmall_any n w

set_option maxHeartbeats 1000000 in
theorem FracError_any (n d : Int) (w : World) (hn : I64 n) (hd : I64 d) :
    Calls Tryz.prog 30 #[.agg #[.int .i64 n, .int .i64 d]] w fun e w' => e = .returned (.int .i64 (chk n d : Nat)) ∧ Below w.heap.size w w' := by
  have hB : ∀ o, Below w.heap.size w (w.alloc o) := fun o => (Below.refl _ _).alloc (Nat.le_refl _) o
  have HB : Hid (∀ o, Below w.heap.size w (w.alloc o)) := hB
  clear hB
  obtain ⟨d1, d2⟩ := id hd
  by_cases hd1 : d < 1
  · have hc : chk n d = 3 := by unfold chk; rw [if_pos (Or.inl hd1)]
    rw [hc]; clear hc
    go_enter Tryz.func30, Tryz.ntmps30
    go_wp2
    go_ret
    exact ⟨rfl, HB.out _⟩
  by_cases hg : gcdI n d = 1
  · have HG : Hid (((gcdI n d : Nat) : Int) = 1) := by show _ = _; omega
    rcases Bool.eq_false_or_eq_true (isBig n) with b1 | b1
    · have hc : chk n d = 2 := by unfold chk; rw [if_neg (by rintro (h | h); exact hd1 h; exact h hg), if_pos (Or.inl b1)]
      rw [hc]; clear hc hg
      have B1 : Hid ((!isBig n) = false) := by show _ = _; rw [b1]; rfl
      clear b1
      go_enter Tryz.func30, Tryz.ntmps30
      go_wp2_with (first | (go_at_call 53; refine (Divisor_at _ _ 1 _ hn (by omega) d2 HG.out).mono ?_; rintro e w' ⟨rfl, rfl⟩) | (go_at_call_of 54 (Value.int IntKind.i64 n); refine (isSmall_at _ false _ B1.out).mono ?_; rintro e w' ⟨rfl, rfl⟩) | (go_at_call 54; refine (isSmall_any _ _).mono ?_; rintro e w' ⟨rfl, rfl⟩))
      go_ret
      exact ⟨rfl, HB.out _⟩
    · rcases Bool.eq_false_or_eq_true (isBig d) with b2 | b2
      · have hc : chk n d = 2 := by unfold chk; rw [if_neg (by rintro (h | h); exact hd1 h; exact h hg), if_pos (Or.inr b2)]
        rw [hc]; clear hc hg
        go_enter Tryz.func30, Tryz.ntmps30
        go_wp2_with (first | (go_at_call 53; refine (Divisor_at _ _ 1 _ hn (by omega) d2 HG.out).mono ?_; rintro e w' ⟨rfl, rfl⟩) | (go_at_call 54; refine (isSmall_any _ _).mono ?_; rintro e w' ⟨rfl, rfl⟩))
        go_ret
        exact ⟨rfl, HB.out _⟩
      · have hc : chk n d = 0 := by unfold chk; rw [if_neg (by rintro (h | h); exact hd1 h; exact h hg), if_neg (by simp [b1, b2])]
        rw [hc]; clear hc hg
        go_enter Tryz.func30, Tryz.ntmps30
        go_wp2_with (first | (go_at_call 53; refine (Divisor_at _ _ 1 _ hn (by omega) d2 HG.out).mono ?_; rintro e w' ⟨rfl, rfl⟩) | (go_at_call 54; refine (isSmall_any _ _).mono ?_; rintro e w' ⟨rfl, rfl⟩))
        go_ret
        exact ⟨rfl, HB.out _⟩
  · have hc : chk n d = 3 := by unfold chk; rw [if_pos (Or.inr hg)]
    obtain ⟨g, hgg⟩ : ∃ g : Int, ((gcdI n d : Nat) : Int) = g := ⟨_, rfl⟩
    have hg1 : (g != 1) = true := by simp; omega
    have HG : Hid (((gcdI n d : Nat) : Int) = g) := hgg
    rw [hc]; clear hc hg hgg
    go_enter Tryz.func30, Tryz.ntmps30
    go_wp2_with (go_at_call 53; refine (Divisor_at _ _ g _ hn (by omega) d2 HG.out).mono ?_; rintro e w' ⟨rfl, rfl⟩)
    go_ret
    exact ⟨rfl, HB.out _⟩
end Go.Proofs.YtlnnpileegoglabGreatDoor

namespace Go.Proofs.YtlnnpileegoglabGreatDoor
open Go.RowKit

theorem chk_neg {n d : Int} (h : chk n d = 0) : chk (-n) d = 0 := by
  rw [chk_zero] at h ⊢
  unfold gcdI at *
  rw [Int.natAbs_neg]; exact h
theorem add_neg {an ad bn bd : Int} (ha : chk an ad = 0) (hb : chk bn bd = 0) : add an ad (-bn) bd = sub an ad bn bd := by
  unfold add sub
  rw [if_neg (by simp [ha]), if_neg (by simp [chk_neg hb]), if_neg (by simp [ha]), if_neg (by simp [hb])]
  congr 1
  grind

set_option maxHeartbeats 1000000 in
theorem Sub_any (aB aS aZ : Addr) (an ad bn bd : Int) (w : World) (i1 : I64 an) (i2 : I64 ad) (i3 : I64 bn) (i4 : I64 bd) (h : E3 aB aS aZ w) :
    Calls Tryz.prog 24 #[.agg #[.int .i64 an, .int .i64 ad], .agg #[.int .i64 bn, .int .i64 bd]] w fun e w' => e = .returned (.tuple #[.agg #[.int .i64 (sub an ad bn bd).n, .int .i64 (sub an ad bn bd).d], er aB aS aZ (sub an ad bn bd).c]) ∧ Below w.heap.size w w' := by
  rcases chk2_cases an ad bn bd with ⟨ha, hb⟩ | hbad
  · have HA : Hid (chk an ad = 0) := ha
    have HB : Hid (chk bn bd = 0) := hb
    have HN : Hid (chk (-bn) bd = 0) := chk_neg hb
    obtain ⟨_, _, b3, _⟩ := chk_zero.1 hb
    have b31 : -1073741824 ≤ bn := by omega
    have b32 : bn ≤ 1073741824 := by omega
    rw [← add_neg ha hb]
    clear ha hb b3
    go_enter Tryz.func24, Tryz.ntmps24
    go_wp2_with (first | (go_at_call 48; refine (checkBoth_ok aB aS aZ _ _ _ _ _ i1 i2 i3 i4 ?_ HA.out HB.out).mono ?_; exact ((h.alloc _).alloc _).alloc _; rintro e w1 ⟨rfl, hb⟩; obtain ⟨⟨p1, p2, p3, p4⟩, ⟨q1, q2, q3, q4⟩, ⟨r1, r2, r3, r4⟩, hw, hz⟩ := three hb; clear hb) | (go_at_call 49; refine (sum_any aB aS aZ _ _ _ _ _ HA.out HN.out ?_).mono ?_; exact h.below hw (Nat.le_refl _); rintro e w2 ⟨rfl, hb2⟩; obtain ⟨s1, s2, s3, s4⟩ := Two.below ⟨r1, r2, r3, r4⟩ hb2 (Nat.le_refl _)))
    refine bodyPost_ret (v := .tuple #[.agg #[.int .i64 (add an ad (-bn) bd).n, .int .i64 (add an ad (-bn) bd).d], er aB aS aZ (add an ad (-bn) bd).c]) (by simp [results, Tryz.results24, go_sem, s1, s2]) rfl ⟨rfl, ?_⟩
    exact ((hw.trans (hb2.mono (by omega))).setCell (by simp; omega) _).setCell (by simp; omega) _
  · obtain ⟨a, ha⟩ := er_cases aB aS aZ hbad
    have hr := sub_err (an := an) (ad := ad) (bn := bn) (bd := bd) (by rintro ⟨h1, h2⟩; unfold chk2 at hbad; simp [h1, h2] at hbad)
    rw [hr, ha]
    have HA : Hid (er aB aS aZ (chk2 an ad bn bd) = .iface 180 (.pointer (some a))) := ha
    clear ha hr hbad
    go_enter Tryz.func24, Tryz.ntmps24
    go_wp2_with (go_at_call 48; refine (checkBoth_no aB aS aZ _ _ _ _ a _ i1 i2 i3 i4 ?_ HA.out).mono ?_; exact ((h.alloc _).alloc _).alloc _; rintro e w1 ⟨rfl, hb⟩; obtain ⟨⟨p1, p2, p3, p4⟩, ⟨q1, q2, q3, q4⟩, ⟨r1, r2, r3, r4⟩, hw, hz⟩ := three hb; clear hb)
    refine bodyPost_ret (v := .tuple #[.agg #[.int .i64 0, .int .i64 0], .iface 180 (.pointer (some a))]) (by simp [results, Tryz.results24, go_sem, r1, r2]) rfl ⟨rfl, ?_⟩
    exact (hw.setCell (by simp; omega) _).setCell (by simp; omega) _

set_option maxHeartbeats 1000000 in
theorem Mul_any (aB aS aZ : Addr) (an ad bn bd : Int) (w : World) (i1 : I64 an) (i2 : I64 ad) (i3 : I64 bn) (i4 : I64 bd) (h : E3 aB aS aZ w) :
    Calls Tryz.prog 25 #[.agg #[.int .i64 an, .int .i64 ad], .agg #[.int .i64 bn, .int .i64 bd]] w fun e w' => e = .returned (.tuple #[.agg #[.int .i64 (mul an ad bn bd).n, .int .i64 (mul an ad bn bd).d], er aB aS aZ (mul an ad bn bd).c]) ∧ Below w.heap.size w w' := by
  rcases chk2_cases an ad bn bd with ⟨ha, hb⟩ | hbad
  · have HA : Hid (chk an ad = 0) := ha
    have HB : Hid (chk bn bd = 0) := hb
    have hmul : mul an ad bn bd = low (an * bn) (ad * bd) := by unfold mul; rw [if_neg (by simp [ha]), if_neg (by simp [hb])]
    rw [hmul]
    obtain ⟨a1, _, a3, a4⟩ := chk_zero.1 ha
    obtain ⟨b1, _, b3, b4⟩ := chk_zero.1 hb
    obtain ⟨m11, m12⟩ := mul_bound a3 b3
    obtain ⟨m31, m32⟩ := mul_bound a4 b4
    have m0 : ad * bd ≠ 0 := Int.mul_ne_zero (by omega) (by omega)
    have hn1 : ¬ w.heap.size + 1 + 1 = w.heap.size := by omega
    have hn2 : ¬ w.heap.size = w.heap.size + 1 + 1 := by omega
    clear ha hb hmul a1 a3 a4 b1 b3 b4
    go_enter Tryz.func25, Tryz.ntmps25
    go_wp2_with (go_at_call 48; refine (checkBoth_ok aB aS aZ _ _ _ _ _ i1 i2 i3 i4 ?_ HA.out HB.out).mono ?_; exact ((h.alloc _).alloc _).alloc _; rintro e w1 ⟨rfl, hb⟩; obtain ⟨⟨p1, p2, p3, p4⟩, ⟨q1, q2, q3, q4⟩, ⟨r1, r2, r3, r4⟩, hw, hz⟩ := three hb; clear hb)
    go_region_held3 (fun w' => w'.cell? ⟨w.heap.size, 0, none⟩ = some (.int .i64 an) ∧ w'.cell? ⟨w.heap.size, 1, none⟩ = some (.int .i64 ad) ∧ w'.cell? ⟨w.heap.size + 1, 0, none⟩ = some (.int .i64 bn) ∧ w'.cell? ⟨w.heap.size + 1, 1, none⟩ = some (.int .i64 bd)) (go_keep) (first | (go_at_call 51; refine (times_any _ _ _ (by omega) (by omega)).mono ?_; rintro e w' ⟨rfl, rfl⟩) | (go_at_call 50; refine (lowest_any aB aS aZ _ _ _ (by omega) (by omega) m0 (by omega) (by omega) ?_).mono ?_; exact (h.below hw (Nat.le_refl _)).drewN 1; rintro e w2 ⟨rfl, hb2⟩; obtain ⟨s1, s2, s3, s4⟩ := Two.below (Two.drewN ⟨r1, r2, r3, r4⟩ 1) hb2 (Nat.le_refl _); obtain ⟨u1, u2, u3, u4⟩ := Two.below (Two.drewN ⟨p1, p2, p3, p4⟩ 1) hb2 (Nat.le_refl _); obtain ⟨v1, v2, v3, v4⟩ := Two.below (Two.drewN ⟨q1, q2, q3, q4⟩ 1) hb2 (Nat.le_refl _)))
    go_wp2
    refine bodyPost_ret (v := .tuple #[.agg #[.int .i64 (low (an * bn) (ad * bd)).n, .int .i64 (low (an * bn) (ad * bd)).d], er aB aS aZ (low (an * bn) (ad * bd)).c]) (by simp [results, Tryz.results25, go_sem, s1, s2]) rfl ⟨rfl, ?_⟩
    exact ((hw.drew.trans (hb2.mono (by simp; omega))).setCell (by simp; omega) _).setCell (by simp; omega) _
  · obtain ⟨a, ha⟩ := er_cases aB aS aZ hbad
    have hr := mul_err (an := an) (ad := ad) (bn := bn) (bd := bd) (by rintro ⟨h1, h2⟩; unfold chk2 at hbad; simp [h1, h2] at hbad)
    rw [hr, ha]
    have HA : Hid (er aB aS aZ (chk2 an ad bn bd) = .iface 180 (.pointer (some a))) := ha
    clear ha hr hbad
    go_enter Tryz.func25, Tryz.ntmps25
    go_wp2_with (go_at_call 48; refine (checkBoth_no aB aS aZ _ _ _ _ a _ i1 i2 i3 i4 ?_ HA.out).mono ?_; exact ((h.alloc _).alloc _).alloc _; rintro e w1 ⟨rfl, hb⟩; obtain ⟨⟨p1, p2, p3, p4⟩, ⟨q1, q2, q3, q4⟩, ⟨r1, r2, r3, r4⟩, hw, hz⟩ := three hb; clear hb)
    refine bodyPost_ret (v := .tuple #[.agg #[.int .i64 0, .int .i64 0], .iface 180 (.pointer (some a))]) (by simp [results, Tryz.results25, go_sem, r1, r2]) rfl ⟨rfl, ?_⟩
    exact (hw.setCell (by simp; omega) _).setCell (by simp; omega) _
set_option maxHeartbeats 1000000 in
theorem Div_any (aB aS aZ : Addr) (an ad bn bd : Int) (w : World) (i1 : I64 an) (i2 : I64 ad) (i3 : I64 bn) (i4 : I64 bd) (h : E3 aB aS aZ w) (hZ : EZ aZ w) :
    Calls Tryz.prog 26 #[.agg #[.int .i64 an, .int .i64 ad], .agg #[.int .i64 bn, .int .i64 bd]] w fun e w' => e = .returned (.tuple #[.agg #[.int .i64 (div an ad bn bd).n, .int .i64 (div an ad bn bd).d], er aB aS aZ (div an ad bn bd).c]) ∧ Below w.heap.size w w' := by
  rcases chk2_cases an ad bn bd with ⟨ha, hb⟩ | hbad
  · have HA : Hid (chk an ad = 0) := ha
    have HB : Hid (chk bn bd = 0) := hb
    obtain ⟨a1, _, a3, a4⟩ := chk_zero.1 ha
    obtain ⟨b1, _, b3, b4⟩ := chk_zero.1 hb
    obtain ⟨m11, m12⟩ := mul_bound a3 b4
    obtain ⟨m31, m32⟩ := mul_bound a4 b3
    have hn1 : ¬ w.heap.size + 1 + 1 = w.heap.size := by omega
    have hn2 : ¬ w.heap.size = w.heap.size + 1 + 1 := by omega
    by_cases hz0 : bn = 0
    · subst hz0
      have hdiv : div an ad 0 bd = ⟨0, 0, 11⟩ := by unfold div; rw [if_neg (by simp [ha]), if_neg (by simp [hb]), if_pos rfl]
      rw [hdiv]
      have hlt := cell_lt hZ.z
      simp only at hlt
      have hne : ¬ w.heap.size = 0 := by omega
      have hne' : ¬ 0 = w.heap.size := by omega
      have hne1 : ¬ w.heap.size + 1 + 1 = 0 := by omega
      have hne1' : ¬ 0 = w.heap.size + 1 + 1 := by omega
      clear ha hb hdiv a1 a3 a4 b1 b3 b4 m11 m12 m31 m32
      go_enter Tryz.func26, Tryz.ntmps26
      go_wp2_with (go_at_call 48; refine (checkBoth_ok aB aS aZ _ _ _ _ _ i1 i2 i3 i4 ?_ HA.out HB.out).mono ?_; exact ((h.alloc _).alloc _).alloc _; rintro e w1 ⟨rfl, hb⟩; obtain ⟨⟨p1, p2, p3, p4⟩, ⟨q1, q2, q3, q4⟩, ⟨r1, r2, r3, r4⟩, hw, hz⟩ := three hb; have hcz := (hZ.below hw (Nat.le_refl _)).z; clear hb)
      go_region
      go_wp2
      refine bodyPost_ret (v := .tuple #[.agg #[.int .i64 0, .int .i64 0], .iface 180 (.pointer (some aZ))]) (by simp [results, Tryz.results26, go_sem, r1, r2]) rfl ⟨rfl, ?_⟩
      exact (hw.drew.setCell (by simp; omega) _).setCell (by simp; omega) _
    have hdiv : div an ad bn bd = low (an * bd) (ad * bn) := by unfold div; rw [if_neg (by simp [ha]), if_neg (by simp [hb]), if_neg hz0]
    rw [hdiv]
    have m0 : ad * bn ≠ 0 := Int.mul_ne_zero (by omega) hz0
    clear ha hb hdiv a1 a3 a4 b1 b3 b4
    go_enter Tryz.func26, Tryz.ntmps26
    go_wp2_with (go_at_call 48; refine (checkBoth_ok aB aS aZ _ _ _ _ _ i1 i2 i3 i4 ?_ HA.out HB.out).mono ?_; exact ((h.alloc _).alloc _).alloc _; rintro e w1 ⟨rfl, hb⟩; obtain ⟨⟨p1, p2, p3, p4⟩, ⟨q1, q2, q3, q4⟩, ⟨r1, r2, r3, r4⟩, hw, hz⟩ := three hb; clear hb)
    go_region_held3 (fun w' => w'.cell? ⟨w.heap.size, 0, none⟩ = some (.int .i64 an) ∧ w'.cell? ⟨w.heap.size, 1, none⟩ = some (.int .i64 ad) ∧ w'.cell? ⟨w.heap.size + 1, 0, none⟩ = some (.int .i64 bn) ∧ w'.cell? ⟨w.heap.size + 1, 1, none⟩ = some (.int .i64 bd)) (go_keep) (first | (go_at_call 51; refine (times_any _ _ _ (by omega) (by omega)).mono ?_; rintro e w' ⟨rfl, rfl⟩) | (go_at_call 50; refine (lowest_any aB aS aZ _ _ _ (by omega) (by omega) m0 (by omega) (by omega) ?_).mono ?_; exact (h.below hw (Nat.le_refl _)).drewN 1; rintro e w2 ⟨rfl, hb2⟩; obtain ⟨s1, s2, s3, s4⟩ := Two.below (Two.drewN ⟨r1, r2, r3, r4⟩ 1) hb2 (Nat.le_refl _); obtain ⟨u1, u2, u3, u4⟩ := Two.below (Two.drewN ⟨p1, p2, p3, p4⟩ 1) hb2 (Nat.le_refl _); obtain ⟨v1, v2, v3, v4⟩ := Two.below (Two.drewN ⟨q1, q2, q3, q4⟩ 1) hb2 (Nat.le_refl _)))
    go_wp2
    refine bodyPost_ret (v := .tuple #[.agg #[.int .i64 (low (an * bd) (ad * bn)).n, .int .i64 (low (an * bd) (ad * bn)).d], er aB aS aZ (low (an * bd) (ad * bn)).c]) (by simp [results, Tryz.results26, go_sem, s1, s2]) rfl ⟨rfl, ?_⟩
    exact ((hw.drew.trans (hb2.mono (by simp; omega))).setCell (by simp; omega) _).setCell (by simp; omega) _
  · obtain ⟨a, ha⟩ := er_cases aB aS aZ hbad
    have hr := div_err (an := an) (ad := ad) (bn := bn) (bd := bd) (by rintro ⟨h1, h2⟩; unfold chk2 at hbad; simp [h1, h2] at hbad)
    rw [hr, ha]
    have HA : Hid (er aB aS aZ (chk2 an ad bn bd) = .iface 180 (.pointer (some a))) := ha
    clear ha hr hbad
    go_enter Tryz.func26, Tryz.ntmps26
    go_wp2_with (go_at_call 48; refine (checkBoth_no aB aS aZ _ _ _ _ a _ i1 i2 i3 i4 ?_ HA.out).mono ?_; exact ((h.alloc _).alloc _).alloc _; rintro e w1 ⟨rfl, hb⟩; obtain ⟨⟨p1, p2, p3, p4⟩, ⟨q1, q2, q3, q4⟩, ⟨r1, r2, r3, r4⟩, hw, hz⟩ := three hb; clear hb)
    refine bodyPost_ret (v := .tuple #[.agg #[.int .i64 0, .int .i64 0], .iface 180 (.pointer (some a))]) (by simp [results, Tryz.results26, go_sem, r1, r2]) rfl ⟨rfl, ?_⟩
    exact (hw.setCell (by simp; omega) _).setCell (by simp; omega) _

theorem two {w w1 : World} {x0 x1 y0 y1 : Value} {t t' : TypeId} (hb : Below ((w.alloc (.cells #[x0, x1] t)).alloc (.cells #[y0, y1] t')).heap.size ((w.alloc (.cells #[x0, x1] t)).alloc (.cells #[y0, y1] t')) w1) :
    Two w1 w.heap.size x0 x1 ∧ Two w1 (w.heap.size + 1) y0 y1 ∧ Below w.heap.size w w1 ∧ w.heap.size + 1 + 1 ≤ w1.heap.size := by
  refine ⟨((Two.new w x0 x1 t).alloc _).below hb (Nat.le_refl _), ?_, ?_, by have := hb.size; simpa using this⟩
  · have := (Two.new (w.alloc (.cells #[x0, x1] t)) y0 y1 t').below hb (Nat.le_refl _)
    simpa using this
  · exact (((Below.refl _ _).alloc (Nat.le_refl _) _).alloc (by simp) _).trans (hb.mono (by simp; omega))

end Go.Proofs.YtlnnpileegoglabGreatDoor

namespace Go.Proofs.YtlnnpileegoglabGreatDoor
open Go.RowKit

theorem gcd_parts2 (n d : Int) (n1 : -9223372036854775807 ≤ n) (n2 : n ≤ 9223372036854775807) (d1 : 0 < d) (d2 : d ≤ 9223372036854775807) :
    ∃ (g p q : Int), ((gcdI n d : Nat) : Int) = g ∧ 1 ≤ g ∧ g ≤ 9223372036854775807 ∧ n.tdiv g = p ∧ d / g = q ∧ d.tdiv g = q ∧
      -9223372036854775807 ≤ p ∧ p ≤ 9223372036854775807 ∧ 1 ≤ q ∧ q ≤ 9223372036854775807 ∧ chk p q = (low n d).c ∧ ((low n d).c = 0 ∧ (low n d).n = p ∧ (low n d).d = q ∨ (low n d).c = 2 ∧ (low n d).n = 0 ∧ (low n d).d = 0) := by
  obtain ⟨g, p, q, hg, g1, g2, hp, hq, p1, p2, q1, q2, hl⟩ := gcd_parts n d n1 n2 d1 d2
  have hgi : gcdI n d = g := hg
  have e1 : n / (gcdI n d : Int) = p := by
    obtain ⟨x, hx⟩ := gcdI_dvd_left n d
    rw [← hgi] at hp g1
    have h0 : (gcdI n d : Int) ≠ 0 := by omega
    rw [← hp]
    generalize (gcdI n d : Int) = k at *
    rw [hx, Int.mul_tdiv_cancel_left _ h0, Int.mul_ediv_cancel_left _ h0]
  have e2 : d / (gcdI n d : Int) = q := by rw [hgi]; exact hq
  have hc := gcdI_div (n := n) (d := d) (by omega)
  rw [e1, e2] at hc
  have hq1 : 1 ≤ q := by
    have : q ≠ 0 := by
      rintro rfl
      obtain ⟨y, hy⟩ := gcdI_dvd_right n d
      have h0 : (gcdI n d : Int) ≠ 0 := by have := gcdI_pos (n := n) (d := d) (by omega); omega
      rw [Int.ediv_eq_iff_eq_mul_right h0 (gcdI_dvd_right n d)] at e2
      omega
    omega
  refine ⟨g, p, q, by rw [hgi], g1, g2, hp, hq, by rw [Int.tdiv_eq_ediv_of_nonneg (by omega)]; exact hq, p1, p2, hq1, q2, ?_, ?_⟩
  · rw [hl]
    unfold chk
    rw [if_neg (by rintro (h | h); omega; exact h hc)]
    split <;> rfl
  · rw [hl]
    split
    · exact Or.inr ⟨rfl, rfl, rfl⟩
    · exact Or.inl ⟨rfl, rfl, rfl⟩

theorem FracError_at (n d : Int) (c : Nat) (w : World) (hn : I64 n) (hd : I64 d) (hc : chk n d = c) :
    Calls Tryz.prog 30 #[.agg #[.int .i64 n, .int .i64 d]] w fun e w' => e = .returned (.int .i64 c) ∧ Below w.heap.size w w' := by
  subst hc; exact FracError_any n d w hn hd

theorem below_undrew {B : Nat} {w w' : World} (h : Below B w.drew w') : Below B w w' := ⟨h.os, h.tape, h.output, h.size, h.block⟩
set_option maxHeartbeats 1000000 in
theorem rlowest_pos (n d : Int) (w : World) (n1 : -9223372036854775807 ≤ n) (n2 : n ≤ 9223372036854775807) (d1 : 0 < d) (d2 : d ≤ 9223372036854775807) :
    Calls Tryz.prog 33 #[.int .i64 n, .int .i64 d] w fun e w' => e = .returned (.tuple #[.agg #[.int .i64 (low n d).n, .int .i64 (low n d).d], .int .i64 (low n d).c]) ∧ Below w.heap.size w w' := by
  obtain ⟨g, p, q, hg, g1, g2, hp, hq, hq', p1, p2, q1, q2, hc, hl⟩ := gcd_parts2 n d n1 n2 d1 d2
  have HG : Hid (((gcdI n d : Nat) : Int) = g) := hg
  have hn1 : ¬ w.heap.size + 1 = w.heap.size := by omega
  have hn2 : ¬ w.heap.size = w.heap.size + 1 := by omega
  have ip : I64 p := ⟨by omega, p2⟩
  have iq : I64 q := ⟨by omega, q2⟩
  rcases hl with ⟨l1, l2, l3⟩ | ⟨l1, l2, l3⟩
  · rw [l1, l2, l3]
    rw [l1] at hc
    have HC : Hid (chk p q = 0) := hc
    clear l1 l2 l3 hg hc
    go_enter Tryz.func33, Tryz.ntmps33
    go_wp2_with (go_at_call 53; refine (Divisor_at _ _ g _ ⟨by omega, by omega⟩ (by omega) (by omega) HG.out).mono ?_; rintro e w' ⟨rfl, rfl⟩)
    go_region
    go_wp2_with (go_at_call 30; refine (FracError_at p q 0 _ ip iq HC.out).mono ?_; rintro e w1 ⟨rfl, hb⟩; obtain ⟨⟨r1, r2, r3, r4⟩, ⟨s1, s2, s3, s4⟩, hw, hz⟩ := two (below_undrew hb))
    refine bodyPost_ret (v := .tuple #[.agg #[.int .i64 p, .int .i64 q], .int .i64 0]) (by simp [results, Tryz.results33, go_sem, r1, r2]) rfl ⟨rfl, ?_⟩
    exact (hw.setCell (Nat.le_refl _) _).setCell (Nat.le_refl _) _
  · rw [l1, l2, l3]
    rw [l1] at hc
    have HC : Hid (chk p q = 2) := hc
    clear l1 l2 l3 hg hc
    go_enter Tryz.func33, Tryz.ntmps33
    go_wp2_with (go_at_call 53; refine (Divisor_at _ _ g _ ⟨by omega, by omega⟩ (by omega) (by omega) HG.out).mono ?_; rintro e w' ⟨rfl, rfl⟩)
    go_region
    go_wp2_with (go_at_call 30; refine (FracError_at p q 2 _ ip iq HC.out).mono ?_; rintro e w1 ⟨rfl, hb⟩; obtain ⟨⟨r1, r2, r3, r4⟩, ⟨s1, s2, s3, s4⟩, hw, hz⟩ := two (below_undrew hb))
    refine bodyPost_ret (v := .tuple #[.agg #[.int .i64 0, .int .i64 0], .int .i64 2]) (by simp [results, Tryz.results33, go_sem, r1, r2]) rfl ⟨rfl, ?_⟩
    exact (hw.setCell (Nat.le_refl _) _).setCell (Nat.le_refl _) _
set_option maxHeartbeats 1000000 in
theorem rlowest_neg (n d : Int) (w : World) (n1 : -9223372036854775807 ≤ n) (n2 : n ≤ 9223372036854775807) (d1 : d < 0) (d2 : -9223372036854775807 ≤ d) :
    Calls Tryz.prog 33 #[.int .i64 n, .int .i64 d] w fun e w' => e = .returned (.tuple #[.agg #[.int .i64 (low n d).n, .int .i64 (low n d).d], .int .i64 (low n d).c]) ∧ Below w.heap.size w w' := by
  obtain ⟨g, p, q, hg, g1, g2, hp, hq, hq', p1, p2, q1, q2, hc, hl⟩ := gcd_parts2 (-n) (-d) (by omega) (by omega) (by omega) (by omega)
  rw [← low_neg d1] at hc hl
  have hp' : -(n.tdiv g) = p := by rw [← Int.neg_tdiv]; exact hp
  have hw' : wrap64 (-(d.tdiv g)) = q := by rw [← Int.neg_tdiv, hq']; exact IntWalk.wrap64_in q ⟨by omega, q2⟩
  have hwp : wrap64 (-(n.tdiv g)) = p := by rw [hp']; exact IntWalk.wrap64_in p ⟨by omega, p2⟩
  have HG : Hid (((gcdI (-n) (-d) : Nat) : Int) = g) := hg
  have hn1 : ¬ w.heap.size + 1 = w.heap.size := by omega
  have hn2 : ¬ w.heap.size = w.heap.size + 1 := by omega
  have ip : I64 p := ⟨by omega, p2⟩
  have iq : I64 q := ⟨by omega, q2⟩
  rcases hl with ⟨l1, l2, l3⟩ | ⟨l1, l2, l3⟩
  · rw [l1, l2, l3]
    rw [l1] at hc
    have HC : Hid (chk p q = 0) := hc
    clear l1 l2 l3 hg hc
    go_enter Tryz.func33, Tryz.ntmps33
    go_wp2_with (go_at_call 53; refine (Divisor_at _ _ g _ ⟨by omega, by omega⟩ (by omega) (by omega) HG.out).mono ?_; rintro e w' ⟨rfl, rfl⟩)
    go_region
    go_wp2_with (go_at_call 30; refine (FracError_at p q 0 _ ip iq HC.out).mono ?_; rintro e w1 ⟨rfl, hb⟩; obtain ⟨⟨r1, r2, r3, r4⟩, ⟨s1, s2, s3, s4⟩, hw, hz⟩ := two (below_undrew hb))
    refine bodyPost_ret (v := .tuple #[.agg #[.int .i64 p, .int .i64 q], .int .i64 0]) (by simp [results, Tryz.results33, go_sem, r1, r2]) rfl ⟨rfl, ?_⟩
    exact (hw.setCell (Nat.le_refl _) _).setCell (Nat.le_refl _) _
  · rw [l1, l2, l3]
    rw [l1] at hc
    have HC : Hid (chk p q = 2) := hc
    clear l1 l2 l3 hg hc
    go_enter Tryz.func33, Tryz.ntmps33
    go_wp2_with (go_at_call 53; refine (Divisor_at _ _ g _ ⟨by omega, by omega⟩ (by omega) (by omega) HG.out).mono ?_; rintro e w' ⟨rfl, rfl⟩)
    go_region
    go_wp2_with (go_at_call 30; refine (FracError_at p q 2 _ ip iq HC.out).mono ?_; rintro e w1 ⟨rfl, hb⟩; obtain ⟨⟨r1, r2, r3, r4⟩, ⟨s1, s2, s3, s4⟩, hw, hz⟩ := two (below_undrew hb))
    refine bodyPost_ret (v := .tuple #[.agg #[.int .i64 0, .int .i64 0], .int .i64 2]) (by simp [results, Tryz.results33, go_sem, r1, r2]) rfl ⟨rfl, ?_⟩
    exact (hw.setCell (Nat.le_refl _) _).setCell (Nat.le_refl _) _
theorem rlowest_any (n d : Int) (w : World) (n1 : -9223372036854775807 ≤ n) (n2 : n ≤ 9223372036854775807) (d0 : d ≠ 0) (d1 : -9223372036854775807 ≤ d) (d2 : d ≤ 9223372036854775807) :
    Calls Tryz.prog 33 #[.int .i64 n, .int .i64 d] w fun e w' => e = .returned (.tuple #[.agg #[.int .i64 (low n d).n, .int .i64 (low n d).d], .int .i64 (low n d).c]) ∧ Below w.heap.size w w' := by
  rcases Int.lt_or_gt_of_ne d0 with h0 | h0
  · exact rlowest_neg n d w n1 n2 h0 d1
  · exact rlowest_pos n d w n1 n2 h0 d2
end Go.Proofs.YtlnnpileegoglabGreatDoor

namespace Go.Proofs.YtlnnpileegoglabGreatDoor
open Go.RowKit

theorem rlowest_at (n d : Int) (r : R3) (w : World) (n1 : -9223372036854775807 ≤ n) (n2 : n ≤ 9223372036854775807) (d0 : d ≠ 0) (d1 : -9223372036854775807 ≤ d) (d2 : d ≤ 9223372036854775807) (hr : low n d = r) :
    Calls Tryz.prog 33 #[.int .i64 n, .int .i64 d] w fun e w' => e = .returned (.tuple #[.agg #[.int .i64 r.n, .int .i64 r.d], .int .i64 r.c]) ∧ Below w.heap.size w w' := by
  subst hr; exact rlowest_any n d w n1 n2 d0 d1 d2

set_option maxHeartbeats 2000000 in
theorem FracDo_add (an ad bn bd : Int) (w : World) (i1 : I64 an) (i2 : I64 ad) (i3 : I64 bn) (i4 : I64 bd) :
    Calls Tryz.prog 10 #[.int .u8 43, .agg #[.int .i64 an, .int .i64 ad], .agg #[.int .i64 bn, .int .i64 bd]] w fun e w' => e = .returned (.tuple #[.agg #[.int .i64 (add an ad bn bd).n, .int .i64 (add an ad bn bd).d], .int .i64 (add an ad bn bd).c]) ∧ Below w.heap.size w w' := by
  have hn1 : ¬ w.heap.size + 1 + 1 = w.heap.size := by omega
  have hn2 : ¬ w.heap.size = w.heap.size + 1 + 1 := by omega
  by_cases ha : chk an ad = 0
  · have HA : Hid (chk an ad = 0) := ha
    by_cases hb : chk bn bd = 0
    · have HB : Hid (chk bn bd = 0) := hb
      have hop : add an ad bn bd = low (an * bd + bn * ad) (ad * bd) := by unfold add; rw [if_neg (by simp [ha]), if_neg (by simp [hb])]
      rw [hop]
      obtain ⟨a1, _, a3, a4⟩ := chk_zero.1 ha
      obtain ⟨b1, _, b3, b4⟩ := chk_zero.1 hb
      obtain ⟨m01, m02⟩ := mul_bound a3 b4
      obtain ⟨m11, m12⟩ := mul_bound b3 a4
      obtain ⟨m21, m22⟩ := mul_bound a4 b4
      have m0 : ad * bd ≠ 0 := Int.mul_ne_zero (by omega) (by omega)
      obtain ⟨r, hr⟩ : ∃ r, low (an * bd + bn * ad) (ad * bd) = r := ⟨_, rfl⟩
      rw [hr]
      have HL : Hid (low (an * bd + bn * ad) (ad * bd) = r) := hr
      clear ha hb hop hr a1 a3 a4 b1 b3 b4
      go_enter Tryz.func10, Tryz.ntmps10
      go_wp2_with (first | (go_at_call 33; refine (rlowest_at _ _ r _ (by omega) (by omega) m0 (by omega) (by omega) HL.out).mono ?_; rintro e w3 ⟨rfl, hb3⟩; obtain ⟨t1, t2, t3, t4⟩ := Two.below ⟨s1, s2, s3, s4⟩ hb3 (Nat.le_refl _)) | (go_at_call 30; have hgd := hz; clear hgd; refine (FracError_at _ _ 0 _ i3 i4 HB.out).mono ?_; rintro e w2 ⟨rfl, hb2⟩; obtain ⟨u1, u2, u3, u4⟩ := Two.below ⟨p1, p2, p3, p4⟩ hb2 (Nat.le_refl _); obtain ⟨v1, v2, v3, v4⟩ := Two.below ⟨q1, q2, q3, q4⟩ hb2 (Nat.le_refl _); obtain ⟨s1, s2, s3, s4⟩ := Two.below ⟨r1, r2, r3, r4⟩ hb2 (Nat.le_refl _); clear p1 p2 p3 p4 q1 q2 q3 q4 r1 r2 r3 r4) | (go_at_call 30; refine (FracError_at _ _ 0 _ i1 i2 HA.out).mono ?_; rintro e w1 ⟨rfl, hb⟩; obtain ⟨⟨p1, p2, p3, p4⟩, ⟨q1, q2, q3, q4⟩, ⟨r1, r2, r3, r4⟩, hw, hz⟩ := three hb; clear hb))
      refine bodyPost_ret (v := .tuple #[.agg #[.int .i64 r.n, .int .i64 r.d], .int .i64 r.c]) (by simp [results, Tryz.results10, go_sem, t1, t2]) rfl ⟨rfl, ?_⟩
      exact (((hw.trans (hb2.mono (by omega))).trans (hb3.mono (by have := hb2.size; omega))).setCell (by simp; omega) _).setCell (by simp; omega) _
    · have hop := add_err (an := an) (ad := ad) (bn := bn) (bd := bd) (fun h => hb h.2)
      have hc2 : chk2 an ad bn bd = chk bn bd := by unfold chk2; rw [if_neg (by simp [ha])]
      rw [hop, hc2]
      obtain ⟨c, hc, hc'⟩ : ∃ c : Nat, chk bn bd = c ∧ (c = 2 ∨ c = 3) := ⟨_, rfl, by rcases chk_cases bn bd with h | h | h <;> simp_all⟩
      rw [hc]
      have HB : Hid (chk bn bd = c) := hc
      clear ha hb hop hc2 hc
      rcases hc' with rfl | rfl
      · go_enter Tryz.func10, Tryz.ntmps10
        go_wp2_with (first | (go_at_call 30; have hgd := hz; clear hgd; refine (FracError_at _ _ 2 _ i3 i4 HB.out).mono ?_; rintro e w2 ⟨rfl, hb2⟩; obtain ⟨u1, u2, u3, u4⟩ := Two.below ⟨p1, p2, p3, p4⟩ hb2 (Nat.le_refl _); obtain ⟨v1, v2, v3, v4⟩ := Two.below ⟨q1, q2, q3, q4⟩ hb2 (Nat.le_refl _); obtain ⟨s1, s2, s3, s4⟩ := Two.below ⟨r1, r2, r3, r4⟩ hb2 (Nat.le_refl _); clear p1 p2 p3 p4 q1 q2 q3 q4 r1 r2 r3 r4) | (go_at_call 30; refine (FracError_at _ _ 0 _ i1 i2 HA.out).mono ?_; rintro e w1 ⟨rfl, hb⟩; obtain ⟨⟨p1, p2, p3, p4⟩, ⟨q1, q2, q3, q4⟩, ⟨r1, r2, r3, r4⟩, hw, hz⟩ := three hb; clear hb))
        refine bodyPost_ret (v := .tuple #[.agg #[.int .i64 0, .int .i64 0], .int .i64 2]) (by simp [results, Tryz.results10, go_sem, s1, s2]) rfl ⟨rfl, ?_⟩
        exact ((hw.trans (hb2.mono (by omega))).setCell (by simp; omega) _).setCell (by simp; omega) _
      · go_enter Tryz.func10, Tryz.ntmps10
        go_wp2_with (first | (go_at_call 30; have hgd := hz; clear hgd; refine (FracError_at _ _ 3 _ i3 i4 HB.out).mono ?_; rintro e w2 ⟨rfl, hb2⟩; obtain ⟨u1, u2, u3, u4⟩ := Two.below ⟨p1, p2, p3, p4⟩ hb2 (Nat.le_refl _); obtain ⟨v1, v2, v3, v4⟩ := Two.below ⟨q1, q2, q3, q4⟩ hb2 (Nat.le_refl _); obtain ⟨s1, s2, s3, s4⟩ := Two.below ⟨r1, r2, r3, r4⟩ hb2 (Nat.le_refl _); clear p1 p2 p3 p4 q1 q2 q3 q4 r1 r2 r3 r4) | (go_at_call 30; refine (FracError_at _ _ 0 _ i1 i2 HA.out).mono ?_; rintro e w1 ⟨rfl, hb⟩; obtain ⟨⟨p1, p2, p3, p4⟩, ⟨q1, q2, q3, q4⟩, ⟨r1, r2, r3, r4⟩, hw, hz⟩ := three hb; clear hb))
        refine bodyPost_ret (v := .tuple #[.agg #[.int .i64 0, .int .i64 0], .int .i64 3]) (by simp [results, Tryz.results10, go_sem, s1, s2]) rfl ⟨rfl, ?_⟩
        exact ((hw.trans (hb2.mono (by omega))).setCell (by simp; omega) _).setCell (by simp; omega) _
  · have hop := add_err (an := an) (ad := ad) (bn := bn) (bd := bd) (fun h => ha h.1)
    have hc2 : chk2 an ad bn bd = chk an ad := by unfold chk2; rw [if_pos ha]
    rw [hop, hc2]
    obtain ⟨c, hc, hc'⟩ : ∃ c : Nat, chk an ad = c ∧ (c = 2 ∨ c = 3) := ⟨_, rfl, by rcases chk_cases an ad with h | h | h <;> simp_all⟩
    rw [hc]
    have HA : Hid (chk an ad = c) := hc
    clear ha hop hc2 hc
    rcases hc' with rfl | rfl
    · go_enter Tryz.func10, Tryz.ntmps10
      go_wp2_with (go_at_call 30; refine (FracError_at _ _ 2 _ i1 i2 HA.out).mono ?_; rintro e w1 ⟨rfl, hb⟩; obtain ⟨⟨p1, p2, p3, p4⟩, ⟨q1, q2, q3, q4⟩, ⟨r1, r2, r3, r4⟩, hw, hz⟩ := three hb; clear hb)
      refine bodyPost_ret (v := .tuple #[.agg #[.int .i64 0, .int .i64 0], .int .i64 2]) (by simp [results, Tryz.results10, go_sem, r1, r2]) rfl ⟨rfl, ?_⟩
      exact (hw.setCell (by simp; omega) _).setCell (by simp; omega) _
    · go_enter Tryz.func10, Tryz.ntmps10
      go_wp2_with (go_at_call 30; refine (FracError_at _ _ 3 _ i1 i2 HA.out).mono ?_; rintro e w1 ⟨rfl, hb⟩; obtain ⟨⟨p1, p2, p3, p4⟩, ⟨q1, q2, q3, q4⟩, ⟨r1, r2, r3, r4⟩, hw, hz⟩ := three hb; clear hb)
      refine bodyPost_ret (v := .tuple #[.agg #[.int .i64 0, .int .i64 0], .int .i64 3]) (by simp [results, Tryz.results10, go_sem, r1, r2]) rfl ⟨rfl, ?_⟩
      exact (hw.setCell (by simp; omega) _).setCell (by simp; omega) _

set_option maxHeartbeats 2000000 in
theorem FracDo_sub (an ad bn bd : Int) (w : World) (i1 : I64 an) (i2 : I64 ad) (i3 : I64 bn) (i4 : I64 bd) :
    Calls Tryz.prog 10 #[.int .u8 45, .agg #[.int .i64 an, .int .i64 ad], .agg #[.int .i64 bn, .int .i64 bd]] w fun e w' => e = .returned (.tuple #[.agg #[.int .i64 (sub an ad bn bd).n, .int .i64 (sub an ad bn bd).d], .int .i64 (sub an ad bn bd).c]) ∧ Below w.heap.size w w' := by
  have hn1 : ¬ w.heap.size + 1 + 1 = w.heap.size := by omega
  have hn2 : ¬ w.heap.size = w.heap.size + 1 + 1 := by omega
  by_cases ha : chk an ad = 0
  · have HA : Hid (chk an ad = 0) := ha
    by_cases hb : chk bn bd = 0
    · have HB : Hid (chk bn bd = 0) := hb
      have hop : sub an ad bn bd = low (an * bd - bn * ad) (ad * bd) := by unfold sub; rw [if_neg (by simp [ha]), if_neg (by simp [hb])]
      rw [hop]
      obtain ⟨a1, _, a3, a4⟩ := chk_zero.1 ha
      obtain ⟨b1, _, b3, b4⟩ := chk_zero.1 hb
      obtain ⟨m01, m02⟩ := mul_bound a3 b4
      obtain ⟨m11, m12⟩ := mul_bound b3 a4
      obtain ⟨m21, m22⟩ := mul_bound a4 b4
      have m0 : ad * bd ≠ 0 := Int.mul_ne_zero (by omega) (by omega)
      obtain ⟨r, hr⟩ : ∃ r, low (an * bd - bn * ad) (ad * bd) = r := ⟨_, rfl⟩
      rw [hr]
      have HL : Hid (low (an * bd - bn * ad) (ad * bd) = r) := hr
      clear ha hb hop hr a1 a3 a4 b1 b3 b4
      go_enter Tryz.func10, Tryz.ntmps10
      go_wp2_with (first | (go_at_call 33; refine (rlowest_at _ _ r _ (by omega) (by omega) m0 (by omega) (by omega) HL.out).mono ?_; rintro e w3 ⟨rfl, hb3⟩; obtain ⟨t1, t2, t3, t4⟩ := Two.below ⟨s1, s2, s3, s4⟩ hb3 (Nat.le_refl _)) | (go_at_call 30; have hgd := hz; clear hgd; refine (FracError_at _ _ 0 _ i3 i4 HB.out).mono ?_; rintro e w2 ⟨rfl, hb2⟩; obtain ⟨u1, u2, u3, u4⟩ := Two.below ⟨p1, p2, p3, p4⟩ hb2 (Nat.le_refl _); obtain ⟨v1, v2, v3, v4⟩ := Two.below ⟨q1, q2, q3, q4⟩ hb2 (Nat.le_refl _); obtain ⟨s1, s2, s3, s4⟩ := Two.below ⟨r1, r2, r3, r4⟩ hb2 (Nat.le_refl _); clear p1 p2 p3 p4 q1 q2 q3 q4 r1 r2 r3 r4) | (go_at_call 30; refine (FracError_at _ _ 0 _ i1 i2 HA.out).mono ?_; rintro e w1 ⟨rfl, hb⟩; obtain ⟨⟨p1, p2, p3, p4⟩, ⟨q1, q2, q3, q4⟩, ⟨r1, r2, r3, r4⟩, hw, hz⟩ := three hb; clear hb))
      refine bodyPost_ret (v := .tuple #[.agg #[.int .i64 r.n, .int .i64 r.d], .int .i64 r.c]) (by simp [results, Tryz.results10, go_sem, t1, t2]) rfl ⟨rfl, ?_⟩
      exact (((hw.trans (hb2.mono (by omega))).trans (hb3.mono (by have := hb2.size; omega))).setCell (by simp; omega) _).setCell (by simp; omega) _
    · have hop := sub_err (an := an) (ad := ad) (bn := bn) (bd := bd) (fun h => hb h.2)
      have hc2 : chk2 an ad bn bd = chk bn bd := by unfold chk2; rw [if_neg (by simp [ha])]
      rw [hop, hc2]
      obtain ⟨c, hc, hc'⟩ : ∃ c : Nat, chk bn bd = c ∧ (c = 2 ∨ c = 3) := ⟨_, rfl, by rcases chk_cases bn bd with h | h | h <;> simp_all⟩
      rw [hc]
      have HB : Hid (chk bn bd = c) := hc
      clear ha hb hop hc2 hc
      rcases hc' with rfl | rfl
      · go_enter Tryz.func10, Tryz.ntmps10
        go_wp2_with (first | (go_at_call 30; have hgd := hz; clear hgd; refine (FracError_at _ _ 2 _ i3 i4 HB.out).mono ?_; rintro e w2 ⟨rfl, hb2⟩; obtain ⟨u1, u2, u3, u4⟩ := Two.below ⟨p1, p2, p3, p4⟩ hb2 (Nat.le_refl _); obtain ⟨v1, v2, v3, v4⟩ := Two.below ⟨q1, q2, q3, q4⟩ hb2 (Nat.le_refl _); obtain ⟨s1, s2, s3, s4⟩ := Two.below ⟨r1, r2, r3, r4⟩ hb2 (Nat.le_refl _); clear p1 p2 p3 p4 q1 q2 q3 q4 r1 r2 r3 r4) | (go_at_call 30; refine (FracError_at _ _ 0 _ i1 i2 HA.out).mono ?_; rintro e w1 ⟨rfl, hb⟩; obtain ⟨⟨p1, p2, p3, p4⟩, ⟨q1, q2, q3, q4⟩, ⟨r1, r2, r3, r4⟩, hw, hz⟩ := three hb; clear hb))
        refine bodyPost_ret (v := .tuple #[.agg #[.int .i64 0, .int .i64 0], .int .i64 2]) (by simp [results, Tryz.results10, go_sem, s1, s2]) rfl ⟨rfl, ?_⟩
        exact ((hw.trans (hb2.mono (by omega))).setCell (by simp; omega) _).setCell (by simp; omega) _
      · go_enter Tryz.func10, Tryz.ntmps10
        go_wp2_with (first | (go_at_call 30; have hgd := hz; clear hgd; refine (FracError_at _ _ 3 _ i3 i4 HB.out).mono ?_; rintro e w2 ⟨rfl, hb2⟩; obtain ⟨u1, u2, u3, u4⟩ := Two.below ⟨p1, p2, p3, p4⟩ hb2 (Nat.le_refl _); obtain ⟨v1, v2, v3, v4⟩ := Two.below ⟨q1, q2, q3, q4⟩ hb2 (Nat.le_refl _); obtain ⟨s1, s2, s3, s4⟩ := Two.below ⟨r1, r2, r3, r4⟩ hb2 (Nat.le_refl _); clear p1 p2 p3 p4 q1 q2 q3 q4 r1 r2 r3 r4) | (go_at_call 30; refine (FracError_at _ _ 0 _ i1 i2 HA.out).mono ?_; rintro e w1 ⟨rfl, hb⟩; obtain ⟨⟨p1, p2, p3, p4⟩, ⟨q1, q2, q3, q4⟩, ⟨r1, r2, r3, r4⟩, hw, hz⟩ := three hb; clear hb))
        refine bodyPost_ret (v := .tuple #[.agg #[.int .i64 0, .int .i64 0], .int .i64 3]) (by simp [results, Tryz.results10, go_sem, s1, s2]) rfl ⟨rfl, ?_⟩
        exact ((hw.trans (hb2.mono (by omega))).setCell (by simp; omega) _).setCell (by simp; omega) _
  · have hop := sub_err (an := an) (ad := ad) (bn := bn) (bd := bd) (fun h => ha h.1)
    have hc2 : chk2 an ad bn bd = chk an ad := by unfold chk2; rw [if_pos ha]
    rw [hop, hc2]
    obtain ⟨c, hc, hc'⟩ : ∃ c : Nat, chk an ad = c ∧ (c = 2 ∨ c = 3) := ⟨_, rfl, by rcases chk_cases an ad with h | h | h <;> simp_all⟩
    rw [hc]
    have HA : Hid (chk an ad = c) := hc
    clear ha hop hc2 hc
    rcases hc' with rfl | rfl
    · go_enter Tryz.func10, Tryz.ntmps10
      go_wp2_with (go_at_call 30; refine (FracError_at _ _ 2 _ i1 i2 HA.out).mono ?_; rintro e w1 ⟨rfl, hb⟩; obtain ⟨⟨p1, p2, p3, p4⟩, ⟨q1, q2, q3, q4⟩, ⟨r1, r2, r3, r4⟩, hw, hz⟩ := three hb; clear hb)
      refine bodyPost_ret (v := .tuple #[.agg #[.int .i64 0, .int .i64 0], .int .i64 2]) (by simp [results, Tryz.results10, go_sem, r1, r2]) rfl ⟨rfl, ?_⟩
      exact (hw.setCell (by simp; omega) _).setCell (by simp; omega) _
    · go_enter Tryz.func10, Tryz.ntmps10
      go_wp2_with (go_at_call 30; refine (FracError_at _ _ 3 _ i1 i2 HA.out).mono ?_; rintro e w1 ⟨rfl, hb⟩; obtain ⟨⟨p1, p2, p3, p4⟩, ⟨q1, q2, q3, q4⟩, ⟨r1, r2, r3, r4⟩, hw, hz⟩ := three hb; clear hb)
      refine bodyPost_ret (v := .tuple #[.agg #[.int .i64 0, .int .i64 0], .int .i64 3]) (by simp [results, Tryz.results10, go_sem, r1, r2]) rfl ⟨rfl, ?_⟩
      exact (hw.setCell (by simp; omega) _).setCell (by simp; omega) _

set_option maxHeartbeats 2000000 in
theorem FracDo_mul (an ad bn bd : Int) (w : World) (i1 : I64 an) (i2 : I64 ad) (i3 : I64 bn) (i4 : I64 bd) :
    Calls Tryz.prog 10 #[.int .u8 42, .agg #[.int .i64 an, .int .i64 ad], .agg #[.int .i64 bn, .int .i64 bd]] w fun e w' => e = .returned (.tuple #[.agg #[.int .i64 (mul an ad bn bd).n, .int .i64 (mul an ad bn bd).d], .int .i64 (mul an ad bn bd).c]) ∧ Below w.heap.size w w' := by
  have hn1 : ¬ w.heap.size + 1 + 1 = w.heap.size := by omega
  have hn2 : ¬ w.heap.size = w.heap.size + 1 + 1 := by omega
  by_cases ha : chk an ad = 0
  · have HA : Hid (chk an ad = 0) := ha
    by_cases hb : chk bn bd = 0
    · have HB : Hid (chk bn bd = 0) := hb
      have hop : mul an ad bn bd = low (an * bn) (ad * bd) := by unfold mul; rw [if_neg (by simp [ha]), if_neg (by simp [hb])]
      rw [hop]
      obtain ⟨a1, _, a3, a4⟩ := chk_zero.1 ha
      obtain ⟨b1, _, b3, b4⟩ := chk_zero.1 hb
      obtain ⟨m01, m02⟩ := mul_bound a3 b3
      obtain ⟨m11, m12⟩ := mul_bound a4 b4
      have m0 : ad * bd ≠ 0 := Int.mul_ne_zero (by omega) (by omega)
      obtain ⟨r, hr⟩ : ∃ r, low (an * bn) (ad * bd) = r := ⟨_, rfl⟩
      rw [hr]
      have HL : Hid (low (an * bn) (ad * bd) = r) := hr
      clear ha hb hop hr a1 a3 a4 b1 b3 b4
      go_enter Tryz.func10, Tryz.ntmps10
      go_wp2_with (first | (go_at_call 33; refine (rlowest_at _ _ r _ (by omega) (by omega) m0 (by omega) (by omega) HL.out).mono ?_; rintro e w3 ⟨rfl, hb3⟩; obtain ⟨t1, t2, t3, t4⟩ := Two.below ⟨s1, s2, s3, s4⟩ hb3 (Nat.le_refl _)) | (go_at_call 30; have hgd := hz; clear hgd; refine (FracError_at _ _ 0 _ i3 i4 HB.out).mono ?_; rintro e w2 ⟨rfl, hb2⟩; obtain ⟨u1, u2, u3, u4⟩ := Two.below ⟨p1, p2, p3, p4⟩ hb2 (Nat.le_refl _); obtain ⟨v1, v2, v3, v4⟩ := Two.below ⟨q1, q2, q3, q4⟩ hb2 (Nat.le_refl _); obtain ⟨s1, s2, s3, s4⟩ := Two.below ⟨r1, r2, r3, r4⟩ hb2 (Nat.le_refl _); clear p1 p2 p3 p4 q1 q2 q3 q4 r1 r2 r3 r4) | (go_at_call 30; refine (FracError_at _ _ 0 _ i1 i2 HA.out).mono ?_; rintro e w1 ⟨rfl, hb⟩; obtain ⟨⟨p1, p2, p3, p4⟩, ⟨q1, q2, q3, q4⟩, ⟨r1, r2, r3, r4⟩, hw, hz⟩ := three hb; clear hb))
      refine bodyPost_ret (v := .tuple #[.agg #[.int .i64 r.n, .int .i64 r.d], .int .i64 r.c]) (by simp [results, Tryz.results10, go_sem, t1, t2]) rfl ⟨rfl, ?_⟩
      exact (((hw.trans (hb2.mono (by omega))).trans (hb3.mono (by have := hb2.size; omega))).setCell (by simp; omega) _).setCell (by simp; omega) _
    · have hop := mul_err (an := an) (ad := ad) (bn := bn) (bd := bd) (fun h => hb h.2)
      have hc2 : chk2 an ad bn bd = chk bn bd := by unfold chk2; rw [if_neg (by simp [ha])]
      rw [hop, hc2]
      obtain ⟨c, hc, hc'⟩ : ∃ c : Nat, chk bn bd = c ∧ (c = 2 ∨ c = 3) := ⟨_, rfl, by rcases chk_cases bn bd with h | h | h <;> simp_all⟩
      rw [hc]
      have HB : Hid (chk bn bd = c) := hc
      clear ha hb hop hc2 hc
      rcases hc' with rfl | rfl
      · go_enter Tryz.func10, Tryz.ntmps10
        go_wp2_with (first | (go_at_call 30; have hgd := hz; clear hgd; refine (FracError_at _ _ 2 _ i3 i4 HB.out).mono ?_; rintro e w2 ⟨rfl, hb2⟩; obtain ⟨u1, u2, u3, u4⟩ := Two.below ⟨p1, p2, p3, p4⟩ hb2 (Nat.le_refl _); obtain ⟨v1, v2, v3, v4⟩ := Two.below ⟨q1, q2, q3, q4⟩ hb2 (Nat.le_refl _); obtain ⟨s1, s2, s3, s4⟩ := Two.below ⟨r1, r2, r3, r4⟩ hb2 (Nat.le_refl _); clear p1 p2 p3 p4 q1 q2 q3 q4 r1 r2 r3 r4) | (go_at_call 30; refine (FracError_at _ _ 0 _ i1 i2 HA.out).mono ?_; rintro e w1 ⟨rfl, hb⟩; obtain ⟨⟨p1, p2, p3, p4⟩, ⟨q1, q2, q3, q4⟩, ⟨r1, r2, r3, r4⟩, hw, hz⟩ := three hb; clear hb))
        refine bodyPost_ret (v := .tuple #[.agg #[.int .i64 0, .int .i64 0], .int .i64 2]) (by simp [results, Tryz.results10, go_sem, s1, s2]) rfl ⟨rfl, ?_⟩
        exact ((hw.trans (hb2.mono (by omega))).setCell (by simp; omega) _).setCell (by simp; omega) _
      · go_enter Tryz.func10, Tryz.ntmps10
        go_wp2_with (first | (go_at_call 30; have hgd := hz; clear hgd; refine (FracError_at _ _ 3 _ i3 i4 HB.out).mono ?_; rintro e w2 ⟨rfl, hb2⟩; obtain ⟨u1, u2, u3, u4⟩ := Two.below ⟨p1, p2, p3, p4⟩ hb2 (Nat.le_refl _); obtain ⟨v1, v2, v3, v4⟩ := Two.below ⟨q1, q2, q3, q4⟩ hb2 (Nat.le_refl _); obtain ⟨s1, s2, s3, s4⟩ := Two.below ⟨r1, r2, r3, r4⟩ hb2 (Nat.le_refl _); clear p1 p2 p3 p4 q1 q2 q3 q4 r1 r2 r3 r4) | (go_at_call 30; refine (FracError_at _ _ 0 _ i1 i2 HA.out).mono ?_; rintro e w1 ⟨rfl, hb⟩; obtain ⟨⟨p1, p2, p3, p4⟩, ⟨q1, q2, q3, q4⟩, ⟨r1, r2, r3, r4⟩, hw, hz⟩ := three hb; clear hb))
        refine bodyPost_ret (v := .tuple #[.agg #[.int .i64 0, .int .i64 0], .int .i64 3]) (by simp [results, Tryz.results10, go_sem, s1, s2]) rfl ⟨rfl, ?_⟩
        exact ((hw.trans (hb2.mono (by omega))).setCell (by simp; omega) _).setCell (by simp; omega) _
  · have hop := mul_err (an := an) (ad := ad) (bn := bn) (bd := bd) (fun h => ha h.1)
    have hc2 : chk2 an ad bn bd = chk an ad := by unfold chk2; rw [if_pos ha]
    rw [hop, hc2]
    obtain ⟨c, hc, hc'⟩ : ∃ c : Nat, chk an ad = c ∧ (c = 2 ∨ c = 3) := ⟨_, rfl, by rcases chk_cases an ad with h | h | h <;> simp_all⟩
    rw [hc]
    have HA : Hid (chk an ad = c) := hc
    clear ha hop hc2 hc
    rcases hc' with rfl | rfl
    · go_enter Tryz.func10, Tryz.ntmps10
      go_wp2_with (go_at_call 30; refine (FracError_at _ _ 2 _ i1 i2 HA.out).mono ?_; rintro e w1 ⟨rfl, hb⟩; obtain ⟨⟨p1, p2, p3, p4⟩, ⟨q1, q2, q3, q4⟩, ⟨r1, r2, r3, r4⟩, hw, hz⟩ := three hb; clear hb)
      refine bodyPost_ret (v := .tuple #[.agg #[.int .i64 0, .int .i64 0], .int .i64 2]) (by simp [results, Tryz.results10, go_sem, r1, r2]) rfl ⟨rfl, ?_⟩
      exact (hw.setCell (by simp; omega) _).setCell (by simp; omega) _
    · go_enter Tryz.func10, Tryz.ntmps10
      go_wp2_with (go_at_call 30; refine (FracError_at _ _ 3 _ i1 i2 HA.out).mono ?_; rintro e w1 ⟨rfl, hb⟩; obtain ⟨⟨p1, p2, p3, p4⟩, ⟨q1, q2, q3, q4⟩, ⟨r1, r2, r3, r4⟩, hw, hz⟩ := three hb; clear hb)
      refine bodyPost_ret (v := .tuple #[.agg #[.int .i64 0, .int .i64 0], .int .i64 3]) (by simp [results, Tryz.results10, go_sem, r1, r2]) rfl ⟨rfl, ?_⟩
      exact (hw.setCell (by simp; omega) _).setCell (by simp; omega) _

set_option maxHeartbeats 2000000 in
theorem FracDo_div (an ad bn bd : Int) (w : World) (i1 : I64 an) (i2 : I64 ad) (i3 : I64 bn) (i4 : I64 bd) :
    Calls Tryz.prog 10 #[.int .u8 47, .agg #[.int .i64 an, .int .i64 ad], .agg #[.int .i64 bn, .int .i64 bd]] w fun e w' => e = .returned (.tuple #[.agg #[.int .i64 (div an ad bn bd).n, .int .i64 (div an ad bn bd).d], .int .i64 (div an ad bn bd).c]) ∧ Below w.heap.size w w' := by
  have hn1 : ¬ w.heap.size + 1 + 1 = w.heap.size := by omega
  have hn2 : ¬ w.heap.size = w.heap.size + 1 + 1 := by omega
  by_cases ha : chk an ad = 0
  · have HA : Hid (chk an ad = 0) := ha
    by_cases hb : chk bn bd = 0
    · have HB : Hid (chk bn bd = 0) := hb
      by_cases hz0 : bn = 0
      · subst hz0
        have hop : div an ad 0 bd = ⟨0, 0, 11⟩ := by unfold div; rw [if_neg (by simp [ha]), if_neg (by simp [hb]), if_pos rfl]
        rw [hop]
        clear ha hb hop
        go_enter Tryz.func10, Tryz.ntmps10
        go_wp2_with (first | (go_at_call 30; have hgd := hz; clear hgd; refine (FracError_at _ _ 0 _ i3 i4 HB.out).mono ?_; rintro e w2 ⟨rfl, hb2⟩; obtain ⟨u1, u2, u3, u4⟩ := Two.below ⟨p1, p2, p3, p4⟩ hb2 (Nat.le_refl _); obtain ⟨v1, v2, v3, v4⟩ := Two.below ⟨q1, q2, q3, q4⟩ hb2 (Nat.le_refl _); obtain ⟨s1, s2, s3, s4⟩ := Two.below ⟨r1, r2, r3, r4⟩ hb2 (Nat.le_refl _); clear p1 p2 p3 p4 q1 q2 q3 q4 r1 r2 r3 r4) | (go_at_call 30; refine (FracError_at _ _ 0 _ i1 i2 HA.out).mono ?_; rintro e w1 ⟨rfl, hb⟩; obtain ⟨⟨p1, p2, p3, p4⟩, ⟨q1, q2, q3, q4⟩, ⟨r1, r2, r3, r4⟩, hw, hz⟩ := three hb; clear hb))
        refine bodyPost_ret (v := .tuple #[.agg #[.int .i64 0, .int .i64 0], .int .i64 11]) (by simp [results, Tryz.results10, go_sem, s1, s2]) rfl ⟨rfl, ?_⟩
        exact ((hw.trans (hb2.mono (by omega))).setCell (by simp; omega) _).setCell (by simp; omega) _
      have hop : div an ad bn bd = low (an * bd) (ad * bn) := by unfold div; rw [if_neg (by simp [ha]), if_neg (by simp [hb]), if_neg hz0]
      rw [hop]
      obtain ⟨a1, _, a3, a4⟩ := chk_zero.1 ha
      obtain ⟨b1, _, b3, b4⟩ := chk_zero.1 hb
      obtain ⟨m01, m02⟩ := mul_bound a3 b4
      obtain ⟨m11, m12⟩ := mul_bound a4 b3
      have m0 : ad * bn ≠ 0 := Int.mul_ne_zero (by omega) hz0
      obtain ⟨r, hr⟩ : ∃ r, low (an * bd) (ad * bn) = r := ⟨_, rfl⟩
      rw [hr]
      have HL : Hid (low (an * bd) (ad * bn) = r) := hr
      clear ha hb hop hr a1 a3 a4 b1 b3 b4
      go_enter Tryz.func10, Tryz.ntmps10
      go_wp2_with (first | (go_at_call 33; refine (rlowest_at _ _ r _ (by omega) (by omega) m0 (by omega) (by omega) HL.out).mono ?_; rintro e w3 ⟨rfl, hb3⟩; obtain ⟨t1, t2, t3, t4⟩ := Two.below ⟨s1, s2, s3, s4⟩ hb3 (Nat.le_refl _)) | (go_at_call 30; have hgd := hz; clear hgd; refine (FracError_at _ _ 0 _ i3 i4 HB.out).mono ?_; rintro e w2 ⟨rfl, hb2⟩; obtain ⟨u1, u2, u3, u4⟩ := Two.below ⟨p1, p2, p3, p4⟩ hb2 (Nat.le_refl _); obtain ⟨v1, v2, v3, v4⟩ := Two.below ⟨q1, q2, q3, q4⟩ hb2 (Nat.le_refl _); obtain ⟨s1, s2, s3, s4⟩ := Two.below ⟨r1, r2, r3, r4⟩ hb2 (Nat.le_refl _); clear p1 p2 p3 p4 q1 q2 q3 q4 r1 r2 r3 r4) | (go_at_call 30; refine (FracError_at _ _ 0 _ i1 i2 HA.out).mono ?_; rintro e w1 ⟨rfl, hb⟩; obtain ⟨⟨p1, p2, p3, p4⟩, ⟨q1, q2, q3, q4⟩, ⟨r1, r2, r3, r4⟩, hw, hz⟩ := three hb; clear hb))
      refine bodyPost_ret (v := .tuple #[.agg #[.int .i64 r.n, .int .i64 r.d], .int .i64 r.c]) (by simp [results, Tryz.results10, go_sem, t1, t2]) rfl ⟨rfl, ?_⟩
      exact (((hw.trans (hb2.mono (by omega))).trans (hb3.mono (by have := hb2.size; omega))).setCell (by simp; omega) _).setCell (by simp; omega) _
    · have hop := div_err (an := an) (ad := ad) (bn := bn) (bd := bd) (fun h => hb h.2)
      have hc2 : chk2 an ad bn bd = chk bn bd := by unfold chk2; rw [if_neg (by simp [ha])]
      rw [hop, hc2]
      obtain ⟨c, hc, hc'⟩ : ∃ c : Nat, chk bn bd = c ∧ (c = 2 ∨ c = 3) := ⟨_, rfl, by rcases chk_cases bn bd with h | h | h <;> simp_all⟩
      rw [hc]
      have HB : Hid (chk bn bd = c) := hc
      clear ha hb hop hc2 hc
      rcases hc' with rfl | rfl
      · go_enter Tryz.func10, Tryz.ntmps10
        go_wp2_with (first | (go_at_call 30; have hgd := hz; clear hgd; refine (FracError_at _ _ 2 _ i3 i4 HB.out).mono ?_; rintro e w2 ⟨rfl, hb2⟩; obtain ⟨u1, u2, u3, u4⟩ := Two.below ⟨p1, p2, p3, p4⟩ hb2 (Nat.le_refl _); obtain ⟨v1, v2, v3, v4⟩ := Two.below ⟨q1, q2, q3, q4⟩ hb2 (Nat.le_refl _); obtain ⟨s1, s2, s3, s4⟩ := Two.below ⟨r1, r2, r3, r4⟩ hb2 (Nat.le_refl _); clear p1 p2 p3 p4 q1 q2 q3 q4 r1 r2 r3 r4) | (go_at_call 30; refine (FracError_at _ _ 0 _ i1 i2 HA.out).mono ?_; rintro e w1 ⟨rfl, hb⟩; obtain ⟨⟨p1, p2, p3, p4⟩, ⟨q1, q2, q3, q4⟩, ⟨r1, r2, r3, r4⟩, hw, hz⟩ := three hb; clear hb))
        refine bodyPost_ret (v := .tuple #[.agg #[.int .i64 0, .int .i64 0], .int .i64 2]) (by simp [results, Tryz.results10, go_sem, s1, s2]) rfl ⟨rfl, ?_⟩
        exact ((hw.trans (hb2.mono (by omega))).setCell (by simp; omega) _).setCell (by simp; omega) _
      · go_enter Tryz.func10, Tryz.ntmps10
        go_wp2_with (first | (go_at_call 30; have hgd := hz; clear hgd; refine (FracError_at _ _ 3 _ i3 i4 HB.out).mono ?_; rintro e w2 ⟨rfl, hb2⟩; obtain ⟨u1, u2, u3, u4⟩ := Two.below ⟨p1, p2, p3, p4⟩ hb2 (Nat.le_refl _); obtain ⟨v1, v2, v3, v4⟩ := Two.below ⟨q1, q2, q3, q4⟩ hb2 (Nat.le_refl _); obtain ⟨s1, s2, s3, s4⟩ := Two.below ⟨r1, r2, r3, r4⟩ hb2 (Nat.le_refl _); clear p1 p2 p3 p4 q1 q2 q3 q4 r1 r2 r3 r4) | (go_at_call 30; refine (FracError_at _ _ 0 _ i1 i2 HA.out).mono ?_; rintro e w1 ⟨rfl, hb⟩; obtain ⟨⟨p1, p2, p3, p4⟩, ⟨q1, q2, q3, q4⟩, ⟨r1, r2, r3, r4⟩, hw, hz⟩ := three hb; clear hb))
        refine bodyPost_ret (v := .tuple #[.agg #[.int .i64 0, .int .i64 0], .int .i64 3]) (by simp [results, Tryz.results10, go_sem, s1, s2]) rfl ⟨rfl, ?_⟩
        exact ((hw.trans (hb2.mono (by omega))).setCell (by simp; omega) _).setCell (by simp; omega) _
  · have hop := div_err (an := an) (ad := ad) (bn := bn) (bd := bd) (fun h => ha h.1)
    have hc2 : chk2 an ad bn bd = chk an ad := by unfold chk2; rw [if_pos ha]
    rw [hop, hc2]
    obtain ⟨c, hc, hc'⟩ : ∃ c : Nat, chk an ad = c ∧ (c = 2 ∨ c = 3) := ⟨_, rfl, by rcases chk_cases an ad with h | h | h <;> simp_all⟩
    rw [hc]
    have HA : Hid (chk an ad = c) := hc
    clear ha hop hc2 hc
    rcases hc' with rfl | rfl
    · go_enter Tryz.func10, Tryz.ntmps10
      go_wp2_with (go_at_call 30; refine (FracError_at _ _ 2 _ i1 i2 HA.out).mono ?_; rintro e w1 ⟨rfl, hb⟩; obtain ⟨⟨p1, p2, p3, p4⟩, ⟨q1, q2, q3, q4⟩, ⟨r1, r2, r3, r4⟩, hw, hz⟩ := three hb; clear hb)
      refine bodyPost_ret (v := .tuple #[.agg #[.int .i64 0, .int .i64 0], .int .i64 2]) (by simp [results, Tryz.results10, go_sem, r1, r2]) rfl ⟨rfl, ?_⟩
      exact (hw.setCell (by simp; omega) _).setCell (by simp; omega) _
    · go_enter Tryz.func10, Tryz.ntmps10
      go_wp2_with (go_at_call 30; refine (FracError_at _ _ 3 _ i1 i2 HA.out).mono ?_; rintro e w1 ⟨rfl, hb⟩; obtain ⟨⟨p1, p2, p3, p4⟩, ⟨q1, q2, q3, q4⟩, ⟨r1, r2, r3, r4⟩, hw, hz⟩ := three hb; clear hb)
      refine bodyPost_ret (v := .tuple #[.agg #[.int .i64 0, .int .i64 0], .int .i64 3]) (by simp [results, Tryz.results10, go_sem, r1, r2]) rfl ⟨rfl, ?_⟩
      exact (hw.setCell (by simp; omega) _).setCell (by simp; omega) _
end Go.Proofs.YtlnnpileegoglabGreatDoor

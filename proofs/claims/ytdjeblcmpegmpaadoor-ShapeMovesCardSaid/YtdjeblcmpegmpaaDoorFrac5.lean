/-
  The walks of package frac's Sub, Mul, Div and Cmp, for every two fractions.
-/
import Derived.Test.YtdjeblcmpegmpaaDoorFrac4
namespace Go.Proofs.YtdjeblcmpegmpaaDoor
open Go.RowKit

theorem chk_neg {n d : Int} (h : chk n d = 0) : chk (-n) d = 0 := by
  rw [chk_zero] at h ⊢
  unfold gcdI at *
  rw [Int.natAbs_neg]; exact h
theorem add_neg {an ad bn bd : Int} (ha : chk an ad = 0) (hb : chk bn bd = 0) : add an ad (-bn) bd = sub an ad bn bd := by
  unfold add sub
  rw [if_neg (by simp [ha]), if_neg (by simp [chk_neg hb]), if_neg (by simp [ha]), if_neg (by simp [hb])]
  congr 1
  grind

set_option maxHeartbeats 1000000 in
theorem Sub_any (aB aS aZ : Addr) (an ad bn bd : Int) (w : World) (i1 : I64 an) (i2 : I64 ad) (i3 : I64 bn) (i4 : I64 bd) (h : E3 aB aS aZ w) :
    Calls Tryd.prog 32 #[.agg #[.int .i64 an, .int .i64 ad], .agg #[.int .i64 bn, .int .i64 bd]] w fun e w' => e = .returned (.tuple #[.agg #[.int .i64 (sub an ad bn bd).n, .int .i64 (sub an ad bn bd).d], er aB aS aZ (sub an ad bn bd).c]) ∧ Below w.heap.size w w' := by
  rcases chk2_cases an ad bn bd with ⟨ha, hb⟩ | hbad
  · have HA : Hid (chk an ad = 0) := ha
    have HB : Hid (chk bn bd = 0) := hb
    have HN : Hid (chk (-bn) bd = 0) := chk_neg hb
    obtain ⟨_, _, b3, _⟩ := chk_zero.1 hb
    have b31 : -1073741824 ≤ bn := by omega
    have b32 : bn ≤ 1073741824 := by omega
    rw [← add_neg ha hb]
    clear ha hb b3
    go_enter Tryd.func32, Tryd.ntmps32
    go_wp2_with (first | (go_at_call 52; refine (checkBoth_ok aB aS aZ _ _ _ _ _ i1 i2 i3 i4 ?_ HA.out HB.out).mono ?_; exact ((h.alloc _).alloc _).alloc _; rintro e w1 ⟨rfl, hb⟩; obtain ⟨⟨p1, p2, p3, p4⟩, ⟨q1, q2, q3, q4⟩, ⟨r1, r2, r3, r4⟩, hw, hz⟩ := three hb; clear hb) | (go_at_call 53; refine (sum_any aB aS aZ _ _ _ _ _ HA.out HN.out ?_).mono ?_; exact h.below hw (Nat.le_refl _); rintro e w2 ⟨rfl, hb2⟩; obtain ⟨s1, s2, s3, s4⟩ := Two.below ⟨r1, r2, r3, r4⟩ hb2 (Nat.le_refl _)))
    refine bodyPost_ret (v := .tuple #[.agg #[.int .i64 (add an ad (-bn) bd).n, .int .i64 (add an ad (-bn) bd).d], er aB aS aZ (add an ad (-bn) bd).c]) (by simp [results, Tryd.results32, go_sem, s1, s2]) rfl ⟨rfl, ?_⟩
    exact ((hw.trans (hb2.mono (by omega))).setCell (by simp; omega) _).setCell (by simp; omega) _
  · obtain ⟨a, ha⟩ := er_cases aB aS aZ hbad
    have hr := sub_err (an := an) (ad := ad) (bn := bn) (bd := bd) (by rintro ⟨h1, h2⟩; unfold chk2 at hbad; simp [h1, h2] at hbad)
    rw [hr, ha]
    have HA : Hid (er aB aS aZ (chk2 an ad bn bd) = .iface 108 (.pointer (some a))) := ha
    clear ha hr hbad
    go_enter Tryd.func32, Tryd.ntmps32
    go_wp2_with (go_at_call 52; refine (checkBoth_no aB aS aZ _ _ _ _ a _ i1 i2 i3 i4 ?_ HA.out).mono ?_; exact ((h.alloc _).alloc _).alloc _; rintro e w1 ⟨rfl, hb⟩; obtain ⟨⟨p1, p2, p3, p4⟩, ⟨q1, q2, q3, q4⟩, ⟨r1, r2, r3, r4⟩, hw, hz⟩ := three hb; clear hb)
    refine bodyPost_ret (v := .tuple #[.agg #[.int .i64 0, .int .i64 0], .iface 108 (.pointer (some a))]) (by simp [results, Tryd.results32, go_sem, r1, r2]) rfl ⟨rfl, ?_⟩
    exact (hw.setCell (by simp; omega) _).setCell (by simp; omega) _

set_option maxHeartbeats 1000000 in
theorem Mul_any (aB aS aZ : Addr) (an ad bn bd : Int) (w : World) (i1 : I64 an) (i2 : I64 ad) (i3 : I64 bn) (i4 : I64 bd) (h : E3 aB aS aZ w) :
    Calls Tryd.prog 33 #[.agg #[.int .i64 an, .int .i64 ad], .agg #[.int .i64 bn, .int .i64 bd]] w fun e w' => e = .returned (.tuple #[.agg #[.int .i64 (mul an ad bn bd).n, .int .i64 (mul an ad bn bd).d], er aB aS aZ (mul an ad bn bd).c]) ∧ Below w.heap.size w w' := by
  rcases chk2_cases an ad bn bd with ⟨ha, hb⟩ | hbad
  · have HA : Hid (chk an ad = 0) := ha
    have HB : Hid (chk bn bd = 0) := hb
    have hmul : mul an ad bn bd = low (an * bn) (ad * bd) := by unfold mul; rw [if_neg (by simp [ha]), if_neg (by simp [hb])]
    rw [hmul]
    obtain ⟨a1, _, a3, a4⟩ := chk_zero.1 ha
    obtain ⟨b1, _, b3, b4⟩ := chk_zero.1 hb
    obtain ⟨m11, m12⟩ := mul_bound a3 b3
    obtain ⟨m31, m32⟩ := mul_bound a4 b4
    have m0 : ad * bd ≠ 0 := Int.mul_ne_zero (by omega) (by omega)
    have hn1 : ¬ w.heap.size + 1 + 1 = w.heap.size := by omega
    have hn2 : ¬ w.heap.size = w.heap.size + 1 + 1 := by omega
    clear ha hb hmul a1 a3 a4 b1 b3 b4
    go_enter Tryd.func33, Tryd.ntmps33
    go_wp2_with (go_at_call 52; refine (checkBoth_ok aB aS aZ _ _ _ _ _ i1 i2 i3 i4 ?_ HA.out HB.out).mono ?_; exact ((h.alloc _).alloc _).alloc _; rintro e w1 ⟨rfl, hb⟩; obtain ⟨⟨p1, p2, p3, p4⟩, ⟨q1, q2, q3, q4⟩, ⟨r1, r2, r3, r4⟩, hw, hz⟩ := three hb; clear hb)
    go_region_held3 (fun w' => w'.cell? ⟨w.heap.size, 0, none⟩ = some (.int .i64 an) ∧ w'.cell? ⟨w.heap.size, 1, none⟩ = some (.int .i64 ad) ∧ w'.cell? ⟨w.heap.size + 1, 0, none⟩ = some (.int .i64 bn) ∧ w'.cell? ⟨w.heap.size + 1, 1, none⟩ = some (.int .i64 bd)) (go_keep) (first | (go_at_call 55; refine (times_any _ _ _ (by omega) (by omega)).mono ?_; rintro e w' ⟨rfl, rfl⟩) | (go_at_call 54; refine (lowest_any aB aS aZ _ _ _ (by omega) (by omega) m0 (by omega) (by omega) ?_).mono ?_; exact (h.below hw (Nat.le_refl _)).drewN 1; rintro e w2 ⟨rfl, hb2⟩; obtain ⟨s1, s2, s3, s4⟩ := Two.below (Two.drewN ⟨r1, r2, r3, r4⟩ 1) hb2 (Nat.le_refl _); obtain ⟨u1, u2, u3, u4⟩ := Two.below (Two.drewN ⟨p1, p2, p3, p4⟩ 1) hb2 (Nat.le_refl _); obtain ⟨v1, v2, v3, v4⟩ := Two.below (Two.drewN ⟨q1, q2, q3, q4⟩ 1) hb2 (Nat.le_refl _)))
    go_wp2
    refine bodyPost_ret (v := .tuple #[.agg #[.int .i64 (low (an * bn) (ad * bd)).n, .int .i64 (low (an * bn) (ad * bd)).d], er aB aS aZ (low (an * bn) (ad * bd)).c]) (by simp [results, Tryd.results33, go_sem, s1, s2]) rfl ⟨rfl, ?_⟩
    exact ((hw.drew.trans (hb2.mono (by simp; omega))).setCell (by simp; omega) _).setCell (by simp; omega) _
  · obtain ⟨a, ha⟩ := er_cases aB aS aZ hbad
    have hr := mul_err (an := an) (ad := ad) (bn := bn) (bd := bd) (by rintro ⟨h1, h2⟩; unfold chk2 at hbad; simp [h1, h2] at hbad)
    rw [hr, ha]
    have HA : Hid (er aB aS aZ (chk2 an ad bn bd) = .iface 108 (.pointer (some a))) := ha
    clear ha hr hbad
    go_enter Tryd.func33, Tryd.ntmps33
    go_wp2_with (go_at_call 52; refine (checkBoth_no aB aS aZ _ _ _ _ a _ i1 i2 i3 i4 ?_ HA.out).mono ?_; exact ((h.alloc _).alloc _).alloc _; rintro e w1 ⟨rfl, hb⟩; obtain ⟨⟨p1, p2, p3, p4⟩, ⟨q1, q2, q3, q4⟩, ⟨r1, r2, r3, r4⟩, hw, hz⟩ := three hb; clear hb)
    refine bodyPost_ret (v := .tuple #[.agg #[.int .i64 0, .int .i64 0], .iface 108 (.pointer (some a))]) (by simp [results, Tryd.results33, go_sem, r1, r2]) rfl ⟨rfl, ?_⟩
    exact (hw.setCell (by simp; omega) _).setCell (by simp; omega) _
set_option maxHeartbeats 1000000 in
theorem Div_any (aB aS aZ : Addr) (an ad bn bd : Int) (w : World) (i1 : I64 an) (i2 : I64 ad) (i3 : I64 bn) (i4 : I64 bd) (h : E3 aB aS aZ w) (hZ : EZ aZ w) :
    Calls Tryd.prog 34 #[.agg #[.int .i64 an, .int .i64 ad], .agg #[.int .i64 bn, .int .i64 bd]] w fun e w' => e = .returned (.tuple #[.agg #[.int .i64 (div an ad bn bd).n, .int .i64 (div an ad bn bd).d], er aB aS aZ (div an ad bn bd).c]) ∧ Below w.heap.size w w' := by
  rcases chk2_cases an ad bn bd with ⟨ha, hb⟩ | hbad
  · have HA : Hid (chk an ad = 0) := ha
    have HB : Hid (chk bn bd = 0) := hb
    obtain ⟨a1, _, a3, a4⟩ := chk_zero.1 ha
    obtain ⟨b1, _, b3, b4⟩ := chk_zero.1 hb
    obtain ⟨m11, m12⟩ := mul_bound a3 b4
    obtain ⟨m31, m32⟩ := mul_bound a4 b3
    have hn1 : ¬ w.heap.size + 1 + 1 = w.heap.size := by omega
    have hn2 : ¬ w.heap.size = w.heap.size + 1 + 1 := by omega
    by_cases hz0 : bn = 0
    · subst hz0
      have hdiv : div an ad 0 bd = ⟨0, 0, 11⟩ := by unfold div; rw [if_neg (by simp [ha]), if_neg (by simp [hb]), if_pos rfl]
      rw [hdiv]
      have hlt := cell_lt hZ.z
      simp only at hlt
      have hne : ¬ w.heap.size = 1 := by omega
      have hne' : ¬ 1 = w.heap.size := by omega
      have hne1 : ¬ w.heap.size + 1 + 1 = 1 := by omega
      have hne1' : ¬ 1 = w.heap.size + 1 + 1 := by omega
      clear ha hb hdiv a1 a3 a4 b1 b3 b4 m11 m12 m31 m32
      go_enter Tryd.func34, Tryd.ntmps34
      go_wp2_with (go_at_call 52; refine (checkBoth_ok aB aS aZ _ _ _ _ _ i1 i2 i3 i4 ?_ HA.out HB.out).mono ?_; exact ((h.alloc _).alloc _).alloc _; rintro e w1 ⟨rfl, hb⟩; obtain ⟨⟨p1, p2, p3, p4⟩, ⟨q1, q2, q3, q4⟩, ⟨r1, r2, r3, r4⟩, hw, hz⟩ := three hb; have hcz := (hZ.below hw (Nat.le_refl _)).z; clear hb)
      go_region
      go_wp2
      refine bodyPost_ret (v := .tuple #[.agg #[.int .i64 0, .int .i64 0], .iface 108 (.pointer (some aZ))]) (by simp [results, Tryd.results34, go_sem, r1, r2]) rfl ⟨rfl, ?_⟩
      exact (hw.drew.setCell (by simp; omega) _).setCell (by simp; omega) _
    have hdiv : div an ad bn bd = low (an * bd) (ad * bn) := by unfold div; rw [if_neg (by simp [ha]), if_neg (by simp [hb]), if_neg hz0]
    rw [hdiv]
    have m0 : ad * bn ≠ 0 := Int.mul_ne_zero (by omega) hz0
    clear ha hb hdiv a1 a3 a4 b1 b3 b4
    go_enter Tryd.func34, Tryd.ntmps34
    go_wp2_with (go_at_call 52; refine (checkBoth_ok aB aS aZ _ _ _ _ _ i1 i2 i3 i4 ?_ HA.out HB.out).mono ?_; exact ((h.alloc _).alloc _).alloc _; rintro e w1 ⟨rfl, hb⟩; obtain ⟨⟨p1, p2, p3, p4⟩, ⟨q1, q2, q3, q4⟩, ⟨r1, r2, r3, r4⟩, hw, hz⟩ := three hb; clear hb)
    go_region_held3 (fun w' => w'.cell? ⟨w.heap.size, 0, none⟩ = some (.int .i64 an) ∧ w'.cell? ⟨w.heap.size, 1, none⟩ = some (.int .i64 ad) ∧ w'.cell? ⟨w.heap.size + 1, 0, none⟩ = some (.int .i64 bn) ∧ w'.cell? ⟨w.heap.size + 1, 1, none⟩ = some (.int .i64 bd)) (go_keep) (first | (go_at_call 55; refine (times_any _ _ _ (by omega) (by omega)).mono ?_; rintro e w' ⟨rfl, rfl⟩) | (go_at_call 54; refine (lowest_any aB aS aZ _ _ _ (by omega) (by omega) m0 (by omega) (by omega) ?_).mono ?_; exact (h.below hw (Nat.le_refl _)).drewN 1; rintro e w2 ⟨rfl, hb2⟩; obtain ⟨s1, s2, s3, s4⟩ := Two.below (Two.drewN ⟨r1, r2, r3, r4⟩ 1) hb2 (Nat.le_refl _); obtain ⟨u1, u2, u3, u4⟩ := Two.below (Two.drewN ⟨p1, p2, p3, p4⟩ 1) hb2 (Nat.le_refl _); obtain ⟨v1, v2, v3, v4⟩ := Two.below (Two.drewN ⟨q1, q2, q3, q4⟩ 1) hb2 (Nat.le_refl _)))
    go_wp2
    refine bodyPost_ret (v := .tuple #[.agg #[.int .i64 (low (an * bd) (ad * bn)).n, .int .i64 (low (an * bd) (ad * bn)).d], er aB aS aZ (low (an * bd) (ad * bn)).c]) (by simp [results, Tryd.results34, go_sem, s1, s2]) rfl ⟨rfl, ?_⟩
    exact ((hw.drew.trans (hb2.mono (by simp; omega))).setCell (by simp; omega) _).setCell (by simp; omega) _
  · obtain ⟨a, ha⟩ := er_cases aB aS aZ hbad
    have hr := div_err (an := an) (ad := ad) (bn := bn) (bd := bd) (by rintro ⟨h1, h2⟩; unfold chk2 at hbad; simp [h1, h2] at hbad)
    rw [hr, ha]
    have HA : Hid (er aB aS aZ (chk2 an ad bn bd) = .iface 108 (.pointer (some a))) := ha
    clear ha hr hbad
    go_enter Tryd.func34, Tryd.ntmps34
    go_wp2_with (go_at_call 52; refine (checkBoth_no aB aS aZ _ _ _ _ a _ i1 i2 i3 i4 ?_ HA.out).mono ?_; exact ((h.alloc _).alloc _).alloc _; rintro e w1 ⟨rfl, hb⟩; obtain ⟨⟨p1, p2, p3, p4⟩, ⟨q1, q2, q3, q4⟩, ⟨r1, r2, r3, r4⟩, hw, hz⟩ := three hb; clear hb)
    refine bodyPost_ret (v := .tuple #[.agg #[.int .i64 0, .int .i64 0], .iface 108 (.pointer (some a))]) (by simp [results, Tryd.results34, go_sem, r1, r2]) rfl ⟨rfl, ?_⟩
    exact (hw.setCell (by simp; omega) _).setCell (by simp; omega) _

theorem two {w w1 : World} {x0 x1 y0 y1 : Value} {t t' : TypeId} (hb : Below ((w.alloc (.cells #[x0, x1] t)).alloc (.cells #[y0, y1] t')).heap.size ((w.alloc (.cells #[x0, x1] t)).alloc (.cells #[y0, y1] t')) w1) :
    Two w1 w.heap.size x0 x1 ∧ Two w1 (w.heap.size + 1) y0 y1 ∧ Below w.heap.size w w1 ∧ w.heap.size + 1 + 1 ≤ w1.heap.size := by
  refine ⟨((Two.new w x0 x1 t).alloc _).below hb (Nat.le_refl _), ?_, ?_, by have := hb.size; simpa using this⟩
  · have := (Two.new (w.alloc (.cells #[x0, x1] t)) y0 y1 t').below hb (Nat.le_refl _)
    simpa using this
  · exact (((Below.refl _ _).alloc (Nat.le_refl _) _).alloc (by simp) _).trans (hb.mono (by simp; omega))

end Go.Proofs.YtdjeblcmpegmpaaDoor

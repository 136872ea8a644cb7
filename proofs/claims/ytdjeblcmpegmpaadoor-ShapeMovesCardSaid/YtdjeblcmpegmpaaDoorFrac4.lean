/-
  The walks of package frac's sum, Add, Sub, Mul, Div, Cmp, for every two fractions.
-/
import Derived.Test.YtdjeblcmpegmpaaDoorFrac3
import Derived.Deep.RegionHeld3
namespace Go.Proofs.YtdjeblcmpegmpaaDoor
open Go.RowKit

/-- a product of two parts that are not too great -/
theorem mul_bound {a b : Int} (ha : a.natAbs ≤ 1073741824) (hb : b.natAbs ≤ 1073741824) : -1152921504606846976 ≤ a * b ∧ a * b ≤ 1152921504606846976 := by
  have : (a * b).natAbs ≤ 1073741824 * 1073741824 := by rw [Int.natAbs_mul]; exact Nat.mul_le_mul ha hb
  omega

theorem i64_in {n : Int} (h1 : -9223372036854775808 ≤ n) (h2 : n ≤ 9223372036854775807) : IntKind.i64.wrap n = n := by
  simp [IntKind.wrap, IntKind.bits, IntKind.signed]; omega
set_option maxHeartbeats 1000000 in
theorem sum_any (aB aS aZ : Addr) (an ad bn bd : Int) (w : World) (ha : chk an ad = 0) (hb : chk bn bd = 0) (h : E3 aB aS aZ w) :
    Calls Tryd.prog 53 #[.agg #[.int .i64 an, .int .i64 ad], .agg #[.int .i64 bn, .int .i64 bd]] w fun e w' => e = .returned (.tuple #[.agg #[.int .i64 (add an ad bn bd).n, .int .i64 (add an ad bn bd).d], er aB aS aZ (add an ad bn bd).c]) ∧ Below w.heap.size w w' := by
  have hadd : add an ad bn bd = low (an * bd + bn * ad) (ad * bd) := by unfold add; rw [if_neg (by simp [ha]), if_neg (by simp [hb])]
  rw [hadd]
  obtain ⟨a1, _, a3, a4⟩ := chk_zero.1 ha
  obtain ⟨b1, _, b3, b4⟩ := chk_zero.1 hb
  have m1 := mul_bound a3 b4
  have m2 := mul_bound b3 a4
  have m3 := mul_bound a4 b4
  have m0 : ad * bd ≠ 0 := Int.mul_ne_zero (by omega) (by omega)
  obtain ⟨m11, m12⟩ := m1
  obtain ⟨m21, m22⟩ := m2
  obtain ⟨m31, m32⟩ := m3
  have hw1 : IntKind.i64.wrap (an * bd + bn * ad) = an * bd + bn * ad := i64_in (by omega) (by omega)
  have hn1 : ¬ w.heap.size + 1 + 1 = w.heap.size := by omega
  have hn2 : ¬ w.heap.size = w.heap.size + 1 + 1 := by omega
  clear ha hb hadd a1 a3 a4 b1 b3 b4
  go_enter Tryd.func53, Tryd.ntmps53
  go_wp2
  go_region_held3 (fun w' => w'.cell? ⟨w.heap.size, 0, none⟩ = some (.int .i64 an) ∧ w'.cell? ⟨w.heap.size, 1, none⟩ = some (.int .i64 ad) ∧ w'.cell? ⟨w.heap.size + 1, 0, none⟩ = some (.int .i64 bn) ∧ w'.cell? ⟨w.heap.size + 1, 1, none⟩ = some (.int .i64 bd)) (go_keep) (first | (go_at_call 55; refine (times_any _ _ _ (by omega) (by omega)).mono ?_; rintro e w' ⟨rfl, rfl⟩) | (go_at_call 54; refine (lowest_any aB aS aZ _ _ _ (by omega) (by omega) m0 (by omega) (by omega) ?_).mono ?_; exact (((h.alloc _).alloc _).alloc _).drewN 1; rintro e w' ⟨rfl, hb⟩; obtain ⟨hx, hy⟩ := bcell hb; have hx0 := hx w.heap.size 0 (by simp; omega); have hx1 := hx w.heap.size 1 (by simp; omega)))
  go_wp2
  have hx2 := hx (w.heap.size + 1 + 1) 0 (by simp)
  have hx3 := hx (w.heap.size + 1 + 1) 1 (by simp)
  refine bodyPost_ret (v := .tuple #[.agg #[.int .i64 (low (an * bd + bn * ad) (ad * bd)).n, .int .i64 (low (an * bd + bn * ad) (ad * bd)).d], er aB aS aZ (low (an * bd + bn * ad) (ad * bd)).c]) (by simp [results, Tryd.results53, go_sem, hx2, hx3]) rfl ⟨rfl, ?_⟩
  exact ((((((Below.refl _ _).alloc (Nat.le_refl _) _).alloc (by simp) _).alloc (by simp; omega) _).drew.trans (hb.mono (by simp; omega))).setCell (by simp; omega) _).setCell (by simp; omega) _

/-- both right, or the error's number of the first that is not -/
def chk2 (an ad bn bd : Int) : Nat := if chk an ad ≠ 0 then chk an ad else chk bn bd
theorem chk2_cases (an ad bn bd : Int) : (chk an ad = 0 ∧ chk bn bd = 0) ∨ (chk2 an ad bn bd = 2 ∨ chk2 an ad bn bd = 3) := by
  unfold chk2
  rcases chk_cases an ad with h | h | h <;> rcases chk_cases bn bd with h' | h' | h' <;> simp [h, h']
theorem add_err {an ad bn bd : Int} (h : ¬ (chk an ad = 0 ∧ chk bn bd = 0)) : add an ad bn bd = ⟨0, 0, chk2 an ad bn bd⟩ := by
  unfold add chk2; by_cases h1 : chk an ad = 0 <;> by_cases h2 : chk bn bd = 0 <;> simp_all
theorem sub_err {an ad bn bd : Int} (h : ¬ (chk an ad = 0 ∧ chk bn bd = 0)) : sub an ad bn bd = ⟨0, 0, chk2 an ad bn bd⟩ := by
  unfold sub chk2; by_cases h1 : chk an ad = 0 <;> by_cases h2 : chk bn bd = 0 <;> simp_all
theorem mul_err {an ad bn bd : Int} (h : ¬ (chk an ad = 0 ∧ chk bn bd = 0)) : mul an ad bn bd = ⟨0, 0, chk2 an ad bn bd⟩ := by
  unfold mul chk2; by_cases h1 : chk an ad = 0 <;> by_cases h2 : chk bn bd = 0 <;> simp_all
theorem div_err {an ad bn bd : Int} (h : ¬ (chk an ad = 0 ∧ chk bn bd = 0)) : div an ad bn bd = ⟨0, 0, chk2 an ad bn bd⟩ := by
  unfold div chk2; by_cases h1 : chk an ad = 0 <;> by_cases h2 : chk bn bd = 0 <;> simp_all

theorem checkBoth_ok (aB aS aZ : Addr) (n d m f : Int) (w : World) (hn : I64 n) (hd : I64 d) (hm : I64 m) (hf : I64 f) (h : E3 aB aS aZ w) (h1 : chk n d = 0) (h2 : chk m f = 0) :
    Calls Tryd.prog 52 #[.agg #[.int .i64 n, .int .i64 d], .agg #[.int .i64 m, .int .i64 f]] w fun e w' => e = .returned .nilIface ∧ Below w.heap.size w w' := by
  have := checkBoth_any aB aS aZ n d m f w hn hd hm hf h
  rw [if_neg (by simp [h1]), h2] at this
  exact this
theorem checkBoth_no (aB aS aZ : Addr) (n d m f : Int) (a : Addr) (w : World) (hn : I64 n) (hd : I64 d) (hm : I64 m) (hf : I64 f) (h : E3 aB aS aZ w) (ha : er aB aS aZ (chk2 n d m f) = .iface 108 (.pointer (some a))) :
    Calls Tryd.prog 52 #[.agg #[.int .i64 n, .int .i64 d], .agg #[.int .i64 m, .int .i64 f]] w fun e w' => e = .returned (.iface 108 (.pointer (some a))) ∧ Below w.heap.size w w' := by
  rw [← ha]; exact checkBoth_any aB aS aZ n d m f w hn hd hm hf h
theorem i64_of_chk {n d : Int} (h : chk n d = 0) : I64 n ∧ I64 d := by
  obtain ⟨_, _, h3, h4⟩ := chk_zero.1 h
  exact ⟨⟨by omega, by omega⟩, ⟨by omega, by omega⟩⟩

set_option maxHeartbeats 1000000 in
theorem Add_any (aB aS aZ : Addr) (an ad bn bd : Int) (w : World) (i1 : I64 an) (i2 : I64 ad) (i3 : I64 bn) (i4 : I64 bd) (h : E3 aB aS aZ w) :
    Calls Tryd.prog 39 #[.agg #[.int .i64 an, .int .i64 ad], .agg #[.int .i64 bn, .int .i64 bd]] w fun e w' => e = .returned (.tuple #[.agg #[.int .i64 (add an ad bn bd).n, .int .i64 (add an ad bn bd).d], er aB aS aZ (add an ad bn bd).c]) ∧ Below w.heap.size w w' := by
  rcases chk2_cases an ad bn bd with ⟨ha, hb⟩ | hbad
  · have HA : Hid (chk an ad = 0) := ha
    have HB : Hid (chk bn bd = 0) := hb
    clear ha hb
    go_enter Tryd.func39, Tryd.ntmps39
    go_wp2_with (first | (go_at_call 52; refine (checkBoth_ok aB aS aZ _ _ _ _ _ i1 i2 i3 i4 ?_ HA.out HB.out).mono ?_; exact ((h.alloc _).alloc _).alloc _; rintro e w1 ⟨rfl, hb⟩; obtain ⟨⟨p1, p2, p3, p4⟩, ⟨q1, q2, q3, q4⟩, ⟨r1, r2, r3, r4⟩, hw, hz⟩ := three hb; clear hb) | (go_at_call 53; refine (sum_any aB aS aZ _ _ _ _ _ HA.out HB.out ?_).mono ?_; exact h.below hw (Nat.le_refl _); rintro e w2 ⟨rfl, hb2⟩; obtain ⟨s1, s2, s3, s4⟩ := Two.below ⟨r1, r2, r3, r4⟩ hb2 (Nat.le_refl _)))
    refine bodyPost_ret (v := .tuple #[.agg #[.int .i64 (add an ad bn bd).n, .int .i64 (add an ad bn bd).d], er aB aS aZ (add an ad bn bd).c]) (by simp [results, Tryd.results39, go_sem, s1, s2]) rfl ⟨rfl, ?_⟩
    exact ((hw.trans (hb2.mono (by omega))).setCell (by simp; omega) _).setCell (by simp; omega) _
  · obtain ⟨a, ha⟩ := er_cases aB aS aZ hbad
    have hr := add_err (an := an) (ad := ad) (bn := bn) (bd := bd) (by rintro ⟨h1, h2⟩; unfold chk2 at hbad; simp [h1, h2] at hbad)
    rw [hr, ha]
    have HA : Hid (er aB aS aZ (chk2 an ad bn bd) = .iface 108 (.pointer (some a))) := ha
    clear ha hr hbad
    go_enter Tryd.func39, Tryd.ntmps39
    go_wp2_with (go_at_call 52; refine (checkBoth_no aB aS aZ _ _ _ _ a _ i1 i2 i3 i4 ?_ HA.out).mono ?_; exact ((h.alloc _).alloc _).alloc _; rintro e w1 ⟨rfl, hb⟩; obtain ⟨⟨p1, p2, p3, p4⟩, ⟨q1, q2, q3, q4⟩, ⟨r1, r2, r3, r4⟩, hw, hz⟩ := three hb; clear hb)
    refine bodyPost_ret (v := .tuple #[.agg #[.int .i64 0, .int .i64 0], .iface 108 (.pointer (some a))]) (by simp [results, Tryd.results39, go_sem, r1, r2]) rfl ⟨rfl, ?_⟩
    exact (hw.setCell (by simp; omega) _).setCell (by simp; omega) _
end Go.Proofs.YtdjeblcmpegmpaaDoor

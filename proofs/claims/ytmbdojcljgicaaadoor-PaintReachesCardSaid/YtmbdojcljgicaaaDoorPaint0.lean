/-
  Package paint's small functions: a cell's centre, a side, how far down a fraction is.
-/
import Derived.Test.YtmbdojcljgicaaaDoorShape2
import Derived.Deep.Cut
import Derived.Test.YtmbdojcljgicaaaDoorPaintM
namespace Go.Proofs.YtmbdojcljgicaaaDoor
open Go.RowKit

abbrev halfO (n : Int) : Obj := .cells #[.int .i64 (2 * n + 1), .int .i64 2] 52
set_option maxHeartbeats 400000 in
theorem half_any (n : Int) (w : World) (h1 : -1000 ≤ n) (h2 : n ≤ 1000) :
    Calls Tryd.prog 35 #[.int .i64 n] w fun e W => e = .returned (.agg #[.int .i64 (2 * n + 1), .int .i64 2]) ∧ W = w.alloc (halfO n) := by
  go_enter Tryd.func35, Tryd.ntmps35
  go_wp2
  exact bodyPost_ret (v := .agg #[.int .i64 (2 * n + 1), .int .i64 2]) (by simp [results, Tryd.results35, go_sem]) rfl ⟨rfl, rfl⟩
abbrev cenO (x y : Int) : Obj := .cells #[.int .i64 (2 * x + 1), .int .i64 2, .int .i64 (2 * y + 1), .int .i64 2] 54
theorem cen_below (x y : Int) (w : World) : Below w.heap.size w (((w.alloc (cenO x y)).alloc (halfO x)).alloc (halfO y)) := (((Below.refl _ _).alloc (Nat.le_refl _) _).alloc (by simp) _).alloc (by simp; omega) _
set_option maxHeartbeats 1000000 in
theorem centre_any (x y : Int) (w : World) (h1 : -1000 ≤ x) (h2 : x ≤ 1000) (h3 : -1000 ≤ y) (h4 : y ≤ 1000) :
    Calls Tryd.prog 27 #[.int .i64 x, .int .i64 y] w fun e W => e = .returned (qtV (cenQ x y)) ∧ W = ((w.alloc (cenO x y)).alloc (halfO x)).alloc (halfO y) := by
  have HX := fun V => half_any x V h1 h2
  have HY := fun V => half_any y V h3 h4
  go_enter Tryd.func27, Tryd.ntmps27
  go_wp2_with (first | (go_at_call_of 35 (Value.int .i64 y); refine (HY _).mono ?_; rintro e w2 ⟨rfl, rfl⟩) | (go_at_call_of 35 (Value.int .i64 x); refine (HX _).mono ?_; rintro e w1 ⟨rfl, rfl⟩))
  exact bodyPost_ret (v := qtV (cenQ x y)) (by simp [results, Tryd.results27, go_sem, cenQ]) rfl ⟨rfl, rfl⟩

set_option maxHeartbeats 400000 in
theorem isSide_any (n : Int) (w : World) : Calls Tryd.prog 12 #[.int .i64 n] w fun e W => e = .returned (.bool (decide (1 ≤ n ∧ n ≤ 40))) ∧ W = w := by
  by_cases h1 : 1 ≤ n
  · by_cases h2 : n ≤ 40
    · go_enter Tryd.func12, Tryd.ntmps12
      go_wp2
      go_ret
      exact ⟨ret_bool (by simp [h1, h2]), rfl⟩
    · go_enter Tryd.func12, Tryd.ntmps12
      go_wp2
      go_ret
      exact ⟨ret_bool (by simp [h2]), rfl⟩
  · go_enter Tryd.func12, Tryd.ntmps12
    go_wp2
    go_ret
    exact ⟨ret_bool (by simp; omega), rfl⟩
theorem down_bound {y n d : Int} (h1 : -1073741824 ≤ y) (h2 : y < 1073741824) (h : chk n d = 0) : I64 (2 * n) ∧ I64 (2 * y) ∧ I64 (2 * y + 1) ∧ I64 ((2 * y + 1) * d) ∧ I64 (2 * n - (2 * y + 1) * d) := by
  obtain ⟨a1, -, a3, a4⟩ := chk_zero.1 h
  have hd : 0 ≤ d := by omega
  have hd2 : d ≤ 1073741824 := by omega
  have k1 : (2 * y + 1) * d ≤ 2147483647 * d := Int.mul_le_mul_of_nonneg_right (by omega) hd
  have k2 : -2147483648 * d ≤ (2 * y + 1) * d := Int.mul_le_mul_of_nonneg_right (by omega) hd
  refine ⟨⟨by omega, by omega⟩, ⟨by omega, by omega⟩, ⟨by omega, by omega⟩, ⟨by omega, by omega⟩, ⟨by omega, by omega⟩⟩
set_option maxHeartbeats 1000000 in
theorem downFrom_any (y n d : Int) (w : World) (h1 : -1073741824 ≤ y) (h2 : y < 1073741824) (h : chk n d = 0) :
    Calls Tryd.prog 17 #[.int .i64 y, .agg #[.int .i64 n, .int .i64 d]] w fun e W => e = .returned (.int .i64 (downI y n d)) ∧ Below w.heap.size w W := by
  obtain ⟨⟨m1, m2⟩, ⟨m3, m4⟩, ⟨m5, m6⟩, ⟨m7, m8⟩, ⟨m9, m10⟩⟩ := down_bound h1 h2 h
  have b0 := mbelow w (.cells #[.int .i64 n, .int .i64 d] 52)
  unfold downI
  go_enter Tryd.func17, Tryd.ntmps17
  go_wp2
  go_ret
  exact ⟨rfl, b0⟩
end Go.Proofs.YtmbdojcljgicaaaDoor

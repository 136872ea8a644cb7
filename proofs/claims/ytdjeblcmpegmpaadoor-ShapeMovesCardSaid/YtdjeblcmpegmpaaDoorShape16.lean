/-
  Small parts of package move's Back, at a move by whole steps: opposite, flat, the steps of the work.
-/
import Derived.Test.YtdjeblcmpegmpaaDoorMove12
import Derived.Test.YtdjeblcmpegmpaaDoorShapeM4
namespace Go.Proofs.YtdjeblcmpegmpaaDoor
open Go.RowKit

set_option maxHeartbeats 1000000 in
theorem opposite_any (n d : Int) (h : I64 (-n)) (W : World) : Calls Tryd.prog 35 #[.agg #[.int .i64 n, .int .i64 d]] W fun e w' => e = .returned (.agg #[.int .i64 (-n), .int .i64 d]) ∧ Below W.heap.size W w' := by
  have hw : wrap64 (-n) = -n := IntWalk.wrap64_in _ h
  go_enter Tryd.func35, Tryd.ntmps35
  go_wp2
  refine bodyPost_ret (v := .agg #[.int .i64 (-n), .int .i64 d]) (by simp [results, Tryd.results35, go_sem]) rfl ⟨rfl, ?_⟩
  exact ((Below.refl _ W).alloc (Nat.le_refl _) _).alloc (by simp) _

set_option maxHeartbeats 4000000 in
theorem do_Add (aB aS aZ : Addr) (w0 : World) (b : Nat) (x y z : Fr) (HO : ∀ W, Wk aB aS aZ w0 b 0 W → Calls Tryd.prog 39 #[.agg #[.int .i64 x.n, .int .i64 x.d], .agg #[.int .i64 y.n, .int .i64 y.d]] W fun e w' => e = .returned (.tuple #[.agg #[.int .i64 z.n, .int .i64 z.d], .nilIface]) ∧ Below W.heap.size W w') : DoC aB aS aZ w0 b 39 0 x y z 0 := by
  intro W h
  have k1 := ((h.alloc (.cells #[.int .i64 x.n, .int .i64 x.d] 24)).alloc (.cells #[.int .i64 y.n, .int .i64 y.d] 24)).alloc (.cells #[.int .i64 0, .int .i64 0] 24)
  have k2 := k1.cell
  have k3 := k1.froz
  rw [er_0] at k2
  have HO := HO _ k1
  have hlt := cell_lt h.cell
  simp only at hlt
  go_enter Tryd.func31, Tryd.ntmps31
  go_wp2_with fail
  refine HO.mono ?_
  rintro e w1 ⟨rfl, hb1⟩
  have k4 := k1.below hb1
  have k5 := k4.cell
  have k6 := k4.froz
  have k7 := fun o => cell_al o k5
  have k8 := fun o => froz_al o k5 k6
  have hz := hb1.size
  simp only [World.size_alloc] at hz
  have n1 : ¬ b = w1.heap.size := by omega
  have n2 : ¬ b = W.heap.size + 1 + 1 := by omega
  have n3 : ¬ w1.heap.size = W.heap.size + 1 + 1 := by omega
  have n4 : ¬ W.heap.size + 1 + 1 = w1.heap.size := by omega
  obtain ⟨t0, t1, t2, t3⟩ := (Two.new ((W.alloc (.cells #[.int .i64 x.n, .int .i64 x.d] 24)).alloc (.cells #[.int .i64 y.n, .int .i64 y.d] 24)) (.int .i64 0) (.int .i64 0) 24).below hb1 (Nat.le_refl _)
  simp only [World.size_alloc] at t0 t1 t2 t3
  have t4 := fun o => cell_al o t0
  have t5 := fun o => cell_al o t1
  have t6 := fun o => froz_al o t0 t2
  have t7 := fun o => froz_al o t1 t3
  go_wp2
  refine bodyPost_ret (v := .agg #[.int .i64 z.n, .int .i64 z.d]) (by simp [results, Tryd.results31, go_sem, t4, t5]) rfl ⟨rfl, ?_⟩
  exact do_end (c := 0) k4 ((Upto.of_below ((((Below.refl _ W).alloc (Nat.le_refl _) _).alloc (by simp) _).alloc (by simp; omega) _)).trans (Upto.of_below hb1)) (by omega) (by have := h.hb.size; omega) n2 rfl
set_option maxHeartbeats 4000000 in
theorem do_Sub (aB aS aZ : Addr) (w0 : World) (b : Nat) (x y z : Fr) (HO : ∀ W, Wk aB aS aZ w0 b 0 W → Calls Tryd.prog 32 #[.agg #[.int .i64 x.n, .int .i64 x.d], .agg #[.int .i64 y.n, .int .i64 y.d]] W fun e w' => e = .returned (.tuple #[.agg #[.int .i64 z.n, .int .i64 z.d], .nilIface]) ∧ Below W.heap.size W w') : DoC aB aS aZ w0 b 32 0 x y z 0 := by
  intro W h
  have k1 := ((h.alloc (.cells #[.int .i64 x.n, .int .i64 x.d] 24)).alloc (.cells #[.int .i64 y.n, .int .i64 y.d] 24)).alloc (.cells #[.int .i64 0, .int .i64 0] 24)
  have k2 := k1.cell
  have k3 := k1.froz
  rw [er_0] at k2
  have HO := HO _ k1
  have hlt := cell_lt h.cell
  simp only at hlt
  go_enter Tryd.func31, Tryd.ntmps31
  go_wp2_with fail
  refine HO.mono ?_
  rintro e w1 ⟨rfl, hb1⟩
  have k4 := k1.below hb1
  have k5 := k4.cell
  have k6 := k4.froz
  have k7 := fun o => cell_al o k5
  have k8 := fun o => froz_al o k5 k6
  have hz := hb1.size
  simp only [World.size_alloc] at hz
  have n1 : ¬ b = w1.heap.size := by omega
  have n2 : ¬ b = W.heap.size + 1 + 1 := by omega
  have n3 : ¬ w1.heap.size = W.heap.size + 1 + 1 := by omega
  have n4 : ¬ W.heap.size + 1 + 1 = w1.heap.size := by omega
  obtain ⟨t0, t1, t2, t3⟩ := (Two.new ((W.alloc (.cells #[.int .i64 x.n, .int .i64 x.d] 24)).alloc (.cells #[.int .i64 y.n, .int .i64 y.d] 24)) (.int .i64 0) (.int .i64 0) 24).below hb1 (Nat.le_refl _)
  simp only [World.size_alloc] at t0 t1 t2 t3
  have t4 := fun o => cell_al o t0
  have t5 := fun o => cell_al o t1
  have t6 := fun o => froz_al o t0 t2
  have t7 := fun o => froz_al o t1 t3
  go_wp2
  refine bodyPost_ret (v := .agg #[.int .i64 z.n, .int .i64 z.d]) (by simp [results, Tryd.results31, go_sem, t4, t5]) rfl ⟨rfl, ?_⟩
  exact do_end (c := 0) k4 ((Upto.of_below ((((Below.refl _ W).alloc (Nat.le_refl _) _).alloc (by simp) _).alloc (by simp; omega) _)).trans (Upto.of_below hb1)) (by omega) (by have := h.hb.size; omega) n2 rfl
set_option maxHeartbeats 4000000 in
theorem do_Mul (aB aS aZ : Addr) (w0 : World) (b : Nat) (x y z : Fr) (HO : ∀ W, Wk aB aS aZ w0 b 0 W → Calls Tryd.prog 33 #[.agg #[.int .i64 x.n, .int .i64 x.d], .agg #[.int .i64 y.n, .int .i64 y.d]] W fun e w' => e = .returned (.tuple #[.agg #[.int .i64 z.n, .int .i64 z.d], .nilIface]) ∧ Below W.heap.size W w') : DoC aB aS aZ w0 b 33 0 x y z 0 := by
  intro W h
  have k1 := ((h.alloc (.cells #[.int .i64 x.n, .int .i64 x.d] 24)).alloc (.cells #[.int .i64 y.n, .int .i64 y.d] 24)).alloc (.cells #[.int .i64 0, .int .i64 0] 24)
  have k2 := k1.cell
  have k3 := k1.froz
  rw [er_0] at k2
  have HO := HO _ k1
  have hlt := cell_lt h.cell
  simp only at hlt
  go_enter Tryd.func31, Tryd.ntmps31
  go_wp2_with fail
  refine HO.mono ?_
  rintro e w1 ⟨rfl, hb1⟩
  have k4 := k1.below hb1
  have k5 := k4.cell
  have k6 := k4.froz
  have k7 := fun o => cell_al o k5
  have k8 := fun o => froz_al o k5 k6
  have hz := hb1.size
  simp only [World.size_alloc] at hz
  have n1 : ¬ b = w1.heap.size := by omega
  have n2 : ¬ b = W.heap.size + 1 + 1 := by omega
  have n3 : ¬ w1.heap.size = W.heap.size + 1 + 1 := by omega
  have n4 : ¬ W.heap.size + 1 + 1 = w1.heap.size := by omega
  obtain ⟨t0, t1, t2, t3⟩ := (Two.new ((W.alloc (.cells #[.int .i64 x.n, .int .i64 x.d] 24)).alloc (.cells #[.int .i64 y.n, .int .i64 y.d] 24)) (.int .i64 0) (.int .i64 0) 24).below hb1 (Nat.le_refl _)
  simp only [World.size_alloc] at t0 t1 t2 t3
  have t4 := fun o => cell_al o t0
  have t5 := fun o => cell_al o t1
  have t6 := fun o => froz_al o t0 t2
  have t7 := fun o => froz_al o t1 t3
  go_wp2
  refine bodyPost_ret (v := .agg #[.int .i64 z.n, .int .i64 z.d]) (by simp [results, Tryd.results31, go_sem, t4, t5]) rfl ⟨rfl, ?_⟩
  exact do_end (c := 0) k4 ((Upto.of_below ((((Below.refl _ W).alloc (Nat.le_refl _) _).alloc (by simp) _).alloc (by simp; omega) _)).trans (Upto.of_below hb1)) (by omega) (by have := h.hb.size; omega) n2 rfl
set_option maxHeartbeats 4000000 in
theorem do_Div (aB aS aZ : Addr) (w0 : World) (b : Nat) (x y z : Fr) (HO : ∀ W, Wk aB aS aZ w0 b 0 W → Calls Tryd.prog 34 #[.agg #[.int .i64 x.n, .int .i64 x.d], .agg #[.int .i64 y.n, .int .i64 y.d]] W fun e w' => e = .returned (.tuple #[.agg #[.int .i64 z.n, .int .i64 z.d], .nilIface]) ∧ Below W.heap.size W w') : DoC aB aS aZ w0 b 34 0 x y z 0 := by
  intro W h
  have k1 := ((h.alloc (.cells #[.int .i64 x.n, .int .i64 x.d] 24)).alloc (.cells #[.int .i64 y.n, .int .i64 y.d] 24)).alloc (.cells #[.int .i64 0, .int .i64 0] 24)
  have k2 := k1.cell
  have k3 := k1.froz
  rw [er_0] at k2
  have HO := HO _ k1
  have hlt := cell_lt h.cell
  simp only at hlt
  go_enter Tryd.func31, Tryd.ntmps31
  go_wp2_with fail
  refine HO.mono ?_
  rintro e w1 ⟨rfl, hb1⟩
  have k4 := k1.below hb1
  have k5 := k4.cell
  have k6 := k4.froz
  have k7 := fun o => cell_al o k5
  have k8 := fun o => froz_al o k5 k6
  have hz := hb1.size
  simp only [World.size_alloc] at hz
  have n1 : ¬ b = w1.heap.size := by omega
  have n2 : ¬ b = W.heap.size + 1 + 1 := by omega
  have n3 : ¬ w1.heap.size = W.heap.size + 1 + 1 := by omega
  have n4 : ¬ W.heap.size + 1 + 1 = w1.heap.size := by omega
  obtain ⟨t0, t1, t2, t3⟩ := (Two.new ((W.alloc (.cells #[.int .i64 x.n, .int .i64 x.d] 24)).alloc (.cells #[.int .i64 y.n, .int .i64 y.d] 24)) (.int .i64 0) (.int .i64 0) 24).below hb1 (Nat.le_refl _)
  simp only [World.size_alloc] at t0 t1 t2 t3
  have t4 := fun o => cell_al o t0
  have t5 := fun o => cell_al o t1
  have t6 := fun o => froz_al o t0 t2
  have t7 := fun o => froz_al o t1 t3
  go_wp2
  refine bodyPost_ret (v := .agg #[.int .i64 z.n, .int .i64 z.d]) (by simp [results, Tryd.results31, go_sem, t4, t5]) rfl ⟨rfl, ?_⟩
  exact do_end (c := 0) k4 ((Upto.of_below ((((Below.refl _ W).alloc (Nat.le_refl _) _).alloc (by simp) _).alloc (by simp; omega) _)).trans (Upto.of_below hb1)) (by omega) (by have := h.hb.size; omega) n2 rfl
theorem zi : I64 0 := ⟨by decide, by decide⟩
theorem oi : I64 1 := ⟨by decide, by decide⟩
theorem sub_10 : sub 1 1 0 1 = ⟨1, 1, 0⟩ := sub_some.2 ⟨chk_11, chk_01, chk_11, by decide⟩
theorem div_11 : div 1 1 1 1 = ⟨1, 1, 0⟩ := div_some.2 ⟨chk_11, chk_11, by decide, chk_11, by decide⟩
theorem div_01 : div 0 1 1 1 = ⟨0, 1, 0⟩ := div_some.2 ⟨chk_01, chk_11, by decide, chk_01, by decide⟩
theorem mul_11 : mul 1 1 1 1 = ⟨1, 1, 0⟩ := mul_one' chk_11
theorem mul_00 : mul 0 1 0 1 = ⟨0, 1, 0⟩ := mul_nil chk_01
theorem D_sub (aB aS aZ : Addr) (w0 : World) (b : Nat) : DoC aB aS aZ w0 b 32 0 (.whole 1) (.whole 0) (.whole 1) 0 := do_Sub aB aS aZ w0 b _ _ _ fun W h => by
  have := Sub_any aB aS aZ 1 1 0 1 W oi oi zi oi h.at
  rw [sub_10] at this
  exact this
theorem D_div1 (aB aS aZ : Addr) (w0 : World) (b : Nat) (hZ : EZ aZ w0) : DoC aB aS aZ w0 b 34 0 (.whole 1) (.whole 1) (.whole 1) 0 := do_Div aB aS aZ w0 b _ _ _ fun W h => by
  have := Div_any aB aS aZ 1 1 1 1 W oi oi oi oi h.at (hZ.below h.hb (Nat.le_refl _))
  rw [div_11] at this
  exact this
theorem D_div0 (aB aS aZ : Addr) (w0 : World) (b : Nat) (hZ : EZ aZ w0) : DoC aB aS aZ w0 b 34 0 (.whole 0) (.whole 1) (.whole 0) 0 := do_Div aB aS aZ w0 b _ _ _ fun W h => by
  have := Div_any aB aS aZ 0 1 1 1 W zi oi oi oi h.at (hZ.below h.hb (Nat.le_refl _))
  rw [div_01] at this
  exact this
theorem D_mul1 (aB aS aZ : Addr) (w0 : World) (b : Nat) : DoC aB aS aZ w0 b 33 0 (.whole 1) (.whole 1) (.whole 1) 0 := do_Mul aB aS aZ w0 b _ _ _ fun W h => by
  have := Mul_any aB aS aZ 1 1 1 1 W oi oi oi oi h.at
  rw [mul_11] at this
  exact this
theorem D_mul0 (aB aS aZ : Addr) (w0 : World) (b : Nat) : DoC aB aS aZ w0 b 33 0 (.whole 0) (.whole 0) (.whole 0) 0 := do_Mul aB aS aZ w0 b _ _ _ fun W h => by
  have := Mul_any aB aS aZ 0 1 0 1 W zi oi zi oi h.at
  rw [mul_00] at this
  exact this
/-- turned of a move that leaves all as it is, whatever E and F are -/
theorem turned_one (aB aS aZ : Addr) (w0 : World) (b : Nat) (e f : Fr) (x y : Int) (hx : chk x 1 = 0) (hy : chk y 1 = 0) (W : World) (h : Wk aB aS aZ w0 b 0 W) :
    Calls Tryd.prog 36 #[.pointer (some ⟨b, 0, none⟩), mv ⟨.whole 1, .whole 0, .whole 0, .whole 1, e, f⟩, pv ⟨.whole x, .whole y⟩] W fun e w' => e = .returned (.agg #[.int .i64 x, .int .i64 1, .int .i64 y, .int .i64 1]) ∧ Wk aB aS aZ w0 b 0 w' ∧ Upto b W w' := by
  obtain ⟨ix, -⟩ := i64_of_chk hx
  obtain ⟨iy, -⟩ := i64_of_chk hy
  have D1 : DoC aB aS aZ w0 b 33 0 (.whole 1) (.whole x) (.whole x) 0 := do_Mul aB aS aZ w0 b _ _ _ fun W h => by
    have := Mul_any aB aS aZ 1 1 x 1 W oi oi ix oi h.at
    rw [mul_one' hx] at this
    exact this
  have D2 : DoC aB aS aZ w0 b 33 0 (.whole 0) (.whole y) (.whole 0) 0 := do_Mul aB aS aZ w0 b _ _ _ fun W h => by
    have := Mul_any aB aS aZ 0 1 y 1 W zi oi iy oi h.at
    rw [mul_nil hy] at this
    exact this
  have D3 : DoC aB aS aZ w0 b 39 0 (.whole x) (.whole 0) (.whole x) 0 := do_Add aB aS aZ w0 b _ _ _ fun W h => by
    have := Add_any aB aS aZ x 1 0 1 W ix oi zi oi h.at
    rw [add_nil hx] at this
    exact this
  have D4 : DoC aB aS aZ w0 b 33 0 (.whole 0) (.whole x) (.whole 0) 0 := do_Mul aB aS aZ w0 b _ _ _ fun W h => by
    have := Mul_any aB aS aZ 0 1 x 1 W zi oi ix oi h.at
    rw [mul_nil hx] at this
    exact this
  have D5 : DoC aB aS aZ w0 b 33 0 (.whole 1) (.whole y) (.whole y) 0 := do_Mul aB aS aZ w0 b _ _ _ fun W h => by
    have := Mul_any aB aS aZ 1 1 y 1 W oi oi iy oi h.at
    rw [mul_one' hy] at this
    exact this
  have D6 : DoC aB aS aZ w0 b 39 0 (.whole 0) (.whole y) (.whole y) 0 := do_Add aB aS aZ w0 b _ _ _ fun W h => by
    have := Add_any aB aS aZ 0 1 y 1 W zi oi iy oi h.at
    rw [nil_add hy] at this
    exact this
  exact turned_abs aB aS aZ w0 b ⟨.whole 1, .whole 0, .whole 0, .whole 1, e, f⟩ ⟨.whole x, .whole y⟩ (.whole x) (.whole 0) (.whole x) (.whole 0) (.whole y) (.whole y) 0 0 0 0 0 0 0 W h D1 D2 D3 D4 D5 D6

set_option maxHeartbeats 4000000 in
theorem Mul64_11 (W : World) : Calls Tryd.prog 60 #[.int .u64 1, .int .u64 1] W fun e w' => e = .returned (.tuple #[.int .u64 0, .int .u64 1]) ∧ w' = W := by
  go_enter Tryd.func60, Tryd.ntmps60
  go_wp2
  exact bodyPost_ret (v := .tuple #[.int .u64 0, .int .u64 1]) (by simp [results, Tryd.results60, go_sem] <;> decide +kernel) rfl ⟨rfl, rfl⟩
set_option maxHeartbeats 4000000 in
theorem Mul64_01 (W : World) : Calls Tryd.prog 60 #[.int .u64 0, .int .u64 1] W fun e w' => e = .returned (.tuple #[.int .u64 0, .int .u64 0]) ∧ w' = W := by
  go_enter Tryd.func60, Tryd.ntmps60
  go_wp2
  exact bodyPost_ret (v := .tuple #[.int .u64 0, .int .u64 0]) (by simp [results, Tryd.results60, go_sem] <;> decide +kernel) rfl ⟨rfl, rfl⟩
set_option maxHeartbeats 4000000 in
theorem over_1 (W : World) : Calls Tryd.prog 51 #[.agg #[.int .i64 1, .int .i64 1], .agg #[.int .i64 1, .int .i64 1], .agg #[.int .i64 0, .int .i64 1], .agg #[.int .i64 0, .int .i64 1]] W fun e w' => e = .returned (.agg #[.bool false, .int .u64 0, .int .u64 1]) ∧ Below W.heap.size W w' := by
  have M := Mul64_11
  go_enter Tryd.func51, Tryd.ntmps51
  go_wp2_with (go_at_call 60; refine (M _).mono ?_; rintro e w1 ⟨rfl, rfl⟩)
  refine bodyPost_ret (v := .agg #[.bool false, .int .u64 0, .int .u64 1]) (by simp [results, Tryd.results51, go_sem]) rfl ⟨rfl, ?_⟩
  exact (((((Below.refl _ W).alloc (Nat.le_refl _) _).alloc (by simp) _).alloc (by simp; omega) _).alloc (by simp; omega) _).alloc (by simp; omega) _
set_option maxHeartbeats 4000000 in
theorem over_0 (W : World) : Calls Tryd.prog 51 #[.agg #[.int .i64 0, .int .i64 1], .agg #[.int .i64 0, .int .i64 1], .agg #[.int .i64 1, .int .i64 1], .agg #[.int .i64 1, .int .i64 1]] W fun e w' => e = .returned (.agg #[.bool false, .int .u64 0, .int .u64 0]) ∧ Below W.heap.size W w' := by
  have M := Mul64_01
  go_enter Tryd.func51, Tryd.ntmps51
  go_wp2_with (go_at_call 60; refine (M _).mono ?_; rintro e w1 ⟨rfl, rfl⟩)
  refine bodyPost_ret (v := .agg #[.bool false, .int .u64 0, .int .u64 0]) (by simp [results, Tryd.results51, go_sem]) rfl ⟨rfl, ?_⟩
  exact (((((Below.refl _ W).alloc (Nat.le_refl _) _).alloc (by simp) _).alloc (by simp; omega) _).alloc (by simp; omega) _).alloc (by simp; omega) _
theorem over_any (p q : Int) (h : (p = 1 ∧ q = 0) ∨ (p = 0 ∧ q = 1)) (W : World) : Calls Tryd.prog 51 #[.agg #[.int .i64 p, .int .i64 1], .agg #[.int .i64 p, .int .i64 1], .agg #[.int .i64 q, .int .i64 1], .agg #[.int .i64 q, .int .i64 1]] W fun e w' => e = .returned (.agg #[.bool false, .int .u64 0, .int .u64 p]) ∧ Below W.heap.size W w' := by
  rcases h with ⟨rfl, rfl⟩ | ⟨rfl, rfl⟩
  · exact over_1 W
  · exact over_0 W
end Go.Proofs.YtdjeblcmpegmpaaDoor

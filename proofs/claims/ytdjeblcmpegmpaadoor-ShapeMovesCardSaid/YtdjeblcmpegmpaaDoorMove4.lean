/-
  One step of package move's work: nothing is done behind an error; else the sum or the product of two fractions, and its error is kept.
-/
import Derived.Test.YtdjeblcmpegmpaaDoorMove3
import Derived.Test.YtdjeblcmpegmpaaDoorFrac5
namespace Go.Proofs.YtdjeblcmpegmpaaDoor
open Go.RowKit

/-- All blocks that were there are as they were, but block b. -/
structure Upto (b : Nat) (W w' : World) : Prop where
  size : W.heap.size ≤ w'.heap.size
  block : ∀ k, k < W.heap.size → k ≠ b → w'.heap[k]? = W.heap[k]?
theorem Upto.trans {b : Nat} {A B C : World} (h : Upto b A B) (k : Upto b B C) : Upto b A C :=
  ⟨Nat.le_trans h.size k.size, fun i hi hb => (k.block i (Nat.lt_of_lt_of_le hi h.size) hb).trans (h.block i hi hb)⟩
theorem Upto.of_below {b : Nat} {A B : World} (h : Below A.heap.size A B) : Upto b A B := ⟨h.size, fun i hi _ => h.block i hi⟩
theorem Upto.setCell {b : Nat} {A B : World} (h : Upto b A B) (v : Value) : Upto b A (B.setCell ⟨b, 0, none⟩ v) :=
  ⟨by simpa using h.size, fun i hi hb => (Below.heap_setCell B ⟨b, 0, none⟩ v i hb).trans (h.block i hi hb)⟩
theorem Upto.cell {b : Nat} {A B : World} (h : Upto b A B) {p : Addr} {v : Value} (hp : A.cell? p = some v) (hb : p.block ≠ b) : B.cell? p = some v :=
  (World.cell?_of_block (h.block p.block (cell_lt hp) hb)).trans hp
theorem Upto.frozen {b : Nat} {A B : World} (h : Upto b A B) {p : Addr} {v : Value} (hp : A.cell? p = some v) (hf : A.frozen? p = false) (hb : p.block ≠ b) : B.frozen? p = false :=
  (World.frozen?_of_block (h.block p.block (cell_lt hp) hb)).trans hf

/-- The work's state: its block holds the error of number c; all that lay ahead of world w0 is as it was. -/
structure Wk (aB aS aZ : Addr) (w0 : World) (b : Nat) (c : Nat) (W : World) : Prop where
  e3 : E3 aB aS aZ w0
  hb : Below w0.heap.size w0 W
  lo : w0.heap.size ≤ b
  cell : W.cell? ⟨b, 0, none⟩ = some (er aB aS aZ c)
  froz : W.frozen? ⟨b, 0, none⟩ = false
theorem Wk.at {aB aS aZ : Addr} {w0 : World} {b c : Nat} {W : World} (h : Wk aB aS aZ w0 b c W) : E3 aB aS aZ W := h.e3.below h.hb (Nat.le_refl _)
theorem Wk.alloc {aB aS aZ : Addr} {w0 : World} {b c : Nat} {W : World} (h : Wk aB aS aZ w0 b c W) (o : Obj) : Wk aB aS aZ w0 b c (W.alloc o) :=
  ⟨h.e3, h.hb.alloc h.hb.size o, h.lo, cell_al o h.cell, froz_al o h.cell h.froz⟩
theorem Wk.below {aB aS aZ : Addr} {w0 : World} {b c : Nat} {W W' : World} (h : Wk aB aS aZ w0 b c W) (hb : Below W.heap.size W W') : Wk aB aS aZ w0 b c W' :=
  ⟨h.e3, h.hb.trans (hb.mono h.hb.size), h.lo, (hb.cell (p := ⟨b, 0, none⟩) (cell_lt h.cell)).trans h.cell, (hb.frozen (p := ⟨b, 0, none⟩) (cell_lt h.cell)).trans h.froz⟩
theorem Wk.drew {aB aS aZ : Addr} {w0 : World} {b c : Nat} {W : World} (h : Wk aB aS aZ w0 b c W) (k : Nat) : Wk aB aS aZ w0 b c (W.drewN k) := h.below (below_drewN (Below.refl _ W) k)

theorem er_2 (aB aS aZ : Addr) : er aB aS aZ 2 = .iface 108 (.pointer (some aB)) := rfl
theorem do_end {aB aS aZ : Addr} {w0 W w1 : World} {b c R : Nat} {o : Obj} {v p q : Value} (h : Wk aB aS aZ w0 b 0 w1) (hu : Upto b W w1) (hR : W.heap.size ≤ R) (hR' : w0.heap.size ≤ R) (hbR : b ≠ R) (hv : v = er aB aS aZ c) :
    Wk aB aS aZ w0 b c ((((w1.alloc o).setCell ⟨b, 0, none⟩ v).setCell ⟨R, 0, none⟩ p).setCell ⟨R, 1, none⟩ q) ∧ Upto b W ((((w1.alloc o).setCell ⟨b, 0, none⟩ v).setCell ⟨R, 0, none⟩ p).setCell ⟨R, 1, none⟩ q) := by
  have hw := hu.size
  refine ⟨⟨h.e3, (((h.hb.alloc h.hb.size o).setCell h.lo v).setCell hR' p).setCell hR' q, h.lo, ?_, ?_⟩, ?_, ?_⟩
  · rw [World.cell?_setCell_far _ _ _ _ (fun e => hbR e.symm), World.cell?_setCell_far _ _ _ _ (fun e => hbR e.symm), World.cell?_setCell_same' _ _ _ (by rw [cell_al o h.cell]; rfl), hv]
  · rw [World.frozen?_setCell, World.frozen?_setCell, World.frozen?_setCell]; exact froz_al o h.cell h.froz
  · simp; omega
  · intro k hk hkb
    rw [Below.heap_setCell _ _ _ k (by simp; omega), Below.heap_setCell _ _ _ k (by simp; omega), Below.heap_setCell _ _ _ k hkb, Below.heap_alloc _ _ k (by omega)]
    exact hu.block k hk hkb

set_option maxHeartbeats 2000000 in
theorem do_add_err (aB aS aZ : Addr) (w0 : World) (b : Nat) (x y : Fr) (W : World) (h : Wk aB aS aZ w0 b 2 W) :
    Calls Tryd.prog 31 #[.pointer (some ⟨b, 0, none⟩), .func (.func 39) #[] #[], .agg #[.int .i64 x.n, .int .i64 x.d], .agg #[.int .i64 y.n, .int .i64 y.d]] W fun e w' => e = .returned (.agg #[.int .i64 0, .int .i64 0]) ∧ Below W.heap.size W w' := by
  have k1 := ((h.alloc (.cells #[.int .i64 x.n, .int .i64 x.d] 24)).alloc (.cells #[.int .i64 y.n, .int .i64 y.d] 24)).alloc (.cells #[.int .i64 0, .int .i64 0] 24)
  have k2 := k1.cell
  have k3 := k1.froz
  rw [er_2] at k2
  clear k1
  go_enter Tryd.func31, Tryd.ntmps31
  go_wp2
  refine bodyPost_ret (v := .agg #[.int .i64 0, .int .i64 0]) (by simp [results, Tryd.results31, go_sem]) rfl ⟨rfl, ?_⟩
  exact (((Below.refl _ W).alloc (Nat.le_refl _) _).alloc (by simp) _).alloc (by simp; omega) _

set_option maxHeartbeats 4000000 in
theorem do_add_go (aB aS aZ : Addr) (w0 : World) (b : Nat) (x y : Fr) (W : World) (hx : x.i64) (hy : y.i64) (hr : (add x.n x.d y.n y.d).c = 0 ∨ (add x.n x.d y.n y.d).c = 2) (h : Wk aB aS aZ w0 b 0 W) :
    Calls Tryd.prog 31 #[.pointer (some ⟨b, 0, none⟩), .func (.func 39) #[] #[], .agg #[.int .i64 x.n, .int .i64 x.d], .agg #[.int .i64 y.n, .int .i64 y.d]] W fun e w' => e = .returned (.agg #[.int .i64 (add x.n x.d y.n y.d).n, .int .i64 (add x.n x.d y.n y.d).d]) ∧ Wk aB aS aZ w0 b (add x.n x.d y.n y.d).c w' ∧ Upto b W w' := by
  have k1 := ((h.alloc (.cells #[.int .i64 x.n, .int .i64 x.d] 24)).alloc (.cells #[.int .i64 y.n, .int .i64 y.d] 24)).alloc (.cells #[.int .i64 0, .int .i64 0] 24)
  have k2 := k1.cell
  have k3 := k1.froz
  rw [er_0] at k2
  have HO := Add_any aB aS aZ x.n x.d y.n y.d _ hx.1 hx.2 hy.1 hy.2 k1.at
  generalize add x.n x.d y.n y.d = r at HO hr ⊢
  obtain ⟨p, q, c⟩ := r
  have hlt := cell_lt h.cell
  simp only at hlt hr
  rcases hr with rfl | rfl
  · simp only [er_0] at HO
    go_enter Tryd.func31, Tryd.ntmps31
    go_wp2_with fail
    refine HO.mono ?_
    rintro e w1 ⟨rfl, hb1⟩
    have k4 := k1.below hb1
    have k5 := k4.cell
    have k6 := k4.froz
    have k7 := fun o => cell_al o k5
    have k8 := fun o => froz_al o k5 k6
    have hz := hb1.size
    simp only [World.size_alloc] at hz
    have n1 : ¬ b = w1.heap.size := by omega
    have n2 : ¬ b = W.heap.size + 1 + 1 := by omega
    have n3 : ¬ w1.heap.size = W.heap.size + 1 + 1 := by omega
    have n4 : ¬ W.heap.size + 1 + 1 = w1.heap.size := by omega
    obtain ⟨t0, t1, t2, t3⟩ := (Two.new ((W.alloc (.cells #[.int .i64 x.n, .int .i64 x.d] 24)).alloc (.cells #[.int .i64 y.n, .int .i64 y.d] 24)) (.int .i64 0) (.int .i64 0) 24).below hb1 (Nat.le_refl _)
    simp only [World.size_alloc] at t0 t1 t2 t3
    have t4 := fun o => cell_al o t0
    have t5 := fun o => cell_al o t1
    have t6 := fun o => froz_al o t0 t2
    have t7 := fun o => froz_al o t1 t3
    go_wp2
    refine bodyPost_ret (v := .agg #[.int .i64 p, .int .i64 q]) (by simp [results, Tryd.results31, go_sem, t4, t5]) rfl ⟨rfl, ?_⟩
    exact do_end k4 ((Upto.of_below ((((Below.refl _ W).alloc (Nat.le_refl _) _).alloc (by simp) _).alloc (by simp; omega) _)).trans (Upto.of_below hb1)) (by omega) (by have := h.hb.size; omega) n2 rfl
  · simp only [er_2] at HO
    go_enter Tryd.func31, Tryd.ntmps31
    go_wp2_with fail
    refine HO.mono ?_
    rintro e w1 ⟨rfl, hb1⟩
    have k4 := k1.below hb1
    have k5 := k4.cell
    have k6 := k4.froz
    have k7 := fun o => cell_al o k5
    have k8 := fun o => froz_al o k5 k6
    have hz := hb1.size
    simp only [World.size_alloc] at hz
    have n1 : ¬ b = w1.heap.size := by omega
    have n2 : ¬ b = W.heap.size + 1 + 1 := by omega
    have n3 : ¬ w1.heap.size = W.heap.size + 1 + 1 := by omega
    have n4 : ¬ W.heap.size + 1 + 1 = w1.heap.size := by omega
    obtain ⟨t0, t1, t2, t3⟩ := (Two.new ((W.alloc (.cells #[.int .i64 x.n, .int .i64 x.d] 24)).alloc (.cells #[.int .i64 y.n, .int .i64 y.d] 24)) (.int .i64 0) (.int .i64 0) 24).below hb1 (Nat.le_refl _)
    simp only [World.size_alloc] at t0 t1 t2 t3
    have t4 := fun o => cell_al o t0
    have t5 := fun o => cell_al o t1
    have t6 := fun o => froz_al o t0 t2
    have t7 := fun o => froz_al o t1 t3
    go_wp2
    refine bodyPost_ret (v := .agg #[.int .i64 p, .int .i64 q]) (by simp [results, Tryd.results31, go_sem, t4, t5]) rfl ⟨rfl, ?_⟩
    exact do_end k4 ((Upto.of_below ((((Below.refl _ W).alloc (Nat.le_refl _) _).alloc (by simp) _).alloc (by simp; omega) _)).trans (Upto.of_below hb1)) (by omega) (by have := h.hb.size; omega) n2 rfl

set_option maxHeartbeats 2000000 in
theorem do_mul_err (aB aS aZ : Addr) (w0 : World) (b : Nat) (x y : Fr) (W : World) (h : Wk aB aS aZ w0 b 2 W) :
    Calls Tryd.prog 31 #[.pointer (some ⟨b, 0, none⟩), .func (.func 33) #[] #[], .agg #[.int .i64 x.n, .int .i64 x.d], .agg #[.int .i64 y.n, .int .i64 y.d]] W fun e w' => e = .returned (.agg #[.int .i64 0, .int .i64 0]) ∧ Below W.heap.size W w' := by
  have k1 := ((h.alloc (.cells #[.int .i64 x.n, .int .i64 x.d] 24)).alloc (.cells #[.int .i64 y.n, .int .i64 y.d] 24)).alloc (.cells #[.int .i64 0, .int .i64 0] 24)
  have k2 := k1.cell
  have k3 := k1.froz
  rw [er_2] at k2
  clear k1
  go_enter Tryd.func31, Tryd.ntmps31
  go_wp2
  refine bodyPost_ret (v := .agg #[.int .i64 0, .int .i64 0]) (by simp [results, Tryd.results31, go_sem]) rfl ⟨rfl, ?_⟩
  exact (((Below.refl _ W).alloc (Nat.le_refl _) _).alloc (by simp) _).alloc (by simp; omega) _

set_option maxHeartbeats 4000000 in
theorem do_mul_go (aB aS aZ : Addr) (w0 : World) (b : Nat) (x y : Fr) (W : World) (hx : x.i64) (hy : y.i64) (hr : (mul x.n x.d y.n y.d).c = 0 ∨ (mul x.n x.d y.n y.d).c = 2) (h : Wk aB aS aZ w0 b 0 W) :
    Calls Tryd.prog 31 #[.pointer (some ⟨b, 0, none⟩), .func (.func 33) #[] #[], .agg #[.int .i64 x.n, .int .i64 x.d], .agg #[.int .i64 y.n, .int .i64 y.d]] W fun e w' => e = .returned (.agg #[.int .i64 (mul x.n x.d y.n y.d).n, .int .i64 (mul x.n x.d y.n y.d).d]) ∧ Wk aB aS aZ w0 b (mul x.n x.d y.n y.d).c w' ∧ Upto b W w' := by
  have k1 := ((h.alloc (.cells #[.int .i64 x.n, .int .i64 x.d] 24)).alloc (.cells #[.int .i64 y.n, .int .i64 y.d] 24)).alloc (.cells #[.int .i64 0, .int .i64 0] 24)
  have k2 := k1.cell
  have k3 := k1.froz
  rw [er_0] at k2
  have HO := Mul_any aB aS aZ x.n x.d y.n y.d _ hx.1 hx.2 hy.1 hy.2 k1.at
  generalize mul x.n x.d y.n y.d = r at HO hr ⊢
  obtain ⟨p, q, c⟩ := r
  have hlt := cell_lt h.cell
  simp only at hlt hr
  rcases hr with rfl | rfl
  · simp only [er_0] at HO
    go_enter Tryd.func31, Tryd.ntmps31
    go_wp2_with fail
    refine HO.mono ?_
    rintro e w1 ⟨rfl, hb1⟩
    have k4 := k1.below hb1
    have k5 := k4.cell
    have k6 := k4.froz
    have k7 := fun o => cell_al o k5
    have k8 := fun o => froz_al o k5 k6
    have hz := hb1.size
    simp only [World.size_alloc] at hz
    have n1 : ¬ b = w1.heap.size := by omega
    have n2 : ¬ b = W.heap.size + 1 + 1 := by omega
    have n3 : ¬ w1.heap.size = W.heap.size + 1 + 1 := by omega
    have n4 : ¬ W.heap.size + 1 + 1 = w1.heap.size := by omega
    obtain ⟨t0, t1, t2, t3⟩ := (Two.new ((W.alloc (.cells #[.int .i64 x.n, .int .i64 x.d] 24)).alloc (.cells #[.int .i64 y.n, .int .i64 y.d] 24)) (.int .i64 0) (.int .i64 0) 24).below hb1 (Nat.le_refl _)
    simp only [World.size_alloc] at t0 t1 t2 t3
    have t4 := fun o => cell_al o t0
    have t5 := fun o => cell_al o t1
    have t6 := fun o => froz_al o t0 t2
    have t7 := fun o => froz_al o t1 t3
    go_wp2
    refine bodyPost_ret (v := .agg #[.int .i64 p, .int .i64 q]) (by simp [results, Tryd.results31, go_sem, t4, t5]) rfl ⟨rfl, ?_⟩
    exact do_end k4 ((Upto.of_below ((((Below.refl _ W).alloc (Nat.le_refl _) _).alloc (by simp) _).alloc (by simp; omega) _)).trans (Upto.of_below hb1)) (by omega) (by have := h.hb.size; omega) n2 rfl
  · simp only [er_2] at HO
    go_enter Tryd.func31, Tryd.ntmps31
    go_wp2_with fail
    refine HO.mono ?_
    rintro e w1 ⟨rfl, hb1⟩
    have k4 := k1.below hb1
    have k5 := k4.cell
    have k6 := k4.froz
    have k7 := fun o => cell_al o k5
    have k8 := fun o => froz_al o k5 k6
    have hz := hb1.size
    simp only [World.size_alloc] at hz
    have n1 : ¬ b = w1.heap.size := by omega
    have n2 : ¬ b = W.heap.size + 1 + 1 := by omega
    have n3 : ¬ w1.heap.size = W.heap.size + 1 + 1 := by omega
    have n4 : ¬ W.heap.size + 1 + 1 = w1.heap.size := by omega
    obtain ⟨t0, t1, t2, t3⟩ := (Two.new ((W.alloc (.cells #[.int .i64 x.n, .int .i64 x.d] 24)).alloc (.cells #[.int .i64 y.n, .int .i64 y.d] 24)) (.int .i64 0) (.int .i64 0) 24).below hb1 (Nat.le_refl _)
    simp only [World.size_alloc] at t0 t1 t2 t3
    have t4 := fun o => cell_al o t0
    have t5 := fun o => cell_al o t1
    have t6 := fun o => froz_al o t0 t2
    have t7 := fun o => froz_al o t1 t3
    go_wp2
    refine bodyPost_ret (v := .agg #[.int .i64 p, .int .i64 q]) (by simp [results, Tryd.results31, go_sem, t4, t5]) rfl ⟨rfl, ?_⟩
    exact do_end k4 ((Upto.of_below ((((Below.refl _ W).alloc (Nat.le_refl _) _).alloc (by simp) _).alloc (by simp; omega) _)).trans (Upto.of_below hb1)) (by omega) (by have := h.hb.size; omega) n2 rfl

end Go.Proofs.YtdjeblcmpegmpaaDoor

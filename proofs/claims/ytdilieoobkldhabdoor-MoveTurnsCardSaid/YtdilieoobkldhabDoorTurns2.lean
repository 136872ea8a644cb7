/-
  The walk of the law MoveTurns.
-/
import Derived.Test.YtdilieoobkldhabDoorTurns1
import Derived.Lib.QuietBelow
namespace Go.Proofs.YtdilieoobkldhabDoor
open Go.RowKit

theorem bel {W A w : World} (h : Below W.heap.size W A) (hb : Below A.heap.size A w) : Below W.heap.size W w := h.trans (hb.mono h.size)

set_option maxRecDepth 20000 in
set_option maxHeartbeats 8000000 in
theorem turns_ok (aT aB aS : Addr) (p : Pt) (W : World) (hE : E4 aT aB aS W) (hp : p.ok) :
    Calls Tryd.prog 3 #[pv p] W fun e w' => e = .returned (.bool true) ∧ Below W.heap.size W w' := by
  have HA := fun V hV => At_turn (aT := aT) (aB := aB) (aS := aS) hp V hV
  dsimp only [Mv.turn, Fr.whole, Fr.neg, mv, pv] at HA
  obtain ⟨y1, y2⟩ : -1073741824 ≤ p.y.n ∧ p.y.n ≤ 1073741824 := by
    have := (chk_zero.1 hp.2).2.2.1
    omega
  have HM := fun V hV => moved_true (aT := aT) (aB := aB) (aS := aS) V hV
  have H_t1 : ∀ V, E4 aT aB aS V → Calls Tryd.prog 8 #[.string b_t1] V fun e w' => e = .returned (.tuple #[.agg #[.int .i64 0, .int .i64 1, .int .i64 1, .int .i64 1, .int .i64 (-1), .int .i64 1, .int .i64 0, .int .i64 1, .int .i64 0, .int .i64 1, .int .i64 0, .int .i64 1], .nilIface]) ∧ Below V.heap.size V w' := fun V hV => by
    have := Read_t1 V hV
    rw [T1_eq] at this
    exact this
  have H_t4 : ∀ V, E4 aT aB aS V → Calls Tryd.prog 8 #[.string b_t4] V fun e w' => e = .returned (.tuple #[.agg #[.int .i64 1, .int .i64 1, .int .i64 0, .int .i64 1, .int .i64 0, .int .i64 1, .int .i64 1, .int .i64 1, .int .i64 0, .int .i64 1, .int .i64 0, .int .i64 1], .nilIface]) ∧ Below V.heap.size V w' := fun V hV => by
    have := Read_t4 V hV
    rw [T4_eq] at this
    exact this
  have H_t31 : ∀ V, E4 aT aB aS V → Calls Tryd.prog 8 #[.string b_t31] V fun e w' => e = .returned (.tuple #[.agg #[.int .i64 1, .int .i64 1, .int .i64 0, .int .i64 1, .int .i64 0, .int .i64 1, .int .i64 1, .int .i64 1, .int .i64 0, .int .i64 1, .int .i64 0, .int .i64 1], .nilIface]) ∧ Below V.heap.size V w' := fun V hV => by
    have := Read_t31 V hV
    rw [T4_eq] at this
    exact this
  have H_sc : ∀ V, E4 aT aB aS V → Calls Tryd.prog 8 #[.string b_sc] V fun e w' => e = .returned (.tuple #[.agg #[.int .i64 (-1), .int .i64 1, .int .i64 0, .int .i64 1, .int .i64 0, .int .i64 1, .int .i64 (-1), .int .i64 1, .int .i64 0, .int .i64 1, .int .i64 0, .int .i64 1], .nilIface]) ∧ Below V.heap.size V w' := fun V hV => by
    have := Read_sc V hV
    rw [T2_eq] at this
    exact this
  have H_t2 : ∀ V, E4 aT aB aS V → Calls Tryd.prog 8 #[.string b_t2] V fun e w' => e = .returned (.tuple #[.agg #[.int .i64 (-1), .int .i64 1, .int .i64 0, .int .i64 1, .int .i64 0, .int .i64 1, .int .i64 (-1), .int .i64 1, .int .i64 0, .int .i64 1, .int .i64 0, .int .i64 1], .nilIface]) ∧ Below V.heap.size V w' := fun V hV => by
    have := Read_t2 V hV
    rw [T2_eq] at this
    exact this
  have L0 := (Below.refl W.heap.size W).alloc (Nat.le_refl _) (.cells #[.int .i64 p.x.n, .int .i64 p.x.d, .int .i64 p.y.n, .int .i64 p.y.d] 25)
  have P0 := Blk.new W #[.int .i64 p.x.n, .int .i64 p.x.d, .int .i64 p.y.n, .int .i64 p.y.d] 25
  go_enter Tryd.func3, Tryd.ntmps3
  go_wp2_with (first | (go_at_call 7; refine (HM _ (hE.below L0 (Nat.le_refl _))).mono ?_; clear HM; rintro e w1 ⟨rfl, hb1⟩; have L1 := bel L0 hb1; have P1 := P0.below hb1 (Nat.le_refl _)) | (go_at_call 8; refine (H_t1 _ (hE.below L1 (Nat.le_refl _))).mono ?_; clear H_t1; rintro e w2 ⟨rfl, hb2⟩; have L2 := (bel L1 hb2).alloc (bel L1 hb2).size (.cells #[.int .i64 0, .int .i64 1, .int .i64 1, .int .i64 1, .int .i64 (-1), .int .i64 1, .int .i64 0, .int .i64 1, .int .i64 0, .int .i64 1, .int .i64 0, .int .i64 1] 28); have P2 := (P1.below hb2 (Nat.le_refl _)).alloc (.cells #[.int .i64 0, .int .i64 1, .int .i64 1, .int .i64 1, .int .i64 (-1), .int .i64 1, .int .i64 0, .int .i64 1, .int .i64 0, .int .i64 1, .int .i64 0, .int .i64 1] 28); have A2 := Blk.new w2 #[.int .i64 0, .int .i64 1, .int .i64 1, .int .i64 1, .int .i64 (-1), .int .i64 1, .int .i64 0, .int .i64 1, .int .i64 0, .int .i64 1, .int .i64 0, .int .i64 1] 28) | (go_at_call 8; refine (H_t4 _ (hE.below L2 (Nat.le_refl _))).mono ?_; clear H_t4; rintro e w3 ⟨rfl, hb3⟩; have L3 := (bel L2 hb3).alloc (bel L2 hb3).size (.cells #[.int .i64 1, .int .i64 1, .int .i64 0, .int .i64 1, .int .i64 0, .int .i64 1, .int .i64 1, .int .i64 1, .int .i64 0, .int .i64 1, .int .i64 0, .int .i64 1] 28); have P3 := (P2.below hb3 (Nat.le_refl _)).alloc (.cells #[.int .i64 1, .int .i64 1, .int .i64 0, .int .i64 1, .int .i64 0, .int .i64 1, .int .i64 1, .int .i64 1, .int .i64 0, .int .i64 1, .int .i64 0, .int .i64 1] 28); have A3 := (A2.below hb3 (Nat.le_refl _)).alloc (.cells #[.int .i64 1, .int .i64 1, .int .i64 0, .int .i64 1, .int .i64 0, .int .i64 1, .int .i64 1, .int .i64 1, .int .i64 0, .int .i64 1, .int .i64 0, .int .i64 1] 28); have B3 := Blk.new w3 #[.int .i64 1, .int .i64 1, .int .i64 0, .int .i64 1, .int .i64 0, .int .i64 1, .int .i64 1, .int .i64 1, .int .i64 0, .int .i64 1, .int .i64 0, .int .i64 1] 28) | (go_at_call 8; refine (H_t31 _ (hE.below L3 (Nat.le_refl _))).mono ?_; clear H_t31; rintro e w4 ⟨rfl, hb4⟩; have L4 := (bel L3 hb4).alloc (bel L3 hb4).size (.cells #[.int .i64 1, .int .i64 1, .int .i64 0, .int .i64 1, .int .i64 0, .int .i64 1, .int .i64 1, .int .i64 1, .int .i64 0, .int .i64 1, .int .i64 0, .int .i64 1] 28); have P4 := (P3.below hb4 (Nat.le_refl _)).alloc (.cells #[.int .i64 1, .int .i64 1, .int .i64 0, .int .i64 1, .int .i64 0, .int .i64 1, .int .i64 1, .int .i64 1, .int .i64 0, .int .i64 1, .int .i64 0, .int .i64 1] 28); have A4 := (A3.below hb4 (Nat.le_refl _)).alloc (.cells #[.int .i64 1, .int .i64 1, .int .i64 0, .int .i64 1, .int .i64 0, .int .i64 1, .int .i64 1, .int .i64 1, .int .i64 0, .int .i64 1, .int .i64 0, .int .i64 1] 28); have B4 := (B3.below hb4 (Nat.le_refl _)).alloc (.cells #[.int .i64 1, .int .i64 1, .int .i64 0, .int .i64 1, .int .i64 0, .int .i64 1, .int .i64 1, .int .i64 1, .int .i64 0, .int .i64 1, .int .i64 0, .int .i64 1] 28); have C4 := Blk.new w4 #[.int .i64 1, .int .i64 1, .int .i64 0, .int .i64 1, .int .i64 0, .int .i64 1, .int .i64 1, .int .i64 1, .int .i64 0, .int .i64 1, .int .i64 0, .int .i64 1] 28) | (go_at_call 8; refine (H_sc _ (hE.below L4 (Nat.le_refl _))).mono ?_; clear H_sc; rintro e w5 ⟨rfl, hb5⟩; have L5 := (bel L4 hb5).alloc (bel L4 hb5).size (.cells #[.int .i64 (-1), .int .i64 1, .int .i64 0, .int .i64 1, .int .i64 0, .int .i64 1, .int .i64 (-1), .int .i64 1, .int .i64 0, .int .i64 1, .int .i64 0, .int .i64 1] 28); have P5 := (P4.below hb5 (Nat.le_refl _)).alloc (.cells #[.int .i64 (-1), .int .i64 1, .int .i64 0, .int .i64 1, .int .i64 0, .int .i64 1, .int .i64 (-1), .int .i64 1, .int .i64 0, .int .i64 1, .int .i64 0, .int .i64 1] 28); have A5 := (A4.below hb5 (Nat.le_refl _)).alloc (.cells #[.int .i64 (-1), .int .i64 1, .int .i64 0, .int .i64 1, .int .i64 0, .int .i64 1, .int .i64 (-1), .int .i64 1, .int .i64 0, .int .i64 1, .int .i64 0, .int .i64 1] 28); have B5 := (B4.below hb5 (Nat.le_refl _)).alloc (.cells #[.int .i64 (-1), .int .i64 1, .int .i64 0, .int .i64 1, .int .i64 0, .int .i64 1, .int .i64 (-1), .int .i64 1, .int .i64 0, .int .i64 1, .int .i64 0, .int .i64 1] 28); have C5 := (C4.below hb5 (Nat.le_refl _)).alloc (.cells #[.int .i64 (-1), .int .i64 1, .int .i64 0, .int .i64 1, .int .i64 0, .int .i64 1, .int .i64 (-1), .int .i64 1, .int .i64 0, .int .i64 1, .int .i64 0, .int .i64 1] 28); have D5 := Blk.new w5 #[.int .i64 (-1), .int .i64 1, .int .i64 0, .int .i64 1, .int .i64 0, .int .i64 1, .int .i64 (-1), .int .i64 1, .int .i64 0, .int .i64 1, .int .i64 0, .int .i64 1] 28) | (go_at_call 8; refine (H_t2 _ (hE.below L5 (Nat.le_refl _))).mono ?_; clear H_t2; rintro e w6 ⟨rfl, hb6⟩; have L6 := (bel L5 hb6).alloc (bel L5 hb6).size (.cells #[.int .i64 (-1), .int .i64 1, .int .i64 0, .int .i64 1, .int .i64 0, .int .i64 1, .int .i64 (-1), .int .i64 1, .int .i64 0, .int .i64 1, .int .i64 0, .int .i64 1] 28); have P6 := (P5.below hb6 (Nat.le_refl _)).alloc (.cells #[.int .i64 (-1), .int .i64 1, .int .i64 0, .int .i64 1, .int .i64 0, .int .i64 1, .int .i64 (-1), .int .i64 1, .int .i64 0, .int .i64 1, .int .i64 0, .int .i64 1] 28); have A6 := (A5.below hb6 (Nat.le_refl _)).alloc (.cells #[.int .i64 (-1), .int .i64 1, .int .i64 0, .int .i64 1, .int .i64 0, .int .i64 1, .int .i64 (-1), .int .i64 1, .int .i64 0, .int .i64 1, .int .i64 0, .int .i64 1] 28); have B6 := (B5.below hb6 (Nat.le_refl _)).alloc (.cells #[.int .i64 (-1), .int .i64 1, .int .i64 0, .int .i64 1, .int .i64 0, .int .i64 1, .int .i64 (-1), .int .i64 1, .int .i64 0, .int .i64 1, .int .i64 0, .int .i64 1] 28); have C6 := (C5.below hb6 (Nat.le_refl _)).alloc (.cells #[.int .i64 (-1), .int .i64 1, .int .i64 0, .int .i64 1, .int .i64 0, .int .i64 1, .int .i64 (-1), .int .i64 1, .int .i64 0, .int .i64 1, .int .i64 0, .int .i64 1] 28); have D6 := (D5.below hb6 (Nat.le_refl _)).alloc (.cells #[.int .i64 (-1), .int .i64 1, .int .i64 0, .int .i64 1, .int .i64 0, .int .i64 1, .int .i64 (-1), .int .i64 1, .int .i64 0, .int .i64 1, .int .i64 0, .int .i64 1] 28); have E6 := Blk.new w6 #[.int .i64 (-1), .int .i64 1, .int .i64 0, .int .i64 1, .int .i64 0, .int .i64 1, .int .i64 (-1), .int .i64 1, .int .i64 0, .int .i64 1, .int .i64 0, .int .i64 1] 28))
  have hF : ∃ U, w6.alloc (.cells #[.int .i64 (-1), .int .i64 1, .int .i64 0, .int .i64 1, .int .i64 0, .int .i64 1, .int .i64 (-1), .int .i64 1, .int .i64 0, .int .i64 1, .int .i64 0, .int .i64 1] 28) = U := ⟨_, rfl⟩
  obtain ⟨U, hU⟩ := hF
  rw [hU] at L6 P6 A6 B6 C6 D6 E6 ⊢
  clear hU
  have qO : ∀ d os, Calls Tryd.prog 9 #[] (Go.Sort.grow (redrawn U d) os) fun e w'' => e = .returned (.agg #[.int .i64 1, .int .i64 1, .int .i64 0, .int .i64 1, .int .i64 0, .int .i64 1, .int .i64 1, .int .i64 1, .int .i64 0, .int .i64 1, .int .i64 0, .int .i64 1]) ∧ ∃ p : Regrown, w'' = Go.Sort.grow (redrawn U p.d) p.os := fun d os => Calls.regrown_of (One_any _)
  have rB0 := cell_regrown (B6.cell 0 _ rfl)
  have rB1 := cell_regrown (B6.cell 1 _ rfl)
  have rB2 := cell_regrown (B6.cell 2 _ rfl)
  have rB3 := cell_regrown (B6.cell 3 _ rfl)
  have rB4 := cell_regrown (B6.cell 4 _ rfl)
  have rB5 := cell_regrown (B6.cell 5 _ rfl)
  have rB6 := cell_regrown (B6.cell 6 _ rfl)
  have rB7 := cell_regrown (B6.cell 7 _ rfl)
  have rB8 := cell_regrown (B6.cell 8 _ rfl)
  have rB9 := cell_regrown (B6.cell 9 _ rfl)
  have rB10 := cell_regrown (B6.cell 10 _ rfl)
  have rB11 := cell_regrown (B6.cell 11 _ rfl)
  have rC0 := cell_regrown (C6.cell 0 _ rfl)
  have rC1 := cell_regrown (C6.cell 1 _ rfl)
  have rC2 := cell_regrown (C6.cell 2 _ rfl)
  have rC3 := cell_regrown (C6.cell 3 _ rfl)
  have rC4 := cell_regrown (C6.cell 4 _ rfl)
  have rC5 := cell_regrown (C6.cell 5 _ rfl)
  have rC6 := cell_regrown (C6.cell 6 _ rfl)
  have rC7 := cell_regrown (C6.cell 7 _ rfl)
  have rC8 := cell_regrown (C6.cell 8 _ rfl)
  have rC9 := cell_regrown (C6.cell 9 _ rfl)
  have rC10 := cell_regrown (C6.cell 10 _ rfl)
  have rC11 := cell_regrown (C6.cell 11 _ rfl)
  have rD0 := cell_regrown (D6.cell 0 _ rfl)
  have rD1 := cell_regrown (D6.cell 1 _ rfl)
  have rD2 := cell_regrown (D6.cell 2 _ rfl)
  have rD3 := cell_regrown (D6.cell 3 _ rfl)
  have rD4 := cell_regrown (D6.cell 4 _ rfl)
  have rD5 := cell_regrown (D6.cell 5 _ rfl)
  have rD6 := cell_regrown (D6.cell 6 _ rfl)
  have rD7 := cell_regrown (D6.cell 7 _ rfl)
  have rD8 := cell_regrown (D6.cell 8 _ rfl)
  have rD9 := cell_regrown (D6.cell 9 _ rfl)
  have rD10 := cell_regrown (D6.cell 10 _ rfl)
  have rD11 := cell_regrown (D6.cell 11 _ rfl)
  have rE0 := cell_regrown (E6.cell 0 _ rfl)
  have rE1 := cell_regrown (E6.cell 1 _ rfl)
  have rE2 := cell_regrown (E6.cell 2 _ rfl)
  have rE3 := cell_regrown (E6.cell 3 _ rfl)
  have rE4 := cell_regrown (E6.cell 4 _ rfl)
  have rE5 := cell_regrown (E6.cell 5 _ rfl)
  have rE6 := cell_regrown (E6.cell 6 _ rfl)
  have rE7 := cell_regrown (E6.cell 7 _ rfl)
  have rE8 := cell_regrown (E6.cell 8 _ rfl)
  have rE9 := cell_regrown (E6.cell 9 _ rfl)
  have rE10 := cell_regrown (E6.cell 10 _ rfl)
  have rE11 := cell_regrown (E6.cell 11 _ rfl)
  refine wp_region_quiet_below (by kernel_rfl) (by kernel_rfl) ?_
  repeat (quiet_step (first | (go_at_call 9; exact qO _ _)))
  refine wpQuiet_nil ?_
  intro _ hw'
  obtain ⟨pq, hw''⟩ := hw'
  subst hw''
  clear rB0 rB1 rB2 rB3 rB4 rB5 rB6 rB7 rB8 rB9 rB10 rB11 rC0 rC1 rC2 rC3 rC4 rC5 rC6 rC7 rC8 rC9 rC10 rC11 rD0 rD1 rD2 rD3 rD4 rD5 rD6 rD7 rD8 rD9 rD10 rD11 rE0 rE1 rE2 rE3 rE4 rE5 rE6 rE7 rE8 rE9 rE10 rE11 qO
  have hbU := below_regrown U pq.d pq.os
  have L7 := bel L6 hbU
  have P7 := P6.below hbU (Nat.le_refl _)
  have A7 := A6.below hbU (Nat.le_refl _)
  clear hbU
  generalize Go.Sort.grow (redrawn U pq.d) pq.os = V at L7 P7 A7 ⊢
  have a0 := A7.cell 0 _ rfl
  have a1 := A7.cell 1 _ rfl
  have a2 := A7.cell 2 _ rfl
  have a3 := A7.cell 3 _ rfl
  have a4 := A7.cell 4 _ rfl
  have a5 := A7.cell 5 _ rfl
  have a6 := A7.cell 6 _ rfl
  have a7 := A7.cell 7 _ rfl
  have a8 := A7.cell 8 _ rfl
  have a9 := A7.cell 9 _ rfl
  have a10 := A7.cell 10 _ rfl
  have a11 := A7.cell 11 _ rfl
  have p0 := P7.cell 0 _ rfl
  have p1 := P7.cell 1 _ rfl
  have p2 := P7.cell 2 _ rfl
  have p3 := P7.cell 3 _ rfl
  go_wp2_with (go_at_call 10; refine (HA _ (hE.below L7 (Nat.le_refl _))).mono ?_; rintro e w8 ⟨rfl, hb8⟩; have P8 := P7.below hb8 (Nat.le_refl _); have z0 := fun o => cell_al o (P8.cell 0 _ rfl); have z1 := fun o => cell_al o (P8.cell 1 _ rfl); have z2 := fun o => cell_al o (P8.cell 2 _ rfl); have z3 := fun o => cell_al o (P8.cell 3 _ rfl))
  go_ret
  exact ⟨rfl, (bel L7 hb8).alloc (bel L7 hb8).size _⟩

set_option maxRecDepth 20000 in
set_option maxHeartbeats 8000000 in
theorem turns_no (aT aB aS : Addr) (p : Pt) (W : World) (hE : E4 aT aB aS W) (hi : p.i64) (hp : ¬ p.ok) :
    Calls Tryd.prog 3 #[pv p] W fun e w' => e = .returned (.bool true) ∧ Below W.heap.size W w' := by
  have HA := fun V hV => At_turn_no (aT := aT) (aB := aB) (aS := aS) hi hp V hV
  dsimp only [Mv.turn, Fr.whole, Pt.zero, Fr.zero, mv, pv] at HA
  have HM := fun V hV => moved_true (aT := aT) (aB := aB) (aS := aS) V hV
  have H_t1 : ∀ V, E4 aT aB aS V → Calls Tryd.prog 8 #[.string b_t1] V fun e w' => e = .returned (.tuple #[.agg #[.int .i64 0, .int .i64 1, .int .i64 1, .int .i64 1, .int .i64 (-1), .int .i64 1, .int .i64 0, .int .i64 1, .int .i64 0, .int .i64 1, .int .i64 0, .int .i64 1], .nilIface]) ∧ Below V.heap.size V w' := fun V hV => by
    have := Read_t1 V hV
    rw [T1_eq] at this
    exact this
  have H_t4 : ∀ V, E4 aT aB aS V → Calls Tryd.prog 8 #[.string b_t4] V fun e w' => e = .returned (.tuple #[.agg #[.int .i64 1, .int .i64 1, .int .i64 0, .int .i64 1, .int .i64 0, .int .i64 1, .int .i64 1, .int .i64 1, .int .i64 0, .int .i64 1, .int .i64 0, .int .i64 1], .nilIface]) ∧ Below V.heap.size V w' := fun V hV => by
    have := Read_t4 V hV
    rw [T4_eq] at this
    exact this
  have H_t31 : ∀ V, E4 aT aB aS V → Calls Tryd.prog 8 #[.string b_t31] V fun e w' => e = .returned (.tuple #[.agg #[.int .i64 1, .int .i64 1, .int .i64 0, .int .i64 1, .int .i64 0, .int .i64 1, .int .i64 1, .int .i64 1, .int .i64 0, .int .i64 1, .int .i64 0, .int .i64 1], .nilIface]) ∧ Below V.heap.size V w' := fun V hV => by
    have := Read_t31 V hV
    rw [T4_eq] at this
    exact this
  have H_sc : ∀ V, E4 aT aB aS V → Calls Tryd.prog 8 #[.string b_sc] V fun e w' => e = .returned (.tuple #[.agg #[.int .i64 (-1), .int .i64 1, .int .i64 0, .int .i64 1, .int .i64 0, .int .i64 1, .int .i64 (-1), .int .i64 1, .int .i64 0, .int .i64 1, .int .i64 0, .int .i64 1], .nilIface]) ∧ Below V.heap.size V w' := fun V hV => by
    have := Read_sc V hV
    rw [T2_eq] at this
    exact this
  have H_t2 : ∀ V, E4 aT aB aS V → Calls Tryd.prog 8 #[.string b_t2] V fun e w' => e = .returned (.tuple #[.agg #[.int .i64 (-1), .int .i64 1, .int .i64 0, .int .i64 1, .int .i64 0, .int .i64 1, .int .i64 (-1), .int .i64 1, .int .i64 0, .int .i64 1, .int .i64 0, .int .i64 1], .nilIface]) ∧ Below V.heap.size V w' := fun V hV => by
    have := Read_t2 V hV
    rw [T2_eq] at this
    exact this
  have L0 := (Below.refl W.heap.size W).alloc (Nat.le_refl _) (.cells #[.int .i64 p.x.n, .int .i64 p.x.d, .int .i64 p.y.n, .int .i64 p.y.d] 25)
  have P0 := Blk.new W #[.int .i64 p.x.n, .int .i64 p.x.d, .int .i64 p.y.n, .int .i64 p.y.d] 25
  go_enter Tryd.func3, Tryd.ntmps3
  go_wp2_with (first | (go_at_call 7; refine (HM _ (hE.below L0 (Nat.le_refl _))).mono ?_; clear HM; rintro e w1 ⟨rfl, hb1⟩; have L1 := bel L0 hb1; have P1 := P0.below hb1 (Nat.le_refl _)) | (go_at_call 8; refine (H_t1 _ (hE.below L1 (Nat.le_refl _))).mono ?_; clear H_t1; rintro e w2 ⟨rfl, hb2⟩; have L2 := (bel L1 hb2).alloc (bel L1 hb2).size (.cells #[.int .i64 0, .int .i64 1, .int .i64 1, .int .i64 1, .int .i64 (-1), .int .i64 1, .int .i64 0, .int .i64 1, .int .i64 0, .int .i64 1, .int .i64 0, .int .i64 1] 28); have P2 := (P1.below hb2 (Nat.le_refl _)).alloc (.cells #[.int .i64 0, .int .i64 1, .int .i64 1, .int .i64 1, .int .i64 (-1), .int .i64 1, .int .i64 0, .int .i64 1, .int .i64 0, .int .i64 1, .int .i64 0, .int .i64 1] 28); have A2 := Blk.new w2 #[.int .i64 0, .int .i64 1, .int .i64 1, .int .i64 1, .int .i64 (-1), .int .i64 1, .int .i64 0, .int .i64 1, .int .i64 0, .int .i64 1, .int .i64 0, .int .i64 1] 28) | (go_at_call 8; refine (H_t4 _ (hE.below L2 (Nat.le_refl _))).mono ?_; clear H_t4; rintro e w3 ⟨rfl, hb3⟩; have L3 := (bel L2 hb3).alloc (bel L2 hb3).size (.cells #[.int .i64 1, .int .i64 1, .int .i64 0, .int .i64 1, .int .i64 0, .int .i64 1, .int .i64 1, .int .i64 1, .int .i64 0, .int .i64 1, .int .i64 0, .int .i64 1] 28); have P3 := (P2.below hb3 (Nat.le_refl _)).alloc (.cells #[.int .i64 1, .int .i64 1, .int .i64 0, .int .i64 1, .int .i64 0, .int .i64 1, .int .i64 1, .int .i64 1, .int .i64 0, .int .i64 1, .int .i64 0, .int .i64 1] 28); have A3 := (A2.below hb3 (Nat.le_refl _)).alloc (.cells #[.int .i64 1, .int .i64 1, .int .i64 0, .int .i64 1, .int .i64 0, .int .i64 1, .int .i64 1, .int .i64 1, .int .i64 0, .int .i64 1, .int .i64 0, .int .i64 1] 28); have B3 := Blk.new w3 #[.int .i64 1, .int .i64 1, .int .i64 0, .int .i64 1, .int .i64 0, .int .i64 1, .int .i64 1, .int .i64 1, .int .i64 0, .int .i64 1, .int .i64 0, .int .i64 1] 28) | (go_at_call 8; refine (H_t31 _ (hE.below L3 (Nat.le_refl _))).mono ?_; clear H_t31; rintro e w4 ⟨rfl, hb4⟩; have L4 := (bel L3 hb4).alloc (bel L3 hb4).size (.cells #[.int .i64 1, .int .i64 1, .int .i64 0, .int .i64 1, .int .i64 0, .int .i64 1, .int .i64 1, .int .i64 1, .int .i64 0, .int .i64 1, .int .i64 0, .int .i64 1] 28); have P4 := (P3.below hb4 (Nat.le_refl _)).alloc (.cells #[.int .i64 1, .int .i64 1, .int .i64 0, .int .i64 1, .int .i64 0, .int .i64 1, .int .i64 1, .int .i64 1, .int .i64 0, .int .i64 1, .int .i64 0, .int .i64 1] 28); have A4 := (A3.below hb4 (Nat.le_refl _)).alloc (.cells #[.int .i64 1, .int .i64 1, .int .i64 0, .int .i64 1, .int .i64 0, .int .i64 1, .int .i64 1, .int .i64 1, .int .i64 0, .int .i64 1, .int .i64 0, .int .i64 1] 28); have B4 := (B3.below hb4 (Nat.le_refl _)).alloc (.cells #[.int .i64 1, .int .i64 1, .int .i64 0, .int .i64 1, .int .i64 0, .int .i64 1, .int .i64 1, .int .i64 1, .int .i64 0, .int .i64 1, .int .i64 0, .int .i64 1] 28); have C4 := Blk.new w4 #[.int .i64 1, .int .i64 1, .int .i64 0, .int .i64 1, .int .i64 0, .int .i64 1, .int .i64 1, .int .i64 1, .int .i64 0, .int .i64 1, .int .i64 0, .int .i64 1] 28) | (go_at_call 8; refine (H_sc _ (hE.below L4 (Nat.le_refl _))).mono ?_; clear H_sc; rintro e w5 ⟨rfl, hb5⟩; have L5 := (bel L4 hb5).alloc (bel L4 hb5).size (.cells #[.int .i64 (-1), .int .i64 1, .int .i64 0, .int .i64 1, .int .i64 0, .int .i64 1, .int .i64 (-1), .int .i64 1, .int .i64 0, .int .i64 1, .int .i64 0, .int .i64 1] 28); have P5 := (P4.below hb5 (Nat.le_refl _)).alloc (.cells #[.int .i64 (-1), .int .i64 1, .int .i64 0, .int .i64 1, .int .i64 0, .int .i64 1, .int .i64 (-1), .int .i64 1, .int .i64 0, .int .i64 1, .int .i64 0, .int .i64 1] 28); have A5 := (A4.below hb5 (Nat.le_refl _)).alloc (.cells #[.int .i64 (-1), .int .i64 1, .int .i64 0, .int .i64 1, .int .i64 0, .int .i64 1, .int .i64 (-1), .int .i64 1, .int .i64 0, .int .i64 1, .int .i64 0, .int .i64 1] 28); have B5 := (B4.below hb5 (Nat.le_refl _)).alloc (.cells #[.int .i64 (-1), .int .i64 1, .int .i64 0, .int .i64 1, .int .i64 0, .int .i64 1, .int .i64 (-1), .int .i64 1, .int .i64 0, .int .i64 1, .int .i64 0, .int .i64 1] 28); have C5 := (C4.below hb5 (Nat.le_refl _)).alloc (.cells #[.int .i64 (-1), .int .i64 1, .int .i64 0, .int .i64 1, .int .i64 0, .int .i64 1, .int .i64 (-1), .int .i64 1, .int .i64 0, .int .i64 1, .int .i64 0, .int .i64 1] 28); have D5 := Blk.new w5 #[.int .i64 (-1), .int .i64 1, .int .i64 0, .int .i64 1, .int .i64 0, .int .i64 1, .int .i64 (-1), .int .i64 1, .int .i64 0, .int .i64 1, .int .i64 0, .int .i64 1] 28) | (go_at_call 8; refine (H_t2 _ (hE.below L5 (Nat.le_refl _))).mono ?_; clear H_t2; rintro e w6 ⟨rfl, hb6⟩; have L6 := (bel L5 hb6).alloc (bel L5 hb6).size (.cells #[.int .i64 (-1), .int .i64 1, .int .i64 0, .int .i64 1, .int .i64 0, .int .i64 1, .int .i64 (-1), .int .i64 1, .int .i64 0, .int .i64 1, .int .i64 0, .int .i64 1] 28); have P6 := (P5.below hb6 (Nat.le_refl _)).alloc (.cells #[.int .i64 (-1), .int .i64 1, .int .i64 0, .int .i64 1, .int .i64 0, .int .i64 1, .int .i64 (-1), .int .i64 1, .int .i64 0, .int .i64 1, .int .i64 0, .int .i64 1] 28); have A6 := (A5.below hb6 (Nat.le_refl _)).alloc (.cells #[.int .i64 (-1), .int .i64 1, .int .i64 0, .int .i64 1, .int .i64 0, .int .i64 1, .int .i64 (-1), .int .i64 1, .int .i64 0, .int .i64 1, .int .i64 0, .int .i64 1] 28); have B6 := (B5.below hb6 (Nat.le_refl _)).alloc (.cells #[.int .i64 (-1), .int .i64 1, .int .i64 0, .int .i64 1, .int .i64 0, .int .i64 1, .int .i64 (-1), .int .i64 1, .int .i64 0, .int .i64 1, .int .i64 0, .int .i64 1] 28); have C6 := (C5.below hb6 (Nat.le_refl _)).alloc (.cells #[.int .i64 (-1), .int .i64 1, .int .i64 0, .int .i64 1, .int .i64 0, .int .i64 1, .int .i64 (-1), .int .i64 1, .int .i64 0, .int .i64 1, .int .i64 0, .int .i64 1] 28); have D6 := (D5.below hb6 (Nat.le_refl _)).alloc (.cells #[.int .i64 (-1), .int .i64 1, .int .i64 0, .int .i64 1, .int .i64 0, .int .i64 1, .int .i64 (-1), .int .i64 1, .int .i64 0, .int .i64 1, .int .i64 0, .int .i64 1] 28); have E6 := Blk.new w6 #[.int .i64 (-1), .int .i64 1, .int .i64 0, .int .i64 1, .int .i64 0, .int .i64 1, .int .i64 (-1), .int .i64 1, .int .i64 0, .int .i64 1, .int .i64 0, .int .i64 1] 28))
  have hF : ∃ U, w6.alloc (.cells #[.int .i64 (-1), .int .i64 1, .int .i64 0, .int .i64 1, .int .i64 0, .int .i64 1, .int .i64 (-1), .int .i64 1, .int .i64 0, .int .i64 1, .int .i64 0, .int .i64 1] 28) = U := ⟨_, rfl⟩
  obtain ⟨U, hU⟩ := hF
  rw [hU] at L6 P6 A6 B6 C6 D6 E6 ⊢
  clear hU
  have qO : ∀ d os, Calls Tryd.prog 9 #[] (Go.Sort.grow (redrawn U d) os) fun e w'' => e = .returned (.agg #[.int .i64 1, .int .i64 1, .int .i64 0, .int .i64 1, .int .i64 0, .int .i64 1, .int .i64 1, .int .i64 1, .int .i64 0, .int .i64 1, .int .i64 0, .int .i64 1]) ∧ ∃ p : Regrown, w'' = Go.Sort.grow (redrawn U p.d) p.os := fun d os => Calls.regrown_of (One_any _)
  have rB0 := cell_regrown (B6.cell 0 _ rfl)
  have rB1 := cell_regrown (B6.cell 1 _ rfl)
  have rB2 := cell_regrown (B6.cell 2 _ rfl)
  have rB3 := cell_regrown (B6.cell 3 _ rfl)
  have rB4 := cell_regrown (B6.cell 4 _ rfl)
  have rB5 := cell_regrown (B6.cell 5 _ rfl)
  have rB6 := cell_regrown (B6.cell 6 _ rfl)
  have rB7 := cell_regrown (B6.cell 7 _ rfl)
  have rB8 := cell_regrown (B6.cell 8 _ rfl)
  have rB9 := cell_regrown (B6.cell 9 _ rfl)
  have rB10 := cell_regrown (B6.cell 10 _ rfl)
  have rB11 := cell_regrown (B6.cell 11 _ rfl)
  have rC0 := cell_regrown (C6.cell 0 _ rfl)
  have rC1 := cell_regrown (C6.cell 1 _ rfl)
  have rC2 := cell_regrown (C6.cell 2 _ rfl)
  have rC3 := cell_regrown (C6.cell 3 _ rfl)
  have rC4 := cell_regrown (C6.cell 4 _ rfl)
  have rC5 := cell_regrown (C6.cell 5 _ rfl)
  have rC6 := cell_regrown (C6.cell 6 _ rfl)
  have rC7 := cell_regrown (C6.cell 7 _ rfl)
  have rC8 := cell_regrown (C6.cell 8 _ rfl)
  have rC9 := cell_regrown (C6.cell 9 _ rfl)
  have rC10 := cell_regrown (C6.cell 10 _ rfl)
  have rC11 := cell_regrown (C6.cell 11 _ rfl)
  have rD0 := cell_regrown (D6.cell 0 _ rfl)
  have rD1 := cell_regrown (D6.cell 1 _ rfl)
  have rD2 := cell_regrown (D6.cell 2 _ rfl)
  have rD3 := cell_regrown (D6.cell 3 _ rfl)
  have rD4 := cell_regrown (D6.cell 4 _ rfl)
  have rD5 := cell_regrown (D6.cell 5 _ rfl)
  have rD6 := cell_regrown (D6.cell 6 _ rfl)
  have rD7 := cell_regrown (D6.cell 7 _ rfl)
  have rD8 := cell_regrown (D6.cell 8 _ rfl)
  have rD9 := cell_regrown (D6.cell 9 _ rfl)
  have rD10 := cell_regrown (D6.cell 10 _ rfl)
  have rD11 := cell_regrown (D6.cell 11 _ rfl)
  have rE0 := cell_regrown (E6.cell 0 _ rfl)
  have rE1 := cell_regrown (E6.cell 1 _ rfl)
  have rE2 := cell_regrown (E6.cell 2 _ rfl)
  have rE3 := cell_regrown (E6.cell 3 _ rfl)
  have rE4 := cell_regrown (E6.cell 4 _ rfl)
  have rE5 := cell_regrown (E6.cell 5 _ rfl)
  have rE6 := cell_regrown (E6.cell 6 _ rfl)
  have rE7 := cell_regrown (E6.cell 7 _ rfl)
  have rE8 := cell_regrown (E6.cell 8 _ rfl)
  have rE9 := cell_regrown (E6.cell 9 _ rfl)
  have rE10 := cell_regrown (E6.cell 10 _ rfl)
  have rE11 := cell_regrown (E6.cell 11 _ rfl)
  refine wp_region_quiet_below (by kernel_rfl) (by kernel_rfl) ?_
  repeat (quiet_step (first | (go_at_call 9; exact qO _ _)))
  refine wpQuiet_nil ?_
  intro _ hw'
  obtain ⟨pq, hw''⟩ := hw'
  subst hw''
  clear rB0 rB1 rB2 rB3 rB4 rB5 rB6 rB7 rB8 rB9 rB10 rB11 rC0 rC1 rC2 rC3 rC4 rC5 rC6 rC7 rC8 rC9 rC10 rC11 rD0 rD1 rD2 rD3 rD4 rD5 rD6 rD7 rD8 rD9 rD10 rD11 rE0 rE1 rE2 rE3 rE4 rE5 rE6 rE7 rE8 rE9 rE10 rE11 qO
  have hbU := below_regrown U pq.d pq.os
  have L7 := bel L6 hbU
  have P7 := P6.below hbU (Nat.le_refl _)
  have A7 := A6.below hbU (Nat.le_refl _)
  clear hbU
  generalize Go.Sort.grow (redrawn U pq.d) pq.os = V at L7 P7 A7 ⊢
  have a0 := A7.cell 0 _ rfl
  have a1 := A7.cell 1 _ rfl
  have a2 := A7.cell 2 _ rfl
  have a3 := A7.cell 3 _ rfl
  have a4 := A7.cell 4 _ rfl
  have a5 := A7.cell 5 _ rfl
  have a6 := A7.cell 6 _ rfl
  have a7 := A7.cell 7 _ rfl
  have a8 := A7.cell 8 _ rfl
  have a9 := A7.cell 9 _ rfl
  have a10 := A7.cell 10 _ rfl
  have a11 := A7.cell 11 _ rfl
  have p0 := P7.cell 0 _ rfl
  have p1 := P7.cell 1 _ rfl
  have p2 := P7.cell 2 _ rfl
  have p3 := P7.cell 3 _ rfl
  go_wp2_with (go_at_call 10; refine (HA _ (hE.below L7 (Nat.le_refl _))).mono ?_; rintro e w8 ⟨⟨t, a, rfl⟩, hb8⟩)
  go_ret
  exact ⟨rfl, (bel L7 hb8).alloc (bel L7 hb8).size _⟩

theorem MoveTurns_any (aT aB aS : Addr) (p : Pt) (hi : p.i64) (W : World) (hE : E4 aT aB aS W) :
    Calls Tryd.prog 3 #[pv p] W fun e w' => e = .returned (.bool true) ∧ Below W.heap.size W w' := by
  by_cases hp : p.ok
  · exact turns_ok aT aB aS p W hE hp
  · exact turns_no aT aB aS p W hE hi hp

end Go.Proofs.YtdilieoobkldhabDoor

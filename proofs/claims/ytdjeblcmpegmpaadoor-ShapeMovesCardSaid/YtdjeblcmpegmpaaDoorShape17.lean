/-
  Package move's flat, at a move by whole steps.
-/
import Derived.Test.YtdjeblcmpegmpaaDoorShape16
namespace Go.Proofs.YtdjeblcmpegmpaaDoor
open Go.RowKit

theorem keepF {w w' : World} {R : Nat} {v0 v1 v2 v3 v4 v5 v6 v7 : Value} (hb : Below w.heap.size w w') (h : w.cell? ⟨R, 0, none⟩ = some v0 ∧ w.cell? ⟨R, 1, none⟩ = some v1 ∧ w.cell? ⟨R, 6, none⟩ = some v2 ∧ w.cell? ⟨R, 7, none⟩ = some v3 ∧ w.cell? ⟨R, 2, none⟩ = some v4 ∧ w.cell? ⟨R, 3, none⟩ = some v5 ∧ w.cell? ⟨R, 4, none⟩ = some v6 ∧ w.cell? ⟨R, 5, none⟩ = some v7) : w'.cell? ⟨R, 0, none⟩ = some v0 ∧ w'.cell? ⟨R, 1, none⟩ = some v1 ∧ w'.cell? ⟨R, 6, none⟩ = some v2 ∧ w'.cell? ⟨R, 7, none⟩ = some v3 ∧ w'.cell? ⟨R, 2, none⟩ = some v4 ∧ w'.cell? ⟨R, 3, none⟩ = some v5 ∧ w'.cell? ⟨R, 4, none⟩ = some v6 ∧ w'.cell? ⟨R, 5, none⟩ = some v7 := by
  obtain ⟨h0, h1, h2, h3, h4, h5, h6, h7⟩ := h
  exact ⟨(hb.cell (cell_lt h0)).trans h0, (hb.cell (cell_lt h1)).trans h1, (hb.cell (cell_lt h2)).trans h2, (hb.cell (cell_lt h3)).trans h3, (hb.cell (cell_lt h4)).trans h4, (hb.cell (cell_lt h5)).trans h5, (hb.cell (cell_lt h6)).trans h6, (hb.cell (cell_lt h7)).trans h7⟩
set_option maxRecDepth 20000 in
set_option maxHeartbeats 8000000 in
theorem flat_lit (x y : Int) (W : World) : Calls Tryd.prog 30 #[.agg #[.int .i64 1, .int .i64 1, .int .i64 0, .int .i64 1, .int .i64 0, .int .i64 1, .int .i64 1, .int .i64 1, .int .i64 x, .int .i64 1, .int .i64 y, .int .i64 1]] W fun e w' => e = .returned (.bool false) ∧ Below W.heap.size W w' := by
  have B0 := Blk.new W #[.int .i64 1, .int .i64 1, .int .i64 0, .int .i64 1, .int .i64 0, .int .i64 1, .int .i64 1, .int .i64 1, .int .i64 x, .int .i64 1, .int .i64 y, .int .i64 1] 37
  have L0 := (Below.refl W.heap.size W).alloc (Nat.le_refl _) (.cells #[.int .i64 1, .int .i64 1, .int .i64 0, .int .i64 1, .int .i64 0, .int .i64 1, .int .i64 1, .int .i64 1, .int .i64 x, .int .i64 1, .int .i64 y, .int .i64 1] 37)
  have hS : (fun w' => w'.cell? ⟨W.heap.size, 0, none⟩ = some (.int .i64 1) ∧ w'.cell? ⟨W.heap.size, 1, none⟩ = some (.int .i64 1) ∧ w'.cell? ⟨W.heap.size, 6, none⟩ = some (.int .i64 1) ∧ w'.cell? ⟨W.heap.size, 7, none⟩ = some (.int .i64 1) ∧ w'.cell? ⟨W.heap.size, 2, none⟩ = some (.int .i64 0) ∧ w'.cell? ⟨W.heap.size, 3, none⟩ = some (.int .i64 1) ∧ w'.cell? ⟨W.heap.size, 4, none⟩ = some (.int .i64 0) ∧ w'.cell? ⟨W.heap.size, 5, none⟩ = some (.int .i64 1)) ((W.alloc (.cells #[.int .i64 1, .int .i64 1, .int .i64 0, .int .i64 1, .int .i64 0, .int .i64 1, .int .i64 1, .int .i64 1, .int .i64 x, .int .i64 1, .int .i64 y, .int .i64 1] 37)).drewN 1) := ⟨B0.cell 0 _ rfl, B0.cell 1 _ rfl, B0.cell 6 _ rfl, B0.cell 7 _ rfl, B0.cell 2 _ rfl, B0.cell 3 _ rfl, B0.cell 4 _ rfl, B0.cell 5 _ rfl⟩
  have O := over_any
  go_enter Tryd.func30, Tryd.ntmps30
  go_upto_region 1 with fail
  go_region_held3 (fun w' => w'.cell? ⟨W.heap.size, 0, none⟩ = some (.int .i64 1) ∧ w'.cell? ⟨W.heap.size, 1, none⟩ = some (.int .i64 1) ∧ w'.cell? ⟨W.heap.size, 6, none⟩ = some (.int .i64 1) ∧ w'.cell? ⟨W.heap.size, 7, none⟩ = some (.int .i64 1) ∧ w'.cell? ⟨W.heap.size, 2, none⟩ = some (.int .i64 0) ∧ w'.cell? ⟨W.heap.size, 3, none⟩ = some (.int .i64 1) ∧ w'.cell? ⟨W.heap.size, 4, none⟩ = some (.int .i64 0) ∧ w'.cell? ⟨W.heap.size, 5, none⟩ = some (.int .i64 1)) (first | assumption | go_keep) (first | (go_at_call 51; have L1' := L1; refine (O 0 1 (.inr ⟨rfl, rfl⟩) _).mono ?_; rintro e w2 ⟨rfl, hb2⟩; have hs2 := keepF hb2 (by assumption); have L2 := L1'.trans (hb2.mono L1'.size)) | (go_at_call 51; refine (O 1 0 (.inl ⟨rfl, rfl⟩) _).mono ?_; rintro e w1 ⟨rfl, hb1⟩; have hs1 := keepF hb1 (by assumption); have L1 := (below_drewN L0 1).trans (hb1.mono L0.size)))
  go_wp2_with fail
  go_ret
  exact ⟨rfl, L2⟩
theorem flat_sh (x y : Int) (W : World) : Calls Tryd.prog 30 #[mv (shM x y)] W fun e w' => e = .returned (.bool false) ∧ Below W.heap.size W w' := flat_lit x y W
end Go.Proofs.YtdjeblcmpegmpaaDoor

/-
  Package move's kinds: what moves the fractions and the quarters of a text make.
-/
import Derived.Test.YtdilieoobkldhabDoorMove14
namespace Go.Proofs.YtdilieoobkldhabDoor
open Go.RowKit

def Mv.shift (x y : Fr) : Mv := ⟨.whole 1, .whole 0, .whole 0, .whole 1, x, y⟩
def Mv.scale (x y : Fr) : Mv := ⟨x, .whole 0, .whole 0, y, .whole 0, .whole 0⟩
def Mv.skew (x : Fr) : Mv := ⟨.whole 1, .whole 0, x, .whole 1, .whole 0, .whole 0⟩
def Mv.turn (c s : Int) : Mv := ⟨.whole c, .whole s, .whole (-s), .whole c, .whole 0, .whole 0⟩

set_option maxHeartbeats 1000000 in
theorem shift_any (g c : Nat) (x1 x2 : Fr) (W : World) (k0 : W.cell? ⟨g, 0, none⟩ = some (.int .i64 x1.n)) (k1 : W.cell? ⟨g, 1, none⟩ = some (.int .i64 x1.d)) (k2 : W.cell? ⟨g, 2, none⟩ = some (.int .i64 x2.n)) (k3 : W.cell? ⟨g, 3, none⟩ = some (.int .i64 x2.d)) :
    Calls Tryd.prog 69 #[.slice (some ⟨g, 0, none⟩) 2 c] W fun e w' => e = .returned (mv (Mv.shift x1 x2)) ∧ Below W.heap.size W w' := by
  have HO := One_any
  have lt := cell_lt k0
  simp only at lt
  have L0 := (Below.refl W.heap.size W).alloc (Nat.le_refl _) (.cells #[.int .i64 0, .int .i64 0, .int .i64 0, .int .i64 0, .int .i64 0, .int .i64 0, .int .i64 0, .int .i64 0, .int .i64 0, .int .i64 0, .int .i64 0, .int .i64 0] 28)
  have B0 := Blk.new W #[.int .i64 0, .int .i64 0, .int .i64 0, .int .i64 0, .int .i64 0, .int .i64 0, .int .i64 0, .int .i64 0, .int .i64 0, .int .i64 0, .int .i64 0, .int .i64 0] 28
  go_enter Tryd.func69, Tryd.ntmps69
  go_wp2_with (go_at_call 9; refine (HO _).mono ?_; rintro e w1 ⟨rfl, hb1⟩; have LO := L0.trans (hb1.mono (by simp)); have sz := hb1.size; simp only [World.size_alloc] at sz; have B1 := B0.below hb1 (Nat.le_refl _); have n1 : ¬ w1.heap.size = W.heap.size := (by omega); have n2 : ¬ W.heap.size = w1.heap.size := (by omega); have n3 : ¬ g = w1.heap.size := (by omega); have n4 : ¬ w1.heap.size = g := (by omega); dsimp only [Mv.one, Fr.whole]; have g0 := fun o => cell_al o ((LO.cell (p := ⟨g, 0, none⟩) (cell_lt k0)).trans k0); have g1 := fun o => cell_al o ((LO.cell (p := ⟨g, 1, none⟩) (cell_lt k1)).trans k1); have g2 := fun o => cell_al o ((LO.cell (p := ⟨g, 2, none⟩) (cell_lt k2)).trans k2); have g3 := fun o => cell_al o ((LO.cell (p := ⟨g, 3, none⟩) (cell_lt k3)).trans k3); have zc0 := fun o => cell_al o (B1.cell 0 _ rfl); have zf0 := fun o => froz_al o (B1.cell 0 _ rfl) (B1.froz 0 _ rfl); have zc1 := fun o => cell_al o (B1.cell 1 _ rfl); have zf1 := fun o => froz_al o (B1.cell 1 _ rfl) (B1.froz 1 _ rfl); have zc2 := fun o => cell_al o (B1.cell 2 _ rfl); have zf2 := fun o => froz_al o (B1.cell 2 _ rfl) (B1.froz 2 _ rfl); have zc3 := fun o => cell_al o (B1.cell 3 _ rfl); have zf3 := fun o => froz_al o (B1.cell 3 _ rfl) (B1.froz 3 _ rfl); have zc4 := fun o => cell_al o (B1.cell 4 _ rfl); have zf4 := fun o => froz_al o (B1.cell 4 _ rfl) (B1.froz 4 _ rfl); have zc5 := fun o => cell_al o (B1.cell 5 _ rfl); have zf5 := fun o => froz_al o (B1.cell 5 _ rfl) (B1.froz 5 _ rfl); have zc6 := fun o => cell_al o (B1.cell 6 _ rfl); have zf6 := fun o => froz_al o (B1.cell 6 _ rfl) (B1.froz 6 _ rfl); have zc7 := fun o => cell_al o (B1.cell 7 _ rfl); have zf7 := fun o => froz_al o (B1.cell 7 _ rfl) (B1.froz 7 _ rfl); have zc8 := fun o => cell_al o (B1.cell 8 _ rfl); have zf8 := fun o => froz_al o (B1.cell 8 _ rfl) (B1.froz 8 _ rfl); have zc9 := fun o => cell_al o (B1.cell 9 _ rfl); have zf9 := fun o => froz_al o (B1.cell 9 _ rfl) (B1.froz 9 _ rfl); have zc10 := fun o => cell_al o (B1.cell 10 _ rfl); have zf10 := fun o => froz_al o (B1.cell 10 _ rfl) (B1.froz 10 _ rfl); have zc11 := fun o => cell_al o (B1.cell 11 _ rfl); have zf11 := fun o => froz_al o (B1.cell 11 _ rfl) (B1.froz 11 _ rfl))
  go_region
  go_wp2
  refine bodyPost_ret (v := mv (Mv.shift x1 x2)) (by simp [results, Tryd.results69, go_sem, Mv.shift, Fr.whole, zc0, zc1, zc2, zc3, zc4, zc5, zc6, zc7, zc8, zc9, zc10, zc11]) rfl ⟨rfl, ?_⟩
  exact below_drewN (put_below (R := W.heap.size) (Nat.le_refl _) [.int .i64 1, .int .i64 1, .int .i64 0, .int .i64 1, .int .i64 0, .int .i64 1, .int .i64 1, .int .i64 1, .int .i64 x1.n, .int .i64 x1.d, .int .i64 x2.n, .int .i64 x2.d] 0 (LO.alloc (by omega) (.cells #[.int .i64 1, .int .i64 1, .int .i64 0, .int .i64 1, .int .i64 0, .int .i64 1, .int .i64 1, .int .i64 1, .int .i64 x1.n, .int .i64 x1.d, .int .i64 x2.n, .int .i64 x2.d] 28))) 1

set_option maxHeartbeats 1000000 in
theorem scale_any (g c : Nat) (x1 x2 : Fr) (W : World) (k0 : W.cell? ⟨g, 0, none⟩ = some (.int .i64 x1.n)) (k1 : W.cell? ⟨g, 1, none⟩ = some (.int .i64 x1.d)) (k2 : W.cell? ⟨g, 2, none⟩ = some (.int .i64 x2.n)) (k3 : W.cell? ⟨g, 3, none⟩ = some (.int .i64 x2.d)) :
    Calls Tryd.prog 70 #[.slice (some ⟨g, 0, none⟩) 2 c] W fun e w' => e = .returned (mv (Mv.scale x1 x2)) ∧ Below W.heap.size W w' := by
  have HO := One_any
  have lt := cell_lt k0
  simp only at lt
  have L0 := (Below.refl W.heap.size W).alloc (Nat.le_refl _) (.cells #[.int .i64 0, .int .i64 0, .int .i64 0, .int .i64 0, .int .i64 0, .int .i64 0, .int .i64 0, .int .i64 0, .int .i64 0, .int .i64 0, .int .i64 0, .int .i64 0] 28)
  have B0 := Blk.new W #[.int .i64 0, .int .i64 0, .int .i64 0, .int .i64 0, .int .i64 0, .int .i64 0, .int .i64 0, .int .i64 0, .int .i64 0, .int .i64 0, .int .i64 0, .int .i64 0] 28
  go_enter Tryd.func70, Tryd.ntmps70
  go_wp2_with (go_at_call 9; refine (HO _).mono ?_; rintro e w1 ⟨rfl, hb1⟩; have LO := L0.trans (hb1.mono (by simp)); have sz := hb1.size; simp only [World.size_alloc] at sz; have B1 := B0.below hb1 (Nat.le_refl _); have n1 : ¬ w1.heap.size = W.heap.size := (by omega); have n2 : ¬ W.heap.size = w1.heap.size := (by omega); have n3 : ¬ g = w1.heap.size := (by omega); have n4 : ¬ w1.heap.size = g := (by omega); dsimp only [Mv.one, Fr.whole]; have g0 := fun o => cell_al o ((LO.cell (p := ⟨g, 0, none⟩) (cell_lt k0)).trans k0); have g1 := fun o => cell_al o ((LO.cell (p := ⟨g, 1, none⟩) (cell_lt k1)).trans k1); have g2 := fun o => cell_al o ((LO.cell (p := ⟨g, 2, none⟩) (cell_lt k2)).trans k2); have g3 := fun o => cell_al o ((LO.cell (p := ⟨g, 3, none⟩) (cell_lt k3)).trans k3); have zc0 := fun o => cell_al o (B1.cell 0 _ rfl); have zf0 := fun o => froz_al o (B1.cell 0 _ rfl) (B1.froz 0 _ rfl); have zc1 := fun o => cell_al o (B1.cell 1 _ rfl); have zf1 := fun o => froz_al o (B1.cell 1 _ rfl) (B1.froz 1 _ rfl); have zc2 := fun o => cell_al o (B1.cell 2 _ rfl); have zf2 := fun o => froz_al o (B1.cell 2 _ rfl) (B1.froz 2 _ rfl); have zc3 := fun o => cell_al o (B1.cell 3 _ rfl); have zf3 := fun o => froz_al o (B1.cell 3 _ rfl) (B1.froz 3 _ rfl); have zc4 := fun o => cell_al o (B1.cell 4 _ rfl); have zf4 := fun o => froz_al o (B1.cell 4 _ rfl) (B1.froz 4 _ rfl); have zc5 := fun o => cell_al o (B1.cell 5 _ rfl); have zf5 := fun o => froz_al o (B1.cell 5 _ rfl) (B1.froz 5 _ rfl); have zc6 := fun o => cell_al o (B1.cell 6 _ rfl); have zf6 := fun o => froz_al o (B1.cell 6 _ rfl) (B1.froz 6 _ rfl); have zc7 := fun o => cell_al o (B1.cell 7 _ rfl); have zf7 := fun o => froz_al o (B1.cell 7 _ rfl) (B1.froz 7 _ rfl); have zc8 := fun o => cell_al o (B1.cell 8 _ rfl); have zf8 := fun o => froz_al o (B1.cell 8 _ rfl) (B1.froz 8 _ rfl); have zc9 := fun o => cell_al o (B1.cell 9 _ rfl); have zf9 := fun o => froz_al o (B1.cell 9 _ rfl) (B1.froz 9 _ rfl); have zc10 := fun o => cell_al o (B1.cell 10 _ rfl); have zf10 := fun o => froz_al o (B1.cell 10 _ rfl) (B1.froz 10 _ rfl); have zc11 := fun o => cell_al o (B1.cell 11 _ rfl); have zf11 := fun o => froz_al o (B1.cell 11 _ rfl) (B1.froz 11 _ rfl))
  go_region
  go_wp2
  refine bodyPost_ret (v := mv (Mv.scale x1 x2)) (by simp [results, Tryd.results70, go_sem, Mv.scale, Fr.whole, zc0, zc1, zc2, zc3, zc4, zc5, zc6, zc7, zc8, zc9, zc10, zc11]) rfl ⟨rfl, ?_⟩
  exact below_drewN (put_below (R := W.heap.size) (Nat.le_refl _) [.int .i64 x1.n, .int .i64 x1.d, .int .i64 0, .int .i64 1, .int .i64 0, .int .i64 1, .int .i64 x2.n, .int .i64 x2.d, .int .i64 0, .int .i64 1, .int .i64 0, .int .i64 1] 0 (LO.alloc (by omega) (.cells #[.int .i64 x1.n, .int .i64 x1.d, .int .i64 0, .int .i64 1, .int .i64 0, .int .i64 1, .int .i64 x2.n, .int .i64 x2.d, .int .i64 0, .int .i64 1, .int .i64 0, .int .i64 1] 28))) 1

end Go.Proofs.YtdilieoobkldhabDoor

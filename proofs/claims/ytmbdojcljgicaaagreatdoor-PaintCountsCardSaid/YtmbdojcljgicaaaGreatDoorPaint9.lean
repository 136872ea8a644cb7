/-
  The closed fact of the laws over pictures: nothing is shown.
-/
import Derived.Test.YtmbdojcljgicaaaGreatDoorPaint8
import Derived.Test.YtmbdojcljgicaaaGreatDoorPaintB
namespace Go.Proofs.YtmbdojcljgicaaaGreatDoor
open Go.RowKit

theorem firstByte_dot (w : World) : Calls Tryz.prog 21 #[.string ⟨#[46]⟩] w fun e W => e = .returned (.int .u8 46) ∧ W = w := by
  go_enter Tryz.func21, Tryz.ntmps21
  go_wp2
  go_ret
  exact ⟨rfl, rfl⟩
set_option maxRecDepth 20000 in
set_option maxHeartbeats 4000000 in
theorem Text_two (g cap : Nat) (w : World) (hcap : 2 ≤ cap) (h0 : w.cell? ⟨g, 0, none⟩ = some (.string ⟨#[46]⟩)) (h1 : w.cell? ⟨g, 1, none⟩ = some (.string ⟨#[46]⟩)) :
    Calls Tryz.prog 12 #[.agg #[.int .i64 2, .int .i64 1, .slice (some ⟨g, 0, none⟩) 2 cap]] w fun e W => e = .returned (.string ⟨#[46, 46, 10]⟩) ∧ Below w.heap.size w W := by
  have b0 := mbelow w (.cells #[.int .i64 2, .int .i64 1, .slice (some ⟨g, 0, none⟩) 2 cap] 27)
  have r0 := World.alloc_heap_new w (.cells #[.int .i64 2, .int .i64 1, .slice (some ⟨g, 0, none⟩) 2 cap] 27)
  go_enter Tryz.func12, Tryz.ntmps12
  go_upto_region 2 with fail
  have b1 := mbelow (w.alloc (.cells #[.int .i64 2, .int .i64 1, .slice (some ⟨g, 0, none⟩) 2 cap] 27)) (.cells #[.pointer none, .slice none 0 0] 65)
  have bd := BdP.fresh (w.alloc (.cells #[.int .i64 2, .int .i64 1, .slice (some ⟨g, 0, none⟩) 2 cap] 27)).heap.size (w.alloc (.cells #[.int .i64 2, .int .i64 1, .slice (some ⟨g, 0, none⟩) 2 cap] 27)) (Nat.le_refl _)
  obtain ⟨V, hV⟩ : ∃ V, w.alloc (.cells #[.int .i64 2, .int .i64 1, .slice (some ⟨g, 0, none⟩) 2 cap] 27) = V := ⟨_, rfl⟩
  have hVs : V.heap.size = w.heap.size + 1 := by rw [← hV]; simp
  rw [hV] at b0 r0 b1 bd
  rw [hVs] at bd b1
  rw [hV]
  clear hV
  obtain ⟨U, hU⟩ : ∃ U, V.alloc (.cells #[.pointer none, .slice none 0 0] 65) = U := ⟨_, rfl⟩
  rw [hU] at b1 bd
  rw [hU]
  clear hU
  -- what is read, in every world behind
  have keep : ∀ X, Below (w.heap.size + 1) V X → X.cell? ⟨w.heap.size, 0, none⟩ = some (.int .i64 2) ∧ X.cell? ⟨w.heap.size, 1, none⟩ = some (.int .i64 1) ∧ X.cell? ⟨w.heap.size, 2, none⟩ = some (.slice (some ⟨g, 0, none⟩) 2 cap) ∧ X.cell? ⟨g, 0, none⟩ = some (.string ⟨#[46]⟩) ∧ X.cell? ⟨g, 1, none⟩ = some (.string ⟨#[46]⟩) := fun X hX => by
    have hb := (hX.block w.heap.size (by omega)).trans r0
    have hg : g < w.heap.size := cell_lt h0
    exact ⟨by simp [World.cell?, hb], by simp [World.cell?, hb], by simp [World.cell?, hb], ((hX.cell (p := ⟨g, 0, none⟩) (by simp; omega)).trans (b0.cell (p := ⟨g, 0, none⟩) hg)).trans h0, ((hX.cell (p := ⟨g, 1, none⟩) (by simp; omega)).trans (b0.cell (p := ⟨g, 1, none⟩) hg)).trans h1⟩
  obtain ⟨k0, k1, k2, k3, k4⟩ := keep U b1
  have WB : ∀ (l : List UInt8) (c : UInt8) X, BdP (w.heap.size + 1) (w.heap.size + 1) l X → Below (w.heap.size + 1) V X → l.length ≤ 10 → Calls Tryz.prog 20 #[.pointer (some ⟨w.heap.size + 1, 0, none⟩), .int .u8 c.toNat] X fun e w' => e = .returned .nilIface ∧ BdP (w.heap.size + 1) (w.heap.size + 1) (l ++ [c]) w' ∧ BKpP (w.heap.size + 1) (w.heap.size + 1) X w' := fun l c X hb hX hl => WriteByte_anyP (w.heap.size + 1) (w.heap.size + 1) l c X hb (by omega) (by have := hX.size; omega)
  have FB := firstByte_dot
  by_cases hc2 : cap = 2
  · subst hc2
    go_wp2_with fail
    refine wp_loop_rounds 2 ?_
    rw [rounds_succ]
    go_wp2_with fail
    refine wp_loop_rounds 3 ?_
    rw [rounds_succ]
    have WB1 := WB [] 46 U bd b1 (by simp)
    go_wp2_with (first | (go_at_call 21; refine (FB _).mono ?_; rintro e x ⟨rfl, hx⟩; rw [hx]; clear hx) | (go_at_call 20; refine WB1.mono ?_; rintro e w1 ⟨rfl, bd1, kp1⟩))
    clear WB1
    have hb1 := b1.trans kp1.low
    obtain ⟨m0, m1, m2, m3, m4⟩ := keep w1 hb1
    have WB2 := WB _ 46 w1 bd1 hb1 (by simp)
    rw [rounds_succ]
    go_wp2_with (first | (go_at_call 21; refine (FB _).mono ?_; rintro e x ⟨rfl, hx⟩; rw [hx]; clear hx) | (go_at_call 20; refine WB2.mono ?_; rintro e w2 ⟨rfl, bd2, kp2⟩))
    clear WB2 m0 m1 m2 m3 m4
    have hb2 := hb1.trans kp2.low
    obtain ⟨m0, m1, m2, m3, m4⟩ := keep w2 hb2
    have WB3 := WB _ 10 w2 bd2 hb2 (by simp)
    rw [rounds_succ]
    go_wp2_with (first | (go_at_call 20; refine WB3.mono ?_; rintro e w3 ⟨rfl, bd3, kp3⟩))
    clear WB3 m0 m1 m2 m3 m4
    have hb3 := hb2.trans kp3.low
    obtain ⟨m0, m1, m2, m3, m4⟩ := keep w3 hb3
    have SB := Tryz.Builder_String_any_k (w.heap.size + 1) (w.heap.size + 1) _ w3 bd3 (by have := hb3.size; omega)
    rw [rounds_succ]
    go_wp2_with (first | (go_at_call 22; refine SB.mono ?_; rintro e w4 ⟨rfl, bd4, kp4, -⟩))
    go_ret
    exact ⟨rfl, b0.trans ((hb3.trans kp4).mono (by omega))⟩
  · have hc3 : 2 < (cap : Int) := by omega
    have hc4 : ¬ cap - 2 = 0 := by omega
    go_wp2_with fail
    refine wp_loop_rounds 2 ?_
    rw [rounds_succ]
    go_wp2_with fail
    refine wp_loop_rounds 3 ?_
    rw [rounds_succ]
    have WB1 := WB [] 46 U bd b1 (by simp)
    go_wp2_with (first | (go_at_call 21; refine (FB _).mono ?_; rintro e x ⟨rfl, hx⟩; rw [hx]; clear hx) | (go_at_call 20; refine WB1.mono ?_; rintro e w1 ⟨rfl, bd1, kp1⟩))
    clear WB1
    have hb1 := b1.trans kp1.low
    obtain ⟨m0, m1, m2, m3, m4⟩ := keep w1 hb1
    have WB2 := WB _ 46 w1 bd1 hb1 (by simp)
    rw [rounds_succ]
    go_wp2_with (first | (go_at_call 21; refine (FB _).mono ?_; rintro e x ⟨rfl, hx⟩; rw [hx]; clear hx) | (go_at_call 20; refine WB2.mono ?_; rintro e w2 ⟨rfl, bd2, kp2⟩))
    clear WB2 m0 m1 m2 m3 m4
    have hb2 := hb1.trans kp2.low
    obtain ⟨m0, m1, m2, m3, m4⟩ := keep w2 hb2
    have WB3 := WB _ 10 w2 bd2 hb2 (by simp)
    rw [rounds_succ]
    go_wp2_with (first | (go_at_call 20; refine WB3.mono ?_; rintro e w3 ⟨rfl, bd3, kp3⟩))
    clear WB3 m0 m1 m2 m3 m4
    have hb3 := hb2.trans kp3.low
    obtain ⟨m0, m1, m2, m3, m4⟩ := keep w3 hb3
    have SB := Tryz.Builder_String_any_k (w.heap.size + 1) (w.heap.size + 1) _ w3 bd3 (by have := hb3.size; omega)
    rw [rounds_succ]
    go_wp2_with (first | (go_at_call 22; refine SB.mono ?_; rintro e w4 ⟨rfl, bd4, kp4, -⟩))
    go_ret
    exact ⟨rfl, b0.trans ((hb3.trans kp4).mono (by omega))⟩
end Go.Proofs.YtmbdojcljgicaaaGreatDoor

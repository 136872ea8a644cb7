/-
  The document's quarters of a turn.
-/
import Derived.Test.YtlnnpileegoglabGreatDoorGoes1
import Derived.Test.YtlnnpileegoglabGreatDoorJ15
namespace Go.Proofs.YtlnnpileegoglabGreatDoor
open Go.RowKit

set_option maxRecDepth 20000 in
set_option maxHeartbeats 8000000 in
theorem Stay_any (W : World) : Calls Tryz.prog 43 #[] W fun e w' => e = .returned (mv .one) ∧ Below W.heap.size W w' := by
  have h0 := fun V => rwhole_any 1 V
  have h1 := fun V => rwhole_any 0 V
  have h2 := fun V => rwhole_any 0 V
  have h3 := fun V => rwhole_any 1 V
  have h4 := fun V => rwhole_any 0 V
  have h5 := fun V => rwhole_any 0 V
  have L0 : Below W.heap.size W (W.alloc (.cells #[.int .i64 0, .int .i64 0, .int .i64 0, .int .i64 0, .int .i64 0, .int .i64 0, .int .i64 0, .int .i64 0, .int .i64 0, .int .i64 0, .int .i64 0, .int .i64 0] 25)) := ((Below.refl _ W).alloc (Nat.le_refl _) _)
  have P0_0 : Blk (W.alloc (.cells #[.int .i64 0, .int .i64 0, .int .i64 0, .int .i64 0, .int .i64 0, .int .i64 0, .int .i64 0, .int .i64 0, .int .i64 0, .int .i64 0, .int .i64 0, .int .i64 0] 25)) (W.heap.size) #[.int .i64 0, .int .i64 0, .int .i64 0, .int .i64 0, .int .i64 0, .int .i64 0, .int .i64 0, .int .i64 0, .int .i64 0, .int .i64 0, .int .i64 0, .int .i64 0] 25 := by simpa using (Blk.new W #[.int .i64 0, .int .i64 0, .int .i64 0, .int .i64 0, .int .i64 0, .int .i64 0, .int .i64 0, .int .i64 0, .int .i64 0, .int .i64 0, .int .i64 0, .int .i64 0] 25)
  go_enter Tryz.func43, Tryz.ntmps43
  go_wp2_with (first | (go_at_call 40; refine (h0 _).mono ?_; clear h0; rintro e w1 ⟨rfl, hb1⟩; have M1 := bel0 L0 hb1; have L1 := M1; have P0_1 := P0_0.below hb1 (Nat.le_refl _)) | (go_at_call 40; refine (h1 _).mono ?_; clear h1; rintro e w2 ⟨rfl, hb2⟩; have M2 := bel0 L1 hb2; have L2 := M2; have P0_2 := P0_1.below hb2 (Nat.le_refl _)) | (go_at_call 40; refine (h2 _).mono ?_; clear h2; rintro e w3 ⟨rfl, hb3⟩; have M3 := bel0 L2 hb3; have L3 := M3; have P0_3 := P0_2.below hb3 (Nat.le_refl _)) | (go_at_call 40; refine (h3 _).mono ?_; clear h3; rintro e w4 ⟨rfl, hb4⟩; have M4 := bel0 L3 hb4; have L4 := M4; have P0_4 := P0_3.below hb4 (Nat.le_refl _)) | (go_at_call 40; refine (h4 _).mono ?_; clear h4; rintro e w5 ⟨rfl, hb5⟩; have M5 := bel0 L4 hb5; have L5 := M5; have P0_5 := P0_4.below hb5 (Nat.le_refl _)) | (go_at_call 40; refine (h5 _).mono ?_; clear h5; rintro e w6 ⟨rfl, hb6⟩; have M6 := bel0 L5 hb6; have L6 := M6; have P0_6 := P0_5.below hb6 (Nat.le_refl _); have P0c0 := P0_6.cell 0 _ rfl; have P0c1 := P0_6.cell 1 _ rfl; have P0c2 := P0_6.cell 2 _ rfl; have P0c3 := P0_6.cell 3 _ rfl; have P0c4 := P0_6.cell 4 _ rfl; have P0c5 := P0_6.cell 5 _ rfl; have P0c6 := P0_6.cell 6 _ rfl; have P0c7 := P0_6.cell 7 _ rfl; have P0c8 := P0_6.cell 8 _ rfl; have P0c9 := P0_6.cell 9 _ rfl; have P0c10 := P0_6.cell 10 _ rfl; have P0c11 := P0_6.cell 11 _ rfl; have P0f0 := P0_6.froz 0 _ rfl; have P0f1 := P0_6.froz 1 _ rfl; have P0f2 := P0_6.froz 2 _ rfl; have P0f3 := P0_6.froz 3 _ rfl; have P0f4 := P0_6.froz 4 _ rfl; have P0f5 := P0_6.froz 5 _ rfl; have P0f6 := P0_6.froz 6 _ rfl; have P0f7 := P0_6.froz 7 _ rfl; have P0f8 := P0_6.froz 8 _ rfl; have P0f9 := P0_6.froz 9 _ rfl; have P0f10 := P0_6.froz 10 _ rfl; have P0f11 := P0_6.froz 11 _ rfl))
  refine bodyPost_ret (v := mv .one) (by simp [results, Tryz.results43, go_sem, Mv.one, Fr.whole, P0c0, P0c1, P0c2, P0c3, P0c4, P0c5, P0c6, P0c7, P0c8, P0c9, P0c10, P0c11]) rfl ⟨rfl, ?_⟩
  exact put_below (R := W.heap.size) (by omega) [.int .i64 1, .int .i64 1, .int .i64 0, .int .i64 1, .int .i64 0, .int .i64 1, .int .i64 1, .int .i64 1, .int .i64 0, .int .i64 1, .int .i64 0, .int .i64 1] 0 L6

set_option maxRecDepth 20000 in
set_option maxHeartbeats 8000000 in
theorem turnOf_0 (W : World) : Calls Tryz.prog 45 #[.string ⟨#[48]⟩] W fun e w' => e = .returned (.tuple #[mv .one, .bool true]) ∧ Below W.heap.size W w' := by
  have h0 := fun V => rwhole_any 0 V
  have h1 := fun V => Stay_any V
  have L0 : Below W.heap.size W (W.alloc (.cells #[.int .i64 0, .int .i64 0, .int .i64 0, .int .i64 0, .int .i64 0, .int .i64 0, .int .i64 0, .int .i64 0, .int .i64 0, .int .i64 0, .int .i64 0, .int .i64 0] 25)) := ((Below.refl _ W).alloc (Nat.le_refl _) _)
  have P0_0 : Blk (W.alloc (.cells #[.int .i64 0, .int .i64 0, .int .i64 0, .int .i64 0, .int .i64 0, .int .i64 0, .int .i64 0, .int .i64 0, .int .i64 0, .int .i64 0, .int .i64 0, .int .i64 0] 25)) (W.heap.size) #[.int .i64 0, .int .i64 0, .int .i64 0, .int .i64 0, .int .i64 0, .int .i64 0, .int .i64 0, .int .i64 0, .int .i64 0, .int .i64 0, .int .i64 0, .int .i64 0] 25 := by simpa using (Blk.new W #[.int .i64 0, .int .i64 0, .int .i64 0, .int .i64 0, .int .i64 0, .int .i64 0, .int .i64 0, .int .i64 0, .int .i64 0, .int .i64 0, .int .i64 0, .int .i64 0] 25)
  go_enter Tryz.func45, Tryz.ntmps45
  go_wp2_with (first | (go_at_call 40; refine (h0 _).mono ?_; clear h0; rintro e w1 ⟨rfl, hb1⟩; have M1 := bel0 L0 hb1; have L1 := M1.alloc M1.size (.cells #[.int .i64 0, .int .i64 1] 23); have P0_1 := (P0_0.below hb1 (Nat.le_refl _)).alloc (.cells #[.int .i64 0, .int .i64 1] 23); have A0_1 := Blk.new w1 #[.int .i64 0, .int .i64 1] 23) | (go_at_call 43; refine (h1 _).mono ?_; clear h1; rintro e w2 ⟨rfl, hb2⟩; dsimp only [Mv.one, Fr.whole]; have M2 := bel0 L1 hb2; have L2 := M2; have P0_2 := P0_1.below hb2 (Nat.le_refl _); have A0_2 := A0_1.below hb2 (Nat.le_refl _); have P0c0 := P0_2.cell 0 _ rfl; have P0c1 := P0_2.cell 1 _ rfl; have P0c2 := P0_2.cell 2 _ rfl; have P0c3 := P0_2.cell 3 _ rfl; have P0c4 := P0_2.cell 4 _ rfl; have P0c5 := P0_2.cell 5 _ rfl; have P0c6 := P0_2.cell 6 _ rfl; have P0c7 := P0_2.cell 7 _ rfl; have P0c8 := P0_2.cell 8 _ rfl; have P0c9 := P0_2.cell 9 _ rfl; have P0c10 := P0_2.cell 10 _ rfl; have P0c11 := P0_2.cell 11 _ rfl; have P0f0 := P0_2.froz 0 _ rfl; have P0f1 := P0_2.froz 1 _ rfl; have P0f2 := P0_2.froz 2 _ rfl; have P0f3 := P0_2.froz 3 _ rfl; have P0f4 := P0_2.froz 4 _ rfl; have P0f5 := P0_2.froz 5 _ rfl; have P0f6 := P0_2.froz 6 _ rfl; have P0f7 := P0_2.froz 7 _ rfl; have P0f8 := P0_2.froz 8 _ rfl; have P0f9 := P0_2.froz 9 _ rfl; have P0f10 := P0_2.froz 10 _ rfl; have P0f11 := P0_2.froz 11 _ rfl))
  refine bodyPost_ret (v := .tuple #[mv .one, .bool true]) (by simp [results, Tryz.results45, go_sem, Mv.one, Fr.whole, P0c0, P0c1, P0c2, P0c3, P0c4, P0c5, P0c6, P0c7, P0c8, P0c9, P0c10, P0c11]) rfl ⟨rfl, ?_⟩
  exact put_below (R := W.heap.size) (by omega) [.int .i64 1, .int .i64 1, .int .i64 0, .int .i64 1, .int .i64 0, .int .i64 1, .int .i64 1, .int .i64 1, .int .i64 0, .int .i64 1, .int .i64 0, .int .i64 1] 0 L2

set_option maxRecDepth 20000 in
set_option maxHeartbeats 8000000 in
theorem turnOf_no (a : ByteArray) (k0 : a ≠ ⟨#[48]⟩) (k1 : a ≠ ⟨#[49]⟩) (k2 : a ≠ ⟨#[50]⟩) (k3 : a ≠ ⟨#[51]⟩) (W : World) : Calls Tryz.prog 45 #[.string a] W fun e w' => e = .returned (.tuple #[mv .zero, .bool false]) ∧ Below W.heap.size W w' := by
  have h0 := fun V => rwhole_any 0 V
  have e0 := ne_str (l := [48]) k0
  have e1 := ne_str (l := [49]) k1
  have e2 := ne_str (l := [50]) k2
  have e3 := ne_str (l := [51]) k3
  have L0 : Below W.heap.size W (W.alloc (.cells #[.int .i64 0, .int .i64 0, .int .i64 0, .int .i64 0, .int .i64 0, .int .i64 0, .int .i64 0, .int .i64 0, .int .i64 0, .int .i64 0, .int .i64 0, .int .i64 0] 25)) := ((Below.refl _ W).alloc (Nat.le_refl _) _)
  have P0_0 : Blk (W.alloc (.cells #[.int .i64 0, .int .i64 0, .int .i64 0, .int .i64 0, .int .i64 0, .int .i64 0, .int .i64 0, .int .i64 0, .int .i64 0, .int .i64 0, .int .i64 0, .int .i64 0] 25)) (W.heap.size) #[.int .i64 0, .int .i64 0, .int .i64 0, .int .i64 0, .int .i64 0, .int .i64 0, .int .i64 0, .int .i64 0, .int .i64 0, .int .i64 0, .int .i64 0, .int .i64 0] 25 := by simpa using (Blk.new W #[.int .i64 0, .int .i64 0, .int .i64 0, .int .i64 0, .int .i64 0, .int .i64 0, .int .i64 0, .int .i64 0, .int .i64 0, .int .i64 0, .int .i64 0, .int .i64 0] 25)
  go_enter Tryz.func45, Tryz.ntmps45
  go_wp2_with (first | (go_at_call 40; refine (h0 _).mono ?_; clear h0; rintro e w1 ⟨rfl, hb1⟩; have M1 := bel0 L0 hb1; have L1 := M1.alloc M1.size (.cells #[.int .i64 0, .int .i64 1] 23); have P0_1 := (P0_0.below hb1 (Nat.le_refl _)).alloc (.cells #[.int .i64 0, .int .i64 1] 23); have A0_1 := Blk.new w1 #[.int .i64 0, .int .i64 1] 23; have P0c0 := P0_1.cell 0 _ rfl; have P0c1 := P0_1.cell 1 _ rfl; have P0c2 := P0_1.cell 2 _ rfl; have P0c3 := P0_1.cell 3 _ rfl; have P0c4 := P0_1.cell 4 _ rfl; have P0c5 := P0_1.cell 5 _ rfl; have P0c6 := P0_1.cell 6 _ rfl; have P0c7 := P0_1.cell 7 _ rfl; have P0c8 := P0_1.cell 8 _ rfl; have P0c9 := P0_1.cell 9 _ rfl; have P0c10 := P0_1.cell 10 _ rfl; have P0c11 := P0_1.cell 11 _ rfl; have P0f0 := P0_1.froz 0 _ rfl; have P0f1 := P0_1.froz 1 _ rfl; have P0f2 := P0_1.froz 2 _ rfl; have P0f3 := P0_1.froz 3 _ rfl; have P0f4 := P0_1.froz 4 _ rfl; have P0f5 := P0_1.froz 5 _ rfl; have P0f6 := P0_1.froz 6 _ rfl; have P0f7 := P0_1.froz 7 _ rfl; have P0f8 := P0_1.froz 8 _ rfl; have P0f9 := P0_1.froz 9 _ rfl; have P0f10 := P0_1.froz 10 _ rfl; have P0f11 := P0_1.froz 11 _ rfl))
  refine bodyPost_ret (v := .tuple #[mv .zero, .bool false]) (by simp [results, Tryz.results45, go_sem, Mv.zero, Fr.zero, P0c0, P0c1, P0c2, P0c3, P0c4, P0c5, P0c6, P0c7, P0c8, P0c9, P0c10, P0c11]) rfl ⟨rfl, ?_⟩
  exact put_below (R := W.heap.size) (by omega) [.int .i64 0, .int .i64 0, .int .i64 0, .int .i64 0, .int .i64 0, .int .i64 0, .int .i64 0, .int .i64 0, .int .i64 0, .int .i64 0, .int .i64 0, .int .i64 0] 0 L1

set_option maxRecDepth 20000 in
set_option maxHeartbeats 8000000 in
theorem turnOf_1 (W : World) : Calls Tryz.prog 45 #[.string ⟨#[49]⟩] W fun e w' => e = .returned (.tuple #[mv (Mv.turn 0 1), .bool true]) ∧ Below W.heap.size W w' := by
  have h0 := fun V => rwhole_any 0 V
  have HW := rwhole_any
  have L0 : Below W.heap.size W (W.alloc (.cells #[.int .i64 0, .int .i64 0, .int .i64 0, .int .i64 0, .int .i64 0, .int .i64 0, .int .i64 0, .int .i64 0, .int .i64 0, .int .i64 0, .int .i64 0, .int .i64 0] 25)) := ((Below.refl _ W).alloc (Nat.le_refl _) _)
  have P0_0 : Blk (W.alloc (.cells #[.int .i64 0, .int .i64 0, .int .i64 0, .int .i64 0, .int .i64 0, .int .i64 0, .int .i64 0, .int .i64 0, .int .i64 0, .int .i64 0, .int .i64 0, .int .i64 0] 25)) (W.heap.size) #[.int .i64 0, .int .i64 0, .int .i64 0, .int .i64 0, .int .i64 0, .int .i64 0, .int .i64 0, .int .i64 0, .int .i64 0, .int .i64 0, .int .i64 0, .int .i64 0] 25 := by simpa using (Blk.new W #[.int .i64 0, .int .i64 0, .int .i64 0, .int .i64 0, .int .i64 0, .int .i64 0, .int .i64 0, .int .i64 0, .int .i64 0, .int .i64 0, .int .i64 0, .int .i64 0] 25)
  go_enter Tryz.func45, Tryz.ntmps45
  go_wp2_with (first | (go_at_call 40; refine (h0 _).mono ?_; clear h0; rintro e w1 ⟨rfl, hb1⟩; have M1 := bel0 L0 hb1; have L1 := M1.alloc M1.size (.cells #[.int .i64 0, .int .i64 1] 23); have P0_1 := (P0_0.below hb1 (Nat.le_refl _)).alloc (.cells #[.int .i64 0, .int .i64 1] 23); have A0_1 := Blk.new w1 #[.int .i64 0, .int .i64 1] 23))
  have hF : ∃ U, w1.alloc (.cells #[.int .i64 0, .int .i64 1] 23) = U := ⟨_, rfl⟩
  obtain ⟨U, hU⟩ := hF
  have szp := hb1.size
  simp only [World.size_alloc] at szp
  rw [hU] at L1 P0_1 A0_1 ⊢
  clear hU P0_0 L0 M1 hb1
  have n1 : ¬ W.heap.size = w1.heap.size := by omega
  have n2 : ¬ w1.heap.size = W.heap.size := by omega
  have z0 := A0_1.cell 0 _ rfl
  have z1 := A0_1.cell 1 _ rfl
  have PD : Blk U.drew W.heap.size #[.int .i64 0, .int .i64 0, .int .i64 0, .int .i64 0, .int .i64 0, .int .i64 0, .int .i64 0, .int .i64 0, .int .i64 0, .int .i64 0, .int .i64 0, .int .i64 0] 25 := P0_1.drew
  have LD : Below W.heap.size W U.drew := below_drewN L1 1
  have UL := A0_1.lt
  go_region_held3 (fun w' => w'.cell? ⟨w1.heap.size, 0, none⟩ = some (.int .i64 0) ∧ w'.cell? ⟨w1.heap.size, 1, none⟩ = some (.int .i64 1)) (refine ⟨?_, ?_⟩ <;> (repeat rw [World.cell?_setCell_far _ _ _ _ n1]) <;> assumption) ((go_at_call 40; refine (HW _ _).mono ?_; rintro e w3 ⟨rfl, hb3⟩; have hs3 := keep_b hb3 (by assumption); obtain ⟨j0, j1⟩ := hs3; have BZ := Blk.below (R := W.heap.size) (cs := #[.int .i64 0, .int .i64 0, .int .i64 0, .int .i64 0, .int .i64 0, .int .i64 0, .int .i64 0, .int .i64 0, .int .i64 0, .int .i64 0, .int .i64 0, .int .i64 0]) (t := 25) (by assumption) hb3 (Nat.le_refl _); have LZ := bel0 (W := W) (by assumption) hb3; have zc0 := BZ.cell 0 _ rfl; have zf0 := BZ.froz 0 _ rfl; have zc1 := BZ.cell 1 _ rfl; have zf1 := BZ.froz 1 _ rfl; have zc2 := BZ.cell 2 _ rfl; have zf2 := BZ.froz 2 _ rfl; have zc3 := BZ.cell 3 _ rfl; have zf3 := BZ.froz 3 _ rfl; have zc4 := BZ.cell 4 _ rfl; have zf4 := BZ.froz 4 _ rfl; have zc5 := BZ.cell 5 _ rfl; have zf5 := BZ.froz 5 _ rfl; have zc6 := BZ.cell 6 _ rfl; have zf6 := BZ.froz 6 _ rfl; have zc7 := BZ.cell 7 _ rfl; have zf7 := BZ.froz 7 _ rfl; have zc8 := BZ.cell 8 _ rfl; have zf8 := BZ.froz 8 _ rfl; have zc9 := BZ.cell 9 _ rfl; have zf9 := BZ.froz 9 _ rfl; have zc10 := BZ.cell 10 _ rfl; have zf10 := BZ.froz 10 _ rfl; have zc11 := BZ.cell 11 _ rfl; have zf11 := BZ.froz 11 _ rfl))
  go_wp2
  refine bodyPost_ret (v := .tuple #[mv (Mv.turn 0 1), .bool true]) (by simp [results, Tryz.results45, go_sem, Mv.turn, Fr.whole, zc0, zc1, zc2, zc3, zc4, zc5, zc6, zc7, zc8, zc9, zc10, zc11]) rfl ⟨rfl, ?_⟩
  exact put_below (R := W.heap.size) (Nat.le_refl _) [.int .i64 0, .int .i64 1, .int .i64 1, .int .i64 1, .int .i64 (-1), .int .i64 1, .int .i64 0, .int .i64 1, .int .i64 0, .int .i64 1, .int .i64 0, .int .i64 1] 0 LZ

set_option maxRecDepth 20000 in
set_option maxHeartbeats 8000000 in
theorem turnOf_2 (W : World) : Calls Tryz.prog 45 #[.string ⟨#[50]⟩] W fun e w' => e = .returned (.tuple #[mv (Mv.turn (-1) 0), .bool true]) ∧ Below W.heap.size W w' := by
  have h0 := fun V => rwhole_any 0 V
  have HW := rwhole_any
  have L0 : Below W.heap.size W (W.alloc (.cells #[.int .i64 0, .int .i64 0, .int .i64 0, .int .i64 0, .int .i64 0, .int .i64 0, .int .i64 0, .int .i64 0, .int .i64 0, .int .i64 0, .int .i64 0, .int .i64 0] 25)) := ((Below.refl _ W).alloc (Nat.le_refl _) _)
  have P0_0 : Blk (W.alloc (.cells #[.int .i64 0, .int .i64 0, .int .i64 0, .int .i64 0, .int .i64 0, .int .i64 0, .int .i64 0, .int .i64 0, .int .i64 0, .int .i64 0, .int .i64 0, .int .i64 0] 25)) (W.heap.size) #[.int .i64 0, .int .i64 0, .int .i64 0, .int .i64 0, .int .i64 0, .int .i64 0, .int .i64 0, .int .i64 0, .int .i64 0, .int .i64 0, .int .i64 0, .int .i64 0] 25 := by simpa using (Blk.new W #[.int .i64 0, .int .i64 0, .int .i64 0, .int .i64 0, .int .i64 0, .int .i64 0, .int .i64 0, .int .i64 0, .int .i64 0, .int .i64 0, .int .i64 0, .int .i64 0] 25)
  go_enter Tryz.func45, Tryz.ntmps45
  go_wp2_with (first | (go_at_call 40; refine (h0 _).mono ?_; clear h0; rintro e w1 ⟨rfl, hb1⟩; have M1 := bel0 L0 hb1; have L1 := M1.alloc M1.size (.cells #[.int .i64 0, .int .i64 1] 23); have P0_1 := (P0_0.below hb1 (Nat.le_refl _)).alloc (.cells #[.int .i64 0, .int .i64 1] 23); have A0_1 := Blk.new w1 #[.int .i64 0, .int .i64 1] 23))
  have hF : ∃ U, w1.alloc (.cells #[.int .i64 0, .int .i64 1] 23) = U := ⟨_, rfl⟩
  obtain ⟨U, hU⟩ := hF
  have szp := hb1.size
  simp only [World.size_alloc] at szp
  rw [hU] at L1 P0_1 A0_1 ⊢
  clear hU P0_0 L0 M1 hb1
  have n1 : ¬ W.heap.size = w1.heap.size := by omega
  have n2 : ¬ w1.heap.size = W.heap.size := by omega
  have z0 := A0_1.cell 0 _ rfl
  have z1 := A0_1.cell 1 _ rfl
  have PD : Blk U.drew W.heap.size #[.int .i64 0, .int .i64 0, .int .i64 0, .int .i64 0, .int .i64 0, .int .i64 0, .int .i64 0, .int .i64 0, .int .i64 0, .int .i64 0, .int .i64 0, .int .i64 0] 25 := P0_1.drew
  have LD : Below W.heap.size W U.drew := below_drewN L1 1
  have UL := A0_1.lt
  go_region_held3 (fun w' => w'.cell? ⟨w1.heap.size, 0, none⟩ = some (.int .i64 0) ∧ w'.cell? ⟨w1.heap.size, 1, none⟩ = some (.int .i64 1)) (refine ⟨?_, ?_⟩ <;> (repeat rw [World.cell?_setCell_far _ _ _ _ n1]) <;> assumption) ((go_at_call 40; refine (HW _ _).mono ?_; rintro e w3 ⟨rfl, hb3⟩; have hs3 := keep_b hb3 (by assumption); obtain ⟨j0, j1⟩ := hs3; have BZ := Blk.below (R := W.heap.size) (cs := #[.int .i64 0, .int .i64 0, .int .i64 0, .int .i64 0, .int .i64 0, .int .i64 0, .int .i64 0, .int .i64 0, .int .i64 0, .int .i64 0, .int .i64 0, .int .i64 0]) (t := 25) (by assumption) hb3 (Nat.le_refl _); have LZ := bel0 (W := W) (by assumption) hb3; have zc0 := BZ.cell 0 _ rfl; have zf0 := BZ.froz 0 _ rfl; have zc1 := BZ.cell 1 _ rfl; have zf1 := BZ.froz 1 _ rfl; have zc2 := BZ.cell 2 _ rfl; have zf2 := BZ.froz 2 _ rfl; have zc3 := BZ.cell 3 _ rfl; have zf3 := BZ.froz 3 _ rfl; have zc4 := BZ.cell 4 _ rfl; have zf4 := BZ.froz 4 _ rfl; have zc5 := BZ.cell 5 _ rfl; have zf5 := BZ.froz 5 _ rfl; have zc6 := BZ.cell 6 _ rfl; have zf6 := BZ.froz 6 _ rfl; have zc7 := BZ.cell 7 _ rfl; have zf7 := BZ.froz 7 _ rfl; have zc8 := BZ.cell 8 _ rfl; have zf8 := BZ.froz 8 _ rfl; have zc9 := BZ.cell 9 _ rfl; have zf9 := BZ.froz 9 _ rfl; have zc10 := BZ.cell 10 _ rfl; have zf10 := BZ.froz 10 _ rfl; have zc11 := BZ.cell 11 _ rfl; have zf11 := BZ.froz 11 _ rfl))
  go_wp2
  refine bodyPost_ret (v := .tuple #[mv (Mv.turn (-1) 0), .bool true]) (by simp [results, Tryz.results45, go_sem, Mv.turn, Fr.whole, zc0, zc1, zc2, zc3, zc4, zc5, zc6, zc7, zc8, zc9, zc10, zc11]) rfl ⟨rfl, ?_⟩
  exact put_below (R := W.heap.size) (Nat.le_refl _) [.int .i64 (-1), .int .i64 1, .int .i64 0, .int .i64 1, .int .i64 0, .int .i64 1, .int .i64 (-1), .int .i64 1, .int .i64 0, .int .i64 1, .int .i64 0, .int .i64 1] 0 LZ

set_option maxRecDepth 20000 in
set_option maxHeartbeats 8000000 in
theorem turnOf_3 (W : World) : Calls Tryz.prog 45 #[.string ⟨#[51]⟩] W fun e w' => e = .returned (.tuple #[mv (Mv.turn 0 (-1)), .bool true]) ∧ Below W.heap.size W w' := by
  have h0 := fun V => rwhole_any 0 V
  have HW := rwhole_any
  have L0 : Below W.heap.size W (W.alloc (.cells #[.int .i64 0, .int .i64 0, .int .i64 0, .int .i64 0, .int .i64 0, .int .i64 0, .int .i64 0, .int .i64 0, .int .i64 0, .int .i64 0, .int .i64 0, .int .i64 0] 25)) := ((Below.refl _ W).alloc (Nat.le_refl _) _)
  have P0_0 : Blk (W.alloc (.cells #[.int .i64 0, .int .i64 0, .int .i64 0, .int .i64 0, .int .i64 0, .int .i64 0, .int .i64 0, .int .i64 0, .int .i64 0, .int .i64 0, .int .i64 0, .int .i64 0] 25)) (W.heap.size) #[.int .i64 0, .int .i64 0, .int .i64 0, .int .i64 0, .int .i64 0, .int .i64 0, .int .i64 0, .int .i64 0, .int .i64 0, .int .i64 0, .int .i64 0, .int .i64 0] 25 := by simpa using (Blk.new W #[.int .i64 0, .int .i64 0, .int .i64 0, .int .i64 0, .int .i64 0, .int .i64 0, .int .i64 0, .int .i64 0, .int .i64 0, .int .i64 0, .int .i64 0, .int .i64 0] 25)
  go_enter Tryz.func45, Tryz.ntmps45
  go_wp2_with (first | (go_at_call 40; refine (h0 _).mono ?_; clear h0; rintro e w1 ⟨rfl, hb1⟩; have M1 := bel0 L0 hb1; have L1 := M1.alloc M1.size (.cells #[.int .i64 0, .int .i64 1] 23); have P0_1 := (P0_0.below hb1 (Nat.le_refl _)).alloc (.cells #[.int .i64 0, .int .i64 1] 23); have A0_1 := Blk.new w1 #[.int .i64 0, .int .i64 1] 23))
  have hF : ∃ U, w1.alloc (.cells #[.int .i64 0, .int .i64 1] 23) = U := ⟨_, rfl⟩
  obtain ⟨U, hU⟩ := hF
  have szp := hb1.size
  simp only [World.size_alloc] at szp
  rw [hU] at L1 P0_1 A0_1 ⊢
  clear hU P0_0 L0 M1 hb1
  have n1 : ¬ W.heap.size = w1.heap.size := by omega
  have n2 : ¬ w1.heap.size = W.heap.size := by omega
  have z0 := A0_1.cell 0 _ rfl
  have z1 := A0_1.cell 1 _ rfl
  have PD : Blk U.drew W.heap.size #[.int .i64 0, .int .i64 0, .int .i64 0, .int .i64 0, .int .i64 0, .int .i64 0, .int .i64 0, .int .i64 0, .int .i64 0, .int .i64 0, .int .i64 0, .int .i64 0] 25 := P0_1.drew
  have LD : Below W.heap.size W U.drew := below_drewN L1 1
  have UL := A0_1.lt
  go_region_held3 (fun w' => w'.cell? ⟨w1.heap.size, 0, none⟩ = some (.int .i64 0) ∧ w'.cell? ⟨w1.heap.size, 1, none⟩ = some (.int .i64 1)) (refine ⟨?_, ?_⟩ <;> (repeat rw [World.cell?_setCell_far _ _ _ _ n1]) <;> assumption) ((go_at_call 40; refine (HW _ _).mono ?_; rintro e w3 ⟨rfl, hb3⟩; have hs3 := keep_b hb3 (by assumption); obtain ⟨j0, j1⟩ := hs3; have BZ := Blk.below (R := W.heap.size) (cs := #[.int .i64 0, .int .i64 0, .int .i64 0, .int .i64 0, .int .i64 0, .int .i64 0, .int .i64 0, .int .i64 0, .int .i64 0, .int .i64 0, .int .i64 0, .int .i64 0]) (t := 25) (by assumption) hb3 (Nat.le_refl _); have LZ := bel0 (W := W) (by assumption) hb3; have zc0 := BZ.cell 0 _ rfl; have zf0 := BZ.froz 0 _ rfl; have zc1 := BZ.cell 1 _ rfl; have zf1 := BZ.froz 1 _ rfl; have zc2 := BZ.cell 2 _ rfl; have zf2 := BZ.froz 2 _ rfl; have zc3 := BZ.cell 3 _ rfl; have zf3 := BZ.froz 3 _ rfl; have zc4 := BZ.cell 4 _ rfl; have zf4 := BZ.froz 4 _ rfl; have zc5 := BZ.cell 5 _ rfl; have zf5 := BZ.froz 5 _ rfl; have zc6 := BZ.cell 6 _ rfl; have zf6 := BZ.froz 6 _ rfl; have zc7 := BZ.cell 7 _ rfl; have zf7 := BZ.froz 7 _ rfl; have zc8 := BZ.cell 8 _ rfl; have zf8 := BZ.froz 8 _ rfl; have zc9 := BZ.cell 9 _ rfl; have zf9 := BZ.froz 9 _ rfl; have zc10 := BZ.cell 10 _ rfl; have zf10 := BZ.froz 10 _ rfl; have zc11 := BZ.cell 11 _ rfl; have zf11 := BZ.froz 11 _ rfl))
  go_wp2
  refine bodyPost_ret (v := .tuple #[mv (Mv.turn 0 (-1)), .bool true]) (by simp [results, Tryz.results45, go_sem, Mv.turn, Fr.whole, zc0, zc1, zc2, zc3, zc4, zc5, zc6, zc7, zc8, zc9, zc10, zc11]) rfl ⟨rfl, ?_⟩
  exact put_below (R := W.heap.size) (Nat.le_refl _) [.int .i64 0, .int .i64 1, .int .i64 (-1), .int .i64 1, .int .i64 1, .int .i64 1, .int .i64 0, .int .i64 1, .int .i64 0, .int .i64 1, .int .i64 0, .int .i64 1] 0 LZ


theorem turnOf_any (a : ByteArray) (W : World) : Calls Tryz.prog 45 #[.string a] W fun e w' => e = .returned (.tuple #[mv (turnR a).1, .bool (decide ((turnR a).2 = 0))]) ∧ Below W.heap.size W w' := by
  unfold turnR
  by_cases k0 : a = ⟨#[48]⟩
  · rw [if_pos k0]; subst k0; exact turnOf_0 W
  · rw [if_neg k0]
    by_cases k1 : a = ⟨#[49]⟩
    · rw [if_pos k1]; subst k1; exact turnOf_1 W
    · rw [if_neg k1]
      by_cases k2 : a = ⟨#[50]⟩
      · rw [if_pos k2]; subst k2; exact turnOf_2 W
      · rw [if_neg k2]
        by_cases k3 : a = ⟨#[51]⟩
        · rw [if_pos k3]; subst k3; exact turnOf_3 W
        · rw [if_neg k3]; exact turnOf_no a k0 k1 k2 k3 W

end Go.Proofs.YtlnnpileegoglabGreatDoor

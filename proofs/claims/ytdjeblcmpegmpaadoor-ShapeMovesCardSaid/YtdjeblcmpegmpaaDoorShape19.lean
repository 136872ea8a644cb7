/-
  Package move's Back, at a move by whole steps (mk_shape18.py writes this text).
-/
import Derived.Test.YtdjeblcmpegmpaaDoorShape18
namespace Go.Proofs.YtdjeblcmpegmpaaDoor
open Go.RowKit

set_option maxRecDepth 20000 in
set_option maxHeartbeats 16000000 in
theorem Back_lit (aB aS aZ : Addr) (x y : Int) (hx : StepI x) (hy : StepI y) (W : World) (hE : E3 aB aS aZ W) (hZ : EZ aZ W) :
    Calls Tryd.prog 14 #[.agg #[.int .i64 1, .int .i64 1, .int .i64 0, .int .i64 1, .int .i64 0, .int .i64 1, .int .i64 1, .int .i64 1, .int .i64 x, .int .i64 1, .int .i64 y, .int .i64 1]] W fun e w' => e = .returned (.tuple #[mv (shM (-x) (-y)), .nilIface]) ∧ Below W.heap.size W w' := by
  go_enter Tryd.func14, Tryd.ntmps14
  go_upto_region 1 with fail
  have BM := (Blk.new W #[.int .i64 1, .int .i64 1, .int .i64 0, .int .i64 1, .int .i64 0, .int .i64 1, .int .i64 1, .int .i64 1, .int .i64 x, .int .i64 1, .int .i64 y, .int .i64 1] 37).alloc (.cells #[.int .i64 0, .int .i64 0, .int .i64 0, .int .i64 0, .int .i64 0, .int .i64 0, .int .i64 0, .int .i64 0, .int .i64 0, .int .i64 0, .int .i64 0, .int .i64 0] 37)
  have BR := Blk.new (W.alloc (.cells #[.int .i64 1, .int .i64 1, .int .i64 0, .int .i64 1, .int .i64 0, .int .i64 1, .int .i64 1, .int .i64 1, .int .i64 x, .int .i64 1, .int .i64 y, .int .i64 1] 37)) #[.int .i64 0, .int .i64 0, .int .i64 0, .int .i64 0, .int .i64 0, .int .i64 0, .int .i64 0, .int .i64 0, .int .i64 0, .int .i64 0, .int .i64 0, .int .i64 0] 37
  have LU := ((Below.refl W.heap.size W).alloc (Nat.le_refl _) (.cells #[.int .i64 1, .int .i64 1, .int .i64 0, .int .i64 1, .int .i64 0, .int .i64 1, .int .i64 1, .int .i64 1, .int .i64 x, .int .i64 1, .int .i64 y, .int .i64 1] 37)).alloc (by simp) (.cells #[.int .i64 0, .int .i64 0, .int .i64 0, .int .i64 0, .int .i64 0, .int .i64 0, .int .i64 0, .int .i64 0, .int .i64 0, .int .i64 0, .int .i64 0, .int .i64 0] 37)
  obtain ⟨U, hU⟩ : ∃ U, (W.alloc (.cells #[.int .i64 1, .int .i64 1, .int .i64 0, .int .i64 1, .int .i64 0, .int .i64 1, .int .i64 1, .int .i64 1, .int .i64 x, .int .i64 1, .int .i64 y, .int .i64 1] 37)).alloc (.cells #[.int .i64 0, .int .i64 0, .int .i64 0, .int .i64 0, .int .i64 0, .int .i64 0, .int .i64 0, .int .i64 0, .int .i64 0, .int .i64 0, .int .i64 0, .int .i64 0] 37) = U := ⟨_, rfl⟩
  rw [hU] at BM BR LU ⊢
  rw [World.size_alloc] at BR
  clear hU
  have CK0 : FineC aB aS aZ (shM x y) := fineC (shM_i64 hx hy) (shM_ok hx hy)
  have CK : ∀ V, E3 aB aS aZ V → Calls Tryd.prog 22 #[.agg #[.int .i64 1, .int .i64 1, .int .i64 0, .int .i64 1, .int .i64 0, .int .i64 1, .int .i64 1, .int .i64 1, .int .i64 x, .int .i64 1, .int .i64 y, .int .i64 1]] V fun e w' => e = .returned .nilIface ∧ Below V.heap.size V w' := CK0
  have FL := flat_lit x y
  have m0 := BM.cell 0 _ rfl
  have m1 := BM.cell 1 _ rfl
  have m2 := BM.cell 2 _ rfl
  have m3 := BM.cell 3 _ rfl
  have m4 := BM.cell 4 _ rfl
  have m5 := BM.cell 5 _ rfl
  have m6 := BM.cell 6 _ rfl
  have m7 := BM.cell 7 _ rfl
  have m8 := BM.cell 8 _ rfl
  have m9 := BM.cell 9 _ rfl
  have m10 := BM.cell 10 _ rfl
  have m11 := BM.cell 11 _ rfl
  go_upto_region 4 with (go_at_call 22; refine (CK _ (hE.below LU (Nat.le_refl _))).mono ?_; rintro e w1 ⟨rfl, b1⟩)
  clear m0 m1 m2 m3 m4 m5 m6 m7 m8 m9 m10 m11 CK
  replace BM := BM.below b1 (Nat.le_refl _)
  replace BR := BR.below b1 (Nat.le_refl _)
  have L1 := bel_more LU b1
  have m0 := BM.cell 0 _ rfl
  have m1 := BM.cell 1 _ rfl
  have m2 := BM.cell 2 _ rfl
  have m3 := BM.cell 3 _ rfl
  have m4 := BM.cell 4 _ rfl
  have m5 := BM.cell 5 _ rfl
  have m6 := BM.cell 6 _ rfl
  have m7 := BM.cell 7 _ rfl
  have m8 := BM.cell 8 _ rfl
  have m9 := BM.cell 9 _ rfl
  have m10 := BM.cell 10 _ rfl
  have m11 := BM.cell 11 _ rfl
  go_upto_region 6 with (go_at_call 30; refine (FL _).mono ?_; rintro e w2 ⟨rfl, b2⟩)
  clear m0 m1 m2 m3 m4 m5 m6 m7 m8 m9 m10 m11 FL
  replace BM := BM.below b2 (Nat.le_refl _)
  replace BR := BR.below b2 (Nat.le_refl _)
  have L2 := bel_more L1 b2
  clear b1 b2 L1 LU
  go_upto_region 7 with fail
  have HK : Wk aB aS aZ W w2.heap.size 0 (w2.alloc (.cells #[.nilIface] 67)) := ⟨hE, L2.alloc L2.size _, L2.size, cell_at rfl rfl, froz_at rfl⟩
  have nM := Nat.ne_of_lt BM.lt
  have nR := Nat.ne_of_lt BR.lt
  replace BM := BM.alloc (.cells #[.nilIface] 67)
  replace BR := BR.alloc (.cells #[.nilIface] 67)
  obtain ⟨V, hV⟩ : ∃ V, w2.alloc (.cells #[.nilIface] 67) = V := ⟨_, rfl⟩
  obtain ⟨B, hB⟩ : ∃ B, w2.heap.size = B := ⟨_, rfl⟩
  rw [hV] at HK BM BR ⊢
  rw [hB] at HK nM nR ⊢
  clear hV hB L2
  have D1 : ∀ V, Wk aB aS aZ W B 0 V → Calls Tryd.prog 31 #[.pointer (some ⟨B, 0, none⟩), .func (.func 33) #[] #[], .agg #[.int .i64 1, .int .i64 1], .agg #[.int .i64 1, .int .i64 1]] V fun e w' => e = .returned (.agg #[.int .i64 1, .int .i64 1]) ∧ Wk aB aS aZ W B 0 w' ∧ Upto B V w' := D_mul1 aB aS aZ W B
  have D2 : ∀ V, Wk aB aS aZ W B 0 V → Calls Tryd.prog 31 #[.pointer (some ⟨B, 0, none⟩), .func (.func 33) #[] #[], .agg #[.int .i64 0, .int .i64 1], .agg #[.int .i64 0, .int .i64 1]] V fun e w' => e = .returned (.agg #[.int .i64 0, .int .i64 1]) ∧ Wk aB aS aZ W B 0 w' ∧ Upto B V w' := D_mul0 aB aS aZ W B
  have D3 : ∀ V, Wk aB aS aZ W B 0 V → Calls Tryd.prog 31 #[.pointer (some ⟨B, 0, none⟩), .func (.func 32) #[] #[], .agg #[.int .i64 1, .int .i64 1], .agg #[.int .i64 0, .int .i64 1]] V fun e w' => e = .returned (.agg #[.int .i64 1, .int .i64 1]) ∧ Wk aB aS aZ W B 0 w' ∧ Upto B V w' := D_sub aB aS aZ W B

  go_cut [6] (fun s wx => ∃ T, s = .pointer (some ⟨T, 0, none⟩) ∧ Own2 V.heap.size B wx T (.int .i64 1) (.int .i64 1) ∧ Wk aB aS aZ W B 0 wx ∧ Upto B V wx)
  case first =>
    have hS : (fun w' => w'.cell? ⟨W.heap.size, 0, none⟩ = some (.int .i64 1) ∧ w'.cell? ⟨W.heap.size, 1, none⟩ = some (.int .i64 1) ∧ w'.cell? ⟨W.heap.size, 6, none⟩ = some (.int .i64 1) ∧ w'.cell? ⟨W.heap.size, 7, none⟩ = some (.int .i64 1) ∧ w'.cell? ⟨W.heap.size, 2, none⟩ = some (.int .i64 0) ∧ w'.cell? ⟨W.heap.size, 3, none⟩ = some (.int .i64 1) ∧ w'.cell? ⟨W.heap.size, 4, none⟩ = some (.int .i64 0) ∧ w'.cell? ⟨W.heap.size, 5, none⟩ = some (.int .i64 1)) (V.drewN 1) := ⟨BM.cell 0 _ rfl, BM.cell 1 _ rfl, BM.cell 6 _ rfl, BM.cell 7 _ rfl, BM.cell 2 _ rfl, BM.cell 3 _ rfl, BM.cell 4 _ rfl, BM.cell 5 _ rfl⟩
    have hk0 := HK.drew 1
    have z0 : V.heap.size ≤ (V.drewN 1).heap.size := Nat.le_refl _
    have U0 : Upto B V (V.drewN 1) := Upto.drew B _ 1
    have hMV := BM.lt
    go_region_held3 (fun w' => w'.cell? ⟨W.heap.size, 0, none⟩ = some (.int .i64 1) ∧ w'.cell? ⟨W.heap.size, 1, none⟩ = some (.int .i64 1) ∧ w'.cell? ⟨W.heap.size, 6, none⟩ = some (.int .i64 1) ∧ w'.cell? ⟨W.heap.size, 7, none⟩ = some (.int .i64 1) ∧ w'.cell? ⟨W.heap.size, 2, none⟩ = some (.int .i64 0) ∧ w'.cell? ⟨W.heap.size, 3, none⟩ = some (.int .i64 1) ∧ w'.cell? ⟨W.heap.size, 4, none⟩ = some (.int .i64 0) ∧ w'.cell? ⟨W.heap.size, 5, none⟩ = some (.int .i64 1)) (first | assumption | exact keepP8 (us := [.int .i64 1, .int .i64 1]) (o := 0) q6 (by assumption) | exact keepA8 (by assumption) | exact keepD8 (by assumption) | go_keep) (first | (go_at_call 31; have hq := hk2; refine (D3 _ ?_).mono ?_; (first | exact hk2 | exact hk2.alloc _ | exact HK.al_drew _); rintro e w3 ⟨rfl, hk3, hu3⟩; have hs3 := keepU8 hu3 nM (by first | with_reducible assumption | assumption); have z3 : V.heap.size ≤ w3.heap.size := (by first | exact hu3.lo z2 | exact hu3.lo (lo_alloc z2) | exact hu3.lo (lo_al_drew (Nat.le_refl _))); have U3 : Upto B V w3 := (by first | exact U2.trans hu3 | exact (U2.alloc _).trans hu3 | exact ((Upto.refl B V).al_drew _).trans hu3); (try have hT := Own2.new hk2 z2 hu3); (try have hT := Own2.upto hT hu3); (try (obtain ⟨⟨q0, q1, q2, q3⟩, q4, q5⟩ := hT; have q6 := Nat.ne_of_gt (Nat.lt_of_lt_of_le hMV q5)))) | (go_at_call 31; have hq := hk1; refine (D2 _ ?_).mono ?_; (first | exact hk1 | exact hk1.alloc _ | exact HK.al_drew _); rintro e w2 ⟨rfl, hk2, hu2⟩; have hs2 := keepU8 hu2 nM (by first | with_reducible assumption | assumption); have z2 : V.heap.size ≤ w2.heap.size := (by first | exact hu2.lo z1 | exact hu2.lo (lo_alloc z1) | exact hu2.lo (lo_al_drew (Nat.le_refl _))); have U2 : Upto B V w2 := (by first | exact U1.trans hu2 | exact (U1.alloc _).trans hu2 | exact ((Upto.refl B V).al_drew _).trans hu2); (try have hT := Own2.new hk1 z1 hu2); (try have hT := Own2.upto hT hu2)) | (go_at_call 31; have hq := hk0; refine (D1 _ ?_).mono ?_; (first | exact hk0 | exact hk0.alloc _ | exact HK.al_drew _); rintro e w1 ⟨rfl, hk1, hu1⟩; have hs1 := keepU8 hu1 nM (by first | with_reducible assumption | assumption); have z1 : V.heap.size ≤ w1.heap.size := (by first | exact hu1.lo z0 | exact hu1.lo (lo_alloc z0) | exact hu1.lo (lo_al_drew (Nat.le_refl _))); have U1 : Upto B V w1 := (by first | exact U0.trans hu1 | exact (U0.alloc _).trans hu1 | exact ((Upto.refl B V).al_drew _).trans hu1); (try have hT := Own2.new hk0 z0 hu1); (try have hT := Own2.newd HK (Nat.le_refl _) hu1)))
    all_goals (go_wp2_with fail; go_meet; first | exact ⟨_, rfl, Own2.last hk3 z3, hk3.alloc _, U3.alloc _⟩ | exact ⟨_, rfl, (Own2.mk (Two.mk q0 q1 q2 q3) q4 q5).store _ _, (hk3.store (Nat.le_trans HK.hb.size q5) q4 _ _).store (Nat.le_trans HK.hb.size q5) q4 _ _, (U3.store q5 _ _).store q5 _ _⟩)
  case rest =>
    obtain ⟨T, rfl, hT, HK2, HU2⟩ := hcut
    obtain ⟨V2, hV2⟩ : ∃ X, wc = X := ⟨_, rfl⟩
    rw [hV2] at hT HK2 HU2 ⊢
    have nT := hT.ne
    have nTM := Nat.ne_of_gt (Nat.lt_of_lt_of_le BM.lt hT.lo)
    replace BM := BM.upto HU2 nM
    replace BR := BR.upto HU2 nR
    clear D1 D2 D3 HK
    have HK := HK2
    clear HK2 HU2 hV2

    have E1 : ∀ V, Wk aB aS aZ W B 0 V → Calls Tryd.prog 31 #[.pointer (some ⟨B, 0, none⟩), .func (.func 34) #[] #[], .agg #[.int .i64 1, .int .i64 1], .agg #[.int .i64 1, .int .i64 1]] V fun e w' => e = .returned (.agg #[.int .i64 1, .int .i64 1]) ∧ Wk aB aS aZ W B 0 w' ∧ Upto B V w' := D_div1 aB aS aZ W B hZ
    have E2 : ∀ V, Wk aB aS aZ W B 0 V → Calls Tryd.prog 31 #[.pointer (some ⟨B, 0, none⟩), .func (.func 34) #[] #[], .agg #[.int .i64 0, .int .i64 1], .agg #[.int .i64 1, .int .i64 1]] V fun e w' => e = .returned (.agg #[.int .i64 0, .int .i64 1]) ∧ Wk aB aS aZ W B 0 w' ∧ Upto B V w' := D_div0 aB aS aZ W B hZ
    have OP : ∀ V, Calls Tryd.prog 35 #[.agg #[.int .i64 0, .int .i64 1]] V fun e w' => e = .returned (.agg #[.int .i64 0, .int .i64 1]) ∧ Below V.heap.size V w' := fun V => opposite_any 0 1 zi V
    go_upto_region 8 with fail
    go_cut [7] (fun s wx => ∃ R, s = .pointer (some ⟨R, 0, none⟩) ∧ OwnB V2.heap.size B wx R #[.int .i64 1, .int .i64 1, .int .i64 0, .int .i64 1, .int .i64 0, .int .i64 1, .int .i64 1, .int .i64 1, .int .i64 0, .int .i64 0, .int .i64 0, .int .i64 0] 37 ∧ Wk aB aS aZ W B 0 wx ∧ Upto B V2 wx)
    case first =>
      have hS : (fun w' => w'.cell? ⟨W.heap.size, 0, none⟩ = some (.int .i64 1) ∧ w'.cell? ⟨W.heap.size, 1, none⟩ = some (.int .i64 1) ∧ w'.cell? ⟨W.heap.size, 6, none⟩ = some (.int .i64 1) ∧ w'.cell? ⟨W.heap.size, 7, none⟩ = some (.int .i64 1) ∧ w'.cell? ⟨W.heap.size, 2, none⟩ = some (.int .i64 0) ∧ w'.cell? ⟨W.heap.size, 3, none⟩ = some (.int .i64 1) ∧ w'.cell? ⟨W.heap.size, 4, none⟩ = some (.int .i64 0) ∧ w'.cell? ⟨W.heap.size, 5, none⟩ = some (.int .i64 1) ∧ w'.cell? ⟨T, 0, none⟩ = some (.int .i64 1) ∧ w'.cell? ⟨T, 1, none⟩ = some (.int .i64 1)) V2.drew := ⟨BM.cell 0 _ rfl, BM.cell 1 _ rfl, BM.cell 6 _ rfl, BM.cell 7 _ rfl, BM.cell 2 _ rfl, BM.cell 3 _ rfl, BM.cell 4 _ rfl, BM.cell 5 _ rfl, hT.t.c0, hT.t.c1⟩
      have hk0 := HK.drew 1
      have z0 : V2.heap.size ≤ (V2.drewN 1).heap.size := Nat.le_refl _
      have U0 : Upto B V2 (V2.drewN 1) := Upto.drew B _ 1
      have hMV := BM.lt
      have hTV := cell_lt hT.t.c0
      simp only at hTV
      clear hT
      go_region_held3 (fun w' => w'.cell? ⟨W.heap.size, 0, none⟩ = some (.int .i64 1) ∧ w'.cell? ⟨W.heap.size, 1, none⟩ = some (.int .i64 1) ∧ w'.cell? ⟨W.heap.size, 6, none⟩ = some (.int .i64 1) ∧ w'.cell? ⟨W.heap.size, 7, none⟩ = some (.int .i64 1) ∧ w'.cell? ⟨W.heap.size, 2, none⟩ = some (.int .i64 0) ∧ w'.cell? ⟨W.heap.size, 3, none⟩ = some (.int .i64 1) ∧ w'.cell? ⟨W.heap.size, 4, none⟩ = some (.int .i64 0) ∧ w'.cell? ⟨W.heap.size, 5, none⟩ = some (.int .i64 1) ∧ w'.cell? ⟨T, 0, none⟩ = some (.int .i64 1) ∧ w'.cell? ⟨T, 1, none⟩ = some (.int .i64 1)) (first | with_reducible assumption | with_reducible exact keepA10 (by with_reducible assumption) | with_reducible exact keepQ10 q6 q7 (by with_reducible assumption) | exact keepD10 (by assumption) | go_keep) (first | (go_at_call 31; have hq := hk5; refine (E1 _ ?_).mono ?_; (first | exact hk5 | exact hk5.alloc _ | exact HK.al_drew _); rintro e w6 ⟨rfl, hk6, hu6⟩; have hs6 := keepU10 hu6 nM nT (by first | with_reducible assumption | assumption); have z6 : V2.heap.size ≤ w6.heap.size := (by first | exact hu6.lo z5 | exact hu6.lo (lo_alloc z5) | exact hu6.lo (lo_al_drew (Nat.le_refl _))); have U6 : Upto B V2 w6 := (by first | exact U5.trans hu6 | exact (U5.alloc _).trans hu6 | exact ((Upto.refl B V2).al_drew _).trans hu6); (try have hT := OwnB.new hk5 z5 hu6); (try have hT := OwnB.upto hT hu6); (try (obtain ⟨q0, q4, q5⟩ := hT; have q6 := Nat.ne_of_gt (Nat.lt_of_lt_of_le hMV q5); have q7 := Nat.ne_of_gt (Nat.lt_of_lt_of_le hTV q5); have rc0 := q0.cell 0 _ rfl; have rf0 := q0.froz 0 _ rfl; have rc1 := q0.cell 1 _ rfl; have rf1 := q0.froz 1 _ rfl; have rc2 := q0.cell 2 _ rfl; have rf2 := q0.froz 2 _ rfl; have rc3 := q0.cell 3 _ rfl; have rf3 := q0.froz 3 _ rfl; have rc4 := q0.cell 4 _ rfl; have rf4 := q0.froz 4 _ rfl; have rc5 := q0.cell 5 _ rfl; have rf5 := q0.froz 5 _ rfl; have rc6 := q0.cell 6 _ rfl; have rf6 := q0.froz 6 _ rfl; have rc7 := q0.cell 7 _ rfl; have rf7 := q0.froz 7 _ rfl; have rc8 := q0.cell 8 _ rfl; have rf8 := q0.froz 8 _ rfl; have rc9 := q0.cell 9 _ rfl; have rf9 := q0.froz 9 _ rfl; have rc10 := q0.cell 10 _ rfl; have rf10 := q0.froz 10 _ rfl; have rc11 := q0.cell 11 _ rfl; have rf11 := q0.froz 11 _ rfl))) | (go_at_call 31; have hq := hk4; refine (E2 _ ?_).mono ?_; (first | exact hk4 | exact hk4.alloc _ | exact HK.al_drew _); rintro e w5 ⟨rfl, hk5, hu5⟩; have hs5 := keepU10 hu5 nM nT (by first | with_reducible assumption | assumption); have z5 : V2.heap.size ≤ w5.heap.size := (by first | exact hu5.lo z4 | exact hu5.lo (lo_alloc z4) | exact hu5.lo (lo_al_drew (Nat.le_refl _))); have U5 : Upto B V2 w5 := (by first | exact U4.trans hu5 | exact (U4.alloc _).trans hu5 | exact ((Upto.refl B V2).al_drew _).trans hu5); (try have hT := OwnB.new hk4 z4 hu5); (try have hT := OwnB.upto hT hu5)) | (go_at_call 35; have hq := hk3; refine (OP _).mono ?_; rintro e w4 ⟨rfl, hb4⟩; have hu4 := Upto.of_below (b := B) hb4; have hk4 : Wk aB aS aZ W B 0 w4 := (by first | exact hk3.below hb4 | exact (hk3.alloc _).below hb4 | exact (HK.al_drew _).below hb4); have hs4 := keepU10 hu4 nM nT (by first | with_reducible assumption | assumption); have z4 : V2.heap.size ≤ w4.heap.size := (by first | exact hu4.lo z3 | exact hu4.lo (lo_alloc z3) | exact hu4.lo (lo_al_drew (Nat.le_refl _))); have U4 : Upto B V2 w4 := (by first | exact U3.trans hu4 | exact (U3.alloc _).trans hu4 | exact ((Upto.refl B V2).al_drew _).trans hu4); (try have hT := OwnB.new hk3 z3 hu4); (try have hT := OwnB.upto hT hu4)) | (go_at_call 31; have hq := hk2; refine (E2 _ ?_).mono ?_; (first | exact hk2 | exact hk2.alloc _ | exact HK.al_drew _); rintro e w3 ⟨rfl, hk3, hu3⟩; have hs3 := keepU10 hu3 nM nT (by first | with_reducible assumption | assumption); have z3 : V2.heap.size ≤ w3.heap.size := (by first | exact hu3.lo z2 | exact hu3.lo (lo_alloc z2) | exact hu3.lo (lo_al_drew (Nat.le_refl _))); have U3 : Upto B V2 w3 := (by first | exact U2.trans hu3 | exact (U2.alloc _).trans hu3 | exact ((Upto.refl B V2).al_drew _).trans hu3); (try have hT := OwnB.new hk2 z2 hu3); (try have hT := OwnB.upto hT hu3)) | (go_at_call 35; have hq := hk1; refine (OP _).mono ?_; rintro e w2 ⟨rfl, hb2⟩; have hu2 := Upto.of_below (b := B) hb2; have hk2 : Wk aB aS aZ W B 0 w2 := (by first | exact hk1.below hb2 | exact (hk1.alloc _).below hb2 | exact (HK.al_drew _).below hb2); have hs2 := keepU10 hu2 nM nT (by first | with_reducible assumption | assumption); have z2 : V2.heap.size ≤ w2.heap.size := (by first | exact hu2.lo z1 | exact hu2.lo (lo_alloc z1) | exact hu2.lo (lo_al_drew (Nat.le_refl _))); have U2 : Upto B V2 w2 := (by first | exact U1.trans hu2 | exact (U1.alloc _).trans hu2 | exact ((Upto.refl B V2).al_drew _).trans hu2); (try have hT := OwnB.new hk1 z1 hu2); (try have hT := OwnB.upto hT hu2)) | (go_at_call 31; have hq := hk0; refine (E1 _ ?_).mono ?_; (first | exact hk0 | exact hk0.alloc _ | exact HK.al_drew _); rintro e w1 ⟨rfl, hk1, hu1⟩; have hs1 := keepU10 hu1 nM nT (by first | with_reducible assumption | assumption); have z1 : V2.heap.size ≤ w1.heap.size := (by first | exact hu1.lo z0 | exact hu1.lo (lo_alloc z0) | exact hu1.lo (lo_al_drew (Nat.le_refl _))); have U1 : Upto B V2 w1 := (by first | exact U0.trans hu1 | exact (U0.alloc _).trans hu1 | exact ((Upto.refl B V2).al_drew _).trans hu1); (try have hT := OwnB.new hk0 z0 hu1); (try have hT := OwnB.newd HK (Nat.le_refl _) hu1)))
      all_goals (first | (have hq := q0; go_wp2_with fail; go_meet; exact ⟨_, rfl, fin12 q0 q4 q5 HK.hb.size hk6 U6⟩) | (go_wp2_with fail; go_meet; exact ⟨_, rfl, OwnB.last hk6 z6, hk6.alloc _, U6.alloc _⟩))
    case rest =>
      obtain ⟨R, rfl, hR, HK3, HU3⟩ := hcut
      obtain ⟨V3, hV3⟩ : ∃ X, wc = X := ⟨_, rfl⟩
      rw [hV3] at hR HK3 HU3 ⊢
      have nB := hR.ne
      have hWR := Nat.le_trans HK.hb.size hR.lo
      have nRM := Nat.ne_of_gt (Nat.lt_of_lt_of_le BR.lt hR.lo)
      replace BM := BM.upto HU3 nM
      replace BR := BR.upto HU3 nR
      clear E1 E2 OP HK hT
      have HK := HK3
      have BB := hR.blk
      clear HK3 HU3 hV3 hR

      have r0 := BB.cell 0 _ rfl
      have r1 := BB.cell 1 _ rfl
      have r2 := BB.cell 2 _ rfl
      have r3 := BB.cell 3 _ rfl
      have r4 := BB.cell 4 _ rfl
      have r5 := BB.cell 5 _ rfl
      have r6 := BB.cell 6 _ rfl
      have r7 := BB.cell 7 _ rfl
      have r8 := BB.cell 8 _ rfl
      have r9 := BB.cell 9 _ rfl
      have r10 := BB.cell 10 _ rfl
      have r11 := BB.cell 11 _ rfl
      have m8 := BM.cell 8 _ rfl
      have m9 := BM.cell 9 _ rfl
      have m10 := BM.cell 10 _ rfl
      have m11 := BM.cell 11 _ rfl
      have T9 : Calls Tryd.prog 36 #[.pointer (some ⟨B, 0, none⟩), .agg #[.int .i64 1, .int .i64 1, .int .i64 0, .int .i64 1, .int .i64 0, .int .i64 1, .int .i64 1, .int .i64 1, .int .i64 0, .int .i64 0, .int .i64 0, .int .i64 0], .agg #[.int .i64 x, .int .i64 1, .int .i64 y, .int .i64 1]] V3 fun e w' => e = .returned (.agg #[.int .i64 x, .int .i64 1, .int .i64 y, .int .i64 1]) ∧ Wk aB aS aZ W B 0 w' ∧ Upto B V3 w' := turned_one aB aS aZ W B ⟨0, 0⟩ ⟨0, 0⟩ x y hx.chk hy.chk V3 HK
      go_upto_region 10 with (go_at_call 36; refine T9.mono ?_; rintro e w3 ⟨rfl, hk3, hu3⟩)
      clear r0 r1 r2 r3 r4 r5 r6 r7 r8 r9 r10 r11 m8 m9 m10 m11 T9
      have BP := Blk.new w3 #[.int .i64 x, .int .i64 1, .int .i64 y, .int .i64 1] 26
      have nPR := Nat.ne_of_lt (BB.upto hu3 nB).lt
      replace BB := (BB.upto hu3 nB).alloc (.cells #[.int .i64 x, .int .i64 1, .int .i64 y, .int .i64 1] 26)
      replace BR := (BR.upto hu3 nR).alloc (.cells #[.int .i64 x, .int .i64 1, .int .i64 y, .int .i64 1] 26)
      have HK4 := (hk3.alloc (.cells #[.int .i64 x, .int .i64 1, .int .i64 y, .int .i64 1] 26)).drew 1
      have hS : (fun w' => w'.cell? ⟨w3.heap.size, 0, none⟩ = some (.int .i64 x) ∧ w'.cell? ⟨w3.heap.size, 1, none⟩ = some (.int .i64 1) ∧ w'.cell? ⟨w3.heap.size, 2, none⟩ = some (.int .i64 y) ∧ w'.cell? ⟨w3.heap.size, 3, none⟩ = some (.int .i64 1)) (w3.alloc (.cells #[.int .i64 x, .int .i64 1, .int .i64 y, .int .i64 1] 26)).drew := ⟨BP.cell 0 _ rfl, BP.cell 1 _ rfl, BP.cell 2 _ rfl, BP.cell 3 _ rfl⟩
      have nP := hk3.ne
      have OX := opposite_any x 1 (i64_of_chk hx.neg.chk).1
      have OY := opposite_any y 1 (i64_of_chk hy.neg.chk).1
      go_region_held3 (fun w' => w'.cell? ⟨w3.heap.size, 0, none⟩ = some (.int .i64 x) ∧ w'.cell? ⟨w3.heap.size, 1, none⟩ = some (.int .i64 1) ∧ w'.cell? ⟨w3.heap.size, 2, none⟩ = some (.int .i64 y) ∧ w'.cell? ⟨w3.heap.size, 3, none⟩ = some (.int .i64 1)) (first | with_reducible assumption | with_reducible exact keepQ4 nPR (by with_reducible assumption) | with_reducible exact keepR4 nPR (by with_reducible assumption) | go_keep) (first | (go_at_call 35; have hq := b4; refine (OY _).mono ?_; rintro e w5 ⟨rfl, b5⟩; have hs5 := keepU4 (Upto.of_below (b := B) b5) nP (by first | with_reducible assumption | assumption); have B5 := (Blk.below (w := (w3.alloc (.cells #[.int .i64 x, .int .i64 1, .int .i64 y, .int .i64 1] 26)).drew) ⟨BB.h⟩ b4 (Nat.le_refl _)).below b5 (Nat.le_refl _); have rc8 := B5.cell 8 _ rfl; have rf8 := B5.froz 8 _ rfl; have rc9 := B5.cell 9 _ rfl; have rf9 := B5.froz 9 _ rfl; have rc10 := B5.cell 10 _ rfl; have rf10 := B5.froz 10 _ rfl; have rc11 := B5.cell 11 _ rfl; have rf11 := B5.froz 11 _ rfl) | (go_at_call 35; refine (OX _).mono ?_; rintro e w4 ⟨rfl, b4⟩; have hs4 := keepU4 (Upto.of_below (b := B) b4) nP (by first | with_reducible assumption | assumption)))
      go_upto_region 11 with fail
      have F0 := B5.set 8 (.int .i64 (-x))
      simp only [List.setIfInBounds_toArray, List.set_cons_zero, List.set_cons_succ] at F0
      replace F0 := F0.set 9 (.int .i64 1)
      simp only [List.setIfInBounds_toArray, List.set_cons_zero, List.set_cons_succ] at F0
      replace F0 := F0.set 10 (.int .i64 (-y))
      simp only [List.setIfInBounds_toArray, List.set_cons_zero, List.set_cons_succ] at F0
      replace F0 := F0.set 11 (.int .i64 1)
      simp only [List.setIfInBounds_toArray, List.set_cons_zero, List.set_cons_succ] at F0
      have HK5 := (((((HK4.below b4).below b5).store hWR nB 8 (.int .i64 (-x))).store hWR nB 9 (.int .i64 1)).store hWR nB 10 (.int .i64 (-y))).store hWR nB 11 (.int .i64 1)
      have R5 := (Blk.below (w := (w3.alloc (.cells #[.int .i64 x, .int .i64 1, .int .i64 y, .int .i64 1] 26)).drew) ⟨BR.h⟩ b4 (Nat.le_refl _)).below b5 (Nat.le_refl _)
      replace R5 := (((R5.far (o := 8) (v := .int .i64 (-x)) nRM).far (o := 9) (v := .int .i64 1) nRM).far (o := 10) (v := .int .i64 (-y)) nRM).far (o := 11) (v := .int .i64 1) nRM
      obtain ⟨V6, hV6⟩ : ∃ X, (((w5.setCell ⟨R, 8, none⟩ (.int .i64 (-x))).setCell ⟨R, 9, none⟩ (.int .i64 1)).setCell ⟨R, 10, none⟩ (.int .i64 (-y))).setCell ⟨R, 11, none⟩ (.int .i64 1) = X := ⟨_, rfl⟩
      rw [hV6] at F0 HK5 R5 ⊢
      clear hV6 B5 rc8 rf8 rc9 rf9 rc10 rf10 rc11 rf11 hS OX OY
      have AN : Calls Tryd.prog 37 #[.pointer (some ⟨B, 0, none⟩), .agg #[.int .i64 1, .int .i64 1, .int .i64 0, .int .i64 1, .int .i64 0, .int .i64 1, .int .i64 1, .int .i64 1, .int .i64 (-x), .int .i64 1, .int .i64 (-y), .int .i64 1]] V6 fun e w' => e = .returned (.tuple #[.agg #[.int .i64 1, .int .i64 1, .int .i64 0, .int .i64 1, .int .i64 0, .int .i64 1, .int .i64 1, .int .i64 1, .int .i64 (-x), .int .i64 1, .int .i64 (-y), .int .i64 1], .nilIface]) ∧ Below V6.heap.size V6 w' := answer_ok (shM (-x) (-y)) V6 HK5
      have r0 := F0.cell 0 _ rfl
      have r1 := F0.cell 1 _ rfl
      have r2 := F0.cell 2 _ rfl
      have r3 := F0.cell 3 _ rfl
      have r4 := F0.cell 4 _ rfl
      have r5 := F0.cell 5 _ rfl
      have r6 := F0.cell 6 _ rfl
      have r7 := F0.cell 7 _ rfl
      have r8 := F0.cell 8 _ rfl
      have r9 := F0.cell 9 _ rfl
      have r10 := F0.cell 10 _ rfl
      have r11 := F0.cell 11 _ rfl
      go_wp2_with (go_at_call 37; refine AN.mono ?_; rintro e w6 ⟨rfl, b6⟩; have R6 := R5.below b6 (Nat.le_refl _); have zc0 := R6.cell 0 _ rfl; have zf0 := R6.froz 0 _ rfl; have zc1 := R6.cell 1 _ rfl; have zf1 := R6.froz 1 _ rfl; have zc2 := R6.cell 2 _ rfl; have zf2 := R6.froz 2 _ rfl; have zc3 := R6.cell 3 _ rfl; have zf3 := R6.froz 3 _ rfl; have zc4 := R6.cell 4 _ rfl; have zf4 := R6.froz 4 _ rfl; have zc5 := R6.cell 5 _ rfl; have zf5 := R6.froz 5 _ rfl; have zc6 := R6.cell 6 _ rfl; have zf6 := R6.froz 6 _ rfl; have zc7 := R6.cell 7 _ rfl; have zf7 := R6.froz 7 _ rfl; have zc8 := R6.cell 8 _ rfl; have zf8 := R6.froz 8 _ rfl; have zc9 := R6.cell 9 _ rfl; have zf9 := R6.froz 9 _ rfl; have zc10 := R6.cell 10 _ rfl; have zf10 := R6.froz 10 _ rfl; have zc11 := R6.cell 11 _ rfl; have zf11 := R6.froz 11 _ rfl)
      refine bodyPost_ret (v := .tuple #[mv (shM (-x) (-y)), .nilIface]) (by simp [results, Tryd.results14, go_sem, shM, Fr.whole, zc0, zc1, zc2, zc3, zc4, zc5, zc6, zc7, zc8, zc9, zc10, zc11]) rfl ⟨rfl, ?_⟩
      exact put_below (R := W.heap.size + 1) (Nat.le_succ _) [.int .i64 1, .int .i64 1, .int .i64 0, .int .i64 1, .int .i64 0, .int .i64 1, .int .i64 1, .int .i64 1, .int .i64 (-x), .int .i64 1, .int .i64 (-y), .int .i64 1] 0 (HK5.hb.trans (b6.mono HK5.hb.size))
theorem Back_sh {aB aS aZ : Addr} {x y : Int} (hx : StepI x) (hy : StepI y) (W : World) (hE : E3 aB aS aZ W) (hZ : EZ aZ W) :
    Calls Tryd.prog 14 #[mv (shM x y)] W fun e w' => e = .returned (.tuple #[mv (shM (-x) (-y)), .nilIface]) ∧ Below W.heap.size W w' := Back_lit aB aS aZ x y hx hy W hE hZ
end Go.Proofs.YtdjeblcmpegmpaaDoor

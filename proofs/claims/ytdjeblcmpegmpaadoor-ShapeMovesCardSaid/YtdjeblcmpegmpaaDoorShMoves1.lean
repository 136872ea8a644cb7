/-
  The law ShapeMoves, walked.
-/
import Derived.Test.YtdjeblcmpegmpaaDoorShape15
import Derived.Test.YtdjeblcmpegmpaaDoorShape19
import Derived.Test.YtdjeblcmpegmpaaDoorShape12
namespace Go.Proofs.YtdjeblcmpegmpaaDoor
open Go.RowKit

theorem ok_shift {x y : Int} {l : List Qt} (hx : StepI x) (hy : StepI y) (h : okSh l) (hb : ∀ a ∈ l, bigP (shiftP x y a) = 0) : okSh (l.map (shiftP x y)) := by
  refine ⟨by rw [List.length_map]; exact h.1, fun b hb' => ?_⟩
  obtain ⟨a, ha, rfl⟩ := List.mem_map.1 hb'
  exact errP_zero.2 ⟨shift_ok hx hy (h.2 a ha), hb a ha⟩
/-- Move's answer, in the words of a caller. -/
theorem MvdR.plain {g : Qt → Qt} {l : List Qt} {base : Nat} {e : Ending} {W : World} (h : MvdR g l base e W) (hg : ∀ a ∈ l, PI (g a)) :
    ∃ o n c v, e = .returned (.tuple #[.agg #[.slice o n c], v]) ∧ (((∀ a ∈ l, bigP (g a) = 0) ∧ v = .nilIface ∧ n = (l.map g).length ∧ PtsAt W o (l.map g)) ∨ ((¬ ∀ a ∈ l, bigP (g a) = 0) ∧ ErrV v)) := by
  rcases h with ⟨h1, v, rfl, hv⟩ | ⟨h1, v, hv, rfl⟩
  · obtain ⟨o, c, rfl, hp⟩ := hv.at_ (fun b hb => by obtain ⟨a, ha, rfl⟩ := List.mem_map.1 hb; exact hg a ha)
    exact ⟨o, _, c, _, rfl, .inl ⟨h1, rfl, rfl, hp⟩⟩
  · exact ⟨none, 0, 0, v, rfl, .inr ⟨h1, hv⟩⟩
set_option maxRecDepth 20000 in
set_option maxHeartbeats 16000000 in
theorem shmoves_any (aB aS aZ : Addr) (l : List Qt) (o : Option Addr) (cap : Nat) (p : Qt) (x y : Int) (W : World) (hE : E3 aB aS aZ W) (hZ : EZ aZ W) (hR : RowP W o cap l) (hp : PI p) (hx : I64 x) (hy : I64 y) :
    Calls Tryd.prog 4 #[.slice o l.length cap, qtV p, .int .i64 x, .int .i64 y] W fun e w' => e = .returned (.bool true) ∧ Below W.heap.size W w' := by
  obtain ⟨hx1, hx2⟩ := hx
  obtain ⟨hy1, hy2⟩ := hy
  have hb0 := mbelow W (.cells #[.int .i64 p.xn, .int .i64 p.xd, .int .i64 p.yn, .int .i64 p.yd] 26)
  have F0 := Four.new W (.int .i64 p.xn) (.int .i64 p.xd) (.int .i64 p.yn) (.int .i64 p.yd) 26
  go_enter Tryd.func4, Tryd.ntmps4
  go_upto_region 1 with fail
  obtain ⟨V, hV⟩ : ∃ V, W.alloc (.cells #[.int .i64 p.xn, .int .i64 p.xd, .int .i64 p.yn, .int .i64 p.yd] 26) = V := ⟨_, rfl⟩
  rw [hV] at hb0 F0 ⊢
  clear hV
  have SH := shaped_any aB aS aZ V (hE.below hb0 (Nat.le_refl _))
  go_upto_region 2 with (go_at_call 6; refine SH.mono ?_; rintro e w1 ⟨rfl, b1⟩)
  clear SH
  have bw1 := bel_more hb0 b1
  by_cases h20 : 20 < l.length
  · have h20' : 20 < (l.length : Int) := by omega
    go_wp2_with fail
    go_ret
    exact ⟨rfl, bw1⟩
  have h20' : ¬ 20 < (l.length : Int) := by omega
  by_cases hxl : x < -100
  · go_wp2_with fail
    go_ret
    exact ⟨rfl, bw1⟩
  by_cases hxh : 100 < x
  · go_wp2_with fail
    go_ret
    exact ⟨rfl, bw1⟩
  by_cases hyl : y < -100
  · go_wp2_with fail
    go_ret
    exact ⟨rfl, bw1⟩
  by_cases hyh : 100 < y
  · go_wp2_with fail
    go_ret
    exact ⟨rfl, bw1⟩
  have hX : StepI x := ⟨by omega, by omega⟩
  have hY : StepI y := ⟨by omega, by omega⟩
  have hR1 := hR.below bw1
  have hE1 := hE.below bw1 (Nat.le_refl _)
  have F1 := F0.below b1 (Nat.le_refl _)
  have OP := OwnPoints_any l o cap w1 (by omega) hR1.pts
  go_upto_region 5 with (go_at_call 7; refine OP.mono ?_; rintro e w2 ⟨v1, rfl, ow1, b2⟩; obtain ⟨o1, c1, rfl, hP1⟩ := ow1.at_ (fun a ha => hR1.pts.pi ha))
  clear OP F0
  obtain ⟨U, hU⟩ : ∃ U, w2.alloc (.cells #[.slice o1 l.length c1] 30) = U := ⟨_, rfl⟩
  have b3 := mbelow w2 (.cells #[.slice o1 l.length c1] 30)
  have s1 := World.alloc_heap_new w2 (.cells #[.slice o1 l.length c1] 30)
  rw [hU] at b3 s1 ⊢
  clear hU
  obtain ⟨B1, hB1⟩ : ∃ B, w2.heap.size = B := ⟨_, rfl⟩
  have bU := bel_more b2 b3
  have hPU := hP1.below b3 (Nat.le_refl _)
  have hRU := hR1.below bU
  have hEU := hE1.below bU (Nat.le_refl _)
  have FU := F1.below bU (Nat.le_refl _)
  have bWU := bel_more bw1 bU
  rw [hB1] at s1 ⊢
  clear hB1 b3 b2 hP1 ow1 hR1 hE1 F1 bw1 b1 hxl hxh hyl hyh
  have WD := Wind_any aB aS aZ l o1 c1 p U hPU hp hEU
  obtain ⟨f0, f1, f2, f3⟩ := id FU
  have s0 := bcellQ s1 0 _ rfl
  go_upto_region 6 with (go_at_call 8; refine WD.mono ?_; rintro e w3 ⟨n, cr, v, hv, rfl, b3⟩)
  clear WD f0 f1 f2 f3 s0
  rcases hv with ⟨hok, hpe, hn, -, rfl⟩ | ⟨hno, rfl, -, hv⟩
  · have HOK : Hid (okSh l ∧ errP p = 0) := ⟨hok, hpe⟩
    have HN : Hid (n = windE (turnI p) l) := hn
    clear hok hpe hn
    replace s1 := blk_keep b3 s1
    replace FU := FU.below b3 (Nat.le_refl _)
    replace hPU := hPU.below b3 (Nat.le_refl _)
    replace hRU := hRU.below b3
    replace hEU := hEU.below b3 (Nat.le_refl _)
    replace bWU := bel_more bWU b3
    clear b3
    have ON : ∀ V, Calls Tryd.prog 10 #[] V fun e w' => e = .returned (.agg #[.int .i64 1, .int .i64 1, .int .i64 0, .int .i64 1, .int .i64 0, .int .i64 1, .int .i64 1, .int .i64 1, .int .i64 0, .int .i64 1, .int .i64 0, .int .i64 1]) ∧ Below V.heap.size V w' := One_any
    go_upto_region 11 with (go_at_call 10; refine (ON _).mono ?_; rintro e w4 ⟨rfl, b4⟩)
    clear ON
    have b5 := mbelow w4 (.cells #[.int .i64 1, .int .i64 1, .int .i64 0, .int .i64 1, .int .i64 0, .int .i64 1, .int .i64 1, .int .i64 1, .int .i64 x, .int .i64 1, .int .i64 y, .int .i64 1] 37)
    have kQ := World.alloc_heap_new w4 (.cells #[.int .i64 1, .int .i64 1, .int .i64 0, .int .i64 1, .int .i64 0, .int .i64 1, .int .i64 1, .int .i64 1, .int .i64 x, .int .i64 1, .int .i64 y, .int .i64 1] 37)
    obtain ⟨X, hXe⟩ : ∃ X, w4.alloc (.cells #[.int .i64 1, .int .i64 1, .int .i64 0, .int .i64 1, .int .i64 0, .int .i64 1, .int .i64 1, .int .i64 1, .int .i64 x, .int .i64 1, .int .i64 y, .int .i64 1] 37) = X := ⟨_, rfl⟩
    obtain ⟨BQ, hBQ⟩ : ∃ B, w4.heap.size = B := ⟨_, rfl⟩
    rw [hXe] at b5 kQ ⊢
    have b6 := bel_more b4 b5
    rw [hBQ] at kQ ⊢
    clear hXe hBQ b4 b5
    replace s1 := blk_keep b6 s1
    replace FU := FU.below b6 (Nat.le_refl _)
    replace hPU := hPU.below b6 (Nat.le_refl _)
    replace hRU := hRU.below b6
    replace hEU := hEU.below b6 (Nat.le_refl _)
    replace bWU := bel_more bWU b6
    clear b6
    have MV0 := ShMove_any aB aS aZ (shM x y) (shiftP x y) l o1 c1 X (fineC (shM_i64 hX hY) (shM_ok hX hY)) HOK.out.1 (fun a ha => shift_ok hX hY (HOK.out.1.2 a ha)) (fun a ha V hV => At_sh hX hY (HOK.out.1.2 a ha) V hV) hPU hEU
    have MV1 : Calls Tryd.prog 11 #[.agg #[.slice o1 l.length c1], .agg #[.int .i64 1, .int .i64 1, .int .i64 0, .int .i64 1, .int .i64 0, .int .i64 1, .int .i64 1, .int .i64 1, .int .i64 x, .int .i64 1, .int .i64 y, .int .i64 1]] X fun e W => MvdR (shiftP x y) l X.heap.size e W ∧ Below X.heap.size X W := MV0
    clear MV0
    have s0 := bcellQ s1 0 _ rfl
    have m0 := bcellQ kQ 0 _ rfl
    have m1 := bcellQ kQ 1 _ rfl
    have m2 := bcellQ kQ 2 _ rfl
    have m3 := bcellQ kQ 3 _ rfl
    have m4 := bcellQ kQ 4 _ rfl
    have m5 := bcellQ kQ 5 _ rfl
    have m6 := bcellQ kQ 6 _ rfl
    have m7 := bcellQ kQ 7 _ rfl
    have m8 := bcellQ kQ 8 _ rfl
    have m9 := bcellQ kQ 9 _ rfl
    have m10 := bcellQ kQ 10 _ rfl
    have m11 := bcellQ kQ 11 _ rfl
    go_upto_region 12 with (go_at_call 11; refine MV1.mono ?_; rintro e w5 ⟨hm, b7⟩; obtain ⟨o2, n2, c2, v, rfl, hmv⟩ := hm.plain (fun a ha => chkP_pi (shift_ok hX hY (HOK.out.1.2 a ha))))
    clear MV1 s0 m0 m1 m2 m3 m4 m5 m6 m7 m8 m9 m10 m11
    have b8 := mbelow w5 (.cells #[.slice o2 n2 c2] 30)
    have kS := World.alloc_heap_new w5 (.cells #[.slice o2 n2 c2] 30)
    obtain ⟨Y, hYe⟩ : ∃ X, w5.alloc (.cells #[.slice o2 n2 c2] 30) = X := ⟨_, rfl⟩
    obtain ⟨BS, hBS⟩ : ∃ B, w5.heap.size = B := ⟨_, rfl⟩
    rw [hYe] at b8 kS ⊢
    have b9 := bel_more b7 b8
    rw [hBS] at kS ⊢
    clear hYe hBS b7
    replace kQ := blk_keep b9 kQ
    replace FU := FU.below b9 (Nat.le_refl _)
    replace hRU := hRU.below b9
    replace hEU := hEU.below b9 (Nat.le_refl _)
    replace bWU := bel_more bWU b9
    clear b9 s1 hPU
    have AT : Calls Tryd.prog 12 #[.agg #[.int .i64 1, .int .i64 1, .int .i64 0, .int .i64 1, .int .i64 0, .int .i64 1, .int .i64 1, .int .i64 1, .int .i64 x, .int .i64 1, .int .i64 y, .int .i64 1], qtV p] Y fun e w' => e = .returned (.tuple #[qtV (shiftP x y p), .nilIface]) ∧ Below Y.heap.size Y w' := At_sh hX hY HOK.out.2 Y hEU
    obtain ⟨q, hq⟩ : ∃ q, shiftP x y p = q := ⟨_, rfl⟩
    rw [hq] at AT
    have HQ : Hid (shiftP x y p = q) := hq
    clear hq
    have m0 := bcellQ kQ 0 _ rfl
    have m1 := bcellQ kQ 1 _ rfl
    have m2 := bcellQ kQ 2 _ rfl
    have m3 := bcellQ kQ 3 _ rfl
    have m4 := bcellQ kQ 4 _ rfl
    have m5 := bcellQ kQ 5 _ rfl
    have m6 := bcellQ kQ 6 _ rfl
    have m7 := bcellQ kQ 7 _ rfl
    have m8 := bcellQ kQ 8 _ rfl
    have m9 := bcellQ kQ 9 _ rfl
    have m10 := bcellQ kQ 10 _ rfl
    have m11 := bcellQ kQ 11 _ rfl
    obtain ⟨f0, f1, f2, f3⟩ := id FU
    go_upto_region 13 with (go_at_call 12; refine AT.mono ?_; rintro e w6 ⟨rfl, b10⟩)
    clear AT m0 m1 m2 m3 m4 m5 m6 m7 m8 m9 m10 m11 f0 f1 f2 f3 FU
    have b11 := mbelow w6 (.cells #[.int .i64 q.xn, .int .i64 q.xd, .int .i64 q.yn, .int .i64 q.yd] 26)
    have F6 := Four.new w6 (.int .i64 q.xn) (.int .i64 q.xd) (.int .i64 q.yn) (.int .i64 q.yd) 26
    obtain ⟨Z, hZe⟩ : ∃ X, w6.alloc (.cells #[.int .i64 q.xn, .int .i64 q.xd, .int .i64 q.yn, .int .i64 q.yd] 26) = X := ⟨_, rfl⟩
    obtain ⟨BT, hBT⟩ : ∃ B, w6.heap.size = B := ⟨_, rfl⟩
    rw [hZe] at b11 F6 ⊢
    have b12 := bel_more b10 b11
    rw [hBT] at F6 ⊢
    clear hZe hBT b10 b11
    replace kQ := blk_keep b12 kQ
    replace kS := blk_keep b12 kS
    replace hRU := hRU.below b12
    replace hEU := hEU.below b12 (Nat.le_refl _)
    replace bWU := bel_more bWU b12
    have hPq : PI q := by rw [← HQ.out]; exact chkP_pi (shift_ok hX hY HOK.out.2)
    rcases hmv with ⟨hall, rfl, rfl, hP2⟩ | ⟨hno, hv⟩
    · have HALL : Hid (∀ a ∈ l, bigP (shiftP x y a) = 0) := hall
      clear hall
      replace hP2 := (hP2.below b8 (Nat.le_refl _)).below b12 (Nat.le_refl _)
      clear b8 b12
      have PE := PointError_any q Z hPq
      obtain ⟨f0, f1, f2, f3⟩ := id F6
      by_cases hq0 : errP q = 0
      · rw [hq0] at PE
        have HQ0 : Hid (errP q = 0) := hq0
        clear hq0
        go_upto_region 15 with (go_at_call 13; refine PE.mono ?_; rintro e w7 ⟨rfl, b13⟩)
        clear PE f0 f1 f2 f3
        replace kQ := blk_keep b13 kQ
        replace kS := blk_keep b13 kS
        replace F6 := F6.below b13 (Nat.le_refl _)
        replace hRU := hRU.below b13
        replace hEU := hEU.below b13 (Nat.le_refl _)
        replace hP2 := hP2.below b13 (Nat.le_refl _)
        replace bWU := bel_more bWU b13
        clear b13
        have HK2 : Hid (okSh (l.map (shiftP x y)) ∧ n = windE (turnI q) (l.map (shiftP x y)) ∧ (l.map (shiftP x y)).map (shiftP (-x) (-y)) = l) := by
          refine ⟨ok_shift hX hY HOK.out.1 HALL.out, ?_, ?_⟩
          · rw [HN.out, ← HQ.out, wind_shift]
          · rw [List.map_map]
            conv => rhs; rw [← List.map_id l]
            congr 1
            funext a
            exact shift_back x y a
        obtain ⟨L, hL⟩ : ∃ L, l.map (shiftP x y) = L := ⟨_, rfl⟩
        rw [hL] at hP2 HK2 kS
        clear hL
        have WD := Wind_any aB aS aZ L o2 c2 q w7 hP2 hPq hEU
        obtain ⟨f0, f1, f2, f3⟩ := id F6
        have s0 := bcellQ kS 0 _ rfl
        go_upto_region 16 with (go_at_call 8; refine WD.mono ?_; rintro e w8 ⟨k, cr, v, hv, rfl, b14⟩)
        clear WD f0 f1 f2 f3 s0 F6
        rcases hv with ⟨-, -, hk, -, rfl⟩ | ⟨hno, -⟩
        · obtain rfl : k = n := by rw [hk]; exact HK2.out.2.1.symm
          clear hk
          replace kQ := blk_keep b14 kQ
          replace kS := blk_keep b14 kS
          replace hRU := hRU.below b14
          replace hEU := hEU.below b14 (Nat.le_refl _)
          replace hP2 := hP2.below b14 (Nat.le_refl _)
          replace bWU := bel_more bWU b14
          clear b14
          have BK : Calls Tryd.prog 14 #[.agg #[.int .i64 1, .int .i64 1, .int .i64 0, .int .i64 1, .int .i64 0, .int .i64 1, .int .i64 1, .int .i64 1, .int .i64 x, .int .i64 1, .int .i64 y, .int .i64 1]] w8 fun e w' => e = .returned (.tuple #[.agg #[.int .i64 1, .int .i64 1, .int .i64 0, .int .i64 1, .int .i64 0, .int .i64 1, .int .i64 1, .int .i64 1, .int .i64 (-x), .int .i64 1, .int .i64 (-y), .int .i64 1], .nilIface]) ∧ Below w8.heap.size w8 w' := Back_sh hX hY w8 hEU (hZ.below bWU (Nat.le_refl _))
          have m0 := bcellQ kQ 0 _ rfl
          have m1 := bcellQ kQ 1 _ rfl
          have m2 := bcellQ kQ 2 _ rfl
          have m3 := bcellQ kQ 3 _ rfl
          have m4 := bcellQ kQ 4 _ rfl
          have m5 := bcellQ kQ 5 _ rfl
          have m6 := bcellQ kQ 6 _ rfl
          have m7 := bcellQ kQ 7 _ rfl
          have m8 := bcellQ kQ 8 _ rfl
          have m9 := bcellQ kQ 9 _ rfl
          have m10 := bcellQ kQ 10 _ rfl
          have m11 := bcellQ kQ 11 _ rfl
          go_upto_region 21 with (go_at_call 14; refine BK.mono ?_; rintro e w9 ⟨rfl, b15⟩)
          clear BK m0 m1 m2 m3 m4 m5 m6 m7 m8 m9 m10 m11
          have b16 := mbelow w9 (.cells #[.int .i64 1, .int .i64 1, .int .i64 0, .int .i64 1, .int .i64 0, .int .i64 1, .int .i64 1, .int .i64 1, .int .i64 (-x), .int .i64 1, .int .i64 (-y), .int .i64 1] 37)
          have kN := World.alloc_heap_new w9 (.cells #[.int .i64 1, .int .i64 1, .int .i64 0, .int .i64 1, .int .i64 0, .int .i64 1, .int .i64 1, .int .i64 1, .int .i64 (-x), .int .i64 1, .int .i64 (-y), .int .i64 1] 37)
          obtain ⟨X2, hX2⟩ : ∃ X, w9.alloc (.cells #[.int .i64 1, .int .i64 1, .int .i64 0, .int .i64 1, .int .i64 0, .int .i64 1, .int .i64 1, .int .i64 1, .int .i64 (-x), .int .i64 1, .int .i64 (-y), .int .i64 1] 37) = X := ⟨_, rfl⟩
          obtain ⟨BN, hBN⟩ : ∃ B, w9.heap.size = B := ⟨_, rfl⟩
          rw [hX2] at b16 kN ⊢
          have b17 := bel_more b15 b16
          rw [hBN] at kN ⊢
          clear hX2 hBN b15 b16 kQ
          replace kS := blk_keep b17 kS
          replace hRU := hRU.below b17
          replace hEU := hEU.below b17 (Nat.le_refl _)
          replace hP2 := hP2.below b17 (Nat.le_refl _)
          replace bWU := bel_more bWU b17
          clear b17
          have MV0 := ShMove_any aB aS aZ (shM (-x) (-y)) (shiftP (-x) (-y)) L o2 c2 X2 (fineC (shM_i64 hX.neg hY.neg) (shM_ok hX.neg hY.neg)) HK2.out.1 (fun a ha => shift_ok hX.neg hY.neg (HK2.out.1.2 a ha)) (fun a ha V hV => At_sh hX.neg hY.neg (HK2.out.1.2 a ha) V hV) hP2 hEU
          have MV1 : Calls Tryd.prog 11 #[.agg #[.slice o2 L.length c2], .agg #[.int .i64 1, .int .i64 1, .int .i64 0, .int .i64 1, .int .i64 0, .int .i64 1, .int .i64 1, .int .i64 1, .int .i64 (-x), .int .i64 1, .int .i64 (-y), .int .i64 1]] X2 fun e W => MvdR (shiftP (-x) (-y)) L X2.heap.size e W ∧ Below X2.heap.size X2 W := MV0
          clear MV0
          have hallB : ∀ a ∈ L, bigP (shiftP (-x) (-y) a) = 0 := fun a ha => by
            have h1 : shiftP (-x) (-y) a ∈ l := by
              have := List.mem_map_of_mem (f := shiftP (-x) (-y)) ha
              rwa [HK2.out.2.2] at this
            exact (errP_zero.1 (HOK.out.1.2 _ h1)).2
          have HAB : Hid (∀ a ∈ L, bigP (shiftP (-x) (-y) a) = 0) := hallB
          clear hallB
          have s0 := bcellQ kS 0 _ rfl
          have m0 := bcellQ kN 0 _ rfl
          have m1 := bcellQ kN 1 _ rfl
          have m2 := bcellQ kN 2 _ rfl
          have m3 := bcellQ kN 3 _ rfl
          have m4 := bcellQ kN 4 _ rfl
          have m5 := bcellQ kN 5 _ rfl
          have m6 := bcellQ kN 6 _ rfl
          have m7 := bcellQ kN 7 _ rfl
          have m8 := bcellQ kN 8 _ rfl
          have m9 := bcellQ kN 9 _ rfl
          have m10 := bcellQ kN 10 _ rfl
          have m11 := bcellQ kN 11 _ rfl
          go_upto_region 22 with (go_at_call 11; refine MV1.mono ?_; rintro e w10 ⟨hm, b18⟩; obtain ⟨o3, n3, c3, v, rfl, hmv⟩ := hm.plain (fun a ha => chkP_pi (shift_ok hX.neg hY.neg (HK2.out.1.2 a ha))))
          clear MV1 s0 m0 m1 m2 m3 m4 m5 m6 m7 m8 m9 m10 m11
          rcases hmv with ⟨-, rfl, rfl, hP3⟩ | ⟨hno, -⟩
          · rw [HK2.out.2.2] at hP3 ⊢
            have b19 := mbelow w10 (.cells #[.slice o3 l.length c3] 30)
            have kU := World.alloc_heap_new w10 (.cells #[.slice o3 l.length c3] 30)
            obtain ⟨X3, hX3⟩ : ∃ X, w10.alloc (.cells #[.slice o3 l.length c3] 30) = X := ⟨_, rfl⟩
            obtain ⟨BU, hBU⟩ : ∃ B, w10.heap.size = B := ⟨_, rfl⟩
            rw [hX3] at b19 kU ⊢
            have b20 := bel_more b18 b19
            rw [hBU] at kU ⊢
            replace hP3 := hP3.below b19 (Nat.le_refl _)
            clear hX3 hBU b18 b19 kN kS
            replace hRU := hRU.below b20
            replace bWU := bel_more bWU b20
            have SP := samePoints_same l o3 o c3 cap X3 (by omega) hP3 hRU.pts
            have s0 := bcellQ kU 0 _ rfl
            go_wp2_with (go_at_call 15; refine SP.mono ?_; rintro e w11 ⟨rfl, b21⟩)
            go_ret
            exact ⟨rfl, bel_more bWU b21⟩
          · exact absurd HAB.out hno
        · exact absurd ⟨HK2.out.1, HQ0.out⟩ hno
      · have hpos : (0 : Int) < (errP q : Nat) := by omega
        generalize errP q = eq at *
        go_wp2_with (go_at_call 13; refine PE.mono ?_; rintro e w7 ⟨rfl, b13⟩)
        go_ret
        exact ⟨rfl, bel_more bWU b13⟩
    · rcases hv with ⟨a, rfl⟩ | ⟨a, rfl⟩
      all_goals
        go_wp2_with fail
        go_ret
        exact ⟨rfl, bWU⟩
  · rcases hv with ⟨a, rfl⟩ | ⟨a, rfl⟩
    all_goals
      go_wp2_with fail
      go_ret
      exact ⟨rfl, bel_more bWU b3⟩
end Go.Proofs.YtdjeblcmpegmpaaDoor

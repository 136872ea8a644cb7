/-
  ShapeBoxes: the walk.
-/
import Derived.Test.YtdjeblcmpegmpaaDoorShape12
import Derived.Test.YtdjeblcmpegmpaaDoorShape13
namespace Go.Proofs.YtdjeblcmpegmpaaDoor
open Go.RowKit

theorem cmp_le (an ad bn bd : Int) : cmpF an ad bn bd ≤ 0 ↔ an * bd ≤ bn * ad := by
  unfold cmpF sgn
  split
  · constructor <;> intro _ <;> omega
  · split
    · constructor <;> intro _ <;> omega
    · constructor <;> intro _ <;> omega
theorem cmp_lt (an ad bn bd : Int) : cmpF an ad bn bd < 0 ↔ an * bd < bn * ad := by
  unfold cmpF sgn
  split
  · constructor <;> intro _ <;> omega
  · split
    · constructor <;> intro _ <;> omega
    · constructor <;> intro _ <;> omega
theorem add_le {an ad bn bd xn xd : Int} (h : add an ad bn bd = ⟨xn, xd, 0⟩) (hb : 0 ≤ bn) : an * xd ≤ xn * ad := by
  obtain ⟨ha, hb', hx, e⟩ := add_some.1 h
  have a1 := (chk_zero.1 ha).1
  have b1 := (chk_zero.1 hb').1
  have x1 := (chk_zero.1 hx).1
  have e2 : (xn * ad - an * xd) * bd = bn * ad * xd := by grind
  have h0 : 0 ≤ bn * ad * xd := Int.mul_nonneg (Int.mul_nonneg hb (by omega)) (by omega)
  rcases Int.lt_or_le (xn * ad - an * xd) 0 with h1 | h1
  · have := Int.mul_neg_of_neg_of_pos h1 (show 0 < bd by omega)
    omega
  · omega
theorem blk_keep {w w' : World} {b : Nat} {o : Obj} (hb : Below w.heap.size w w') (h : w.heap[b]? = some o) : w'.heap[b]? = some o := (hb.block _ (Array.getElem?_eq_some_iff.1 h).1).trans h
theorem heap5 (w : World) (o0 o1 o2 o3 o4 : Obj) : ∀ U, ((((w.alloc o0).alloc o1).alloc o2).alloc o3).alloc o4 = U →
    U.heap[w.heap.size]? = some o0 ∧ U.heap[w.heap.size + 1]? = some o1 ∧ U.heap[w.heap.size + 1 + 1]? = some o2 ∧ U.heap[w.heap.size + 1 + 1 + 1]? = some o3 ∧ U.heap[w.heap.size + 1 + 1 + 1 + 1]? = some o4 ∧ Below w.heap.size w U := by
  rintro U rfl
  refine ⟨?_, ?_, ?_, ?_, ?_, ?_⟩
  · exact al_old _ (al_old _ (al_old _ (al_old _ (al_new _ rfl))))
  · exact al_old _ (al_old _ (al_old _ (al_new _ (by simp))))
  · exact al_old _ (al_old _ (al_new _ (by simp)))
  · exact al_old _ (al_new _ (by simp))
  · exact al_new _ (by simp)
  · exact (((((Below.refl _ _).alloc (Nat.le_refl _) _).alloc (by simp) _).alloc (by simp; omega) _).alloc (by simp; omega) _).alloc (by simp; omega) _

set_option maxRecDepth 20000 in
set_option maxHeartbeats 16000000 in
theorem shboxes_any (aB aS aZ : Addr) (xn xd yn yd wn wd hn hd : Int) (p : Qt) (W : World) (hE : E3 aB aS aZ W) (hx1 : I64 xn) (hx2 : I64 xd) (hy1 : I64 yn) (hy2 : I64 yd) (hw1 : I64 wn) (hw2 : I64 wd) (hh1 : I64 hn) (hh2 : I64 hd) (hp : PI p) :
    Calls Tryd.prog 5 #[.agg #[.int .i64 xn, .int .i64 xd], .agg #[.int .i64 yn, .int .i64 yd], .agg #[.int .i64 wn, .int .i64 wd], .agg #[.int .i64 hn, .int .i64 hd], qtV p] W fun e w' => e = .returned (.bool true) ∧ Below W.heap.size W w' := by
  go_enter Tryd.func5, Tryd.ntmps5
  go_upto_region 1 with fail
  obtain ⟨U, hU⟩ : ∃ U, ((((W.alloc (.cells #[.int .i64 xn, .int .i64 xd] 24)).alloc (.cells #[.int .i64 yn, .int .i64 yd] 24)).alloc (.cells #[.int .i64 wn, .int .i64 wd] 24)).alloc (.cells #[.int .i64 hn, .int .i64 hd] 24)).alloc (.cells #[.int .i64 p.xn, .int .i64 p.xd, .int .i64 p.yn, .int .i64 p.yd] 26) = U := ⟨_, rfl⟩
  obtain ⟨k0, k1, k2, k3, k4, hbU⟩ := heap5 W _ _ _ _ _ U hU
  rw [hU]
  clear hU
  have SH := shaped_any aB aS aZ U (hE.below hbU (Nat.le_refl _))
  go_upto_region 4 with (go_at_call 6; refine SH.mono ?_; rintro e w1 ⟨rfl, b1⟩)
  have k0 := blk_keep b1 k0
  have k1 := blk_keep b1 k1
  have k2 := blk_keep b1 k2
  have k3 := blk_keep b1 k3
  have k4 := blk_keep b1 k4
  have bw1 := bel_more hbU b1
  have hE1 := hE.below bw1 (Nat.le_refl _)
  clear SH
  have x0 := bcellQ k0 0 _ rfl
  have x1 := bcellQ k0 1 _ rfl
  have y0 := bcellQ k1 0 _ rfl
  have y1 := bcellQ k1 1 _ rfl
  have w0 := bcellQ k2 0 _ rfl
  have w1' := bcellQ k2 1 _ rfl
  have h0 := bcellQ k3 0 _ rfl
  have h1 := bcellQ k3 1 _ rfl
  have BX := Box_any aB aS aZ xn xd yn yd wn wd hn hd w1 hx1 hx2 hy1 hy2 hw1 hw2 hh1 hh2 hE1
  go_upto_region 5 with (go_at_call 16; refine BX.mono ?_; rintro e w2 ⟨hbox, b2⟩; obtain ⟨os, ns, cs, v, rfl, hsv⟩ : ∃ os ns cs v, e = .returned (.tuple #[.agg #[.slice os ns cs], v]) ∧ ((∃ Xn Xd Yn Yd b, chk xn xd = 0 ∧ chk yn yd = 0 ∧ add xn xd wn wd = ⟨Xn, Xd, 0⟩ ∧ add yn yd hn hd = ⟨Yn, Yd, 0⟩ ∧ okSh (boxL xn xd yn yd Xn Xd Yn Yd) ∧ PtsAt w2 (some ⟨b, 0, none⟩) (boxL xn xd yn yd Xn Xd Yn Yd) ∧ os = some ⟨b, 0, none⟩ ∧ ns = 4 ∧ v = .nilIface) ∨ (os = none ∧ ns = 0 ∧ cs = 0 ∧ ErrV v)) := (by rcases hbox with ⟨Xn, Xd, Yn, Yd, b, cap, g1, g2, g3, g4, g5, rfl, g6⟩ | ⟨v, g1, rfl⟩; exact ⟨_, _, _, _, rfl, .inl ⟨Xn, Xd, Yn, Yd, b, g1, g2, g3, g4, g5, g6, rfl, rfl, rfl⟩⟩; exact ⟨_, _, _, _, rfl, .inr ⟨rfl, rfl, rfl, g1⟩⟩))
  clear hbox BX x0 x1 y0 y1 w0 w1' h0 h1
  have k0 := blk_keep b2 k0
  have k1 := blk_keep b2 k1
  have k2 := blk_keep b2 k2
  have k3 := blk_keep b2 k3
  have k4 := blk_keep b2 k4
  have b3 := mbelow w2 (.cells #[.slice os ns cs] 30)
  have kS := World.alloc_heap_new w2 (.cells #[.slice os ns cs] 30)
  obtain ⟨V, hV⟩ : ∃ V, w2.alloc (.cells #[.slice os ns cs] 30) = V := ⟨_, rfl⟩
  obtain ⟨BS, hBS⟩ : ∃ B, w2.heap.size = B := ⟨_, rfl⟩
  rw [hV] at b3 kS ⊢
  have k0 := blk_keep b3 k0
  have k1 := blk_keep b3 k1
  have k2 := blk_keep b3 k2
  have k3 := blk_keep b3 k3
  have k4 := blk_keep b3 k4
  have bV := bel_more bw1 (bel_more b2 b3)
  have hEV := hE.below bV (Nat.le_refl _)
  have b3' := b3
  rw [hBS] at kS ⊢
  clear hV hBS hE1 bw1
  rcases hsv with ⟨Xn, Xd, Yn, Yd, b, cx, cy, hX, hY, hok, hP, rfl, rfl, rfl⟩ | ⟨rfl, rfl, rfl, hv⟩
  · have hPV := hP.below b3 (Nat.le_refl _)
    have HXY : Hid (add xn xd wn wd = ⟨Xn, Xd, 0⟩ ∧ add yn yd hn hd = ⟨Yn, Yd, 0⟩ ∧ chk xn xd = 0 ∧ chk yn yd = 0) := ⟨hX, hY, cx, cy⟩
    have HOK : Hid (okSh (boxL xn xd yn yd Xn Xd Yn Yd)) := hok
    clear hX hY cx cy hok hP b3 b3' b2 b1
    have PE := PointError_any p V hp
    have p0 := bcellQ k4 0 _ rfl
    have p1 := bcellQ k4 1 _ rfl
    have p2 := bcellQ k4 2 _ rfl
    have p3 := bcellQ k4 3 _ rfl
    by_cases hep : errP p = 0
    · rw [hep] at PE
      have HEP : Hid (errP p = 0) := hep
      clear hep
      go_upto_region 7 with (go_at_call 13; refine PE.mono ?_; rintro e w3 ⟨rfl, b4⟩)
      clear PE p0 p1 p2 p3
      have k0 := blk_keep b4 k0
      have k1 := blk_keep b4 k1
      have k2 := blk_keep b4 k2
      have k3 := blk_keep b4 k3
      have k4 := blk_keep b4 k4
      have kS := blk_keep b4 kS
      have b3w := bel_more bV b4
      have hPV := hPV.below b4 (Nat.le_refl _)
      have hEV := hEV.below b4 (Nat.le_refl _)
      clear b4 bV
      have w0 := bcellQ k2 0 _ rfl
      have h0 := bcellQ k3 0 _ rfl
      by_cases hwn : wn < 0
      · go_wp2_with fail
        go_ret
        exact ⟨rfl, b3w⟩
      by_cases hhn : hn < 0
      · go_wp2_with fail
        go_ret
        exact ⟨rfl, b3w⟩
      have p0 := bcellQ k4 0 _ rfl
      have p1 := bcellQ k4 1 _ rfl
      have p2 := bcellQ k4 2 _ rfl
      have p3 := bcellQ k4 3 _ rfl
      have s0 := bcellQ kS 0 _ rfl
      have HW := Holds_wind aB aS aZ (boxL xn xd yn yd Xn Xd Yn Yd) (some ⟨b, 0, none⟩) cs p w3 hPV hp hEV
      go_upto_region 10 with (go_at_call 17; refine HW.mono ?_; rintro e w4 ⟨wd1, cr1, v1, hv1, rfl, b5⟩)
      clear HW p0 p1 p2 p3 s0 w0 h0
      have k0 := blk_keep b5 k0
      have k1 := blk_keep b5 k1
      have k4 := blk_keep b5 k4
      have kS := blk_keep b5 kS
      have b4w := bel_more b3w b5
      have hPV := hPV.below b5 (Nat.le_refl _)
      have hEV := hEV.below b5 (Nat.le_refl _)
      clear b5 b3w k2 k3
      have p0 := bcellQ k4 0 _ rfl
      have p1 := bcellQ k4 1 _ rfl
      have p2 := bcellQ k4 2 _ rfl
      have p3 := bcellQ k4 3 _ rfl
      have s0 := bcellQ kS 0 _ rfl
      have HO := Holds_even aB aS aZ (boxL xn xd yn yd Xn Xd Yn Yd) (some ⟨b, 0, none⟩) cs p w4 hPV hp hEV
      go_upto_region 11 with (go_at_call 17; refine HO.mono ?_; rintro e w5 ⟨wd2, cr2, v2, hv2, rfl, b6⟩)
      clear HO p0 p1 p2 p3 s0
      have k0 := blk_keep b6 k0
      have k1 := blk_keep b6 k1
      have k4 := blk_keep b6 k4
      have kS := blk_keep b6 kS
      have b5w := bel_more b4w b6
      have hPV := hPV.below b6 (Nat.le_refl _)
      clear b6 b4w hEV
      have hv1' : wd1 = windE (turnI p) (boxL xn xd yn yd Xn Xd Yn Yd) ∧ v1 = .nilIface := by
        rcases hv1 with ⟨-, -, h1, -, h2⟩ | ⟨h1, -⟩
        · exact ⟨h1, h2⟩
        · exact absurd ⟨HOK.out, HEP.out⟩ h1
      have hv2' : cr2 = windE (sq p) (boxL xn xd yn yd Xn Xd Yn Yd) ∧ v2 = .nilIface := by
        rcases hv2 with ⟨-, -, -, h1, h2⟩ | ⟨h1, -⟩
        · exact ⟨h1, h2⟩
        · exact absurd ⟨HOK.out, HEP.out⟩ h1
      obtain ⟨hwd, rfl⟩ := hv1'
      obtain ⟨hcr, rfl⟩ := hv2'
      clear hv1 hv2
      obtain ⟨hX, hY, cx, cy⟩ := HXY.out
      have cX := (add_some.1 hX).2.2.1
      have cY := (add_some.1 hY).2.2.1
      have hpp := errP_zero.1 HEP.out
      obtain ⟨cpx, cpy⟩ := chkP_zero.1 hpp.1
      have hPos := chkP_pos hpp.1
      have BW := box_wind (xn := xn) (xd := xd) (yn := yn) (yd := yd) (Xn := Xn) (Xd := Xd) (Yn := Yn) (Yd := Yd) (p := p) (by have := (chk_zero.1 cx).1; omega) (by have := (chk_zero.1 cX).1; omega) (by have := (chk_zero.1 cy).1; omega) (by have := (chk_zero.1 cY).1; omega) (by have := hPos.x; omega) (by have := hPos.y; omega) (add_le hX (by omega)) (add_le hY (by omega))
      obtain ⟨bI, e1, e2, hI⟩ : ∃ bI : Bool, (wd1 != 0) = bI ∧ (cr2.tmod 2 == 1) = bI ∧ (bI = true ↔ inBox xn xd yn yd Xn Xd Yn Yd p) := by
        by_cases hin : inBox xn xd yn yd Xn Xd Yn Yd p
        · obtain ⟨h1, h2⟩ := BW.1 hin
          rw [hwd, hcr, h1, show windE (sq p) (boxL xn xd yn yd Xn Xd Yn Yd) = 1 from h2]
          exact ⟨true, rfl, rfl, fun _ => hin, fun _ => rfl⟩
        · obtain ⟨h1, h2⟩ := BW.2 hin
          refine ⟨false, ?_, ?_, ⟨(fun h => by cases h), fun h => absurd h hin⟩⟩
          · rw [hwd, h1]; rfl
          · rcases h2 with h2 | h2
            · rw [hcr, show windE (sq p) (boxL xn xd yn yd Xn Xd Yn Yd) = 0 from h2]; rfl
            · rw [hcr, show windE (sq p) (boxL xn xd yn yd Xn Xd Yn Yd) = 2 from h2]; rfl
      rw [e1, e2]
      have HI : Hid (bI = true ↔ inBox xn xd yn yd Xn Xd Yn Yd p) := hI
      have C1 := fun V => FracCmp_sh xn xd p.xn p.xd V cx cpx
      have C2 := fun V => FracCmp_sh p.xn p.xd Xn Xd V cpx cX
      have C3 := fun V => FracCmp_sh yn yd p.yn p.yd V cy cpy
      have C4 := fun V => FracCmp_sh p.yn p.yd Yn Yd V cpy cY
      have l1 := cmp_le xn xd p.xn p.xd
      have l2 := cmp_lt p.xn p.xd Xn Xd
      have l3 := cmp_le yn yd p.yn p.yd
      have l4 := cmp_lt p.yn p.yd Yn Yd
      have HLS : Hid ((cmpF xn xd p.xn p.xd ≤ 0 ↔ xn * p.xd ≤ p.xn * xd) ∧ (cmpF p.xn p.xd Xn Xd < 0 ↔ p.xn * Xd < Xn * p.xd) ∧ (cmpF yn yd p.yn p.yd ≤ 0 ↔ yn * p.yd ≤ p.yn * yd) ∧ (cmpF p.yn p.yd Yn Yd < 0 ↔ p.yn * Yd < Yn * p.yd)) := ⟨l1, l2, l3, l4⟩
      clear e1 e2 hI BW hwd hcr hX hY cx cy cX cY hpp cpx cpy hPos l1 l2 l3 l4
      generalize cmpF xn xd p.xn p.xd = z1 at C1 HLS
      generalize cmpF p.xn p.xd Xn Xd = z2 at C2 HLS
      generalize cmpF yn yd p.yn p.yd = z3 at C3 HLS
      generalize cmpF p.yn p.yd Yn Yd = z4 at C4 HLS
      obtain ⟨bb, off, hbb, q0, q1, q2, q3, -⟩ := hPV 2 ⟨Xn, Xd, Yn, Yd⟩ rfl
      cases hbb
      have q0 : w5.cell? ⟨b, 8, none⟩ = some (.int .i64 Xn) := q0
      have q1 : w5.cell? ⟨b, 9, none⟩ = some (.int .i64 Xd) := q1
      have q2 : w5.cell? ⟨b, 10, none⟩ = some (.int .i64 Yn) := q2
      have q3 : w5.cell? ⟨b, 11, none⟩ = some (.int .i64 Yd) := q3
      have s0 := bcellQ kS 0 _ rfl
      go_upto_region 12 with fail
      clear s0 q0 q1 q2 q3
      have b6 := mbelow w5 (.cells #[.int .i64 Xn, .int .i64 Xd, .int .i64 Yn, .int .i64 Yd] 26)
      have kR := World.alloc_heap_new w5 (.cells #[.int .i64 Xn, .int .i64 Xd, .int .i64 Yn, .int .i64 Yd] 26)
      obtain ⟨w6, hw6⟩ : ∃ V, w5.alloc (.cells #[.int .i64 Xn, .int .i64 Xd, .int .i64 Yn, .int .i64 Yd] 26) = V := ⟨_, rfl⟩
      obtain ⟨BR, hBR⟩ : ∃ B, w5.heap.size = B := ⟨_, rfl⟩
      rw [hw6] at b6 kR ⊢
      have k0 := blk_keep b6 k0
      have k1 := blk_keep b6 k1
      have k4 := blk_keep b6 k4
      have b6w := bel_more b5w b6
      clear b6 hw6
      rw [hBR] at kR ⊢
      clear hBR kS hPV b5w
      have FX : ∀ V, Below w6.heap.size w6 V → Hid (V.cell? ⟨W.heap.size, 0, none⟩ = some (.int .i64 xn) ∧ V.cell? ⟨W.heap.size, 1, none⟩ = some (.int .i64 xd) ∧ V.cell? ⟨W.heap.size + 1, 0, none⟩ = some (.int .i64 yn) ∧ V.cell? ⟨W.heap.size + 1, 1, none⟩ = some (.int .i64 yd) ∧ V.cell? ⟨W.heap.size + 1 + 1 + 1 + 1, 0, none⟩ = some (.int .i64 p.xn) ∧ V.cell? ⟨W.heap.size + 1 + 1 + 1 + 1, 1, none⟩ = some (.int .i64 p.xd) ∧ V.cell? ⟨W.heap.size + 1 + 1 + 1 + 1, 2, none⟩ = some (.int .i64 p.yn) ∧ V.cell? ⟨W.heap.size + 1 + 1 + 1 + 1, 3, none⟩ = some (.int .i64 p.yd) ∧ V.cell? ⟨BR, 0, none⟩ = some (.int .i64 Xn) ∧ V.cell? ⟨BR, 1, none⟩ = some (.int .i64 Xd) ∧ V.cell? ⟨BR, 2, none⟩ = some (.int .i64 Yn) ∧ V.cell? ⟨BR, 3, none⟩ = some (.int .i64 Yd)) := fun V hV =>
        ⟨bcellQ (blk_keep hV k0) 0 _ rfl, bcellQ (blk_keep hV k0) 1 _ rfl, bcellQ (blk_keep hV k1) 0 _ rfl, bcellQ (blk_keep hV k1) 1 _ rfl, bcellQ (blk_keep hV k4) 0 _ rfl, bcellQ (blk_keep hV k4) 1 _ rfl, bcellQ (blk_keep hV k4) 2 _ rfl, bcellQ (blk_keep hV k4) 3 _ rfl, bcellQ (blk_keep hV kR) 0 _ rfl, bcellQ (blk_keep hV kR) 1 _ rfl, bcellQ (blk_keep hV kR) 2 _ rfl, bcellQ (blk_keep hV kR) 3 _ rfl⟩
      clear k0 k1 k4 kR
      go_cut [19] from 70 to 97 (fun v wx => (∃ bi : Bool, v = .bool bi ∧ (bi = true ↔ (z1 ≤ 0 ∧ z2 < 0) ∧ (z3 ≤ 0 ∧ z4 < 0))) ∧ Below w6.heap.size w6 wx)
      case first =>
        obtain ⟨a0, a1, a2, a3, a4, a5, a6, a7, a8, a9, a10, a11⟩ := (FX w6 (Below.refl _ _)).out
        by_cases g1 : z1 ≤ 0
        · by_cases g2 : z2 < 0
          · by_cases g3 : z3 ≤ 0
            · go_wp2_with (first | (go_at_call_of 18 (Value.agg #[.int .i64 p.yn, .int .i64 p.yd]); refine (C4 v9).mono ?_; rintro e v10 ⟨rfl, d10⟩; have t10 := bel_more t9 d10) | (go_at_call_of 18 (Value.agg #[.int .i64 yn, .int .i64 yd]); refine (C3 v8).mono ?_; rintro e v9 ⟨rfl, d9⟩; have t9 := bel_more t8 d9; obtain ⟨h0, h1, h2, h3, h4, h5, h6, h7, h8, h9, h10, h11⟩ := (FX v9 t9).out) | (go_at_call_of 18 (Value.agg #[.int .i64 p.xn, .int .i64 p.xd]); refine (C2 v7).mono ?_; rintro e v8 ⟨rfl, d8⟩; have t8 := bel_more d7 d8; obtain ⟨f0, f1, f2, f3, f4, f5, f6, f7, f8, f9, f10, f11⟩ := (FX v8 t8).out) | (go_at_call_of 18 (Value.agg #[.int .i64 xn, .int .i64 xd]); refine (C1 w6).mono ?_; rintro e v7 ⟨rfl, d7⟩; obtain ⟨e0, e1, e2, e3, e4, e5, e6, e7, e8, e9, e10, e11⟩ := (FX v7 d7).out))
              go_meet
              exact ⟨⟨_, rfl, by simp [g1, g2, g3]⟩, t10⟩
            · go_wp2_with (first | (go_at_call_of 18 (Value.agg #[.int .i64 yn, .int .i64 yd]); refine (C3 v8).mono ?_; rintro e v9 ⟨rfl, d9⟩; have t9 := bel_more t8 d9; obtain ⟨h0, h1, h2, h3, h4, h5, h6, h7, h8, h9, h10, h11⟩ := (FX v9 t9).out) | (go_at_call_of 18 (Value.agg #[.int .i64 p.xn, .int .i64 p.xd]); refine (C2 v7).mono ?_; rintro e v8 ⟨rfl, d8⟩; have t8 := bel_more d7 d8; obtain ⟨f0, f1, f2, f3, f4, f5, f6, f7, f8, f9, f10, f11⟩ := (FX v8 t8).out) | (go_at_call_of 18 (Value.agg #[.int .i64 xn, .int .i64 xd]); refine (C1 w6).mono ?_; rintro e v7 ⟨rfl, d7⟩; obtain ⟨e0, e1, e2, e3, e4, e5, e6, e7, e8, e9, e10, e11⟩ := (FX v7 d7).out))
              go_meet
              exact ⟨⟨_, rfl, ⟨(fun h => by cases h), fun h => by omega⟩⟩, t9⟩
          · go_wp2_with (first | (go_at_call_of 18 (Value.agg #[.int .i64 p.xn, .int .i64 p.xd]); refine (C2 v7).mono ?_; rintro e v8 ⟨rfl, d8⟩; have t8 := bel_more d7 d8; obtain ⟨f0, f1, f2, f3, f4, f5, f6, f7, f8, f9, f10, f11⟩ := (FX v8 t8).out) | (go_at_call_of 18 (Value.agg #[.int .i64 xn, .int .i64 xd]); refine (C1 w6).mono ?_; rintro e v7 ⟨rfl, d7⟩; obtain ⟨e0, e1, e2, e3, e4, e5, e6, e7, e8, e9, e10, e11⟩ := (FX v7 d7).out))
            go_meet
            exact ⟨⟨_, rfl, ⟨(fun h => by cases h), fun h => by omega⟩⟩, t8⟩
        · go_wp2_with (go_at_call_of 18 (Value.agg #[.int .i64 xn, .int .i64 xd]); refine (C1 w6).mono ?_; rintro e v7 ⟨rfl, d7⟩; obtain ⟨e0, e1, e2, e3, e4, e5, e6, e7, e8, e9, e10, e11⟩ := (FX v7 d7).out)
          go_meet
          exact ⟨⟨_, rfl, ⟨(fun h => by cases h), fun h => by omega⟩⟩, d7⟩
      case rest =>
        obtain ⟨⟨bi, rfl, hbi⟩, b7⟩ := hcut
        have hsame : bi = bI := by
          have h1 := HI.out
          obtain ⟨m1, m2, m3, m4⟩ := HLS.out
          unfold inBox at h1
          rw [m1, m2, m3, m4] at hbi
          have h2 : (bi = true ↔ bI = true) := hbi.trans h1.symm
          cases bi <;> cases bI <;> simp_all
        subst hsame
        have hself : (bi == bi) = true := by simp
        go_wp2_with fail
        go_ret
        exact ⟨rfl, bel_more b6w b7⟩
    · obtain ⟨g, hg⟩ : ∃ g, errP p = g := ⟨_, rfl⟩
      rw [hg] at PE hep
      have hg0 : (0 : Int) < (g : Int) := by omega
      clear hg hep
      go_wp2_with (go_at_call 13; refine PE.mono ?_; rintro e w3 ⟨rfl, b4⟩)
      go_ret
      exact ⟨rfl, bel_more bV b4⟩
  · have s0 := bcellQ kS 0 _ rfl
    rcases hv with ⟨a, rfl⟩ | ⟨a, rfl⟩
    all_goals
      go_wp2_with fail
      go_ret
      exact ⟨rfl, bV⟩
end Go.Proofs.YtdjeblcmpegmpaaDoor

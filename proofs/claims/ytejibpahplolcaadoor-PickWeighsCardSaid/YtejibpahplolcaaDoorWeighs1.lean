/-
  PickWeighs: the walk.
-/
import Derived.Test.YtejibpahplolcaaDoorCutP
import Derived.Deep.Cut
import Derived.Deep.CutRange
namespace Go.Proofs.YtejibpahplolcaaDoor
open Go.RowKit Go.Shelf

set_option maxRecDepth 20000 in
set_option maxHeartbeats 16000000 in
theorem pickweighs_any (E : Nat → Addr) (n : Nd) (a0 a1 a2 : Value) (sa sb : Bs) (W : World) (hE : CE E W) (hT : W.cell? ⟨7, 0, none⟩ = some (.iface 181 (.pointer (some (E 1))))) (ha : NdC W a0 a1 a2 n) :
    Calls Tryd.prog 6 #[.agg #[a0, a1, a2], bV sa, bV sb] W fun e w' => e = .returned (.bool true) ∧ Below W.heap.size W w' := by
  obtain ⟨na', oa, na, ka, oa', nb', ka', rfl, rfl, rfl⟩ : ∃ (sa : ByteArray) (oa : Option Addr) (na ka : Nat) (oa' : Option Addr) (na' ka' : Nat), a0 = .string sa ∧ a1 = .slice oa na ka ∧ a2 = .slice oa' na' ka' := by
    obtain ⟨nm, ats, ks⟩ := n
    unfold NdC at ha
    obtain ⟨rfl, -, ⟨o, cap, rfl, -⟩, ok, capk, rfl, -⟩ := ha
    exact ⟨_, _, _, _, _, _, _, rfl, rfl, rfl⟩
  have A0 : NB W.heap.size (.string na') (.slice oa na ka) (.slice oa' nb' ka') (W.alloc (.cells #[.string na', .slice oa na ka, .slice oa' nb' ka'] 25)) := mbox W #[.string na', .slice oa na ka, .slice oa' nb' ka'] 25
  have bV0 := mal W (.cells #[.string na', .slice oa na ka, .slice oa' nb' ka'] 25)
  go_enter Tryd.func6, Tryd.ntmps6
  go_upto_region 1 with fail
  obtain ⟨V, hV⟩ : ∃ V, W.alloc (.cells #[.string na', .slice oa na ka, .slice oa' nb' ka'] 25) = V := ⟨_, rfl⟩
  rw [hV] at A0 bV0 ⊢
  clear hV
  have HE : Hid (CE E V) := hE.below bV0
  have HT : Hid (V.cell? ⟨7, 0, none⟩ = some (.iface 181 (.pointer (some (E 1))))) := (bV0.cell (cell_lt3 hT)).trans hT
  have HA : Hid (NdC V (.string na') (.slice oa na ka) (.slice oa' nb' ka') n) := NdC.below bV0 n ha
  clear hE ha hT
  have DK := picked_any V (E 1) HT.out
  go_upto_region 2 with (go_at_call 20; refine DK.mono ?_; rintro e w1 ⟨rfl, B1⟩)
  clear DK
  have FA := FlatsOf_fit n _ _ _ w1 (NdC.below B1 n HA.out)
  have A1 := (B1.block _ (heap_lt A0)).trans A0
  have x0 := NB.c0 A1
  have x1 := NB.c1 A1
  have x2 := NB.c2 A1
  go_upto_region 3 with (go_at_call 8; refine FA.mono ?_; rintro e w2 ⟨b2, va, rfl, fa⟩)
  clear x0 x1 x2 FA
  have B2 := mbel B1 b2
  have BW2 := mbel bV0 B2
  rcases fa with ⟨-, rfl⟩ | ⟨hfit, Mx, g, cap, rfl, hM0, hM1, hM2, hM3, hM4⟩
  · go_wp2_with fail
    go_ret
    exact ⟨rfl, BW2⟩
  have hM0' : ((Mx.length : Int) == 0) = false := by rw [beq_eq_false_iff_ne]; omega
  have hszM : szN n = Mx.length := by rw [← flN_len n 0 (-1) 1]; exact hM4.len.symm
  have HSZ : Hid (szN n = Mx.length) := hszM
  have hszs : szN n ≤ 150 := by omega
  clear hszM hM3 hM4 hfit
  by_cases hb60 : 60 < Mx.length
  · have hb60' : 60 < (Mx.length : Int) := by omega
    go_wp2_with fail
    go_ret
    exact ⟨rfl, BW2⟩
  have hb60' : ¬ 60 < (Mx.length : Int) := by omega
  by_cases ha60 : 150 < sa.length
  · have ha60' : 150 < (sa.length : Int) := by omega
    go_wp2_with fail
    go_ret
    exact ⟨rfl, BW2⟩
  have ha60' : ¬ 150 < (sa.length : Int) := by omega
  by_cases hs60 : 60 < sb.length
  · have hs60' : 60 < (sb.length : Int) := by omega
    go_wp2_with fail
    go_ret
    exact ⟨rfl, BW2⟩
  have hs60' : ¬ 60 < (sb.length : Int) := by omega
  have A2 := (B2.block _ (heap_lt A0)).trans A0
  have x0 := NB.c0 A2
  have x1 := NB.c1 A2
  have x2 := NB.c2 A2
  have E2 := HE.out.below B2
  by_cases hc : (ckN n 1 0).1 = 0
  · have NW := New_S E n _ _ _ w2 E2 (NdC.below B2 n HA.out) (by omega) hc
    have HF : Hid (FitD (newD n)) := FitD.new n hc
    rw [HSZ.out] at NW
    clear hc
    go_upto_region 8 with (go_at_call 9; refine NW.mono ?_; rintro e w3 ⟨b3, DB, MB, tg, p, rfl, d3⟩)
    clear x0 x1 x2 NW A2
    obtain ⟨M, hMe⟩ : ∃ M, newD n = M := ⟨_, rfl⟩
    obtain ⟨r, hre⟩ : ∃ r, rkD n = r := ⟨_, rfl⟩
    rw [hMe] at d3 HF
    rw [hre] at d3
    clear hMe hre
    have HD3 : Hid (DocS w2.heap.size tg w3 DB MB p M Mx.length Mx.length r) := d3
    have BW3 := mbel B2 b3
    have HT3 : Hid (w3.cell? ⟨7, 0, none⟩ = some (.iface 181 (.pointer (some (E 1))))) := (BW3.cell (cell_lt3 HT.out)).trans HT.out
    clear d3
    have RD : ∀ s V, s.length ≤ 1000000 → Below w3.heap.size w3 V → Calls Tryd.prog 21 #[bV s] V fun e w' => ∃ x ev, e = .returned (.tuple #[.agg #[bV x], ev]) ∧ RdR s x ev (E 1) ∧ Below V.heap.size V w' := fun s V hs hv => Read_rd s hs V (E 1) ((hv.cell (cell_lt3 HT3.out)).trans HT3.out)
    have R1 := fun V hv => RD sa V (by omega) hv
    have R2 : ∀ V, Below w3.heap.size w3 V → Calls Tryd.prog 21 #[.string ((⟨sa.toArray⟩ : ByteArray) ++ ⟨sb.toArray⟩)] V fun e w' => ∃ x ev, e = .returned (.tuple #[.agg #[bV x], ev]) ∧ RdR (sa ++ sb) x ev (E 1) ∧ Below V.heap.size V w' := fun V hv => by
      have h := RD (sa ++ sb) V (by simp; omega) hv
      rw [ba_cat]
      exact h
    have R3 : ∀ V, Below w3.heap.size w3 V → Calls Tryd.prog 21 #[.string (((⟨sa.toArray⟩ : ByteArray) ++ ⟨sb.toArray⟩) ++ ⟨sb.toArray⟩)] V fun e w' => ∃ x ev, e = .returned (.tuple #[.agg #[bV x], ev]) ∧ RdR (sa ++ sb ++ sb) x ev (E 1) ∧ Below V.heap.size V w' := fun V hv => by
      have h := RD (sa ++ sb ++ sb) V (by simp; omega) hv
      rw [ba_cat, ba_cat]
      exact h
    clear RD
    have R1' := R1 w3 (Below.refl _ _)
    go_upto_region 9 with (go_at_call 21; refine R1'.mono ?_; rintro e w4 ⟨y1, ev1, rfl, hr1, b4⟩)
    have n4 := mbox w4 #[bV y1] 55
    have c4 := b4.alloc b4.size (.cells #[bV y1] 55)
    obtain ⟨U4, hU4⟩ : ∃ U, w4.alloc (.cells #[bV y1] 55) = U := ⟨_, rfl⟩
    obtain ⟨P1, hP1⟩ : ∃ P, w4.heap.size = P := ⟨_, rfl⟩
    rw [hU4] at n4 c4 ⊢
    rw [hP1] at n4 ⊢
    clear hU4 hP1 R1 R1' b4
    have R2' := R2 U4 c4
    go_upto_region 10 with (go_at_call 21; refine R2'.mono ?_; rintro e w5 ⟨y2, ev2, rfl, hr2, b5⟩)
    have n5 := mbox w5 #[bV y2] 55
    have d5 := b5.alloc b5.size (.cells #[bV y2] 55)
    have n4' := bel_blk d5 n4
    have c5 := c4.trans (d5.mono c4.size)
    obtain ⟨U5, hU5⟩ : ∃ U, w5.alloc (.cells #[bV y2] 55) = U := ⟨_, rfl⟩
    obtain ⟨P2, hP2⟩ : ∃ P, w5.heap.size = P := ⟨_, rfl⟩
    rw [hU5] at n5 n4' c5 ⊢
    rw [hP2] at n5 ⊢
    clear hU5 hP2 R2 R2' b5 n4 d5 c4
    have R3' := R3 U5 c5
    go_upto_region 11 with (go_at_call 21; refine R3'.mono ?_; rintro e w6 ⟨y3, ev3, rfl, hr3, b6⟩)
    have n6 := mbox w6 #[bV y3] 55
    have d6 := b6.alloc b6.size (.cells #[bV y3] 55)
    have m4 := bel_blk d6 n4'
    have m5 := bel_blk d6 n5
    have c6 := c5.trans (d6.mono c5.size)
    obtain ⟨U6, hU6⟩ : ∃ U, w6.alloc (.cells #[bV y3] 55) = U := ⟨_, rfl⟩
    obtain ⟨P3, hP3⟩ : ∃ P, w6.heap.size = P := ⟨_, rfl⟩
    rw [hU6] at n6 m4 m5 c6 ⊢
    rw [hP3] at n6 ⊢
    clear hU6 hP3 R3 R3' b6 n4' n5 d6 c5
    have BW6 : Below W.heap.size W U6 := mbel BW2 (b3.trans (c6.mono b3.size))
    rcases hr1 with ⟨s1, hy1, rfl⟩ | ⟨s1, rfl, rfl⟩
    · rw [hy1] at m4 ⊢
      clear hy1
      rcases hr2 with ⟨s2, rfl, rfl⟩ | ⟨s2, rfl, rfl⟩
      · rcases hr3 with ⟨s3, rfl, rfl⟩ | ⟨s3, rfl, rfl⟩
        · cases sb with
          | nil =>
            go_wp2_with fail
            go_ret
            exact ⟨rfl, BW6⟩
          | cons m rr =>
            have CU := Cut_blanks (m :: rr) U6 (by omega)
            have hi0 := ba_at (m :: rr) 0 m rfl
            have his := ba_size (m :: rr)
            by_cases hm : isMk m = true
            · by_cases hb : (m :: rr).count 32 = 0
              · rw [hb] at CU
                have hbl : (32 : UInt8) ∉ m :: rr := List.count_eq_zero.1 hb
                have hmm : m = 35 ∨ m = 46 ∨ m = 91 := by simpa [isMk, or_assoc] using hm
                have hw2 := wt_more (s := sa) hm hbl
                have hw3 := wt_more (s := sa ++ m :: rr) hm hbl
                have hwp := wt_pos (r := rr) hm
                have hG : ∀ y, (fitsM M (sa ++ m :: rr) y = true → fitsM M sa y = true) ∧ fitsM M (sa ++ m :: rr ++ m :: rr) y = fitsM M (sa ++ m :: rr) y := fun y => ⟨fun h => by rw [fits_more hm hbl] at h; simp at h; exact h.1, fits_twice hm hbl y⟩
                have hn1 := sel_ne s1
                have hn2 := sel_ne s2
                have hn3 := sel_ne s3
                have hl2 : (sa ++ m :: rr).length ≤ 1000000 := by simp at *; omega
                have hl3 : (sa ++ m :: rr ++ m :: rr).length ≤ 1000000 := by simp at *; omega
                obtain ⟨z2, hz2⟩ : ∃ z, sa ++ m :: rr = z := ⟨_, rfl⟩
                obtain ⟨z3, hz3⟩ : ∃ z, z2 ++ m :: rr = z := ⟨_, rfl⟩
                rw [hz2] at hw2 hw3 hG hn2 hn3 hl2 hl3 m5 n6 ⊢
                rw [hz3] at hw3 hG hn3 hl3 n6 ⊢
                have HG : Hid (∀ y, (fitsM M z2 y = true → fitsM M sa y = true) ∧ fitsM M z3 y = fitsM M z2 y) := hG
                have hq2 : wtM sa < wtM z2 := by omega
                have hq3 : wtM z2 < wtM z3 := by omega
                have HW2 : Hid (wtM sa < wtM z2) := hq2
                have HW3 : Hid (wtM z2 < wtM z3) := hq3
                clear hG hz2 hz3 hw2 hw3 hwp hq2 hq3 s1 s2 s3 hbl hb hm
                go_upto_region 13 with fail
                go_cut [110] from 92 to 110 (fun v wx => v = .bool false ∧ Below U6.heap.size U6 wx)
                case first =>
                  rcases hmm with rfl | rfl | rfl
                  all_goals (go_wp2_with (go_at_call 25; refine CU.mono ?_; rintro e w7 ⟨o7, g7, rfl, b7⟩))
                  all_goals (go_meet; exact ⟨rfl, b7⟩)
                case rest =>
                  obtain ⟨rfl, b7⟩ := hcut
                  obtain ⟨w8, rfl⟩ : ∃ V, V = wc := ⟨_, rfl⟩
                  have k4 := bel_blk b7 m4
                  have k5 := bel_blk b7 m5
                  have k6 := bel_blk b7 n6
                  have c8 := c6.trans (b7.mono c6.size)
                  have BW8 : Below W.heap.size W w8 := mbel BW6 b7
                  clear m4 m5 n6 CU hi0 his hmm
                  have a1 := cell_one k4
                  have a2 := cell_one k5
                  have a3 := cell_one k6
                  have W1 := fun V => Weight_any sa (by omega) V
                  have W2 := fun V => Weight_any z2 hl2 V
                  have W3 := fun V => Weight_any z3 hl3 V
                  obtain ⟨v1, hv1⟩ : ∃ v, wtM sa = v := ⟨_, rfl⟩
                  obtain ⟨v2, hv2⟩ : ∃ v, wtM z2 = v := ⟨_, rfl⟩
                  obtain ⟨v3, hv3⟩ : ∃ v, wtM z3 = v := ⟨_, rfl⟩
                  have hlt1 := HW2.out
                  have hlt2 := HW3.out
                  rw [hv1] at W1 hlt1
                  rw [hv2] at W2 hlt1 hlt2
                  rw [hv3] at W3 hlt2
                  clear hv1 hv2 hv3 HW2 HW3
                  have hd1 : decide ((v2 : Int) ≤ (v1 : Int)) = false := by simp; omega
                  have hd2 : decide ((v3 : Int) ≤ (v2 : Int)) = false := by simp; omega
                  have y1 : ∀ d os, Calls Tryd.prog 24 #[.agg #[bV sa]] (Go.Sort.grow (redrawn w8 d) os) fun e w'' => e = .returned (.int .i64 v1) ∧ ∃ p : Regrown, w'' = Go.Sort.grow (redrawn w8 p.d) p.os := fun d os => Calls.regrown_of (W1 _)
                  have y2 : ∀ d os, Calls Tryd.prog 24 #[.agg #[bV z2]] (Go.Sort.grow (redrawn w8 d) os) fun e w'' => e = .returned (.int .i64 v2) ∧ ∃ p : Regrown, w'' = Go.Sort.grow (redrawn w8 p.d) p.os := fun d os => Calls.regrown_of (W2 _)
                  have y3 : ∀ d os, Calls Tryd.prog 24 #[.agg #[bV z3]] (Go.Sort.grow (redrawn w8 d) os) fun e w'' => e = .returned (.int .i64 v3) ∧ ∃ p : Regrown, w'' = Go.Sort.grow (redrawn w8 p.d) p.os := fun d os => Calls.regrown_of (W3 _)
                  have r1 := cell_regrown a1
                  have r2 := cell_regrown a2
                  have r3 := cell_regrown a3
                  go_upto_region 15 with fail
                  refine wp_region_quiet_below (by kernel_rfl) (by kernel_rfl) ?_
                  repeat (quiet_step (first | (go_at_call_of 24 (Value.agg #[bV sa]); exact y1 _ _) | (go_at_call_of 24 (Value.agg #[bV z2]); exact y2 _ _) | (go_at_call_of 24 (Value.agg #[bV z3]); exact y3 _ _)))
                  refine wpQuiet_nil ?_
                  intro _ hw'
                  obtain ⟨pp, hw''⟩ := hw'
                  subst hw''
                  have b9w := below_regrown w8 pp.d pp.os
                  generalize Go.Sort.grow (redrawn w8 pp.d) pp.os = x8 at b9w ⊢
                  clear y1 y2 y3 r1 r2 r3 a1 a2 a3 W1 W2 W3
                  have k4 := bel_blk b9w k4
                  have k5 := bel_blk b9w k5
                  have k6 := bel_blk b9w k6
                  have c9 := c8.trans (b9w.mono c8.size)
                  have BW9 : Below W.heap.size W x8 := mbel BW8 b9w
                  have d8 := HD3.out.below c9
                  have hll := d8.alll
                  have AL := All_doc d8.w 11 (by omega) d8.d.dp0 (by omega)
                  have hin : ∀ y ∈ fromL M 11 0, ∃ e, M y = some e := fun y hy => ((d8.d.mem d8.d.dp0).1 hy).in_
                  obtain ⟨L, hL⟩ : ∃ L, fromL M 11 0 = L := ⟨_, rfl⟩
                  rw [hL] at AL hin hll
                  have HIN : Hid (∀ y ∈ L, ∃ e, M y = some e) := hin
                  have HD8 : Hid (DocS w2.heap.size tg x8 DB MB p M Mx.length Mx.length r) := d8
                  clear hL hin d8
                  go_wp2_with (go_at_call 13; refine AL.mono ?_; rintro e w9 ⟨o9, k9, rfl, b9, ow9⟩)
                  have HR9 : Hid (w9.ownsRow (x8.heap.size + 1) 3 1 (.slice o9 L.length k9) L.length (intsV L)) := ow9
                  have q1 := cell_one (bel_blk b9 k4)
                  have q2 := cell_one (bel_blk b9 k5)
                  have q3 := cell_one (bel_blk b9 k6)
                  clear AL ow9
                  go_loopw [18] (fun y wr => ∃ i : Nat, i ≤ L.length ∧ y = .int .i64 i ∧ Below w9.heap.size w9 wr) (fun y _ => L.length - (intOf y).toNat)
                  case atStart => exact ⟨0, Nat.zero_le _, rfl, Below.refl _ _⟩
                  case round =>
                    obtain ⟨i, hi, rfl, hb⟩ := hrel
                    have u1 := (hb.cell (cell_lt3 q1)).trans q1
                    have u2 := (hb.cell (cell_lt3 q2)).trans q2
                    have u3 := (hb.cell (cell_lt3 q3)).trans q3
                    by_cases hlt : i < L.length
                    · have hlt' : (i : Int) < (L.length : Int) := by omega
                      obtain ⟨y, hy⟩ : ∃ y, L[i]? = some y := ⟨_, List.getElem?_eq_getElem hlt⟩
                      obtain ⟨gi, hgi, hci⟩ := row_get (own_bel HR9.out hb) i _ (intsV_get hy)
                      have ho9 : o9 = some ⟨gi, 0, none⟩ := by
                        rcases HR9.out.2 with ⟨_, e1⟩ | ⟨g1, cap1, cur, e1, _⟩
                        · omega
                        · cases e1; cases hgi; rfl
                      subst ho9
                      obtain ⟨ey, hey⟩ := HIN.out y (List.mem_of_getElem? hy)
                      have DX := fun X (hx : Below wr.heap.size wr X) => (HD8.out.below b9).below (mbel hb hx)
                      have F1 := fun X hx => Fits_doc (DX X hx).w HD8.out.d HF.out sa (by omega) hn1 y (HD8.out.w.i64 hey)
                      have F2 := fun X hx => Fits_doc (DX X hx).w HD8.out.d HF.out z2 hl2 hn2 y (HD8.out.w.i64 hey)
                      have F3 := fun X hx => Fits_doc (DX X hx).w HD8.out.d HF.out z3 hl3 hn3 y (HD8.out.w.i64 hey)
                      obtain ⟨hg1, hg2⟩ := HG.out y
                      rw [hg2] at F3
                      obtain ⟨x1, hx1⟩ : ∃ x, fitsM M sa y = x := ⟨_, rfl⟩
                      obtain ⟨x2, hx2⟩ : ∃ x, fitsM M z2 y = x := ⟨_, rfl⟩
                      rw [hx1] at F1 hg1
                      rw [hx2] at F2 F3 hg1
                      clear hgi hy hey DX hg2 hx1 hx2
                      have G0 := fun X (hx : Below wr.heap.size wr X) d os => mbel hx (below_regrown X d os)
                      have f1 : ∀ d os, Calls Tryd.prog 23 #[.agg #[bV sa], .pointer (some ⟨DB, 0, none⟩), .int .i64 y] (Go.Sort.grow (redrawn wr d) os) fun e w'' => e = .returned (.bool x1) ∧ ∃ p : Regrown, w'' = Go.Sort.grow (redrawn wr p.d) p.os := fun d os => Calls.regrown_of (F1 _ (G0 wr (Below.refl _ _) d os))
                      have r0 := cell_regrown hci
                      have r1 := cell_regrown u1
                      go_upto_region 21 with fail
                      refine wp_region_quiet_below (by kernel_rfl) (by kernel_rfl) ?_
                      repeat (quiet_step (first | (go_at_call_of 23 (Value.agg #[bV sa]); exact f1 _ _)))
                      refine wpQuiet_nil ?_
                      intro _ hw'
                      obtain ⟨pp, hw''⟩ := hw'
                      subst hw''
                      have b21 := below_regrown wr pp.d pp.os
                      generalize Go.Sort.grow (redrawn wr pp.d) pp.os = wr1 at b21 ⊢
                      clear r0 r1 f1
                      have u1 := (b21.cell (cell_lt3 u1)).trans u1
                      have u2 := (b21.cell (cell_lt3 u2)).trans u2
                      have u3 := (b21.cell (cell_lt3 u3)).trans u3
                      have hci := (b21.cell (cell_lt3 hci)).trans hci
                      have f2 : ∀ d os, Calls Tryd.prog 23 #[.agg #[bV z2], .pointer (some ⟨DB, 0, none⟩), .int .i64 y] (Go.Sort.grow (redrawn wr1 d) os) fun e w'' => e = .returned (.bool x2) ∧ ∃ p : Regrown, w'' = Go.Sort.grow (redrawn wr1 p.d) p.os := fun d os => Calls.regrown_of (F2 _ (G0 wr1 b21 d os))
                      have r0 := cell_regrown hci
                      have r1 := cell_regrown u2
                      go_upto_region 22 with fail
                      refine wp_region_quiet_below (by kernel_rfl) (by kernel_rfl) ?_
                      repeat (quiet_step (first | (go_at_call_of 23 (Value.agg #[bV z2]); exact f2 _ _)))
                      refine wpQuiet_nil ?_
                      intro _ hw'
                      obtain ⟨pp, hw''⟩ := hw'
                      subst hw''
                      have b22 := below_regrown wr1 pp.d pp.os
                      generalize Go.Sort.grow (redrawn wr1 pp.d) pp.os = wr2 at b22 ⊢
                      clear r0 r1 f2
                      have u1 := (b22.cell (cell_lt3 u1)).trans u1
                      have u2 := (b22.cell (cell_lt3 u2)).trans u2
                      have u3 := (b22.cell (cell_lt3 u3)).trans u3
                      have hci := (b22.cell (cell_lt3 hci)).trans hci
                      have f3 : ∀ d os, Calls Tryd.prog 23 #[.agg #[bV z3], .pointer (some ⟨DB, 0, none⟩), .int .i64 y] (Go.Sort.grow (redrawn wr2 d) os) fun e w'' => e = .returned (.bool x2) ∧ ∃ p : Regrown, w'' = Go.Sort.grow (redrawn wr2 p.d) p.os := fun d os => Calls.regrown_of (F3 _ (G0 wr2 (mbel b21 b22) d os))
                      have r0 := cell_regrown hci
                      have r1 := cell_regrown u3
                      go_upto_region 23 with fail
                      refine wp_region_quiet_below (by kernel_rfl) (by kernel_rfl) ?_
                      repeat (quiet_step (first | (go_at_call_of 23 (Value.agg #[bV z3]); exact f3 _ _)))
                      refine wpQuiet_nil ?_
                      intro _ hw'
                      obtain ⟨pp, hw''⟩ := hw'
                      subst hw''
                      have b23 := below_regrown wr2 pp.d pp.os
                      generalize Go.Sort.grow (redrawn wr2 pp.d) pp.os = wr3 at b23 ⊢
                      clear r0 r1 f3
                      have bz := mbel (mbel b21 b22) b23
                      cases x2 with
                      | true =>
                        have hx1 := hg1 rfl
                        subst hx1
                        go_wp2_with fail
                        go_roundw
                        case rel => exact ⟨i + 1, by omega, by go_num, mbel hb bz⟩
                        case measure => simp [intOf]; omega
                      | false =>
                        cases x1 with
                        | true =>
                          go_wp2_with fail
                          go_roundw
                          case rel => exact ⟨i + 1, by omega, by go_num, mbel hb bz⟩
                          case measure => simp [intOf]; omega
                        | false =>
                          go_wp2_with fail
                          go_roundw
                          case rel => exact ⟨i + 1, by omega, by go_num, mbel hb bz⟩
                          case measure => simp [intOf]; omega
                    · have hge : ¬ (i : Int) < (L.length : Int) := by omega
                      go_wp2_with fail
                      go_ret
                      exact ⟨rfl, mbel BW9 (mbel b9 hb)⟩
              · obtain ⟨cN, hcN⟩ : ∃ c, (m :: rr).count 32 + 1 = c := ⟨_, rfl⟩
                have hb' : 1 < (cN : Int) := by omega
                rw [hcN] at CU
                clear hcN
                have hmm : m = 35 ∨ m = 46 ∨ m = 91 := by simpa [isMk, or_assoc] using hm
                clear hm hb
                rcases hmm with rfl | rfl | rfl
                all_goals (go_wp2_with (go_at_call 25; refine CU.mono ?_; rintro e w7 ⟨o7, g7, rfl, b7⟩))
                all_goals (go_ret; exact ⟨rfl, mbel BW6 b7⟩)
            · have hm' : m ≠ 35 ∧ m ≠ 46 ∧ m ≠ 91 := by simpa [isMk, not_or, and_assoc] using hm
              have hz : 0 < (⟨(m :: rr).toArray⟩ : ByteArray).size := by rw [his]; simp
              have k1 : ((((⟨(m :: rr).toArray⟩ : ByteArray)[0]'hz).toNat : Int) != 35) = true := by show ((m.toNat : Int) != 35) = true; simp; intro h; exact hm'.1 (UInt8.toNat_inj.1 (by simp; omega))
              have k2 : ((((⟨(m :: rr).toArray⟩ : ByteArray)[0]'hz).toNat : Int) != 46) = true := by show ((m.toNat : Int) != 46) = true; simp; intro h; exact hm'.2.1 (UInt8.toNat_inj.1 (by simp; omega))
              have k3 : ((((⟨(m :: rr).toArray⟩ : ByteArray)[0]'hz).toNat : Int) != 91) = true := by show ((m.toNat : Int) != 91) = true; simp; intro h; exact hm'.2.2 (UInt8.toNat_inj.1 (by simp; omega))
              clear hm hm' CU
              go_wp2_with fail
              go_ret
              exact ⟨rfl, BW6⟩
        · go_wp2_with fail
          go_ret
          exact ⟨rfl, BW6⟩
      · go_wp2_with fail
        go_ret
        exact ⟨rfl, BW6⟩
    · go_wp2_with fail
      go_ret
      exact ⟨rfl, BW6⟩
  · have NW := New_no E n _ _ _ w2 E2 (NdC.below B2 n HA.out) (by omega) hc
    clear hc
    go_wp2_with (go_at_call 9; refine NW.mono ?_; rintro e w3 ⟨b3, pb, rfl⟩)
    go_ret
    exact ⟨rfl, mbel BW2 b3⟩
theorem pickw_ba (E : Nat → Addr) (n : Nd) (a0 a1 a2 : Value) (s1 s2 : ByteArray) (W : World) (hE : CE E W) (hT : W.cell? ⟨7, 0, none⟩ = some (.iface 181 (.pointer (some (E 1))))) (ha : NdC W a0 a1 a2 n) :
    Calls Tryd.prog 6 #[.agg #[a0, a1, a2], .string s1, .string s2] W fun e w' => e = .returned (.bool true) ∧ Below W.heap.size W w' := by
  have h := pickweighs_any E n a0 a1 a2 s1.data.toList s2.data.toList W hE hT ha
  have e1 : (⟨s1.data.toList.toArray⟩ : ByteArray) = s1 := by cases s1; simp
  have e2 : (⟨s2.data.toList.toArray⟩ : ByteArray) = s2 := by cases s2; simp
  unfold bV at h
  rw [e1, e2] at h
  exact h

end Go.Proofs.YtejibpahplolcaaDoor

/-
  PickLast: the walk.
-/
import Derived.Test.YtcbaeigbfjjmkaaDoorJ22
import Derived.Lib.QuietBelow
import Derived.Deep.QuietTactic
import Derived.BigQuiet
namespace Go.Proofs.YtcbaeigbfjjmkaaDoor
open Go.RowKit Go.Shelf

mutual
theorem elN_va : ∀ (n : Nd) (k : Nat) (p : Int), okN n → ∀ e ∈ elN k p n, ∀ a ∈ e.ats, isVal a.2 = true
  | .mk nm ats ks, k, p, h, e, he => by
    unfold okN at h
    rw [elN] at he
    rcases List.mem_cons.1 he with rfl | he
    · exact fun a ha => (h.2.1 a ha).2
    · exact elL_va ks _ _ h.2.2 e he
theorem elL_va : ∀ (l : List Nd) (k : Nat) (p : Int), okL l → ∀ e ∈ elL k p l, ∀ a ∈ e.ats, isVal a.2 = true
  | [], _, _, _, e, he => by simp [elL] at he
  | n :: l, k, p, h, e, he => by
    unfold okL at h
    rw [elL] at he
    rcases List.mem_append.1 he with he | he
    · exact elN_va n _ _ h.1 e he
    · exact elL_va l _ _ h.2 e he
end
theorem FitD.new (n : Nd) (hc : (ckN n 1 0).1 = 0) : FitD (newD n) := fun j e he => by
  have hk := ckN_ok n 1 0 hc
  unfold newD extE at he
  split at he
  · have hm := List.mem_of_getElem? he
    refine ⟨?_, fun a ha => ?_⟩
    · obtain ⟨c, r, h1, -⟩ := isNm_head (elN_nm n 0 (-1) hk e hm)
      rw [h1]
      simp
    · have h1 := elN_va n 0 (-1) hk e hm a ha
      unfold isVal at h1
      simp only [Bool.and_eq_true, decide_eq_true_eq] at h1
      omega
  · cases he
/-- What pick.Read answers of a text: it is a selector, or it is none. -/
def RdR (s x : Bs) (ev : Value) (ea : Addr) : Prop := (isSelM s = true ∧ x = s ∧ ev = .nilIface) ∨ (isSelM s = false ∧ x = [] ∧ ev = .iface 200 (.pointer (some ea)))
theorem Read_rd (s : Bs) (hs : s.length ≤ 1000000) (W : World) (ea : Addr) (hE : W.cell? ⟨7, 0, none⟩ = some (.iface 200 (.pointer (some ea)))) :
    Calls Tryd.prog 23 #[bV s] W fun e w' => ∃ x ev, e = .returned (.tuple #[.agg #[bV x], ev]) ∧ RdR s x ev ea ∧ Below W.heap.size W w' := (Read_any s hs W ea hE).mono fun e w' h => by
  obtain ⟨h1, h2⟩ := h
  cases hs : isSelM s with
  | true => rw [hs] at h1; exact ⟨s, .nilIface, h1, .inl ⟨hs, rfl, rfl⟩, h2⟩
  | false => rw [hs] at h1; exact ⟨[], _, h1, .inr ⟨hs, rfl, rfl⟩, h2⟩
theorem ba_cat (a b : Bs) : (⟨a.toArray⟩ : ByteArray) ++ (⟨b.toArray⟩ : ByteArray) = ⟨(a ++ b).toArray⟩ := by
  apply ByteArray.ext
  simp
theorem sel_ne {s : Bs} (h : isSelM s = true) : s ≠ [] := fun e => by
  subst e
  exact absurd h (by decide +kernel)
set_option maxRecDepth 20000 in
set_option maxHeartbeats 16000000 in
theorem picklast_any (E : Nat → Addr) (n : Nd) (a0 a1 a2 : Value) (sa sb : Bs) (W : World) (hE : CE E W) (hT : W.cell? ⟨7, 0, none⟩ = some (.iface 200 (.pointer (some (E 1))))) (ha : NdC W a0 a1 a2 n) :
    Calls Tryd.prog 5 #[.agg #[a0, a1, a2], bV sa, bV sb] W fun e w' => e = .returned (.bool true) ∧ Below W.heap.size W w' := by
  obtain ⟨na', oa, na, ka, oa', nb', ka', rfl, rfl, rfl⟩ : ∃ (sa : ByteArray) (oa : Option Addr) (na ka : Nat) (oa' : Option Addr) (na' ka' : Nat), a0 = .string sa ∧ a1 = .slice oa na ka ∧ a2 = .slice oa' na' ka' := by
    obtain ⟨nm, ats, ks⟩ := n
    unfold NdC at ha
    obtain ⟨rfl, -, ⟨o, cap, rfl, -⟩, ok, capk, rfl, -⟩ := ha
    exact ⟨_, _, _, _, _, _, _, rfl, rfl, rfl⟩
  have A0 : NB W.heap.size (.string na') (.slice oa na ka) (.slice oa' nb' ka') (W.alloc (.cells #[.string na', .slice oa na ka, .slice oa' nb' ka'] 25)) := mbox W #[.string na', .slice oa na ka, .slice oa' nb' ka'] 25
  have bV0 := mal W (.cells #[.string na', .slice oa na ka, .slice oa' nb' ka'] 25)
  go_enter Tryd.func5, Tryd.ntmps5
  go_upto_region 1 with fail
  obtain ⟨V, hV⟩ : ∃ V, W.alloc (.cells #[.string na', .slice oa na ka, .slice oa' nb' ka'] 25) = V := ⟨_, rfl⟩
  rw [hV] at A0 bV0 ⊢
  clear hV
  have HE : Hid (CE E V) := hE.below bV0
  have HT : Hid (V.cell? ⟨7, 0, none⟩ = some (.iface 200 (.pointer (some (E 1))))) := (bV0.cell (cell_lt3 hT)).trans hT
  have HA : Hid (NdC V (.string na') (.slice oa na ka) (.slice oa' nb' ka') n) := NdC.below bV0 n ha
  clear hE ha hT
  have DK := picked_any V (E 1) HT.out
  go_upto_region 2 with (go_at_call 22; refine DK.mono ?_; rintro e w1 ⟨rfl, B1⟩)
  clear DK
  have FA := FlatsOf_fit n _ _ _ w1 (NdC.below B1 n HA.out)
  have A1 := (B1.block _ (heap_lt A0)).trans A0
  have x0 := NB.c0 A1
  have x1 := NB.c1 A1
  have x2 := NB.c2 A1
  go_upto_region 3 with (go_at_call 10; refine FA.mono ?_; rintro e w2 ⟨b2, va, rfl, fa⟩)
  clear x0 x1 x2 FA
  have B2 := mbel B1 b2
  have BW2 := mbel bV0 B2
  rcases fa with ⟨-, rfl⟩ | ⟨hfit, Mx, g, cap, rfl, hM0, hM1, hM2, hM3, hM4⟩
  · go_wp2_with fail
    go_ret
    exact ⟨rfl, BW2⟩
  have hM0' : ((Mx.length : Int) == 0) = false := by rw [beq_eq_false_iff_ne]; omega
  have hszM : szN n = Mx.length := by rw [← flN_len n 0 (-1) 1]; exact hM4.len.symm
  have HSZ : Hid (szN n = Mx.length) := hszM
  have hszs : szN n ≤ 150 := by omega
  clear hszM hM3 hM4 hfit
  by_cases hb60 : 60 < Mx.length
  · have hb60' : 60 < (Mx.length : Int) := by omega
    go_wp2_with fail
    go_ret
    exact ⟨rfl, BW2⟩
  have hb60' : ¬ 60 < (Mx.length : Int) := by omega
  by_cases ha60 : 60 < sa.length
  · have ha60' : 60 < (sa.length : Int) := by omega
    go_wp2_with fail
    go_ret
    exact ⟨rfl, BW2⟩
  have ha60' : ¬ 60 < (sa.length : Int) := by omega
  by_cases hs60 : 60 < sb.length
  · have hs60' : 60 < (sb.length : Int) := by omega
    go_wp2_with fail
    go_ret
    exact ⟨rfl, BW2⟩
  have hs60' : ¬ 60 < (sb.length : Int) := by omega
  have A2 := (B2.block _ (heap_lt A0)).trans A0
  have x0 := NB.c0 A2
  have x1 := NB.c1 A2
  have x2 := NB.c2 A2
  have E2 := HE.out.below B2
  by_cases hc : (ckN n 1 0).1 = 0
  · have NW := New_S E n _ _ _ w2 E2 (NdC.below B2 n HA.out) (by omega) hc
    have HF : Hid (FitD (newD n)) := FitD.new n hc
    rw [HSZ.out] at NW
    clear hc
    go_upto_region 8 with (go_at_call 11; refine NW.mono ?_; rintro e w3 ⟨b3, DB, MB, tg, p, rfl, d3⟩)
    clear x0 x1 x2 NW A2
    obtain ⟨M, hMe⟩ : ∃ M, newD n = M := ⟨_, rfl⟩
    obtain ⟨r, hre⟩ : ∃ r, rkD n = r := ⟨_, rfl⟩
    rw [hMe] at d3 HF
    rw [hre] at d3
    clear hMe hre
    have HD3 : Hid (DocS w2.heap.size tg w3 DB MB p M Mx.length Mx.length r) := d3
    have BW3 := mbel B2 b3
    have HT3 : Hid (w3.cell? ⟨7, 0, none⟩ = some (.iface 200 (.pointer (some (E 1))))) := (BW3.cell (cell_lt3 HT.out)).trans HT.out
    clear d3
    have RD : ∀ s V, s.length ≤ 1000000 → Below w3.heap.size w3 V → Calls Tryd.prog 23 #[bV s] V fun e w' => ∃ x ev, e = .returned (.tuple #[.agg #[bV x], ev]) ∧ RdR s x ev (E 1) ∧ Below V.heap.size V w' := fun s V hs hv => Read_rd s hs V (E 1) ((hv.cell (cell_lt3 HT3.out)).trans HT3.out)
    have R1 : Calls Tryd.prog 23 #[.string (((⟨sa.toArray⟩ : ByteArray) ++ ⟨#[32, 62, 32]⟩) ++ ⟨sb.toArray⟩)] w3 fun e w' => ∃ x ev, e = .returned (.tuple #[.agg #[bV x], ev]) ∧ RdR (sa ++ 32 :: 62 :: 32 :: sb) x ev (E 1) ∧ Below w3.heap.size w3 w' := by
      have h := RD (sa ++ 32 :: 62 :: 32 :: sb) w3 (by simp; omega) (Below.refl _ _)
      rw [show (⟨#[32, 62, 32]⟩ : ByteArray) = ⟨([32, 62, 32] : Bs).toArray⟩ from rfl, ba_cat, ba_cat, show (sa ++ [32, 62, 32]) ++ sb = sa ++ 32 :: 62 :: 32 :: sb from by simp]
      exact h
    have R2 : ∀ V, Below w3.heap.size w3 V → Calls Tryd.prog 23 #[.string (((⟨sa.toArray⟩ : ByteArray) ++ ⟨#[32]⟩) ++ ⟨sb.toArray⟩)] V fun e w' => ∃ x ev, e = .returned (.tuple #[.agg #[bV x], ev]) ∧ RdR (sa ++ 32 :: sb) x ev (E 1) ∧ Below V.heap.size V w' := fun V hv => by
      have h := RD (sa ++ 32 :: sb) V (by simp; omega) hv
      rw [show (⟨#[32]⟩ : ByteArray) = ⟨([32] : Bs).toArray⟩ from rfl, ba_cat, ba_cat, show (sa ++ [32]) ++ sb = sa ++ 32 :: sb from by simp]
      exact h
    have R3 := fun V hv => RD sb V (by omega) hv
    have R4 : ∀ V, Below w3.heap.size w3 V → Calls Tryd.prog 23 #[.string ⟨#[42]⟩] V fun e w' => e = .returned (.tuple #[.agg #[.string ⟨#[42]⟩], .nilIface]) ∧ Below V.heap.size V w' := fun V hv => by
      have h := Read_any [42] (by decide) V (E 1) ((hv.cell (cell_lt3 HT3.out)).trans HT3.out)
      rw [show isSelM [42] = true from by decide +kernel] at h
      exact h
    clear RD
    go_upto_region 9 with (go_at_call 23; refine R1.mono ?_; rintro e w4 ⟨y1, ev1, rfl, hr1, b4⟩)
    have n4 := mbox w4 #[bV y1] 55
    have c4 := b4.alloc b4.size (.cells #[bV y1] 55)
    obtain ⟨U4, hU4⟩ : ∃ U, w4.alloc (.cells #[bV y1] 55) = U := ⟨_, rfl⟩
    obtain ⟨P1, hP1⟩ : ∃ P, w4.heap.size = P := ⟨_, rfl⟩
    rw [hU4] at n4 c4 ⊢
    rw [hP1] at n4 ⊢
    clear hU4 hP1 R1 b4
    have R2' := R2 U4 c4
    go_upto_region 10 with (go_at_call 23; refine R2'.mono ?_; rintro e w5 ⟨y2, ev2, rfl, hr2, b5⟩)
    have n5 := mbox w5 #[bV y2] 55
    have d5 := b5.alloc b5.size (.cells #[bV y2] 55)
    have n4' := bel_blk d5 n4
    have c5 := c4.trans (d5.mono c4.size)
    obtain ⟨U5, hU5⟩ : ∃ U, w5.alloc (.cells #[bV y2] 55) = U := ⟨_, rfl⟩
    obtain ⟨P2, hP2⟩ : ∃ P, w5.heap.size = P := ⟨_, rfl⟩
    rw [hU5] at n5 n4' c5 ⊢
    rw [hP2] at n5 ⊢
    clear hU5 hP2 R2 R2' b5 n4 d5 c4
    have R3' := R3 U5 c5
    go_upto_region 11 with (go_at_call 23; refine R3'.mono ?_; rintro e w6 ⟨y3, ev3, rfl, hr3, b6⟩)
    have n6 := mbox w6 #[bV y3] 55
    have d6 := b6.alloc b6.size (.cells #[bV y3] 55)
    have m4 := bel_blk d6 n4'
    have m5 := bel_blk d6 n5
    have c6 := c5.trans (d6.mono c5.size)
    obtain ⟨U6, hU6⟩ : ∃ U, w6.alloc (.cells #[bV y3] 55) = U := ⟨_, rfl⟩
    obtain ⟨P3, hP3⟩ : ∃ P, w6.heap.size = P := ⟨_, rfl⟩
    rw [hU6] at n6 m4 m5 c6 ⊢
    rw [hP3] at n6 ⊢
    clear hU6 hP3 R3 R3' b6 n4' n5 d6 c5
    have R4' := R4 U6 c6
    go_upto_region 12 with (go_at_call 23; refine R4'.mono ?_; rintro e w7 ⟨rfl, b7⟩)
    have n7 := mbox w7 #[.string ⟨#[42]⟩] 55
    have d7 := b7.alloc b7.size (.cells #[.string ⟨#[42]⟩] 55)
    have k4 := bel_blk d7 m4
    have k5 := bel_blk d7 m5
    have k6 := bel_blk d7 n6
    have c7 := c6.trans (d7.mono c6.size)
    obtain ⟨U7, hU7⟩ : ∃ U, w7.alloc (.cells #[.string ⟨#[42]⟩] 55) = U := ⟨_, rfl⟩
    obtain ⟨P4, hP4⟩ : ∃ P, w7.heap.size = P := ⟨_, rfl⟩
    rw [hU7] at n7 k4 k5 k6 c7 ⊢
    rw [hP4] at n7 ⊢
    clear hU7 hP4 R4 R4' b7 m4 m5 n6 d7 c6
    have q7 := cell_one n7
    have AS := All_star (HD3.out.below c7) HF.out
    go_upto_region 14 with (go_at_call 24; refine AS.mono ?_; rintro e w8 ⟨o8, k8, rfl, b8⟩)
    have k4 := bel_blk b8 k4
    have k5 := bel_blk b8 k5
    have k6 := bel_blk b8 k6
    have c8 := c7.trans (b8.mono c7.size)
    have BW8 : Below W.heap.size W w8 := mbel BW2 (b3.trans (c8.mono b3.size))
    clear n7 q7 AS
    rcases hr1 with ⟨s1, rfl, rfl⟩ | ⟨s1, rfl, rfl⟩
    · rcases hr2 with ⟨s2, rfl, rfl⟩ | ⟨s2, rfl, rfl⟩
      · rcases hr3 with ⟨s3, hy3, rfl⟩ | ⟨s3, rfl, rfl⟩
        · rw [hy3] at k6 ⊢
          clear hy3
          have hP := two_parts M (fun i hi => HD3.out.d.neg i hi) sa sb.length sb (Nat.le_refl _) (okSts_all s1) (okSts_all s3)
          obtain ⟨g1, g2, g3⟩ := hP
          have hw1 : wtM (sa ++ 32 :: 62 :: 32 :: sb) = wtM (sa ++ 32 :: sb) := by unfold wtM; rw [g1, g2]
          have hw2 : wtM sb ≤ wtM (sa ++ 32 :: sb) := by
            unfold wtM
            rw [g2, List.map_append, List.sum_append]
            omega
          have hn1 := sel_ne s1
          have hn2 := sel_ne s2
          have hn3 := sel_ne s3
          have hl1 : (sa ++ 32 :: 62 :: 32 :: sb).length ≤ 1000000 := by simp; omega
          have hl2 : (sa ++ 32 :: sb).length ≤ 1000000 := by simp; omega
          obtain ⟨z1, hz1⟩ : ∃ z, sa ++ 32 :: 62 :: 32 :: sb = z := ⟨_, rfl⟩
          obtain ⟨z2, hz2⟩ : ∃ z, sa ++ 32 :: sb = z := ⟨_, rfl⟩
          rw [hz1] at hw1 hn1 hl1 g3 k4 s1 ⊢
          rw [hz2] at hw1 hw2 hn2 hl2 g3 k5 s2 ⊢
          have HG : Hid (∀ n, (fitsM M z1 n = true → fitsM M z2 n = true) ∧ (fitsM M z2 n = true → fitsM M sb n = true)) := g3
          clear g1 g2 g3 hz1 hz2 s1 s2 s3
          have d8 := HD3.out.below c8
          have hll := d8.alll
          have AL := All_doc d8.w 11 (by omega) d8.d.dp0 (by omega)
          have hin : ∀ y ∈ fromL M 11 0, ∃ e, M y = some e := fun y hy => ((d8.d.mem d8.d.dp0).1 hy).in_
          obtain ⟨L, hL⟩ : ∃ L, fromL M 11 0 = L := ⟨_, rfl⟩
          rw [hL] at AL hin hll
          have HIN : Hid (∀ y ∈ L, ∃ e, M y = some e) := hin
          have HD8 : Hid (DocS w2.heap.size tg w8 DB MB p M Mx.length Mx.length r) := d8
          clear hL hin d8
          go_upto_region 18 with (go_at_call 15; refine AL.mono ?_; rintro e w9 ⟨o9, k9, rfl, b9, ow9⟩)
          have HR9 : Hid (w9.ownsRow (w8.heap.size + 1) 3 1 (.slice o9 L.length k9) L.length (intsV L)) := ow9
          have q1 := cell_one (bel_blk b9 k4)
          have q2 := cell_one (bel_blk b9 k5)
          have q3 := cell_one (bel_blk b9 k6)
          clear AL ow9
          go_loopw [20] (fun y wr => ∃ i : Nat, i ≤ L.length ∧ y = .int .i64 i ∧ Below w9.heap.size w9 wr) (fun y _ => L.length - (intOf y).toNat)
          case atStart => exact ⟨0, Nat.zero_le _, rfl, Below.refl _ _⟩
          case round =>
            obtain ⟨i, hi, rfl, hb⟩ := hrel
            have u1 := (hb.cell (cell_lt3 q1)).trans q1
            have u2 := (hb.cell (cell_lt3 q2)).trans q2
            have u3 := (hb.cell (cell_lt3 q3)).trans q3
            by_cases hlt : i < L.length
            · have hlt' : (i : Int) < (L.length : Int) := by omega
              obtain ⟨y, hy⟩ : ∃ y, L[i]? = some y := ⟨_, List.getElem?_eq_getElem hlt⟩
              obtain ⟨gi, hgi, hci⟩ := row_get (own_bel HR9.out hb) i _ (intsV_get hy)
              have ho9 : o9 = some ⟨gi, 0, none⟩ := by
                rcases HR9.out.2 with ⟨_, e1⟩ | ⟨g1, cap1, cur, e1, _⟩
                · omega
                · cases e1; cases hgi; rfl
              subst ho9
              obtain ⟨ey, hey⟩ := HIN.out y (List.mem_of_getElem? hy)
              have DX := fun X (hx : Below wr.heap.size wr X) => (HD8.out.below b9).below (mbel hb hx)
              have F1 := Fits_doc (DX wr (Below.refl _ _)).w HD8.out.d HF.out z1 hl1 hn1 y (HD8.out.w.i64 hey)
              have F2 := fun X hx => Fits_doc (DX X hx).w HD8.out.d HF.out z2 hl2 hn2 y (HD8.out.w.i64 hey)
              have F3 := fun X hx => Fits_doc (DX X hx).w HD8.out.d HF.out sb (by omega) hn3 y (HD8.out.w.i64 hey)
              have hgy := HG.out y
              clear hgi hy hey DX
              cases hp1 : fitsM M z1 y with
              | true =>
                have hp2 := hgy.1 hp1
                have hp3 := hgy.2 hp2
                rw [hp1] at F1
                rw [hp2] at F2
                rw [hp3] at F3
                clear hgy hp1 hp2 hp3
                go_wp2_with (first | (go_at_call_of 25 (Value.agg #[bV sb]); refine (F3 _ b12).mono ?_; rintro e w13 ⟨rfl, b13⟩) | (go_at_call_of 25 (Value.agg #[bV z2]); refine (F2 _ b11).mono ?_; rintro e w12 ⟨rfl, b12'⟩; have b12 := mbel b11 b12'; have t3 := (b12.cell (cell_lt3 u3)).trans u3) | (go_at_call_of 25 (Value.agg #[bV z2]); refine (F2 _ b10).mono ?_; rintro e w11 ⟨rfl, b11'⟩; have b11 := mbel b10 b11'; have t2 := (b11.cell (cell_lt3 u2)).trans u2) | (go_at_call_of 25 (Value.agg #[bV z1]); refine F1.mono ?_; rintro e w10 ⟨rfl, b10⟩; have t1 := (b10.cell (cell_lt3 u2)).trans u2))
                go_roundw
                case rel => exact ⟨i + 1, by omega, by go_num, mbel hb (mbel b12 b13)⟩
                case measure => simp [intOf]; omega
              | false =>
                rw [hp1] at F1
                cases hp2 : fitsM M z2 y with
                | true =>
                  have hp3 := hgy.2 hp2
                  rw [hp2] at F2
                  rw [hp3] at F3
                  clear hgy hp1 hp2 hp3
                  go_wp2_with (first | (go_at_call_of 25 (Value.agg #[bV sb]); refine (F3 _ b11).mono ?_; rintro e w13 ⟨rfl, b13⟩) | (go_at_call_of 25 (Value.agg #[bV z2]); refine (F2 _ b10).mono ?_; rintro e w11 ⟨rfl, b11'⟩; have b11 := mbel b10 b11'; have t3 := (b11.cell (cell_lt3 u3)).trans u3) | (go_at_call_of 25 (Value.agg #[bV z1]); refine F1.mono ?_; rintro e w10 ⟨rfl, b10⟩; have t1 := (b10.cell (cell_lt3 u2)).trans u2))
                  go_roundw
                  case rel => exact ⟨i + 1, by omega, by go_num, mbel hb (mbel b11 b13)⟩
                  case measure => simp [intOf]; omega
                | false =>
                  rw [hp2] at F2
                  clear hgy hp1 hp2
                  go_wp2_with (first | (go_at_call_of 25 (Value.agg #[bV z2]); refine (F2 _ b10).mono ?_; rintro e w11 ⟨rfl, b11'⟩; have b11 := mbel b10 b11') | (go_at_call_of 25 (Value.agg #[bV z1]); refine F1.mono ?_; rintro e w10 ⟨rfl, b10⟩; have t1 := (b10.cell (cell_lt3 u2)).trans u2))
                  go_roundw
                  case rel => exact ⟨i + 1, by omega, by go_num, mbel hb b11⟩
                  case measure => simp [intOf]; omega
            · have hge : ¬ (i : Int) < (L.length : Int) := by omega
              go_upto_region 23 with fail
              have W1 := fun V => Weight_any z1 hl1 V
              have W2 := fun V => Weight_any z2 hl2 V
              have W3 := fun V => Weight_any sb (by omega) V
              rw [hw1] at W1
              obtain ⟨wq, hwq⟩ : ∃ wq, wtM z2 = wq := ⟨_, rfl⟩
              obtain ⟨wz, hwz⟩ : ∃ wz, wtM sb = wz := ⟨_, rfl⟩
              rw [hwq] at W1 W2 hw2
              rw [hwz] at W3 hw2
              have hge2 : (wz : Int) ≤ (wq : Int) := by omega
              clear hwq hwz hw1
              have y1 : ∀ d os, Calls Tryd.prog 26 #[.agg #[bV z1]] (Go.Sort.grow (redrawn wr d) os) fun e w'' => e = .returned (.int .i64 wq) ∧ ∃ p : Regrown, w'' = Go.Sort.grow (redrawn wr p.d) p.os := fun d os => Calls.regrown_of (W1 _)
              have y2 : ∀ d os, Calls Tryd.prog 26 #[.agg #[bV z2]] (Go.Sort.grow (redrawn wr d) os) fun e w'' => e = .returned (.int .i64 wq) ∧ ∃ p : Regrown, w'' = Go.Sort.grow (redrawn wr p.d) p.os := fun d os => Calls.regrown_of (W2 _)
              have y3 : ∀ d os, Calls Tryd.prog 26 #[.agg #[bV sb]] (Go.Sort.grow (redrawn wr d) os) fun e w'' => e = .returned (.int .i64 wz) ∧ ∃ p : Regrown, w'' = Go.Sort.grow (redrawn wr p.d) p.os := fun d os => Calls.regrown_of (W3 _)
              have r1 := cell_regrown u1
              have r2 := cell_regrown u2
              have r3 := cell_regrown u3
              refine wp_region_quiet_below (by kernel_rfl) (by kernel_rfl) ?_
              repeat (quiet_step (first | (go_at_call_of 26 (Value.agg #[bV z1]); exact y1 _ _) | (go_at_call_of 26 (Value.agg #[bV z2]); exact y2 _ _) | (go_at_call_of 26 (Value.agg #[bV sb]); exact y3 _ _)))
              refine wpQuiet_nil ?_
              intro _ hw'
              obtain ⟨pp, hw''⟩ := hw'
              subst hw''
              have hbz := below_regrown wr pp.d pp.os
              generalize Go.Sort.grow (redrawn wr pp.d) pp.os = W5 at hbz ⊢
              go_wp2_with fail
              go_ret
              exact ⟨rfl, mbel BW8 (mbel b9 (mbel hb hbz))⟩
        · go_wp2_with fail
          go_ret
          exact ⟨rfl, BW8⟩
      · go_wp2_with fail
        go_ret
        exact ⟨rfl, BW8⟩
    · go_wp2_with fail
      go_ret
      exact ⟨rfl, BW8⟩
  · have NW := New_no E n _ _ _ w2 E2 (NdC.below B2 n HA.out) (by omega) hc
    clear hc
    go_wp2_with (go_at_call 11; refine NW.mono ?_; rintro e w3 ⟨b3, pb, rfl⟩)
    go_ret
    exact ⟨rfl, mbel BW2 b3⟩
theorem pickl_ba (E : Nat → Addr) (n : Nd) (a0 a1 a2 : Value) (s1 s2 : ByteArray) (W : World) (hE : CE E W) (hT : W.cell? ⟨7, 0, none⟩ = some (.iface 200 (.pointer (some (E 1))))) (ha : NdC W a0 a1 a2 n) :
    Calls Tryd.prog 5 #[.agg #[a0, a1, a2], .string s1, .string s2] W fun e w' => e = .returned (.bool true) ∧ Below W.heap.size W w' := by
  have h := picklast_any E n a0 a1 a2 s1.data.toList s2.data.toList W hE hT ha
  have e1 : (⟨s1.data.toList.toArray⟩ : ByteArray) = s1 := by cases s1; simp
  have e2 : (⟨s2.data.toList.toArray⟩ : ByteArray) = s2 := by cases s2; simp
  unfold bV at h
  rw [e1, e2] at h
  exact h

end Go.Proofs.YtcbaeigbfjjmkaaDoor

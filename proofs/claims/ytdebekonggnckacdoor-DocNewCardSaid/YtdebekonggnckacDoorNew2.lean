/-
  DocNew: the walk.
-/
import Derived.Test.YtdebekonggnckacDoorNew1
namespace Go.Proofs.YtdebekonggnckacDoor
open Go.RowKit

set_option maxRecDepth 20000 in
set_option maxHeartbeats 16000000 in
theorem docnew_any (E : Nat → Addr) (n : Nd) (a0 a1 a2 : Value) (which many : Int) (W : World) (hE : EE E W) (ha : NdC W a0 a1 a2 n) (hw1 : Wf64 which) (hw2 : Wf64 many) :
    Calls Tryd.prog 4 #[.agg #[a0, a1, a2], .int .i64 which, .int .i64 many] W fun e w' => e = .returned (.bool true) ∧ Below W.heap.size W w' := by
  obtain ⟨sa, oa, na, ka, oa', na', ka', rfl, rfl, rfl⟩ : ∃ (sa : ByteArray) (oa : Option Addr) (na ka : Nat) (oa' : Option Addr) (na' ka' : Nat), a0 = .string sa ∧ a1 = .slice oa na ka ∧ a2 = .slice oa' na' ka' := by
    obtain ⟨nm, ats, ks⟩ := n
    unfold NdC at ha
    obtain ⟨rfl, -, ⟨o, cap, rfl, -⟩, ok, capk, rfl, -⟩ := ha
    exact ⟨_, _, _, _, _, _, _, rfl, rfl, rfl⟩
  have A0 : NB W.heap.size (.string sa) (.slice oa na ka) (.slice oa' na' ka') (W.alloc (.cells #[.string sa, .slice oa na ka, .slice oa' na' ka'] 25)) := mbox W #[.string sa, .slice oa na ka, .slice oa' na' ka'] 25
  have bV := mal W (.cells #[.string sa, .slice oa na ka, .slice oa' na' ka'] 25)
  go_enter Tryd.func4, Tryd.ntmps4
  go_upto_region 1 with fail
  obtain ⟨V, hV⟩ : ∃ V, W.alloc (.cells #[.string sa, .slice oa na ka, .slice oa' na' ka'] 25) = V := ⟨_, rfl⟩
  rw [hV] at A0 bV ⊢
  clear hV
  have HE : Hid (EE E V) := hE.below bV (Nat.le_refl _)
  have HA : Hid (NdC V (.string sa) (.slice oa na ka) (.slice oa' na' ka') n) := NdC.below bV n ha
  clear hE ha
  have DK := docked_any V HE.out
  go_upto_region 2 with (go_at_call 7; refine DK.mono ?_; rintro e w1 ⟨rfl, B1⟩)
  clear DK
  have FA := FlatsOf_fit n _ _ _ w1 (NdC.below B1 n HA.out)
  have A1 := (B1.block _ (heap_lt A0)).trans A0
  have x0 := NB.c0 A1
  have x1 := NB.c1 A1
  have x2 := NB.c2 A1
  go_upto_region 3 with (go_at_call 8; refine FA.mono ?_; rintro e w2 ⟨b2, va, rfl, fa⟩)
  clear x0 x1 x2 FA
  have B2 := mbel B1 b2
  have BW2 := mbel bV B2
  rcases fa with ⟨-, rfl⟩ | ⟨hfit, M, g, cap, rfl, hM0, hM1, hM2, hM3, hM4⟩
  · go_wp2_with fail
    go_ret
    exact ⟨rfl, BW2⟩
  have hM0' : ((M.length : Int) == 0) = false := by rw [beq_eq_false_iff_ne]; omega
  by_cases hb60 : 60 < M.length
  · have hb60' : 60 < (M.length : Int) := by omega
    go_wp2_with fail
    go_ret
    exact ⟨rfl, BW2⟩
  have hb60' : ¬ 60 < (M.length : Int) := by omega
  by_cases hwn : which < 0
  · go_wp2_with fail
    go_ret
    exact ⟨rfl, BW2⟩
  by_cases hwm : (M.length : Int) ≤ which
  · go_wp2_with fail
    go_ret
    exact ⟨rfl, BW2⟩
  by_cases hmn : many < 0
  · go_wp2_with fail
    go_ret
    exact ⟨rfl, BW2⟩
  by_cases hm20 : 20 < many
  · go_wp2_with fail
    go_ret
    exact ⟨rfl, BW2⟩
  obtain ⟨wh, rfl⟩ : ∃ wh : Nat, which = wh := ⟨which.toNat, by omega⟩
  obtain ⟨mn, rfl⟩ : ∃ mn : Nat, many = mn := ⟨many.toNat, by omega⟩
  have hszM : szN n = M.length := by rw [← flN_len n 0 (-1) 1]; exact hM4.len.symm
  have HSZ : Hid (szN n = M.length) := hszM
  have HM : Hid (RowF w2 g M ∧ FlRs w1 M (flN 0 (-1) 1 n)) := ⟨hM3, hM4⟩
  have hszs : szN n ≤ 1000000 := by omega
  clear hszM hM3 hM4 hfit
  have A2 := (B2.block _ (heap_lt A0)).trans A0
  have x0 := NB.c0 A2
  have x1 := NB.c1 A2
  have x2 := NB.c2 A2
  have E2 := HE.out.below B2 (Nat.le_refl _)
  by_cases hc : (ckN n 1 0).1 = 0
  · have NW := New_yes E n _ _ _ w2 E2 (NdC.below B2 n HA.out) hszs hc
    rw [HSZ.out] at NW
    have HC : Hid ((ckN n 1 0).1 = 0) := hc
    clear hc
    go_upto_region 8 with (go_at_call 9; refine NW.mono ?_; rintro e w3 ⟨b3, DB, MB, tg, p, rfl, d3⟩)
    clear x0 x1 x2 NW
    obtain ⟨s, hs1, hs0, hown, hcut⟩ := cut_any n wh (by rw [HSZ.out]; omega)
    have hP := pars_of hown
    rw [HSZ.out] at hs1 hP
    obtain ⟨pr, hpr⟩ : ∃ pr : Nat → Int, parF n = pr := ⟨_, rfl⟩
    have hrow : ∀ i, i < M.length → ∀ w', Below w2.heap.size w2 w' → w'.cell? ⟨g, i * 4 + 2, none⟩ = some (.int .i64 (pr i)) := fun i hi w' hb => by
      obtain ⟨x, hx⟩ : ∃ x, M[i]? = some x := ⟨_, List.getElem?_eq_getElem hi⟩
      obtain ⟨f, hf, hpf⟩ := HM.out.2.at hx
      have h1 := (HM.out.1 i x hx).2.2.1
      have h2 : pr i = x.parent := by rw [← hpr]; unfold parF; simp only [hf]; exact hpf.symm
      rw [h2]
      exact (hb.cell (cell_lt3 h1)).trans h1
    rw [hpr] at hP
    have HP : Hid (Pars M.length wh s pr) := hP
    have HROW : Hid (∀ i, i < M.length → ∀ w', Below w2.heap.size w2 w' → w'.cell? ⟨g, i * 4 + 2, none⟩ = some (.int .i64 (pr i))) := hrow
    have HCUT : Hid (wh ≠ 0 → ∃ e q, CutAt n wh s e q) := hcut
    clear hP hrow hcut hown hpr
    obtain ⟨ib, hib, hyb0, hyb1, hyb2⟩ := info_parts boolInfo
    go_upto_region 9 with (at_make; refine wpList_make_full _ rfl _ _ 48 rfl w3.heap.size 4 ib (.bool false) 1 Tryd.underlying48 hib hyb0 hyb1 _ _ _ _ M.length rfl rfl rfl rfl (by rw [hyb2]; omega) (by rw [maxLen_eq]; omega) (Nat.le_refl _) ?_; intro w4 ow4 gr4)
    have br4 := BR.made ow4
    have d4 := d3.turn (w' := w4) (fun b t ht => gr4.block b (d3.low b t ht).2 (by simp)) gr4.size
    have tBB : tg w3.heap.size = none := d3.new (Nat.le_refl _)
    have B4 : Below w2.heap.size w2 w4 := b3.trans ⟨gr4.os, gr4.tape, gr4.output, gr4.size, fun j hj => gr4.block j (Nat.lt_of_lt_of_le hj b3.size) (by simp)⟩
    obtain ⟨BB, hBB⟩ : ∃ BB, w3.heap.size = BB := ⟨_, rfl⟩
    have h2B : w2.heap.size ≤ BB := by rw [← hBB]; exact b3.size
    rw [hBB] at br4 tBB ⊢
    have HD4 : Hid (DocW w2.heap.size tg w4 DB MB p (newD n) M.length M.length) := d4
    clear d3 d4 gr4 ow4 hBB b3
    go_wp2_with fail
    go_loopw [12, 13] (fun yg yi wr => ∃ i : Nat, i ≤ M.length ∧ yi = .int .i64 i ∧ yg = .int .i64 (cntI wh s i) ∧ BR wr BB M.length (fun j => decide (j < i) && inI wh s j) ∧ w4.grownBy wr (some BB)) (fun _ yi _ => M.length - (intOf yi).toNat)
    case atStart => exact ⟨0, Nat.zero_le _, rfl, by simp [cntI], br4.re (fun j _ => by simp), ⟨rfl, rfl, rfl, Nat.le_refl _, fun _ _ _ => rfl⟩⟩
    case round =>
      obtain ⟨i, hi, rfl, rfl, hbr, hgr⟩ := hrel
      have hcl : cntI wh s i ≤ i := by unfold cntI; omega
      by_cases hlt : i < M.length
      · have hlt' : (i : Int) < (M.length : Int) := by omega
        have hB : Below w2.heap.size w2 wr := B4.trans ⟨hgr.os, hgr.tape, hgr.output, hgr.size, fun j hj => hgr.block j (Nat.lt_of_lt_of_le hj B4.size) (fun e1 => by have := Option.some.inj e1; omega)⟩
        have cP := HROW.out i hlt wr hB
        have cB := hbr.cell hlt
        have fB := hbr.froz
        have hg0 : g ≠ BB := by have := cell_lt3 (HROW.out i hlt w2 (Below.refl _ _)); simp only at this; omega
        by_cases hiw : i = wh
        · have heq : ((i : Int) == (wh : Int)) = true := by rw [beq_iff_eq]; omega
          have hin : inI wh s i = true := by unfold inI; simp; omega
          have HIW : Hid (i = wh) := hiw
          clear hiw
          go_upto_region 14 with fail
          have br1 := hbr.set (g := fun j => if j = i then true else (decide (j < i) && inI wh s j)) i true (fun j _ => rfl)
          have cP1 := set_far (b := BB) (i := i) (v := .bool true) cP hg0
          have gr1 := hgr.trans (grown_set wr BB i (.bool true))
          obtain ⟨U1, hU1⟩ : ∃ U, wr.setCell ⟨BB, i, none⟩ (.bool true) = U := ⟨_, rfl⟩
          rw [hU1] at br1 cP1 gr1 ⊢
          clear hU1 cP cB fB hbr hgr
          have cB1 : U1.cell? ⟨BB, i, none⟩ = some (.bool true) := by have := br1.cell hlt; simpa using this
          have fB1 := br1.froz
          have br2 : BR U1 BB M.length (fun j => decide (j < i + 1) && inI wh s j) := br1.re (fun j _ => by
            by_cases hj : j = i
            · subst hj; simp [hin]
            · simp only [if_neg hj]
              rw [show decide (j < i + 1) = decide (j < i) from by simp; omega])
          have HCN : Hid (cntI wh s (i + 1) = cntI wh s i + 1) := cntI_in hin
          have hpo := HP.out.out i hlt (.inr HIW.out)
          have hpl := HP.out.lo i hlt
          by_cases hpn : pr i < 0
          · clear hpo hpl
            go_wp2_with fail
            go_roundw
            case rel => exact ⟨i + 1, by omega, by go_num, by rw [HCN.out]; go_num, br2, gr1⟩
            case measure => simp [intOf]; omega
          · obtain ⟨q, hq⟩ : ∃ q : Nat, pr i = q := ⟨(pr i).toNat, by omega⟩
            rw [hq] at cP1 hpo hpl
            have hqi : q < i := by omega
            have hq0 : 0 ≤ (q : Int) := by omega
            have hqm : (q : Int) < (M.length : Int) := by omega
            have cq : U1.cell? ⟨BB, q, none⟩ = some (.bool false) := by
              have := br1.cell (j := q) (by omega)
              rw [this, if_neg (by omega)]
              have h9 : inI wh s q = false := by unfold inI; simp; omega
              simp [h9]
            clear hq hpo hpl hpn
            go_wp2_with fail
            go_roundw
            case rel => exact ⟨i + 1, by omega, by go_num, by rw [HCN.out]; go_num, br2, gr1⟩
            case measure => simp [intOf]; omega
        have heq : ((i : Int) == (wh : Int)) = false := by rw [beq_eq_false_iff_ne]; omega
        cases hin : inI wh s i with
        | true =>
          go_upto_region 14 with fail
          have br1 := hbr.set (g := fun j => if j = i then false else (decide (j < i) && inI wh s j)) i false (fun j _ => rfl)
          have cP1 := set_far (b := BB) (i := i) (v := .bool false) cP hg0
          have gr1 := hgr.trans (grown_set wr BB i (.bool false))
          obtain ⟨U1, hU1⟩ : ∃ U, wr.setCell ⟨BB, i, none⟩ (.bool false) = U := ⟨_, rfl⟩
          rw [hU1] at br1 cP1 gr1 ⊢
          clear hU1 cP cB fB hbr hgr
          have cB1 : U1.cell? ⟨BB, i, none⟩ = some (.bool false) := by have := br1.cell hlt; simpa using this
          have fB1 := br1.froz
          have hpi := HP.out.inn i hlt hiw hin
          have hpl := (HP.out.lo i hlt).2
          obtain ⟨q, hq⟩ : ∃ q : Nat, pr i = q := ⟨(pr i).toNat, by omega⟩
          rw [hq] at cP1 hpi hpl
          have hqi : q < i := by omega
          have hq0 : 0 ≤ (q : Int) := by omega
          have hqm : (q : Int) < (M.length : Int) := by omega
          have cq : U1.cell? ⟨BB, q, none⟩ = some (.bool true) := by
            have := br1.cell (j := q) (by omega)
            rw [this, if_neg (by omega)]
            have h9 : inI wh s q = true := by unfold inI; simp; omega
            simp [h9, hqi]
          have br2 := br1.set (g := fun j => decide (j < i + 1) && inI wh s j) i true (fun j _ => by
            by_cases hj : j = i
            · subst hj; simp [hin]
            · simp only [if_neg hj]
              rw [show decide (j < i + 1) = decide (j < i) from by simp; omega])
          have gr2 := gr1.trans (grown_set U1 BB i (.bool true))
          have cB2 : (U1.setCell ⟨BB, i, none⟩ (.bool true)).cell? ⟨BB, i, none⟩ = some (.bool true) := by have := br2.cell hlt; simpa [hin] using this
          have HCN : Hid (cntI wh s (i + 1) = cntI wh s i + 1) := cntI_in hin
          clear hq hpi hpl
          go_wp2_with fail
          go_roundw
          case rel => exact ⟨i + 1, by omega, by go_num, by rw [HCN.out]; go_num, br2, gr2⟩
          case measure => simp [intOf]; omega
        | false =>
          go_upto_region 14 with fail
          have br1 := hbr.set (g := fun j => if j = i then false else (decide (j < i) && inI wh s j)) i false (fun j _ => rfl)
          have cP1 := set_far (b := BB) (i := i) (v := .bool false) cP hg0
          have gr1 := hgr.trans (grown_set wr BB i (.bool false))
          obtain ⟨U1, hU1⟩ : ∃ U, wr.setCell ⟨BB, i, none⟩ (.bool false) = U := ⟨_, rfl⟩
          rw [hU1] at br1 cP1 gr1 ⊢
          clear hU1 cP cB fB hbr hgr
          have cB1 : U1.cell? ⟨BB, i, none⟩ = some (.bool false) := by have := br1.cell hlt; simpa using this
          have fB1 := br1.froz
          have br2 : BR U1 BB M.length (fun j => decide (j < i + 1) && inI wh s j) := br1.re (fun j _ => by
            by_cases hj : j = i
            · subst hj; simp [hin]
            · simp only [if_neg hj]
              rw [show decide (j < i + 1) = decide (j < i) from by simp; omega])
          have HCN : Hid (cntI wh s (i + 1) = cntI wh s i) := cntI_out hin
          have hpo := HP.out.out i hlt (.inl hin)
          have hpl := HP.out.lo i hlt
          by_cases hpn : pr i < 0
          · clear hpo hpl
            go_wp2_with fail
            go_roundw
            case rel => exact ⟨i + 1, by omega, by go_num, by rw [HCN.out], br2, gr1⟩
            case measure => simp [intOf]; omega
          · obtain ⟨q, hq⟩ : ∃ q : Nat, pr i = q := ⟨(pr i).toNat, by omega⟩
            rw [hq] at cP1 hpo hpl
            have hqi : q < i := by omega
            have hq0 : 0 ≤ (q : Int) := by omega
            have hqm : (q : Int) < (M.length : Int) := by omega
            have cq : U1.cell? ⟨BB, q, none⟩ = some (.bool false) := by
              have := br1.cell (j := q) (by omega)
              rw [this, if_neg (by omega)]
              have h9 : inI wh s q = false := by unfold inI; simp; omega
              simp [h9]
            clear hq hpo hpl hpn
            go_wp2_with fail
            go_roundw
            case rel => exact ⟨i + 1, by omega, by go_num, by rw [HCN.out], br2, gr1⟩
            case measure => simp [intOf]; omega
      · obtain rfl : i = M.length := by omega
        have hge : ¬ (M.length : Int) < (M.length : Int) := by omega
        have hcn : cntI wh s M.length = s := cntI_all hs1
        rw [hcn]
        have br5 : BR wr BB M.length (inI wh s) := hbr.re (fun j hj => by simp [hj])
        have B5 : Below w2.heap.size w2 wr := B4.trans ⟨hgr.os, hgr.tape, hgr.output, hgr.size, fun j hj => hgr.block j (Nat.lt_of_lt_of_le hj B4.size) (fun e1 => by have := Option.some.inj e1; omega)⟩
        have hd5 := HD4.out.turn (w' := wr) (fun b t ht => hgr.block b (HD4.out.low b t ht).2 (fun e1 => by rw [Option.some.inj e1, tBB] at ht; cases ht)) hgr.size
        have E5 := E2.below B5 (Nat.le_refl _)
        have HD5 : Hid (DocW w2.heap.size tg wr DB MB p (newD n) M.length M.length) := hd5
        clear hbr hgr hcn hd5 hcl
        go_upto_region 18 with fail
        by_cases hw0 : wh = 0
        · subst hw0
          obtain ⟨r, hr, -⟩ := newD_root n
          have RM : Calls Tryd.prog 11 #[.pointer (some ⟨DB, 0, none⟩), .int .i64 ((0 : Nat) : Int)] wr fun r w' => r = .returned (eV (E 3)) ∧ w' = wr := Remove_root E5 HD5.out r hr
          have CD : Calls Tryd.prog 18 #[eV (E 3), .int .i64 3] wr fun e w' => e = .returned (.bool true) ∧ Below wr.heap.size wr w' := coded_at 3 (by decide) (by decide) wr E5
          have CT := fun w' (hb : Below wr.heap.size wr w') => Count_doc (HD5.out.below hb)
          unfold eV at RM CD
          go_wp2_with (first | (go_at_call 11; refine RM.mono ?_; rintro r w6 ⟨rfl, rfl⟩) | (go_at_call 18; refine CD.mono ?_; rintro r w7 ⟨rfl, b7⟩) | (go_at_call 17; refine (CT _ b7).mono ?_; rintro r w8 ⟨rfl, rfl⟩))
          go_ret
          refine ⟨by simp, ?_⟩
          exact mbel BW2 (B5.trans (b7.mono B5.size))
        · have hw0' : ((wh : Int) == 0) = false := by rw [beq_eq_false_iff_ne]; omega
          obtain ⟨e, q, hcut⟩ := HCUT.out hw0
          have RM := Remove_doc HD5.out wh e q hcut.at_ (by omega) hcut.par hcut.kids s (by omega) (nums wh s) hcut.dp hcut.all (left_in hcut) (nums_nodup _ _) (by rw [nums_len]; omega)
          rw [nums_len] at RM
          obtain ⟨CC, hCC⟩ : ∃ CC, M.length - s = CC := ⟨_, rfl⟩
          rw [hCC] at RM
          have hcc : ((CC : Int) != (M.length : Int) - (s : Int)) = false := by simp; omega
          have hCl : CC ≤ 60 := by omega
          have HNN : Hid (∀ i, i < M.length → inI wh s i = true → leftD n wh s e q i = none) := (fun i _ h => left_none h : ∀ i, i < M.length → inI wh s i = true → leftD n wh s e q i = none)
          have HNS : Hid (∀ i, i < M.length → inI wh s i = false → ∃ f, leftD n wh s e q i = some f ∧ f.name ≠ []) := (fun i hi h => left_some hcut HC.out (by rw [HSZ.out]; exact hi) h : ∀ i, i < M.length → inI wh s i = false → ∃ f, leftD n wh s e q i = some f ∧ f.name ≠ [])
          have HRT : Hid (RootD (leftD n wh s e q) M.length) := (by rw [← HSZ.out]; exact left_root hcut : RootD (leftD n wh s e q) M.length)
          obtain ⟨D, hD⟩ : ∃ D, leftD n wh s e q = D := ⟨_, rfl⟩
          rw [show cutE (putE (newD n) e.parent ⟨q.name, q.ats, q.parent, woL q.kids wh⟩) (nums wh s) = D from hD] at RM
          rw [hD] at HNN HNS HRT
          clear hD hcut hCC
          have CTf := fun w' (tg' : Tags) (p' : Int → Option Nat) (hd' : DocW w2.heap.size tg' w' DB MB p' D M.length CC) => Count_doc hd'
          go_upto_region 23 with (first | (go_at_call 11; refine RM.mono ?_; rintro r w6 ⟨rfl, kt6, tg6, p6, tk6, d6⟩) | (go_at_call 17; refine (CTf _ _ _ d6).mono ?_; rintro r w7 ⟨rfl, rfl⟩))
          have br7 : BR w7 BB M.length (inI wh s) := br5.same (kt6.block BB br5.lt tBB)
          have B7 : Below w2.heap.size wr w7 := kt6.below (fun b t ht => (HD5.out.low b t ht).1) B5.size
          have BW7 : Below w2.heap.size w2 w7 := B5.trans B7
          have HD7 : Hid (DocW w2.heap.size tg6 w7 DB MB p6 D M.length CC) := d6
          clear d6 RM kt6 tk6 br5 CTf
          go_wp2_with fail
          go_loopw [14] (fun y wq => ∃ i : Nat, i ≤ M.length ∧ y = .int .i64 i ∧ wq = w7) (fun y _ => M.length - (intOf y).toNat)
          case atStart => exact ⟨0, Nat.zero_le _, rfl, rfl⟩
          case round =>
            obtain ⟨i, hi, rfl, hwq⟩ := hrel
            rw [hwq]
            clear hwq
            by_cases hlt : i < M.length
            · have hlt' : (i : Int) < (M.length : Int) := by omega
              have cb := br7.cell hlt
              have hwi : Wf64 (i : Int) := WalkArith.wf_i64 (by omega)
              cases hin : inI wh s i with
              | true =>
                rw [hin] at cb
                have NA : Calls Tryd.prog 19 #[.pointer (some ⟨DB, 0, none⟩), .int .i64 i] w7 fun r w' => r = .returned (.string ⟨#[]⟩) ∧ w' = w7 := by
                  have h := Name_doc HD7.out (i : Int) hwi
                  rw [HNN.out i hlt hin] at h
                  exact h
                clear hin
                go_wp2_with (go_at_call 19; refine NA.mono ?_; rintro r w8 ⟨rfl, h8⟩; rw [h8]; clear h8)
                go_roundw
                case rel => exact ⟨i + 1, by omega, by go_num, trivial⟩
                case measure => simp [intOf]; omega
              | false =>
                rw [hin] at cb
                obtain ⟨f, hf, hfn⟩ := HNS.out i hlt hin
                have NA : Calls Tryd.prog 19 #[.pointer (some ⟨DB, 0, none⟩), .int .i64 i] w7 fun r w' => r = .returned (.string ⟨f.name.toArray⟩) ∧ w' = w7 := by
                  have h := Name_doc HD7.out (i : Int) hwi
                  rw [hf] at h
                  exact h
                obtain ⟨nm, hnm⟩ : ∃ nm, f.name = nm := ⟨_, rfl⟩
                rw [hnm] at NA hfn
                obtain ⟨c0, r0, rfl⟩ : ∃ c0 r0, nm = c0 :: r0 := by
                  cases nm with
                  | nil => exact absurd rfl hfn
                  | cons c0 r0 => exact ⟨c0, r0, rfl⟩
                clear hin hf hnm hfn
                go_wp2_with (go_at_call 19; refine NA.mono ?_; rintro r w8 ⟨rfl, h8⟩; rw [h8]; clear h8)
                go_roundw
                case rel => exact ⟨i + 1, by omega, by go_num, trivial⟩
                case measure => simp [intOf]; omega
            · obtain rfl : i = M.length := by omega
              have hge2 : ¬ (M.length : Int) < (M.length : Int) := by omega
              go_wp2_with fail
              go_loopw [16] (fun y wq => ∃ (t : Nat) (tg' : Tags) (p' : Int → Option Nat) (D' : Dm), t ≤ mn ∧ y = .int .i64 t ∧ Below w2.heap.size w2 wq ∧ DocW w2.heap.size tg' wq DB MB p' D' (M.length + t) (CC + t) ∧ RootD D' (M.length + t)) (fun y _ => mn - (intOf y).toNat)
              case atStart => exact ⟨0, tg6, p6, D, Nat.zero_le _, rfl, BW7, HD7.out, HRT.out⟩
              case round =>
                obtain ⟨t, tg', p', D', ht, rfl, hbt, hdt, hrt⟩ := hrel
                by_cases hlt : t < mn
                · have hlt' : (t : Int) < (mn : Int) := by omega
                  obtain ⟨⟨r, hr0, hr1, hr2⟩, hr3⟩ := hrt
                  obtain ⟨NX, hNX⟩ : ∃ NX, M.length + t = NX := ⟨_, rfl⟩
                  rw [hNX] at hdt hr2
                  have hnx : ((NX : Int) != (M.length : Int) + (t : Int)) = false := by simp; omega
                  have AD : Calls Tryd.prog 10 #[.pointer (some ⟨DB, 0, none⟩), .int .i64 0, .int .i64 0, .string ⟨#[120]⟩] wr fun r' w' => r' = .returned (.tuple #[.int .i64 NX, .nilIface]) ∧ Below w2.heap.size wr w' ∧ ∃ tg'' p'' D'', DocW w2.heap.size tg'' w' DB MB p'' D'' (NX + 1) (CC + t + 1) ∧ RootD D'' (NX + 1) :=
                    (Add_doc hdt 0 0 [120] r hr0 (Nat.zero_le _) (by decide) 1 ⟨r, hr0, by rw [hr1]; exact hr3⟩ (by decide) (by omega) (by omega) (by omega) hbt.size).mono fun r' w' h => ⟨h.1, h.2.1.below (fun b t ht => (hdt.low b t ht).1) hbt.size, by
                      obtain ⟨tg'', p'', -, h3⟩ := h.2.2
                      exact ⟨tg'', p'', _, h3, RootD.add hr1 hr2 hr3 _⟩⟩
                  have HNX : Hid (M.length + t = NX) := hNX
                  have HBT : Hid (Below w2.heap.size w2 wr) := hbt
                  clear hdt hr0 hr1 hr2 hr3 hNX hbt
                  go_wp2_with (go_at_call 10; refine AD.mono ?_; rintro r' w8 ⟨rfl, b8, tg8, p8, D8, d8, rt8⟩)
                  go_roundw
                  case rel => exact ⟨t + 1, tg8, p8, D8, by omega, by go_num, HBT.out.trans b8, by rw [← Nat.add_assoc, HNX.out, ← Nat.add_assoc]; exact d8, by rw [← Nat.add_assoc, HNX.out]; exact rt8⟩
                  case measure => simp [intOf]; omega
                · have hge3 : ¬ (t : Int) < (mn : Int) := by omega
                  go_wp2_with fail
                  go_ret
                  exact ⟨rfl, mbel BW2 hbt⟩
  · have NW := New_no E n _ _ _ w2 E2 (NdC.below B2 n HA.out) hszs hc
    clear hc
    go_wp2_with (go_at_call 9; refine NW.mono ?_; rintro e w3 ⟨b3, pb, rfl⟩)
    go_ret
    exact ⟨rfl, mbel BW2 b3⟩

end Go.Proofs.YtdebekonggnckacDoor

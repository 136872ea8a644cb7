/-
  StyleNone: the walk.
-/
import Derived.Test.YtcbaeigbfjjmkaaDoorJ26
import Derived.Test.YtcbaeigbfjjmkaaDoorLast1
import Derived.Deep.Cut
import Derived.Deep.CutRange
namespace Go.Proofs.YtcbaeigbfjjmkaaDoor
open Go.RowKit Go.Shelf

theorem newD_inY {n : Nd} {i : Nat} (h : i < szN n) : ∃ e, newD n (i : Int) = some e := by
  rw [newD_at h]
  exact ⟨_, List.getElem?_eq_getElem (by rw [elN_len]; exact h)⟩
/-- A sheet that is read: an error, or its rules. -/
theorem ShR_cases {ea ef : Addr} {b : Nat} {x : Except Nat (List Rl)} {e : Ending} {w : World} (h : ShR ea ef b x e w) :
    (∃ t y, e = .returned (.tuple #[.slice none 0 0, .iface t y])) ∨ (∃ l v, x = .ok l ∧ l.length ≤ 40 ∧ e = .returned (.tuple #[v, .nilIface]) ∧ w.ownsRow b 68 3 v l.length (cellsR l)) := by
  cases x with
  | error k => obtain ⟨pb, h, -⟩ := h; exact .inl ⟨_, _, h⟩
  | ok l =>
    rcases h with ⟨-, h⟩ | ⟨h1, v, h2, h3⟩
    · exact .inl ⟨_, _, h⟩
    · exact .inr ⟨l, v, rfl, h1, h2, h3⟩
def lit1 : Bs := [32, 123, 32, 102, 105, 108, 108, 58, 32]
def lit2 : Bs := [32, 125, 10]
def txM (s wh a b : Bs) : Bs := s ++ wh ++ lit1 ++ a ++ lit2 ++ wh ++ lit1 ++ b ++ lit2
def txL (s wh b : Bs) : Bs := s ++ wh ++ lit1 ++ b ++ lit2
theorem tx_two {s wh a b : Bs} {l more last : List Rl} (h0 : sheetM s = .ok l) (h1 : sheetM (txM s wh a b) = .ok more) (h2 : sheetM (txL s wh b) = .ok last) (hm : more.length = l.length + 2) (hl : last.length = l.length + 1) :
    ∃ r1 r2 : Rl, more = l ++ [r1, r2] ∧ last = l ++ [r2] ∧ r1.wh = wh ∧ r2.wh = wh ∧ r1.nm = kFill ∧ r2.nm = kFill := by
  refine sheets_two (s := s) (wh := wh) (a := a) (b := b) h0 ?_ ?_ hm hl
  · rw [← h1]; congr 1; simp [txM, lit1, lit2, kFill]
  · rw [← h2]; congr 1; simp [txL, lit1, lit2, kFill]

set_option maxRecDepth 20000 in
set_option maxHeartbeats 16000000 in
theorem stylenone_any (E : Nat → Addr) (n : Nd) (a0 a1 a2 : Value) (sa wh sx sy : Bs) (W : World) (hE : SE E W) (ha : NdC W a0 a1 a2 n) :
    Calls Tryd.prog 7 #[.agg #[a0, a1, a2], bV sa, bV wh, bV sx, bV sy] W fun e w' => e = .returned (.bool true) ∧ Below W.heap.size W w' := by
  obtain ⟨na', oa, na, ka, oa', nb', ka', rfl, rfl, rfl⟩ : ∃ (sa : ByteArray) (oa : Option Addr) (na ka : Nat) (oa' : Option Addr) (na' ka' : Nat), a0 = .string sa ∧ a1 = .slice oa na ka ∧ a2 = .slice oa' na' ka' := by
    obtain ⟨nm, ats, ks⟩ := n
    unfold NdC at ha
    obtain ⟨rfl, -, ⟨o, cap, rfl, -⟩, ok, capk, rfl, -⟩ := ha
    exact ⟨_, _, _, _, _, _, _, rfl, rfl, rfl⟩
  have A0 : NB W.heap.size (.string na') (.slice oa na ka) (.slice oa' nb' ka') (W.alloc (.cells #[.string na', .slice oa na ka, .slice oa' nb' ka'] 25)) := mbox W #[.string na', .slice oa na ka, .slice oa' nb' ka'] 25
  have bV0 := mal W (.cells #[.string na', .slice oa na ka, .slice oa' nb' ka'] 25)
  go_enter Tryd.func7, Tryd.ntmps7
  go_upto_region 1 with fail
  obtain ⟨V, hV⟩ : ∃ V, W.alloc (.cells #[.string na', .slice oa na ka, .slice oa' nb' ka'] 25) = V := ⟨_, rfl⟩
  rw [hV] at A0 bV0 ⊢
  clear hV
  have HE : Hid (SE E V) := hE.below bV0
  have HA : Hid (NdC V (.string na') (.slice oa na ka) (.slice oa' nb' ka') n) := NdC.below bV0 n ha
  clear hE ha
  have DK := styled_any V HE.out
  go_upto_region 2 with (go_at_call 28; refine DK.mono ?_; rintro e w1 ⟨rfl, B1⟩)
  clear DK
  have FA := FlatsOf_fit n _ _ _ w1 (NdC.below B1 n HA.out)
  have A1 := (B1.block _ (heap_lt A0)).trans A0
  have x0 := NB.c0 A1
  have x1 := NB.c1 A1
  have x2 := NB.c2 A1
  go_upto_region 3 with (go_at_call 10; refine FA.mono ?_; rintro e w2 ⟨b2, va, rfl, fa⟩)
  clear x0 x1 x2 FA
  have B2 := mbel B1 b2
  have BW2 := mbel bV0 B2
  rcases fa with ⟨-, rfl⟩ | ⟨hfit, Mx, g, cap, rfl, hM0, hM1, hM2, hM3, hM4⟩
  · go_wp2_with fail
    go_ret
    exact ⟨rfl, BW2⟩
  have hM0' : ((Mx.length : Int) == 0) = false := by rw [beq_eq_false_iff_ne]; omega
  have hszM : szN n = Mx.length := by rw [← flN_len n 0 (-1) 1]; exact hM4.len.symm
  have HSZ : Hid (szN n = Mx.length) := hszM
  have hszs : szN n ≤ 150 := by omega
  clear hszM hM3 hM4 hfit
  by_cases hb60 : 40 < Mx.length
  · have hb60' : 40 < (Mx.length : Int) := by omega
    go_wp2_with fail
    go_ret
    exact ⟨rfl, BW2⟩
  have hb60' : ¬ 40 < (Mx.length : Int) := by omega
  by_cases ha60 : 1000 < sa.length
  · have ha60' : 1000 < (sa.length : Int) := by omega
    go_wp2_with fail
    go_ret
    exact ⟨rfl, BW2⟩
  have ha60' : ¬ 1000 < (sa.length : Int) := by omega
  by_cases hw60 : 100 < wh.length
  · have hw60' : 100 < (wh.length : Int) := by omega
    go_wp2_with fail
    go_ret
    exact ⟨rfl, BW2⟩
  have hw60' : ¬ 100 < (wh.length : Int) := by omega
  by_cases hx60 : 60 < sx.length
  · have hx60' : 60 < (sx.length : Int) := by omega
    go_wp2_with fail
    go_ret
    exact ⟨rfl, BW2⟩
  have hx60' : ¬ 60 < (sx.length : Int) := by omega
  by_cases hy60 : 60 < sy.length
  · have hy60' : 60 < (sy.length : Int) := by omega
    go_wp2_with fail
    go_ret
    exact ⟨rfl, BW2⟩
  have hy60' : ¬ 60 < (sy.length : Int) := by omega
  have A2 := (B2.block _ (heap_lt A0)).trans A0
  have x0 := NB.c0 A2
  have x1 := NB.c1 A2
  have x2 := NB.c2 A2
  have E2 := HE.out.below B2
  by_cases hc : (ckN n 1 0).1 = 0
  · have NW := New_S E n _ _ _ w2 E2.ce (NdC.below B2 n HA.out) (by omega) hc
    have HF : Hid (FitD (newD n)) := FitD.new n hc
    have HIN0 : Hid (∀ i : Nat, i < Mx.length → ∃ e, newD n (i : Int) = some e) := fun i hi => newD_inY (by rw [HSZ.out]; exact hi)
    rw [HSZ.out] at NW
    clear hc
    go_upto_region 10 with (go_at_call 11; refine NW.mono ?_; rintro e w3 ⟨b3, DB, MB, tg, p, rfl, d3⟩)
    clear x0 x1 x2 NW A2
    obtain ⟨M, hMe⟩ : ∃ M, newD n = M := ⟨_, rfl⟩
    obtain ⟨r, hre⟩ : ∃ r, rkD n = r := ⟨_, rfl⟩
    rw [hMe] at d3 HF HIN0
    rw [hre] at d3
    clear hMe hre
    have HD3 : Hid (DocS w2.heap.size tg w3 DB MB p M Mx.length Mx.length r) := d3
    clear d3
    have BW3 := mbel BW2 b3
    have E3 := E2.below b3
    have RD := fun s V' (hs : s.length ≤ 10000) (hv : Below w3.heap.size w3 V') => ReadS_any s hs V' (E 1) (E 7) (E3.below hv).text (E3.below hv).ce.c7 (E3.below hv).mx
    have R1 := RD sa w3 (by omega) (Below.refl _ _)
    have R2 : ∀ V', Below w3.heap.size w3 V' → Calls Tryd.prog 29 #[.string ((((((((⟨sa.toArray⟩ : ByteArray) ++ ⟨wh.toArray⟩) ++ ⟨#[32, 123, 32, 102, 105, 108, 108, 58, 32]⟩) ++ ⟨sx.toArray⟩) ++ ⟨#[32, 125, 10]⟩) ++ ⟨wh.toArray⟩) ++ ⟨#[32, 123, 32, 102, 105, 108, 108, 58, 32]⟩) ++ ⟨sy.toArray⟩ ++ ⟨#[32, 125, 10]⟩)] V' fun e w' => ShR (E 1) (E 7) V'.heap.size (sheetM (txM sa wh sx sy)) e w' ∧ Below V'.heap.size V' w' := fun V' hv => by
      have h := RD (txM sa wh sx sy) V' (by simp [txM, lit1, lit2]; omega) hv
      rw [ba_cat, ba_cat, ba_cat, ba_cat, ba_cat, ba_cat, ba_cat, ba_cat]
      exact h
    have R3 : ∀ V', Below w3.heap.size w3 V' → Calls Tryd.prog 29 #[.string ((((⟨sa.toArray⟩ : ByteArray) ++ ⟨wh.toArray⟩) ++ ⟨#[32, 123, 32, 102, 105, 108, 108, 58, 32]⟩) ++ ⟨sy.toArray⟩ ++ ⟨#[32, 125, 10]⟩)] V' fun e w' => ShR (E 1) (E 7) V'.heap.size (sheetM (txL sa wh sy)) e w' ∧ Below V'.heap.size V' w' := fun V' hv => by
      have h := RD (txL sa wh sy) V' (by simp [txL, lit1, lit2]; omega) hv
      rw [ba_cat, ba_cat, ba_cat, ba_cat]
      exact h
    have HTX : Hid (∀ l more last : List Rl, sheetM sa = .ok l → sheetM (txM sa wh sx sy) = .ok more → sheetM (txL sa wh sy) = .ok last → (∀ x ∈ l, RlOk x) ∧ (∀ x ∈ more, RlOk x) ∧ (∀ x ∈ last, RlOk x) ∧ (more.length = l.length + 2 → last.length = l.length + 1 → ∃ r1 r2 : Rl, more = l ++ [r1, r2] ∧ last = l ++ [r2] ∧ r1.wh = wh ∧ r2.wh = wh ∧ r1.nm = kFill ∧ r2.nm = kFill)) := fun l more last h0 h1 h2 => ⟨shA_ok _ _ _ _ (by omega) (fun _ h => by cases h) h0, shA_ok _ _ _ _ (by simp [txM, lit1, lit2]; omega) (fun _ h => by cases h) h1, shA_ok _ _ _ _ (by simp [txL, lit1, lit2]; omega) (fun _ h => by cases h) h2, fun hm hl => tx_two h0 h1 h2 hm hl⟩
    clear RD
    obtain ⟨q1, hq1⟩ : ∃ x, sheetM sa = x := ⟨_, rfl⟩
    obtain ⟨q2, hq2⟩ : ∃ x, sheetM (txM sa wh sx sy) = x := ⟨_, rfl⟩
    obtain ⟨q3, hq3⟩ : ∃ x, sheetM (txL sa wh sy) = x := ⟨_, rfl⟩
    rw [hq1] at R1 HTX
    rw [hq2] at HTX
    rw [hq3] at HTX
    simp only [hq2] at R2
    simp only [hq3] at R3
    clear hq1 hq2 hq3
    go_upto_region 11 with (go_at_call 29; refine R1.mono ?_; rintro e w4 ⟨h4, b4⟩; obtain ⟨v4, u4, rfl⟩ := ShR_any h4)
    have hs4 := ShR_cases h4
    have R2' := R2 w4 b4
    clear R1 R2 h4
    go_upto_region 12 with (go_at_call 29; refine R2'.mono ?_; rintro e w5 ⟨h5, b5⟩; obtain ⟨v5, u5, rfl⟩ := ShR_any h5)
    have hs5 := ShR_cases h5
    have c5 := mbel b4 b5
    have R3' := R3 w5 c5
    clear R2' R3 h5
    go_upto_region 13 with (go_at_call 29; refine R3'.mono ?_; rintro e w6 ⟨h6, b6⟩; obtain ⟨v6, u6, rfl⟩ := ShR_any h6)
    have hs6 := ShR_cases h6
    have c6 := mbel c5 b6
    clear R3' h6
    have BW6 := mbel BW3 c6
    rcases hs4 with ⟨t4, y4, he4⟩ | ⟨l, v4', hl, hl40, he4, ho4⟩
    · cases he4
      clear hs5 hs6
      go_wp2_with fail
      go_ret
      exact ⟨rfl, BW6⟩
    · cases he4
      rcases hs5 with ⟨t5, y5, he5⟩ | ⟨more, v5', hl5, hl540, he5, ho5⟩
      · cases he5
        clear hs6
        go_wp2_with fail
        go_ret
        exact ⟨rfl, BW6⟩
      · cases he5
        rcases hs6 with ⟨t6, y6, he6⟩ | ⟨last, v6', hl6, hl640, he6, ho6⟩
        · cases he6
          go_wp2_with fail
          go_ret
          exact ⟨rfl, BW6⟩
        · cases he6
          obtain ⟨ok1, ok2, ok3, htwo⟩ := HTX.out l more last hl hl5 hl6
          clear HTX hl hl5 hl6
          obtain ⟨ol, kl, hv4⟩ := own_slice ho4
          obtain ⟨om, km, hv5⟩ := own_slice ho5
          obtain ⟨oL, kL, hv6⟩ := own_slice ho6
          subst hv4 hv5 hv6
          have HL : Hid (w6.ownsRow w3.heap.size 68 3 (.slice ol l.length kl) l.length (cellsR l)) := own_bel ho4 (mbel b5 b6)
          have HMo : Hid (w6.ownsRow w4.heap.size 68 3 (.slice om more.length km) more.length (cellsR more)) := own_bel ho5 b6
          have HLa : Hid (w6.ownsRow w5.heap.size 68 3 (.slice oL last.length kL) last.length (cellsR last)) := ho6
          have HDS : Hid (DocS w2.heap.size tg w6 DB MB p M Mx.length Mx.length r) := HD3.out.below c6
          have HK1 : Hid (∀ x ∈ l, RlOk x) := ok1
          have HK2 : Hid (∀ x ∈ more, RlOk x) := ok2
          have HK3 : Hid (∀ x ∈ last, RlOk x) := ok3
          have HTW : Hid (more.length = l.length + 2 → last.length = l.length + 1 → ∃ r1 r2 : Rl, more = l ++ [r1, r2] ∧ last = l ++ [r2] ∧ r1.wh = wh ∧ r2.wh = wh ∧ r1.nm = kFill ∧ r2.nm = kFill) := htwo
          clear ho4 ho5 ho6 ok1 ok2 ok3 htwo HD3 b4 b5 b6 c5 c6 E3 E2
          obtain ⟨ll, hll⟩ : ∃ x, l.length = x := ⟨_, rfl⟩
          obtain ⟨mm, hmm⟩ : ∃ x, more.length = x := ⟨_, rfl⟩
          obtain ⟨la, hla⟩ : ∃ x, last.length = x := ⟨_, rfl⟩
          rw [hll] at HL HTW hl40 ⊢
          rw [hmm] at HMo HTW hl540 ⊢
          rw [hla] at HLa HTW hl640 ⊢
          have HLL : Hid (l.length = ll) := hll
          have HMM : Hid (more.length = mm) := hmm
          have HLN : Hid (last.length = la) := hla
          clear hll hmm hla
          by_cases hm2 : mm = ll + 2
          · have hm2' : ((mm : Int) != (ll : Int) + 2) = false := by simp; omega
            by_cases hl1 : la = ll + 1
            · have hl1' : ((la : Int) != (ll : Int) + 1) = false := by simp; omega
              obtain ⟨r1, r2, hmo, hlo, hw1, hw2, hn1, hn2⟩ := HTW.out hm2 hl1
              have HLT : Hid (ll < la) := (by omega : ll < la)
              clear hm2 hl1 HTW
              have hlt1 : (ll : Int) < (la : Int) := by have := HLT.out; omega
              have HAL : Hid (∀ i : Int, ofM M more kFill i = ofM M last kFill i ∧ ofM M more kLevel i = ofM M l kLevel i ∧ (fitsUp M wh 12 i = false → ofM M more kFill i = ofM M l kFill i)) := fun i => by rw [hmo, hlo]; exact none_all hw1 hw2 hn1 hn2 i
              have hx2 : last[ll]? = some r2 := by rw [hlo, ← HLL.out]; simp
              obtain ⟨q0, -, -⟩ := cellsR_at hx2
              obtain ⟨gL, hgL, cL⟩ := row_get HLa.out _ _ q0
              rw [hw2] at cL
              have hoL : oL = some ⟨gL, 0, none⟩ := by
                obtain ⟨o', c', h1, h2, h3, h4, h5⟩ := row_slice HLa.out
                cases h1
                exact h5 gL hgL
              have hkL : (la : Int) ≤ (kL : Int) := by
                obtain ⟨o', c', h1, h2, h3, -⟩ := row_slice HLa.out
                cases h1
                omega
              subst hoL
              have hwn : wh ≠ [] := by
                rw [← hw2]
                exact sel_neY (HK3.out r2 (List.mem_of_getElem? hx2)).1
              have HCL : Hid (w6.cell? ⟨gL, ll * 3, none⟩ = some (bV wh)) := cL
              have HWN : Hid (wh ≠ []) := hwn
              clear hmo hlo hw1 hw2 hn1 hn2 hx2 q0 hgL cL hwn HLT
              go_upto_region 18 with fail
              go_loopw [21] (fun y wr => ∃ i : Nat, i ≤ Mx.length ∧ y = .int .i64 i ∧ Below w6.heap.size w6 wr) (fun y _ => Mx.length - (intOf y).toNat)
              case atStart => exact ⟨0, Nat.zero_le _, rfl, Below.refl _ _⟩
              case round =>
                obtain ⟨i, hi, rfl, hb⟩ := hrel
                by_cases hlt : i < Mx.length
                · have hlt' : (i : Int) < (Mx.length : Int) := by omega
                  obtain ⟨ei, hei⟩ := HIN0.out i hlt
                  have HEI : Hid (M (i : Int) = some ei) := hei
                  have hi64 : Wf64 (i : Int) := HDS.out.w.i64 hei
                  have hri := (HDS.out.d.rb i ei hei).2
                  clear hei
                  obtain ⟨e1, e2, e3⟩ := HAL.out i
                  have OM : ∀ X, Below w6.heap.size w6 X → Calls Tryd.prog 30 #[.pointer (some ⟨DB, 0, none⟩), .slice om mm km, .int .i64 i, .string ⟨#[102, 105, 108, 108]⟩] X fun e w' => e = .returned (bV (ofM M more kFill i)) ∧ Below X.heap.size X w' := fun X hx => Of_any (HDS.out.below hx).w HDS.out.d HF.out more HK2.out w4.heap.size _ (by rw [HMM.out]; exact own_bel HMo.out hx) i hi64 kFill
                  have OA : ∀ X, Below w6.heap.size w6 X → Calls Tryd.prog 30 #[.pointer (some ⟨DB, 0, none⟩), .slice (some ⟨gL, 0, none⟩) la kL, .int .i64 i, .string ⟨#[102, 105, 108, 108]⟩] X fun e w' => e = .returned (bV (ofM M more kFill i)) ∧ Below X.heap.size X w' := fun X hx => by rw [e1]; exact Of_any (HDS.out.below hx).w HDS.out.d HF.out last HK3.out w5.heap.size _ (by rw [HLN.out]; exact own_bel HLa.out hx) i hi64 kFill
                  have LM : ∀ X, Below w6.heap.size w6 X → Calls Tryd.prog 30 #[.pointer (some ⟨DB, 0, none⟩), .slice om mm km, .int .i64 i, .string ⟨#[108, 101, 118, 101, 108]⟩] X fun e w' => e = .returned (bV (ofM M l kLevel i)) ∧ Below X.heap.size X w' := fun X hx => by rw [← e2]; exact Of_any (HDS.out.below hx).w HDS.out.d HF.out more HK2.out w4.heap.size _ (by rw [HMM.out]; exact own_bel HMo.out hx) i hi64 kLevel
                  have LL : ∀ X, Below w6.heap.size w6 X → Calls Tryd.prog 30 #[.pointer (some ⟨DB, 0, none⟩), .slice ol ll kl, .int .i64 i, .string ⟨#[108, 101, 118, 101, 108]⟩] X fun e w' => e = .returned (bV (ofM M l kLevel i)) ∧ Below X.heap.size X w' := fun X hx => Of_any (HDS.out.below hx).w HDS.out.d HF.out l HK1.out w3.heap.size _ (by rw [HLL.out]; exact own_bel HL.out hx) i hi64 kLevel
                  have FL : ∀ X, fitsUp M wh 12 i = false → Below w6.heap.size w6 X → Calls Tryd.prog 30 #[.pointer (some ⟨DB, 0, none⟩), .slice ol ll kl, .int .i64 i, .string ⟨#[102, 105, 108, 108]⟩] X fun e w' => e = .returned (bV (ofM M more kFill i)) ∧ Below X.heap.size X w' := fun X hf hx => by rw [e3 hf]; exact Of_any (HDS.out.below hx).w HDS.out.d HF.out l HK1.out w3.heap.size _ (by rw [HLL.out]; exact own_bel HL.out hx) i hi64 kFill
                  clear e1 e2 e3
                  obtain ⟨v1, hv1⟩ : ∃ v, ofM M more kFill i = v := ⟨_, rfl⟩
                  obtain ⟨v2, hv2⟩ : ∃ v, ofM M l kLevel i = v := ⟨_, rfl⟩
                  simp only [hv1] at OM OA FL
                  simp only [hv2] at LM LL
                  clear hv1 hv2
                  have HFL : Hid (∀ X, fitsUp M wh 12 i = false → Below w6.heap.size w6 X → Calls Tryd.prog 30 #[.pointer (some ⟨DB, 0, none⟩), .slice ol ll kl, .int .i64 i, .string ⟨#[102, 105, 108, 108]⟩] X fun e w' => e = .returned (bV v1) ∧ Below X.heap.size X w') := FL
                  clear FL
                  go_upto_region 24 with (first
                    | (have hh := g3; go_at_call 30; refine (LL _ (mbel hb (mbel g1 (mbel g2 g3)))).mono ?_; rintro e y4 ⟨rfl, g4⟩)
                    | (have hh := g2; go_at_call 30; refine (LM _ (mbel hb (mbel g1 g2))).mono ?_; rintro e y3 ⟨rfl, g3⟩)
                    | (have hh := g1; go_at_call 30; refine (OA _ (mbel hb g1)).mono ?_; rintro e y2 ⟨rfl, g2⟩)
                    | (go_at_call 30; refine (OM _ hb).mono ?_; rintro e y1 ⟨rfl, g1⟩))
                  have hb4 := mbel hb (mbel g1 (mbel g2 (mbel g3 g4)))
                  clear OA LM LL g1 g2 g3 g4
                  go_loopw [22, 23] (fun z y wr => ∃ (f : Nat) (k : Int) (bb : Bool), y = .int .i64 k ∧ z = .bool bb ∧ Wf64 k ∧ (bb || fitsUp M wh f k) = fitsUp M wh 12 i ∧ (k < 0 ∨ ∃ e, M k = some e ∧ r k ≤ f) ∧ Below w6.heap.size w6 wr) (fun _ y _ => if intOf y < 0 then 0 else r (intOf y))
                  case atStart => exact ⟨12, i, false, rfl, rfl, hi64, by simp, .inr ⟨ei, HEI.out, by omega⟩, hb4⟩
                  case round =>
                    obtain ⟨f, k, bb, rfl, rfl, hk64, hof, hin, hbk⟩ := hrel
                    have HOF : Hid ((bb || fitsUp M wh f k) = fitsUp M wh 12 i) := hof
                    have HIN : Hid (k < 0 ∨ ∃ e, M k = some e ∧ r k ≤ f) := hin
                    clear hof hin
                    by_cases hk : k < 0
                    · have hk' : ¬ (0 : Int) ≤ k := by omega
                      have hbb : bb = fitsUp M wh 12 i := by rw [← HOF.out, fitsUp_neg hk]; simp
                      have HBB : Hid (bb = fitsUp M wh 12 i) := hbb
                      clear hbb
                      cases bb with
                      | true =>
                        go_wp2_with fail
                        go_roundw
                        case rel => exact ⟨i + 1, by omega, by go_num, hbk⟩
                        case measure => simp [intOf]; omega
                      | false =>
                        have F1 := OM _ hbk
                        have F2 := fun X hx => HFL.out X HBB.out.symm hx
                        go_wp2_with (first
                          | (have hh := g1; go_at_call 30; refine (F2 _ (mbel hbk g1)).mono ?_; rintro e y2 ⟨rfl, g2⟩)
                          | (go_at_call 30; refine F1.mono ?_; rintro e y1 ⟨rfl, g1⟩))
                        go_roundw
                        case rel => exact ⟨i + 1, by omega, by go_num, mbel hbk (mbel g1 g2)⟩
                        case measure => simp [intOf]; omega
                    · have hk' : (0 : Int) ≤ k := by omega
                      have hin : ∃ e, M k = some e ∧ r k ≤ f := by
                        rcases HIN.out with h | h
                        · exact absurd h hk
                        · exact h
                      obtain ⟨ek, hek, hrf⟩ := hin
                      have hr1 := (HDS.out.d.rb k ek hek).1
                      obtain ⟨f, rfl⟩ : ∃ g, f = g + 1 := ⟨f - 1, by omega⟩
                      have hpp : (parM M k < 0) ∨ ((0 ≤ parM M k) ∧ ∃ q, M (parM M k) = some q ∧ r k = r (parM M k) + 1) := by
                        by_cases h0 : k = 0
                        · subst h0; rw [HDS.out.d.root_par]; exact .inl (by decide)
                        · obtain ⟨q, hq, hr⟩ := HDS.out.d.up_par hek h0
                          exact .inr ⟨HDS.out.d.pos hq, q, hq, hr⟩
                      have hup : (bb || (fitsM M wh k || fitsUp M wh f (parM M k))) = fitsUp M wh 12 i := by
                        rw [← HOF.out, fitsUp, if_neg hk]
                      have hp64 := wd_par64 HDS.out.w k
                      have FT := Fits_doc (HDS.out.below hbk).w HDS.out.d HF.out wh (by omega) HWN.out k hk64
                      have PA : ∀ X, Below w6.heap.size w6 X → Calls Tryd.prog 14 #[.pointer (some ⟨DB, 0, none⟩), .int .i64 k] X fun r w' => r = .returned (.int .i64 (parM M k)) ∧ w' = X := fun X hx => Parent_doc (HDS.out.below hx).w k hk64
                      obtain ⟨pk, hpk⟩ : ∃ x, parM M k = x := ⟨_, rfl⟩
                      obtain ⟨ft, hft⟩ : ∃ x, fitsM M wh k = x := ⟨_, rfl⟩
                      rw [hpk] at hpp hp64 hup
                      simp only [hpk] at PA
                      rw [hft] at FT hup
                      have HUP : Hid ((bb || (ft || fitsUp M wh f pk)) = fitsUp M wh 12 i) := hup
                      have HPP : Hid ((pk < 0) ∨ ((0 ≤ pk) ∧ ∃ q, M pk = some q ∧ r k = r pk + 1)) := hpp
                      clear hpk hft hpp hup hek HOF HIN
                      have cL := (hbk.cell (cell_lt3 HCL.out)).trans HCL.out
                      cases ft with
                      | true =>
                        go_upto_region 27 with (go_at_call 25; refine FT.mono ?_; rintro e y1 ⟨rfl, g1⟩)
                        have PA1 := PA _ (mbel hbk g1)
                        go_wp2_with (go_at_call 14; refine PA1.mono ?_; rintro e y2 ⟨rfl, h⟩; rw [h]; clear h)
                        go_roundw
                        case rel =>
                          refine ⟨f, pk, true, rfl, rfl, hp64, ?_, ?_, mbel hbk g1⟩
                          · have h := HUP.out
                            simpa using h
                          · rcases HPP.out with h | ⟨_, q, hq, hr⟩
                            · exact .inl h
                            · exact .inr ⟨q, hq, by omega⟩
                        case measure =>
                          have hkn : ¬ k < 0 := by omega
                          show (if pk < 0 then 0 else r pk) < (if k < 0 then 0 else r k)
                          rw [if_neg hkn]
                          rcases HPP.out with h | ⟨h1, q, hq, hr⟩
                          · rw [if_pos h]; omega
                          · rw [if_neg (show ¬ pk < 0 by omega)]; omega
                      | false =>
                        go_upto_region 25 with (go_at_call 25; refine FT.mono ?_; rintro e y1 ⟨rfl, g1⟩)
                        have PA1 := PA _ (mbel hbk g1)
                        go_wp2_with (go_at_call 14; refine PA1.mono ?_; rintro e y2 ⟨rfl, h⟩; rw [h]; clear h)
                        go_roundw
                        case rel =>
                          refine ⟨f, pk, bb, rfl, rfl, hp64, ?_, ?_, mbel hbk g1⟩
                          · have h := HUP.out
                            simpa using h
                          · rcases HPP.out with h | ⟨_, q, hq, hr⟩
                            · exact .inl h
                            · exact .inr ⟨q, hq, by omega⟩
                        case measure =>
                          have hkn : ¬ k < 0 := by omega
                          show (if pk < 0 then 0 else r pk) < (if k < 0 then 0 else r k)
                          rw [if_neg hkn]
                          rcases HPP.out with h | ⟨h1, q, hq, hr⟩
                          · rw [if_pos h]; omega
                          · rw [if_neg (show ¬ pk < 0 by omega)]; omega
                · have hge : ¬ (i : Int) < (Mx.length : Int) := by omega
                  go_wp2_with fail
                  go_ret
                  exact ⟨rfl, mbel BW6 hb⟩
            · have hl1' : ((la : Int) != (ll : Int) + 1) = true := by simp; omega
              clear hm2 hl1 HTW
              go_wp2_with fail
              go_ret
              exact ⟨rfl, BW6⟩
          · have hm2' : ((mm : Int) != (ll : Int) + 2) = true := by simp; omega
            clear hm2 HTW
            go_wp2_with fail
            go_ret
            exact ⟨rfl, BW6⟩
  · have NW := New_no E n _ _ _ w2 E2.ce (NdC.below B2 n HA.out) (by omega) hc
    clear hc
    go_wp2_with (go_at_call 11; refine NW.mono ?_; rintro e w3 ⟨b3, pb, rfl⟩)
    go_ret
    exact ⟨rfl, mbel BW2 b3⟩
theorem stylenone_ba (E : Nat → Addr) (n : Nd) (a0 a1 a2 : Value) (s1 s2 s3 s4 : ByteArray) (W : World) (hE : SE E W) (ha : NdC W a0 a1 a2 n) :
    Calls Tryd.prog 7 #[.agg #[a0, a1, a2], .string s1, .string s2, .string s3, .string s4] W fun e w' => e = .returned (.bool true) ∧ Below W.heap.size W w' := by
  have h := stylenone_any E n a0 a1 a2 s1.data.toList s2.data.toList s3.data.toList s4.data.toList W hE ha
  have e1 : (⟨s1.data.toList.toArray⟩ : ByteArray) = s1 := by cases s1; simp
  have e2 : (⟨s2.data.toList.toArray⟩ : ByteArray) = s2 := by cases s2; simp
  have e3 : (⟨s3.data.toList.toArray⟩ : ByteArray) = s3 := by cases s3; simp
  have e4 : (⟨s4.data.toList.toArray⟩ : ByteArray) = s4 := by cases s4; simp
  unfold bV at h
  rw [e1, e2, e3, e4] at h
  exact h

end Go.Proofs.YtcbaeigbfjjmkaaDoor

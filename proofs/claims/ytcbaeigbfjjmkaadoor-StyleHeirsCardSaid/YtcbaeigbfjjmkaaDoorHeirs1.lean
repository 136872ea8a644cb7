/-
  StyleHeirs: the walk.
-/
import Derived.Test.YtcbaeigbfjjmkaaDoorJ26
import Derived.Test.YtcbaeigbfjjmkaaDoorLast1
import Derived.Deep.Cut
import Derived.Deep.CutRange
import Derived.BigQuiet
namespace Go.Proofs.YtcbaeigbfjjmkaaDoor
open Go.RowKit Go.Shelf

/-- The names of a style, as the law has them. -/
def nmsK : List Bs := [kFill, kRule, kShow, kLevel]
theorem nmsK_at {k : Nat} (h : k < 4) : ∃ nm, nmsK[k]? = some nm ∧ isNmS nm = true ∧ isInh nm = decide (k < 2) := by
  rcases k with _ | _ | _ | _ | k
  · exact ⟨_, rfl, rfl, rfl⟩
  · exact ⟨_, rfl, rfl, rfl⟩
  · exact ⟨_, rfl, rfl, rfl⟩
  · exact ⟨_, rfl, rfl, rfl⟩
  · omega
def nmV : Array Value := #[.string ⟨#[102, 105, 108, 108]⟩, .string ⟨#[114, 117, 108, 101]⟩, .string ⟨#[115, 104, 111, 119]⟩, .string ⟨#[108, 101, 118, 101, 108]⟩]
theorem nmV_at {k : Nat} {nm : Bs} (h : nmsK[k]? = some nm) : nmV[k]? = some (bV nm) := by
  rcases k with _ | _ | _ | _ | k
  · cases h; rfl
  · cases h; rfl
  · cases h; rfl
  · cases h; rfl
  · simp [nmsK] at h
theorem newD_in {n : Nd} {i : Nat} (h : i < szN n) : ∃ e, newD n (i : Int) = some e := by
  rw [newD_at h]
  exact ⟨_, List.getElem?_eq_getElem (by rw [elN_len]; exact h)⟩
theorem any_take (q : Rl → Bool) {l : List Rl} {j : Nat} {x : Rl} (h : l[j]? = some x) : (l.take (j + 1)).any q = ((l.take j).any q || q x) := by
  rw [List.take_add_one, h]
  simp
theorem any_false {q : Rl → Bool} {l : List Rl} (h : l.any q = false) : ∀ x ∈ l, q x = false := fun x hx => by
  rw [List.any_eq_false] at h
  simpa using h x hx

set_option maxRecDepth 20000 in
set_option maxHeartbeats 16000000 in
theorem styleheirs_any (E : Nat → Addr) (n : Nd) (a0 a1 a2 : Value) (sa : Bs) (W : World) (hE : SE E W) (ha : NdC W a0 a1 a2 n) :
    Calls Tryd.prog 8 #[.agg #[a0, a1, a2], bV sa] W fun e w' => e = .returned (.bool true) ∧ Below W.heap.size W w' := by
  obtain ⟨na', oa, na, ka, oa', nb', ka', rfl, rfl, rfl⟩ : ∃ (sa : ByteArray) (oa : Option Addr) (na ka : Nat) (oa' : Option Addr) (na' ka' : Nat), a0 = .string sa ∧ a1 = .slice oa na ka ∧ a2 = .slice oa' na' ka' := by
    obtain ⟨nm, ats, ks⟩ := n
    unfold NdC at ha
    obtain ⟨rfl, -, ⟨o, cap, rfl, -⟩, ok, capk, rfl, -⟩ := ha
    exact ⟨_, _, _, _, _, _, _, rfl, rfl, rfl⟩
  have A0 : NB W.heap.size (.string na') (.slice oa na ka) (.slice oa' nb' ka') (W.alloc (.cells #[.string na', .slice oa na ka, .slice oa' nb' ka'] 25)) := mbox W #[.string na', .slice oa na ka, .slice oa' nb' ka'] 25
  have bV0 := mal W (.cells #[.string na', .slice oa na ka, .slice oa' nb' ka'] 25)
  go_enter Tryd.func8, Tryd.ntmps8
  go_upto_region 1 with fail
  obtain ⟨V, hV⟩ : ∃ V, W.alloc (.cells #[.string na', .slice oa na ka, .slice oa' nb' ka'] 25) = V := ⟨_, rfl⟩
  rw [hV] at A0 bV0 ⊢
  clear hV
  have HE : Hid (SE E V) := hE.below bV0
  have HA : Hid (NdC V (.string na') (.slice oa na ka) (.slice oa' nb' ka') n) := NdC.below bV0 n ha
  clear hE ha
  have DK := styled_any V HE.out
  go_upto_region 2 with (go_at_call 28; refine DK.mono ?_; rintro e w1 ⟨rfl, B1⟩)
  clear DK
  have FA := FlatsOf_fit n _ _ _ w1 (NdC.below B1 n HA.out)
  have A1 := (B1.block _ (heap_lt A0)).trans A0
  have x0 := NB.c0 A1
  have x1 := NB.c1 A1
  have x2 := NB.c2 A1
  go_upto_region 3 with (go_at_call 10; refine FA.mono ?_; rintro e w2 ⟨b2, va, rfl, fa⟩)
  clear x0 x1 x2 FA
  have B2 := mbel B1 b2
  have BW2 := mbel bV0 B2
  rcases fa with ⟨-, rfl⟩ | ⟨hfit, Mx, g, cap, rfl, hM0, hM1, hM2, hM3, hM4⟩
  · go_wp2_with fail
    go_ret
    exact ⟨rfl, BW2⟩
  have hM0' : ((Mx.length : Int) == 0) = false := by rw [beq_eq_false_iff_ne]; omega
  have hszM : szN n = Mx.length := by rw [← flN_len n 0 (-1) 1]; exact hM4.len.symm
  have HSZ : Hid (szN n = Mx.length) := hszM
  have hszs : szN n ≤ 150 := by omega
  clear hszM hM3 hM4 hfit
  by_cases hb60 : 40 < Mx.length
  · have hb60' : 40 < (Mx.length : Int) := by omega
    go_wp2_with fail
    go_ret
    exact ⟨rfl, BW2⟩
  have hb60' : ¬ 40 < (Mx.length : Int) := by omega
  by_cases ha60 : 1500 < sa.length
  · have ha60' : 1500 < (sa.length : Int) := by omega
    go_wp2_with fail
    go_ret
    exact ⟨rfl, BW2⟩
  have ha60' : ¬ 1500 < (sa.length : Int) := by omega
  have A2 := (B2.block _ (heap_lt A0)).trans A0
  have x0 := NB.c0 A2
  have x1 := NB.c1 A2
  have x2 := NB.c2 A2
  have E2 := HE.out.below B2
  have RD := fun V' (hv : Below w2.heap.size w2 V') => ReadS_any sa (by omega) V' (E 1) (E 7) (E2.below hv).text (E2.below hv).ce.c7 (E2.below hv).mx
  by_cases hc : (ckN n 1 0).1 = 0
  · have NW := New_S E n _ _ _ w2 E2.ce (NdC.below B2 n HA.out) (by omega) hc
    have HF : Hid (FitD (newD n)) := FitD.new n hc
    have HIN0 : Hid (∀ i : Nat, i < Mx.length → ∃ e, newD n (i : Int) = some e) := fun i hi => newD_in (by rw [HSZ.out]; exact hi)
    rw [HSZ.out] at NW
    clear hc
    go_upto_region 6 with (go_at_call 11; refine NW.mono ?_; rintro e w3 ⟨b3, DB, MB, tg, p, rfl, d3⟩)
    clear x0 x1 x2 NW A2
    obtain ⟨M, hMe⟩ : ∃ M, newD n = M := ⟨_, rfl⟩
    obtain ⟨r, hre⟩ : ∃ r, rkD n = r := ⟨_, rfl⟩
    rw [hMe] at d3 HF HIN0
    rw [hre] at d3
    clear hMe hre
    have HD3 : Hid (DocS w2.heap.size tg w3 DB MB p M Mx.length Mx.length r) := d3
    clear d3
    have RD3 := RD w3 b3
    clear RD
    have BW3 := mbel BW2 b3
    cases hsh : sheetM sa with
    | error ke =>
      rw [hsh] at RD3
      clear hsh
      unfold ShR at RD3
      go_wp2_with (go_at_call 29; refine RD3.mono ?_; rintro e w4 ⟨⟨pb, rfl, -⟩, b4⟩)
      go_ret
      exact ⟨rfl, mbel BW3 b4⟩
    | ok l =>
      rw [hsh] at RD3
      have HK : Hid (∀ x ∈ l, RlOk x) := shA_ok _ _ _ _ (by omega) (fun _ h => by cases h) hsh
      clear hsh
      unfold ShR at RD3
      by_cases h40 : 40 < l.length
      · have RD4 := RD3.mono (fun e w (h : _ ∧ Below w3.heap.size w3 w) => (⟨by rcases h.1 with ⟨-, h⟩ | ⟨h, -⟩; exact h; omega, h.2⟩ : e = .returned (.tuple #[.slice none 0 0, .iface 200 (.pointer (some (E 7)))]) ∧ Below w3.heap.size w3 w))
        clear RD3
        go_wp2_with (go_at_call 29; refine RD4.mono ?_; rintro e w4 ⟨rfl, b4⟩)
        go_ret
        exact ⟨rfl, mbel BW3 b4⟩
      · have RD4 := RD3.mono (fun e w (h : _ ∧ Below w3.heap.size w3 w) => (⟨by rcases h.1 with ⟨h, -⟩ | ⟨-, h⟩; omega; exact h, h.2⟩ : (∃ v, e = .returned (.tuple #[v, .nilIface]) ∧ w.ownsRow w3.heap.size 68 3 v l.length (cellsR l)) ∧ Below w3.heap.size w3 w))
        clear RD3
        go_upto_region 7 with (go_at_call 29; refine RD4.mono ?_; rintro e w4 ⟨⟨lv, rfl, ho⟩, b4⟩)
        clear RD4
        obtain ⟨ov, kv, hvv⟩ := own_slice ho
        subst hvv
        have BW4 := mbel BW3 b4
        have n5 := mbox w4 nmV 9
        have b5 := mal w4 (.cells nmV 9)
        have HD5 := HD3.out.below (mbel b4 b5)
        have ho5 := own_bel ho b5
        have BW5 := mbel BW4 b5
        go_upto_region 11 with fail
        obtain ⟨V5, hV5⟩ : ∃ V, w4.alloc (.cells nmV 9) = V := ⟨_, rfl⟩
        obtain ⟨NB5, hNB⟩ : ∃ V, w4.heap.size = V := ⟨_, rfl⟩
        rw [show w4.alloc (.cells #[.string ⟨#[102, 105, 108, 108]⟩, .string ⟨#[114, 117, 108, 101]⟩, .string ⟨#[115, 104, 111, 119]⟩, .string ⟨#[108, 101, 118, 101, 108]⟩] 9) = w4.alloc (.cells nmV 9) from rfl]
        rw [hV5] at n5 b5 HD5 ho5 BW5 ⊢
        rw [hNB] at n5 ⊢
        have HDS : Hid (DocS w2.heap.size tg V5 DB MB p M Mx.length Mx.length r) := HD5
        have HO : Hid (V5.ownsRow w3.heap.size 68 3 (.slice ov l.length kv) l.length (cellsR l)) := ho5
        have HNM : Hid (V5.heap[NB5]? = some (.cells nmV 9)) := n5
        clear hV5 hNB n5 b5 HD5 ho5 ho b4 b3 HD3
        go_loopw [12] (fun y wr => ∃ i : Nat, i ≤ Mx.length ∧ y = .int .i64 i ∧ Below V5.heap.size V5 wr) (fun y _ => Mx.length - (intOf y).toNat)
        case atStart => exact ⟨0, Nat.zero_le _, rfl, Below.refl _ _⟩
        case round =>
          obtain ⟨i, hi, rfl, hb⟩ := hrel
          by_cases hlt : i < Mx.length
          · have hlt' : (i : Int) < (Mx.length : Int) := by omega
            obtain ⟨ei, hei⟩ := HIN0.out i hlt
            have HEI : Hid (M (i : Int) = some ei) := hei
            have hi64 : Wf64 (i : Int) := HDS.out.w.i64 hei
            clear hei
            go_upto_region 14 with fail
            go_loopw [13] (fun y wx => ∃ k : Nat, k ≤ 4 ∧ y = .int .i64 k ∧ Below V5.heap.size V5 wx) (fun y _ => 4 - (intOf y).toNat)
            case atStart => exact ⟨0, Nat.zero_le _, rfl, hb⟩
            case round =>
              obtain ⟨k, hk, rfl, hbk⟩ := hrel
              by_cases hk4 : k < 4
              · have hk4' : (k : Int) < 4 := by omega
                obtain ⟨nm, hnm, hisn, hinh⟩ := nmsK_at hk4
                have cN := bcell ((hbk.block _ (heap_lt HNM.out)).trans HNM.out) k _ (nmV_at hnm)
                have HIS : Hid (isNmS nm = true) := hisn
                have HINH : Hid (isInh nm = decide (k < 2)) := hinh
                have HCN : Hid (∀ X, Below V5.heap.size V5 X → X.cell? ⟨NB5, k, none⟩ = some (bV nm)) := fun X hx => bcell ((hx.block _ (heap_lt HNM.out)).trans HNM.out) k _ (nmV_at hnm)
                clear hnm hisn hinh
                have OF := Of_any (HDS.out.below hbk).w HDS.out.d HF.out l HK.out w3.heap.size _ (own_bel HO.out hbk) i hi64 nm
                obtain ⟨v, hv⟩ : ∃ v, ofM M l nm i = v := ⟨_, rfl⟩
                rw [hv] at OF
                have HV : Hid (ofM M l nm i = v) := hv
                clear hv
                go_upto_region 17 with (go_at_call 30; refine OF.mono ?_; rintro e x1 ⟨rfl, c1⟩)
                clear OF cN
                have C1 := mbel hbk c1
                have cN := HCN.out x1 C1
                have AT : Calls Tryd.prog 31 #[.pointer (some ⟨DB, 0, none⟩), .int .i64 i, bV nm] x1 fun r w' => r = .returned (.tuple #[bV ((atM M i nm).getD []), .bool (atM M i nm).isSome]) ∧ Below x1.heap.size x1 w' := Attr_doc (HDS.out.below C1).w i hi64 nm
                cases hat : atM M i nm with
                | some ow =>
                  rw [hat] at AT
                  simp only [Option.getD_some, Option.isSome_some] at AT
                  have hvo : v = ow := by rw [← HV.out]; exact ofM_own HDS.out.d HEI.out HIS.out hat
                  subst hvo
                  clear hat
                  go_upto_region 22 with (go_at_call 31; refine AT.mono ?_; rintro e x2 ⟨rfl, c2⟩)
                  clear AT cN
                  have C2 := mbel C1 c2
                  go_loopw [17, 18] (fun z y wy => ∃ j : Nat, j ≤ l.length ∧ y = .int .i64 j ∧ z = .bool ((l.take j).any (rlFits M nm i)) ∧ Below V5.heap.size V5 wy) (fun _ y _ => l.length - (intOf y).toNat)
                  case atStart => exact ⟨0, Nat.zero_le _, rfl, rfl, C2⟩
                  case round =>
                    obtain ⟨j, hj, rfl, rfl, hbj⟩ := hrel
                    by_cases hjl : j < l.length
                    · have hjl' : (j : Int) < (l.length : Int) := by omega
                      obtain ⟨x, hx⟩ : ∃ x, l[j]? = some x := ⟨_, List.getElem?_eq_getElem hjl⟩
                      obtain ⟨q0, q1, -⟩ := cellsR_at hx
                      obtain ⟨gj, hgb, e0⟩ := row_get (own_bel HO.out hbj) _ _ q0
                      obtain ⟨gj1, hgb1, e1⟩ := row_get (own_bel HO.out hbj) _ _ q1
                      rw [hgb] at hgb1
                      cases hgb1
                      have hov : ov = some ⟨gj, 0, none⟩ := by
                        rcases HO.out.2 with ⟨_, e1⟩ | ⟨g1, cap1, cur, e1, _⟩
                        · omega
                        · cases e1; cases hgb; rfl
                      have hkv : (l.length : Int) ≤ (kv : Int) := by
                        obtain ⟨o', c', h1, h2, h3, -⟩ := row_slice HO.out
                        cases h1
                        omega
                      subst hov
                      have HAN : Hid ((l.take (j + 1)).any (rlFits M nm i) = ((l.take j).any (rlFits M nm i) || rlFits M nm i x)) := any_take _ hx
                      have HOK : Hid (RlOk x) := HK.out x (List.mem_of_getElem? hx)
                      clear hx q0 q1 hgb
                      obtain ⟨zz, hzz⟩ : ∃ z, (l.take j).any (rlFits M nm i) = z := ⟨_, rfl⟩
                      rw [hzz] at HAN ⊢
                      clear hzz
                      have cN := HCN.out wr hbj
                      have F1 := fun X (hx : Below wr.heap.size wr X) => Fits_doc (HDS.out.below (mbel hbj hx)).w HDS.out.d HF.out x.wh HOK.out.2.2.2 (sel_neY HOK.out.1) i hi64
                      have hq := ba_toL x.nm nm
                      have r0 := cell_regrown e0
                      have r1 := cell_regrown e1
                      have r2 := cell_regrown cN
                      go_upto_region 24 with fail
                      refine wp_region_quiet_below (by kernel_rfl) (by kernel_rfl) ?_
                      cases hqq : (x.nm == nm) with
                      | false =>
                        rw [hqq] at hq
                        have HRF : Hid (rlFits M nm i x = false) := (by unfold rlFits; rw [hqq]; rfl : rlFits M nm i x = false)
                        repeat (go_big_quiet_step (fail))
                        refine wpQuiet_nil ?_
                        intro _ hw'
                        obtain ⟨pp, hw''⟩ := hw'
                        subst hw''
                        have b24 := below_regrown wr pp.d pp.os
                        generalize Go.Sort.grow (redrawn wr pp.d) pp.os = w24 at b24 ⊢
                        clear r0 r1 r2
                        go_wp2_with fail
                        go_roundw
                        case rel => exact ⟨j + 1, by omega, by go_num, by rw [HAN.out, HRF.out, Bool.or_false], mbel hbj b24⟩
                        case measure => simp [intOf]; omega
                      | true =>
                        rw [hqq] at hq
                        obtain ⟨ft, hft⟩ : ∃ b, fitsM M x.wh i = b := ⟨_, rfl⟩
                        have HRF : Hid (rlFits M nm i x = ft) := (by unfold rlFits; rw [hqq, hft]; rfl : rlFits M nm i x = ft)
                        simp only [hft] at F1
                        clear hft
                        have f1 : ∀ d os, Calls Tryd.prog 25 #[.agg #[bV x.wh], .pointer (some ⟨DB, 0, none⟩), .int .i64 i] (Go.Sort.grow (redrawn wr d) os) fun e w'' => e = .returned (.bool ft) ∧ ∃ p : Regrown, w'' = Go.Sort.grow (redrawn wr p.d) p.os := fun d os => Calls.regrown_of (F1 _ (below_regrown wr d os))
                        repeat (go_big_quiet_step ((go_at_call 25; exact f1 _ _)))
                        refine wpQuiet_nil ?_
                        intro _ hw'
                        obtain ⟨pp, hw''⟩ := hw'
                        subst hw''
                        have b24 := below_regrown wr pp.d pp.os
                        generalize Go.Sort.grow (redrawn wr pp.d) pp.os = w24 at b24 ⊢
                        clear r0 r1 r2 f1
                        cases ft with
                        | false =>
                          go_wp2_with fail
                          go_roundw
                          case rel => exact ⟨j + 1, by omega, by go_num, by rw [HAN.out, HRF.out, Bool.or_false], mbel hbj b24⟩
                          case measure => simp [intOf]; omega
                        | true =>
                          go_wp2_with fail
                          go_roundw
                          case rel => exact ⟨j + 1, by omega, by go_num, by rw [HAN.out, HRF.out, Bool.or_true], mbel hbj b24⟩
                          case measure => simp [intOf]; omega
                    · obtain rfl : j = l.length := by omega
                      have hge : ¬ (l.length : Int) < (l.length : Int) := by omega
                      have HTK : Hid (l.take l.length = l) := List.take_length
                      rw [HTK.out]
                      go_upto_region 26 with fail
                      refine wp_region_quiet_below (by kernel_rfl) (by kernel_rfl) ?_
                      repeat (go_big_quiet_step (fail))
                      refine wpQuiet_nil ?_
                      intro _ hw'
                      obtain ⟨pp, hw''⟩ := hw'
                      subst hw''
                      have b26 := below_regrown wr pp.d pp.os
                      generalize Go.Sort.grow (redrawn wr pp.d) pp.os = w26 at b26 ⊢
                      go_wp2_with fail
                      go_roundw
                      case rel => exact ⟨k + 1, by omega, by go_num, mbel hbj b26⟩
                      case measure => simp [intOf]; omega
                | none =>
                  rw [hat] at AT
                  simp only [Option.getD_none, Option.isSome_none] at AT
                  have HAT : Hid (atM M i nm = none) := hat
                  clear hat
                  go_upto_region 22 with (go_at_call 31; refine AT.mono ?_; rintro e x2 ⟨rfl, c2⟩)
                  clear AT cN
                  have C2 := mbel C1 c2
                  go_loopw [17, 18] (fun z y wy => ∃ j : Nat, j ≤ l.length ∧ y = .int .i64 j ∧ z = .bool ((l.take j).any (rlFits M nm i)) ∧ Below V5.heap.size V5 wy) (fun _ y _ => l.length - (intOf y).toNat)
                  case atStart => exact ⟨0, Nat.zero_le _, rfl, rfl, C2⟩
                  case round =>
                    obtain ⟨j, hj, rfl, rfl, hbj⟩ := hrel
                    by_cases hjl : j < l.length
                    · have hjl' : (j : Int) < (l.length : Int) := by omega
                      obtain ⟨x, hx⟩ : ∃ x, l[j]? = some x := ⟨_, List.getElem?_eq_getElem hjl⟩
                      obtain ⟨q0, q1, -⟩ := cellsR_at hx
                      obtain ⟨gj, hgb, e0⟩ := row_get (own_bel HO.out hbj) _ _ q0
                      obtain ⟨gj1, hgb1, e1⟩ := row_get (own_bel HO.out hbj) _ _ q1
                      rw [hgb] at hgb1
                      cases hgb1
                      have hov : ov = some ⟨gj, 0, none⟩ := by
                        rcases HO.out.2 with ⟨_, e1⟩ | ⟨g1, cap1, cur, e1, _⟩
                        · omega
                        · cases e1; cases hgb; rfl
                      have hkv : (l.length : Int) ≤ (kv : Int) := by
                        obtain ⟨o', c', h1, h2, h3, -⟩ := row_slice HO.out
                        cases h1
                        omega
                      subst hov
                      have HAN : Hid ((l.take (j + 1)).any (rlFits M nm i) = ((l.take j).any (rlFits M nm i) || rlFits M nm i x)) := any_take _ hx
                      have HOK : Hid (RlOk x) := HK.out x (List.mem_of_getElem? hx)
                      clear hx q0 q1 hgb
                      obtain ⟨zz, hzz⟩ : ∃ z, (l.take j).any (rlFits M nm i) = z := ⟨_, rfl⟩
                      rw [hzz] at HAN ⊢
                      clear hzz
                      have cN := HCN.out wr hbj
                      have F1 := fun X (hx : Below wr.heap.size wr X) => Fits_doc (HDS.out.below (mbel hbj hx)).w HDS.out.d HF.out x.wh HOK.out.2.2.2 (sel_neY HOK.out.1) i hi64
                      have hq := ba_toL x.nm nm
                      have r0 := cell_regrown e0
                      have r1 := cell_regrown e1
                      have r2 := cell_regrown cN
                      go_upto_region 24 with fail
                      refine wp_region_quiet_below (by kernel_rfl) (by kernel_rfl) ?_
                      cases hqq : (x.nm == nm) with
                      | false =>
                        rw [hqq] at hq
                        have HRF : Hid (rlFits M nm i x = false) := (by unfold rlFits; rw [hqq]; rfl : rlFits M nm i x = false)
                        repeat (go_big_quiet_step (fail))
                        refine wpQuiet_nil ?_
                        intro _ hw'
                        obtain ⟨pp, hw''⟩ := hw'
                        subst hw''
                        have b24 := below_regrown wr pp.d pp.os
                        generalize Go.Sort.grow (redrawn wr pp.d) pp.os = w24 at b24 ⊢
                        clear r0 r1 r2
                        go_wp2_with fail
                        go_roundw
                        case rel => exact ⟨j + 1, by omega, by go_num, by rw [HAN.out, HRF.out, Bool.or_false], mbel hbj b24⟩
                        case measure => simp [intOf]; omega
                      | true =>
                        rw [hqq] at hq
                        obtain ⟨ft, hft⟩ : ∃ b, fitsM M x.wh i = b := ⟨_, rfl⟩
                        have HRF : Hid (rlFits M nm i x = ft) := (by unfold rlFits; rw [hqq, hft]; rfl : rlFits M nm i x = ft)
                        simp only [hft] at F1
                        clear hft
                        have f1 : ∀ d os, Calls Tryd.prog 25 #[.agg #[bV x.wh], .pointer (some ⟨DB, 0, none⟩), .int .i64 i] (Go.Sort.grow (redrawn wr d) os) fun e w'' => e = .returned (.bool ft) ∧ ∃ p : Regrown, w'' = Go.Sort.grow (redrawn wr p.d) p.os := fun d os => Calls.regrown_of (F1 _ (below_regrown wr d os))
                        repeat (go_big_quiet_step ((go_at_call 25; exact f1 _ _)))
                        refine wpQuiet_nil ?_
                        intro _ hw'
                        obtain ⟨pp, hw''⟩ := hw'
                        subst hw''
                        have b24 := below_regrown wr pp.d pp.os
                        generalize Go.Sort.grow (redrawn wr pp.d) pp.os = w24 at b24 ⊢
                        clear r0 r1 r2 f1
                        cases ft with
                        | false =>
                          go_wp2_with fail
                          go_roundw
                          case rel => exact ⟨j + 1, by omega, by go_num, by rw [HAN.out, HRF.out, Bool.or_false], mbel hbj b24⟩
                          case measure => simp [intOf]; omega
                        | true =>
                          go_wp2_with fail
                          go_roundw
                          case rel => exact ⟨j + 1, by omega, by go_num, by rw [HAN.out, HRF.out, Bool.or_true], mbel hbj b24⟩
                          case measure => simp [intOf]; omega
                    · obtain rfl : j = l.length := by omega
                      have hge : ¬ (l.length : Int) < (l.length : Int) := by omega
                      have HTK : Hid (l.take l.length = l) := List.take_length
                      rw [HTK.out]
                      obtain ⟨rd, hrd⟩ : ∃ z, l.any (rlFits M nm i) = z := ⟨_, rfl⟩
                      rw [hrd]
                      have HRD : Hid (l.any (rlFits M nm i) = rd) := hrd
                      clear hrd
                      have cN := HCN.out wr hbj
                      have r2 := cell_regrown cN
                      cases rd with
                      | true =>
                        go_upto_region 26 with fail
                        refine wp_region_quiet_below (by kernel_rfl) (by kernel_rfl) ?_
                        repeat (go_big_quiet_step (fail))
                        refine wpQuiet_nil ?_
                        intro _ hw'
                        obtain ⟨pp, hw''⟩ := hw'
                        subst hw''
                        have b26 := below_regrown wr pp.d pp.os
                        generalize Go.Sort.grow (redrawn wr pp.d) pp.os = w26 at b26 ⊢
                        go_wp2_with fail
                        go_roundw
                        case rel => exact ⟨k + 1, by omega, by go_num, mbel hbj b26⟩
                        case measure => simp [intOf]; omega
                      | false =>
                        have HNF : Hid (∀ x ∈ l, rlFits M nm i x = false) := any_false HRD.out
                        by_cases hk2 : k < 2
                        · have hk2' : (k : Int) < 2 := by omega
                          have hk2m : ¬ 2 ≤ k := by omega
                          have hk2d : decide (2 ≤ (k : Int)) = false := decide_eq_false (by omega)
                          have hk2n : ¬ (2 : Int) ≤ (k : Int) := by omega
                          have HI : Hid (isInh nm = true) := (by rw [HINH.out]; exact decide_eq_true hk2 : isInh nm = true)
                          by_cases hi0 : i = 0
                          · have hi0' : ¬ (0 : Int) < (i : Int) := by omega
                            have hi0n : ¬ 0 < i := by omega
                            have hi0e : ((i : Int) == 0) = true := by rw [beq_iff_eq]; omega
                            have hi0f : (i == 0) = true := by rw [beq_iff_eq]; omega
                            clear hi0
                            go_upto_region 26 with fail
                            refine wp_region_quiet_below (by kernel_rfl) (by kernel_rfl) ?_
                            repeat (go_big_quiet_step (fail))
                            refine wpQuiet_nil ?_
                            intro _ hw'
                            obtain ⟨pp, hw''⟩ := hw'
                            subst hw''
                            have b26 := below_regrown wr pp.d pp.os
                            generalize Go.Sort.grow (redrawn wr pp.d) pp.os = w26 at b26 ⊢
                            have OF0 : Calls Tryd.prog 30 #[.pointer (some ⟨DB, 0, none⟩), .slice none 0 0, .int .i64 0, bV nm] w26 fun e w' => e = .returned (bV (ofM M [] nm 0)) ∧ Below w26.heap.size w26 w' := Of_any (HDS.out.below (mbel hbj b26)).w HDS.out.d HF.out [] (fun _ h => by cases h) 0 (.slice none 0 0) (World.ownsRow_nil _ _ _ _) 0 (by decide) nm
                            obtain ⟨o, ho⟩ : ∃ o, ofM M [] nm 0 = o := ⟨_, rfl⟩
                            rw [ho] at OF0
                            have HO0 : Hid (ofM M [] nm 0 = o) := ho
                            clear ho
                            have cM := HCN.out w26 (mbel hbj b26)
                            have hvo := ba_toL v o
                            cases hvq : (v == o) with
                            | true =>
                              rw [hvq] at hvo
                              go_wp2_with (go_at_call 30; refine OF0.mono ?_; rintro e y1 ⟨rfl, g1⟩)
                              go_roundw
                              case rel => exact ⟨k + 1, by omega, by go_num, mbel (mbel hbj b26) g1⟩
                              case measure => simp [intOf]; omega
                            | false =>
                              rw [hvq] at hvo
                              go_wp2_with (go_at_call 30; refine OF0.mono ?_; rintro e y1 ⟨rfl, g1⟩)
                              go_roundw
                              case rel => exact ⟨k + 1, by omega, by go_num, mbel (mbel hbj b26) g1⟩
                              case measure => simp [intOf]; omega
                          · have hi0' : (0 : Int) < (i : Int) := by omega
                            have hi0n : 0 < i := by omega
                            have hi0d : decide (0 < (i : Int)) = true := decide_eq_true hi0'
                            have hi0e : ((i : Int) == 0) = false := by rw [beq_eq_false_iff_ne]; omega
                            have hih : (i : Int) ≠ 0 := by omega
                            have hpar := ofM_heir HDS.out.d HEI.out HIS.out HAT.out HNF.out HI.out hih
                            have hp64 := wd_par64 HDS.out.w (i : Int)
                            have PAR : ∀ d os, Calls Tryd.prog 14 #[.pointer (some ⟨DB, 0, none⟩), .int .i64 i] (Go.Sort.grow (redrawn wr d) os) fun e w'' => e = .returned (.int .i64 (parM M i)) ∧ ∃ p : Regrown, w'' = Go.Sort.grow (redrawn wr p.d) p.os := fun d os => Calls.regrown_of ((Parent_doc (HDS.out.below (mbel hbj (below_regrown wr d os))).w i hi64).mono fun _ _ h => ⟨h.1, by rw [h.2]; exact Below.refl _ _⟩)
                            obtain ⟨pk, hpk⟩ : ∃ x, parM M i = x := ⟨_, rfl⟩
                            rw [hpk] at hpar hp64
                            simp only [hpk] at PAR
                            clear hpk
                            have OFP : ∀ d os, Calls Tryd.prog 30 #[.pointer (some ⟨DB, 0, none⟩), .slice ov l.length kv, .int .i64 pk, bV nm] (Go.Sort.grow (redrawn wr d) os) fun e w'' => e = .returned (bV v) ∧ ∃ p : Regrown, w'' = Go.Sort.grow (redrawn wr p.d) p.os := fun d os => by
                              have h := Calls.regrown_of (Of_any (HDS.out.below (mbel hbj (below_regrown wr d os))).w HDS.out.d HF.out l HK.out w3.heap.size _ (own_bel HO.out (mbel hbj (below_regrown wr d os))) pk hp64 nm)
                              rw [← hpar, HV.out] at h
                              exact h
                            clear hpar
                            go_upto_region 26 with fail
                            refine wp_region_quiet_below (by kernel_rfl) (by kernel_rfl) ?_
                            repeat (go_big_quiet_step ((first | (go_at_call 14; exact PAR _ _) | (go_at_call 30; exact OFP _ _))))
                            refine wpQuiet_nil ?_
                            intro _ hw'
                            obtain ⟨pp, hw''⟩ := hw'
                            subst hw''
                            have b26 := below_regrown wr pp.d pp.os
                            generalize Go.Sort.grow (redrawn wr pp.d) pp.os = w26 at b26 ⊢
                            go_wp2_with fail
                            go_roundw
                            case rel => exact ⟨k + 1, by omega, by go_num, mbel hbj b26⟩
                            case measure => simp [intOf]; omega
                        · have hk2' : ¬ (k : Int) < 2 := by omega
                          have hk2m : 2 ≤ k := by omega
                          have hk2d : decide (2 ≤ (k : Int)) = true := decide_eq_true (by omega)
                          have hk2n : (2 : Int) ≤ (k : Int) := by omega
                          have HI : Hid (isInh nm = false) := (by rw [HINH.out]; exact decide_eq_false hk2 : isInh nm = false)
                          go_upto_region 26 with fail
                          refine wp_region_quiet_below (by kernel_rfl) (by kernel_rfl) ?_
                          repeat (go_big_quiet_step (fail))
                          refine wpQuiet_nil ?_
                          intro _ hw'
                          obtain ⟨pp, hw''⟩ := hw'
                          subst hw''
                          have b26 := below_regrown wr pp.d pp.os
                          generalize Go.Sort.grow (redrawn wr pp.d) pp.os = w26 at b26 ⊢
                          have OF0 : Calls Tryd.prog 30 #[.pointer (some ⟨DB, 0, none⟩), .slice none 0 0, .int .i64 0, bV nm] w26 fun e w' => e = .returned (bV (ofM M [] nm 0)) ∧ Below w26.heap.size w26 w' := Of_any (HDS.out.below (mbel hbj b26)).w HDS.out.d HF.out [] (fun _ h => by cases h) 0 (.slice none 0 0) (World.ownsRow_nil _ _ _ _) 0 (by decide) nm
                          obtain ⟨o, ho⟩ : ∃ o, ofM M [] nm 0 = o := ⟨_, rfl⟩
                          rw [ho] at OF0
                          have HO0 : Hid (ofM M [] nm 0 = o) := ho
                          clear ho
                          have cM := HCN.out w26 (mbel hbj b26)
                          have hvo := ba_toL v o
                          cases hvq : (v == o) with
                          | true =>
                            rw [hvq] at hvo
                            go_wp2_with (go_at_call 30; refine OF0.mono ?_; rintro e y1 ⟨rfl, g1⟩)
                            go_roundw
                            case rel => exact ⟨k + 1, by omega, by go_num, mbel (mbel hbj b26) g1⟩
                            case measure => simp [intOf]; omega
                          | false =>
                            rw [hvq] at hvo
                            by_cases hi0 : i = 0
                            · have hi0' : ¬ (0 : Int) < (i : Int) := by omega
                              have hi0n : ¬ 0 < i := by omega
                              clear hi0
                              go_wp2_with (go_at_call 30; refine OF0.mono ?_; rintro e y1 ⟨rfl, g1⟩)
                              go_roundw
                              case rel => exact ⟨k + 1, by omega, by go_num, mbel (mbel hbj b26) g1⟩
                              case measure => simp [intOf]; omega
                            · have hi0' : (0 : Int) < (i : Int) := by omega
                              have hi0n : 0 < i := by omega
                              have hro : (atM M 0 nm).isSome = true := by
                                cases h0 : atM M 0 nm with
                                | some _ => rfl
                                | none =>
                                  obtain ⟨e0, he0, -⟩ := HDS.out.d.root
                                  have h1 : o = firstM nm := by rw [← HO0.out]; exact ofM_first HDS.out.d he0 HIS.out h0 (fun _ h => by cases h) HI.out
                                  have h2 : v = firstM nm := by rw [← HV.out]; exact ofM_first HDS.out.d HEI.out HIS.out HAT.out HNF.out HI.out
                                  rw [h1, h2] at hvq
                                  simp at hvq
                              obtain ⟨ro, hroo⟩ : ∃ x, (attD M 0 nm).getD [] = x := ⟨_, rfl⟩
                              have AT0 : ∀ V, Below w26.heap.size w26 V → Calls Tryd.prog 31 #[.pointer (some ⟨DB, 0, none⟩), .int .i64 0, bV nm] V fun r w' => r = .returned (.tuple #[bV ro, .bool true]) ∧ Below V.heap.size V w' := fun V hv => by
                                have h := Attr_doc (HDS.out.below (mbel (mbel hbj b26) hv)).w 0 (by decide) nm
                                rw [hroo, show (attD M 0 nm).isSome = true from hro] at h
                                exact h
                              clear hroo hro
                              go_upto_region 29 with (go_at_call 30; refine OF0.mono ?_; rintro e y1 ⟨rfl, g1⟩)
                              have AT1 := AT0 y1 g1
                              have cO := HCN.out y1 (mbel (mbel hbj b26) g1)
                              clear AT0
                              go_wp2_with (go_at_call 31; refine AT1.mono ?_; rintro e y2 ⟨rfl, g2⟩)
                              go_roundw
                              case rel => exact ⟨k + 1, by omega, by go_num, mbel (mbel (mbel hbj b26) g1) g2⟩
                              case measure => simp [intOf]; omega
              · obtain rfl : k = 4 := by omega
                go_wp2_with fail
                go_roundw
                case rel => exact ⟨i + 1, by omega, by go_num, hbk⟩
                case measure => simp [intOf]; omega
          · have hge : ¬ (i : Int) < (Mx.length : Int) := by omega
            go_wp2_with fail
            go_ret
            exact ⟨rfl, mbel BW5 hb⟩
  · have NW := New_no E n _ _ _ w2 E2.ce (NdC.below B2 n HA.out) (by omega) hc
    clear hc
    go_upto_region 6 with (go_at_call 11; refine NW.mono ?_; rintro e w3 ⟨b3, pb, rfl⟩)
    have RD3 := RD w3 b3
    clear RD NW
    have RD4 := RD3.mono (fun e w (h : _ ∧ Below w3.heap.size w3 w) => (⟨ShR_any h.1, h.2⟩ : (∃ v u, e = .returned (.tuple #[v, u])) ∧ Below w3.heap.size w3 w))
    clear RD3
    go_wp2_with (go_at_call 29; refine RD4.mono ?_; rintro e w4 ⟨⟨v4, u4, rfl⟩, b4⟩)
    go_ret
    exact ⟨rfl, mbel (mbel BW2 b3) b4⟩
theorem styleheirs_ba (E : Nat → Addr) (n : Nd) (a0 a1 a2 : Value) (s1 : ByteArray) (W : World) (hE : SE E W) (ha : NdC W a0 a1 a2 n) :
    Calls Tryd.prog 8 #[.agg #[a0, a1, a2], .string s1] W fun e w' => e = .returned (.bool true) ∧ Below W.heap.size W w' := by
  have h := styleheirs_any E n a0 a1 a2 s1.data.toList W hE ha
  have e1 : (⟨s1.data.toList.toArray⟩ : ByteArray) = s1 := by cases s1; simp
  unfold bV at h
  rw [e1] at h
  exact h

end Go.Proofs.YtcbaeigbfjjmkaaDoor

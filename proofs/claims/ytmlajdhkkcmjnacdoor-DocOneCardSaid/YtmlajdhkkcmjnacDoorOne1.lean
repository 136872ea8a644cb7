/-
  DocOne: the walk.
-/
import Derived.Test.YtmlajdhkkcmjnacDoorDoc24
import Derived.Test.YtmlajdhkkcmjnacDoorActs1
import Derived.Test.YtmlajdhkkcmjnacDoorNew1
namespace Go.Proofs.YtmlajdhkkcmjnacDoor
open Go.RowKit

theorem str_ne {s : ByteArray} {l : List UInt8} (h : s ≠ ⟨l.toArray⟩) : (s.toList == l) = false := by
  rw [beq_eq_false_iff_ne]
  intro e
  apply h
  rw [ByteArray.toList_eq] at e
  cases s
  simp at e
  simp [← e]
set_option maxRecDepth 20000 in
set_option maxHeartbeats 16000000 in
theorem docone_any (E : Nat → Addr) (n : Nd) (a0 a1 a2 : Value) (l : List Ac) (ol : Option Addr) (kl : Nat) (W : World) (hE : DE E W) (ha : NdC W a0 a1 a2 n) (hac : AcsAt W ol l) :
    Calls Tryd.prog 3 #[.agg #[a0, a1, a2], .slice ol l.length kl] W fun e w' => e = .returned (.bool true) ∧ Below W.heap.size W w' := by
  obtain ⟨sa, oa, na, ka, oa', na', ka', rfl, rfl, rfl⟩ : ∃ (sa : ByteArray) (oa : Option Addr) (na ka : Nat) (oa' : Option Addr) (na' ka' : Nat), a0 = .string sa ∧ a1 = .slice oa na ka ∧ a2 = .slice oa' na' ka' := by
    obtain ⟨nm, ats, ks⟩ := n
    unfold NdC at ha
    obtain ⟨rfl, -, ⟨o, cap, rfl, -⟩, ok, capk, rfl, -⟩ := ha
    exact ⟨_, _, _, _, _, _, _, rfl, rfl, rfl⟩
  have A0 : NB W.heap.size (.string sa) (.slice oa na ka) (.slice oa' na' ka') (W.alloc (.cells #[.string sa, .slice oa na ka, .slice oa' na' ka'] 25)) := mbox W #[.string sa, .slice oa na ka, .slice oa' na' ka'] 25
  have bV := mal W (.cells #[.string sa, .slice oa na ka, .slice oa' na' ka'] 25)
  go_enter Tryd.func3, Tryd.ntmps3
  go_upto_region 1 with fail
  obtain ⟨V, hV⟩ : ∃ V, W.alloc (.cells #[.string sa, .slice oa na ka, .slice oa' na' ka'] 25) = V := ⟨_, rfl⟩
  rw [hV] at A0 bV ⊢
  clear hV
  have HE : Hid (DE E V) := hE.below bV (Nat.le_refl _)
  have HA : Hid (NdC V (.string sa) (.slice oa na ka) (.slice oa' na' ka') n) := NdC.below bV n ha
  have HL : Hid (AcsAt V ol l) := hac.below bV
  clear hE ha hac
  have DK := docked_any V HE.out
  go_upto_region 2 with (go_at_call 7; refine DK.mono ?_; rintro e w1 ⟨rfl, B1⟩)
  clear DK
  have FA := FlatsOf_fit n _ _ _ w1 (NdC.below B1 n HA.out)
  have A1 := (B1.block _ (heap_lt A0)).trans A0
  have x0 := NB.c0 A1
  have x1 := NB.c1 A1
  have x2 := NB.c2 A1
  go_upto_region 3 with (go_at_call 8; refine FA.mono ?_; rintro e w2 ⟨b2, va, rfl, fa⟩)
  clear x0 x1 x2 FA
  have B2 := mbel B1 b2
  have BW2 := mbel bV B2
  rcases fa with ⟨-, rfl⟩ | ⟨hfit, M, g, cap, rfl, hM0, hM1, hM2, hM3, hM4⟩
  · go_wp2_with fail
    go_ret
    exact ⟨rfl, BW2⟩
  have hM0' : ((M.length : Int) == 0) = false := by rw [beq_eq_false_iff_ne]; omega
  have hszM : szN n = M.length := by rw [← flN_len n 0 (-1) 1]; exact hM4.len.symm
  have hszs : szN n ≤ 150 := by omega
  by_cases hb60 : 60 < l.length
  · have hb60' : 60 < (l.length : Int) := by omega
    clear hszM
    go_wp2_with fail
    go_ret
    exact ⟨rfl, BW2⟩
  have hb60' : ¬ 60 < (l.length : Int) := by omega
  clear hszM hM1 hM3 hM4 hfit
  have A2 := (B2.block _ (heap_lt A0)).trans A0
  have x0 := NB.c0 A2
  have x1 := NB.c1 A2
  have x2 := NB.c2 A2
  have E2 := HE.out.below B2 (Nat.le_refl _)
  have L2 := HL.out.below B2
  by_cases hc : (ckN n 1 0).1 = 0
  · have NW := New_S E n _ _ _ w2 E2 (NdC.below B2 n HA.out) (by omega) hc
    obtain ⟨S, hS⟩ : ∃ S, szN n = S := ⟨_, rfl⟩
    rw [hS] at NW hszs
    clear hc hS
    go_upto_region 8 with (go_at_call 9; refine NW.mono ?_; rintro e w3 ⟨b3, DB, MB, tg0, p0, rfl, d3⟩)
    clear x0 x1 x2 NW A2
    have HL2 : Hid (AcsAt w2 ol l) := L2
    have HE2 : Hid (DE E w2) := E2
    clear L2 E2
    go_wp2_with fail
    go_loopw [9] (fun yi wr => ∃ (i : Nat) (tg : Tags) (p : Int → Option Nat) (M : Dm) (nx c : Nat) (r : Int → Nat), i ≤ l.length ∧ yi = .int .i64 i ∧ Below w2.heap.size w2 wr ∧ DocS w2.heap.size tg wr DB MB p M nx c r ∧ nx ≤ S + i) (fun yi _ => l.length - (intOf yi).toNat)
    case atStart => exact ⟨0, tg0, p0, newD n, S, S, rkD n, Nat.zero_le _, rfl, b3, d3, Nat.le_refl _⟩
    case round =>
      obtain ⟨i, tg, p, M, nx, c, r, hi, rfl, hB, hD, hnx⟩ := hrel
      by_cases hlt : i < l.length
      · have hlt' : (i : Int) < (l.length : Int) := by omega
        obtain ⟨x, hx⟩ : ∃ x, l[i]? = some x := ⟨_, List.getElem?_eq_getElem hlt⟩
        obtain ⟨b, off, rfl, hxc⟩ := HL2.out i x hx
        have hxc := hxc.below hB
        have y0 := hxc.c0
        have y1 := hxc.c1
        have y2 := hxc.c2
        have y3 := hxc.c3
        have y4 := hxc.c4
        have y5 := hxc.c5
        unfold strV at y0 y4 y5
        go_upto_region 12 with fail
        have hwn := hxc.wn
        have hwm := hxc.wm
        have X0 := mbox wr #[.string ⟨x.kind.toArray⟩, .int .i64 x.n, .int .i64 x.m, .int .i64 x.a, .string ⟨x.name.toArray⟩, .string ⟨x.value.toArray⟩] 36
        have bU := mal wr (.cells #[.string ⟨x.kind.toArray⟩, .int .i64 x.n, .int .i64 x.m, .int .i64 x.a, .string ⟨x.name.toArray⟩, .string ⟨x.value.toArray⟩] 36)
        have dU := hD.below bU
        have tX : tg wr.heap.size = none := hD.w.new (Nat.le_refl _)
        have BU : Below w2.heap.size w2 (wr.alloc (.cells #[.string ⟨x.kind.toArray⟩, .int .i64 x.n, .int .i64 x.m, .int .i64 x.a, .string ⟨x.name.toArray⟩, .string ⟨x.value.toArray⟩] 36)) := hB.trans (bU.mono hB.size)
        obtain ⟨U, hU⟩ : ∃ U, wr.alloc (.cells #[.string ⟨x.kind.toArray⟩, .int .i64 x.n, .int .i64 x.m, .int .i64 x.a, .string ⟨x.name.toArray⟩, .string ⟨x.value.toArray⟩] 36) = U := ⟨_, rfl⟩
        rw [hU] at X0 bU dU BU ⊢
        obtain ⟨XB, hXB⟩ : ∃ XB, wr.heap.size = XB := ⟨_, rfl⟩
        rw [hXB] at X0 tX ⊢
        obtain ⟨kb, hkb⟩ : ∃ kb : ByteArray, ⟨x.kind.toArray⟩ = kb := ⟨_, rfl⟩
        rw [hkb] at X0 ⊢
        have EU := HE2.out.below BU (Nat.le_refl _)
        have HDU : Hid (DocS w2.heap.size tg U DB MB p M nx c r) := dU
        have HBU : Hid (Below w2.heap.size w2 U) := BU
        have HXB : Hid (U.heap[XB]? = some (.cells #[.string kb, .int .i64 x.n, .int .i64 x.m, .int .i64 x.a, .string ⟨x.name.toArray⟩, .string ⟨x.value.toArray⟩] 36)) := X0
        have z0 : U.cell? ⟨XB, 0, none⟩ = some (.string kb) := bcell X0 0 _ rfl
        have z1 : U.cell? ⟨XB, 1, none⟩ = some (.int .i64 x.n) := bcell X0 1 _ rfl
        have z2 : U.cell? ⟨XB, 2, none⟩ = some (.int .i64 x.m) := bcell X0 2 _ rfl
        have z3 : U.cell? ⟨XB, 3, none⟩ = some (.int .i64 x.a) := bcell X0 3 _ rfl
        obtain ⟨xn, hxn⟩ : ∃ xn, x.n = xn := ⟨_, rfl⟩
        obtain ⟨xm, hxm⟩ : ∃ xm, x.m = xm := ⟨_, rfl⟩
        obtain ⟨xa, hxa⟩ : ∃ xa, x.a = xa := ⟨_, rfl⟩
        rw [hxn] at z1 hwn HXB ⊢
        rw [hxm] at z2 hwm HXB ⊢
        rw [hxa] at z3 HXB ⊢
        clear hxn hxm hxa y0 y1 y2 y3 y4 y5 hxc hkb hXB hU bU hD hB X0 dU BU hx
        by_cases hk1 : kb = ⟨#[97, 100, 100]⟩
        · subst hk1
          have AD : Calls Tryd.prog 10 #[.pointer (some ⟨DB, 0, none⟩), .int .i64 xn, .int .i64 xa, .string ⟨#[120]⟩] U fun e w' => (∃ x y, e = .returned (.tuple #[x, y])) ∧ ActR w2.heap.size tg U DB MB nx w' := Add_any EU HDU.out xn xa [120] hwn (by decide) (by omega)
          go_wp2_with (go_at_call 10; refine AD.mono ?_; rintro e' w4 ⟨⟨v1, v2, rfl⟩, r4⟩)
          obtain ⟨k4, tg4, p4, M4, nx4, c4, r4', -, d4, hn4⟩ := r4
          go_roundw
          case rel => exact ⟨i + 1, tg4, p4, M4, nx4, c4, r4', by omega, by go_num, HBU.out.trans (k4.below (fun b t ht => (HDU.out.w.low b t ht).1) HDU.out.low), d4, by omega⟩
          case measure => simp [intOf]; omega
        by_cases hk2 : kb = ⟨#[114, 101, 109, 111, 118, 101]⟩
        · subst hk2
          have RM := Remove_any EU HDU.out xn hwn
          go_wp2_with (go_at_call 11; refine RM.mono ?_; rintro e' w4 ⟨⟨v1, rfl⟩, r4⟩)
          obtain ⟨k4, tg4, p4, M4, nx4, c4, r4', -, d4, hn4⟩ := r4
          go_roundw
          case rel => exact ⟨i + 1, tg4, p4, M4, nx4, c4, r4', by omega, by go_num, HBU.out.trans (k4.below (fun b t ht => (HDU.out.w.low b t ht).1) HDU.out.low), d4, by omega⟩
          case measure => simp [intOf]; omega
        have ek1 := str_ne (l := [97, 100, 100]) hk1
        have ek2 := str_ne (l := [114, 101, 109, 111, 118, 101]) hk2
        have PD := Parent_par HDU.out.w xn hwn
        have hwp := HDU.out.wfpar xn
        have hll := HDU.out.alll
        have hkl := HDU.out.fewk (parD M xn)
        have AL := All_doc HDU.out.w 11 (by omega) HDU.out.d.dp0 (by omega)
        obtain ⟨LL, hLL⟩ : ∃ LL, fromL M 11 0 = LL := ⟨_, rfl⟩
        rw [hLL] at AL hll
        obtain ⟨pp, hpp⟩ : ∃ pp, parD M xn = pp := ⟨_, rfl⟩
        rw [hpp] at PD hkl hwp
        go_upto_region 15 with (first | (go_at_call 12; refine PD.mono ?_; rintro e' w4 ⟨rfl, h4⟩; rw [h4]; clear h4) | (go_at_call 13; refine AL.mono ?_; rintro e' w5 ⟨o5, k5, rfl, b5, ow5⟩))
        have hD5 := HDU.out.below b5
        have KD := Kids_doc hD5.w pp hwp (by omega)
        obtain ⟨K, hK⟩ : ∃ K, kidsD M pp = K := ⟨_, rfl⟩
        rw [hK] at KD hkl
        go_upto_region 17 with (go_at_call 14; refine KD.mono ?_; rintro e' w6 ⟨o6, k6, rfl, ow6, b6⟩)
        have B6 := mbel b5 b6
        have hX6 : w6.heap[XB]? = _ := (B6.block XB (heap_lt HXB.out)).trans HXB.out
        have q1 : w6.cell? ⟨XB, 1, none⟩ = some (.int .i64 xn) := bcell hX6 1 _ rfl
        have HX6 : Hid (w6.heap[XB]? = some (.cells #[.string kb, .int .i64 xn, .int .i64 xm, .int .i64 xa, .string ⟨x.name.toArray⟩, .string ⟨x.value.toArray⟩] 36)) := hX6
        have HKR : Hid (w6.ownsRow w5.heap.size 3 1 (.slice o6 K.length k6) K.length (intsV K)) := ow6
        have HAR : Hid (w6.ownsRow (U.heap.size + 1) 3 1 (.slice o5 LL.length k5) LL.length (intsV LL)) := own_bel ow5 b6
        have HD6 : Hid (DocS w2.heap.size tg w6 DB MB p M nx c r) := HDU.out.below B6
        have HB6 : Hid (Below w2.heap.size w2 w6) := HBU.out.trans (B6.mono HDU.out.low)
        have HPP : Hid (parD M xn = pp) := hpp
        have HLL : Hid (fromL M 11 0 = LL) := hLL
        have HK : Hid (kidsD M pp = K) := hK
        have HTX : Hid (tg XB = none) := tX
        clear hX6 ow5 ow6 hD5 KD AL PD z0 z1 z2 z3 hpp hLL hK tX EU
        go_loopw [13] (fun y wq => ∃ a : Nat, a ≤ K.length ∧ y = .int .i64 a ∧ Below w6.heap.size w6 wq ∧ NotYet K xn a) (fun y _ => K.length - (intOf y).toNat)
        case atStart => exact ⟨0, Nat.zero_le _, rfl, Below.refl _ _, NotYet.zero _ _⟩
        case round =>
          obtain ⟨a, hal, rfl, hbq, hny⟩ := hrel
          have hq1 : wr.cell? ⟨XB, 1, none⟩ = some (.int .i64 xn) := (hbq.cell (cell_lt3 q1)).trans q1
          by_cases hlk : a < K.length
          · have hlk' : (a : Int) < (K.length : Int) := by omega
            obtain ⟨y, hy⟩ : ∃ y, K[a]? = some y := ⟨_, List.getElem?_eq_getElem hlk⟩
            obtain ⟨gk, hgk, hck⟩ := row_get (own_bel HKR.out hbq) a _ (intsV_get hy)
            have hok : o6 = some ⟨gk, 0, none⟩ := by
              rcases HKR.out.2 with ⟨_, e1⟩ | ⟨g1, cap1, cur, e1, _⟩
              · omega
              · cases e1; cases hgk; rfl
            subst hok
            clear hgk
            by_cases hyn : y = xn
            · subst hyn
              have hyn' : (y == y) = true := by simp
              go_upto_region 17 with fail
              go_region
              go_upto_region 19 with fail
              have bD := mdrew 1 hbq
              obtain ⟨Wq, hWq⟩ : ∃ Wq, wr.drew = Wq := ⟨_, rfl⟩
              have bD : Below w6.heap.size w6 wr.drew := bD
              rw [hWq] at bD ⊢
              clear hWq hbq hq1
              have BQ : Below w2.heap.size w2 Wq := HB6.out.trans (bD.mono HD6.out.low)
              have EQ := HE2.out.below BQ (Nat.le_refl _)
              have hDq := HD6.out.below bD
              have hXq : Wq.heap[XB]? = _ := (bD.block XB (heap_lt HX6.out)).trans HX6.out
              have r1 : Wq.cell? ⟨XB, 1, none⟩ = some (.int .i64 y) := bcell hXq 1 _ rfl
              have r2 : Wq.cell? ⟨XB, 2, none⟩ = some (.int .i64 xm) := bcell hXq 2 _ rfl
              have r3 : Wq.cell? ⟨XB, 3, none⟩ = some (.int .i64 xa) := bcell hXq 3 _ rfl
              rcases Move_two EQ hDq y xm xa hwn hwm with MV | MV
              · unfold eV at MV
                go_wp2_with (go_at_call 15; refine MV.mono ?_; rintro e' w7 ⟨k7, -, -, rfl, b7⟩)
                go_roundw
                case rel => exact ⟨i + 1, tg, p, M, nx, c, r, by omega, by go_num, BQ.trans (b7.mono hDq.low), hDq.below b7, by omega⟩
                case measure => simp [intOf]; omega
              · cases hpar : ((i : Int) % 2 == 0) with
                | false =>
                  go_wp2_with (go_at_call 15; refine MV.mono ?_; rintro e' w7 ⟨rfl, k7, x7, o7, q07, q7, hk7, r7⟩)
                  obtain ⟨tg7, r7', -, d7⟩ := r7.doc
                  go_roundw
                  case rel => exact ⟨i + 1, tg7, p, _, nx, c, r7', by omega, by go_num, BQ.trans (r7.kt.below (fun b t ht => (hDq.w.low b t ht).1) hDq.low), d7, by omega⟩
                  case measure => simp [intOf]; omega
                | true =>
                  go_upto_region 20 with (go_at_call 15; refine MV.mono ?_; rintro e' w7 ⟨rfl, k7, x7, o7, q07, q7, hk7, r7⟩)
                  obtain ⟨tg7, r7', ht7, d7⟩ := r7.doc
                  have h8 : x7.parent = pp := by
                    have h8 := HPP.out
                    unfold parD at h8
                    rw [r7.hn] at h8
                    exact h8
                  have h9 : o7.kids = K := by
                    have h9 := HK.out
                    unfold kidsD at h9
                    rw [← h8, r7.ho] at h9
                    exact h9
                  have MK := Move_back hDq r7.hn r7.h0 r7.ho r7.hq0 r7.hq r7.hpn d7 a (by rw [h9]; exact hy)
                  rw [h8] at MK
                  have hX7 : w7.heap[XB]? = _ := (r7.kt.block XB (heap_lt hXq) HTX.out).trans hXq
                  have s1 : w7.cell? ⟨XB, 1, none⟩ = some (.int .i64 y) := bcell hX7 1 _ rfl
                  have k7' := r7.kt
                  clear MV r7 h8 h9
                  have ROW : ∀ w8, KT tg7 w7 w8 → w8.ownsRow (U.heap.size + 1) 3 1 (.slice o5 LL.length k5) LL.length (intsV LL) := fun w8 k8 => own_same (w' := w8) HAR.out (fun g hg => by
                    have hg1 := HAR.out.lt g hg
                    have hg6 : tg g = none := HDU.out.w.new (by omega)
                    have hgq : g < Wq.heap.size := Nat.lt_of_lt_of_le hg1.2 bD.size
                    have hg7 : g < w7.heap.size := Nat.lt_of_lt_of_le hgq k7'.size
                    exact (k8.block g hg7 ((ht7 g hgq).trans hg6)).trans ((k7'.block g hgq hg6).trans (bD.block g hg1.2)))
                  have ALf : ∀ w8 tg8, DocS w2.heap.size tg8 w8 DB MB p M nx c r → Calls Tryd.prog 13 #[.pointer (some ⟨DB, 0, none⟩)] w8 fun e w' => ∃ o k, e = .returned (.slice o LL.length k) ∧ Below w8.heap.size w8 w' ∧ w'.ownsRow (w8.heap.size + 1) 3 1 (.slice o LL.length k) LL.length (intsV LL) := fun w8 tg8 d8 => by
                    have h := All_doc d8.w 11 (by omega) d8.d.dp0 (by rw [HLL.out]; omega)
                    rw [HLL.out] at h
                    exact h
                  go_wp2_with (first | (go_at_call 16; refine SI.mono ?_; rintro e' w10 ⟨rfl, b10⟩) | (go_at_call 13; refine AL.mono ?_; rintro e' w9 ⟨o9, k9, rfl, b9, ow9⟩; have SI := SameInts_same w9 o9 o5 k9 k5 LL ow9 (own_bel (ROW _ k8) b9) (by omega)) | (go_at_call 15; refine MK.mono ?_; rintro e' w8 ⟨rfl, k8, tg8, ht8, d8⟩; have AL := ALf _ _ d8))
                  go_roundw
                  case rel => exact ⟨i + 1, tg8, p, M, nx, c, r, by omega, by go_num, BQ.trans ((k7'.below (fun b t ht => (hDq.w.low b t ht).1) hDq.low).trans ((k8.below (fun b t ht => (d7.w.low b t ht).1) d7.low).trans ((mbel b9 b10).mono d8.low))), d8.below (mbel b9 b10), by omega⟩
                  case measure => simp [intOf]; omega
            · have hyn' : (y == xn) = false := by rw [beq_eq_false_iff_ne]; exact hyn
              go_wp2_with fail
              go_region
              go_wp2_with fail
              go_roundw
              case rel => exact ⟨a + 1, by omega, by go_num, mdrew 1 hbq, hny.succ hy hyn⟩
              case measure => simp [intOf]; omega
          · have hlk' : ¬ (a : Int) < (K.length : Int) := by omega
            go_upto_region 17 with fail
            go_region
            go_upto_region 19 with fail
            have bD := mdrew 1 hbq
            obtain ⟨Wq, hWq⟩ : ∃ Wq, wr.drew = Wq := ⟨_, rfl⟩
            have bD : Below w6.heap.size w6 wr.drew := bD
            rw [hWq] at bD ⊢
            clear hWq hbq hq1
            have BQ : Below w2.heap.size w2 Wq := HB6.out.trans (bD.mono HD6.out.low)
            have EQ := HE2.out.below BQ (Nat.le_refl _)
            have hDq := HD6.out.below bD
            have hXq : Wq.heap[XB]? = _ := (bD.block XB (heap_lt HX6.out)).trans HX6.out
            have r1 : Wq.cell? ⟨XB, 1, none⟩ = some (.int .i64 xn) := bcell hXq 1 _ rfl
            have r2 : Wq.cell? ⟨XB, 2, none⟩ = some (.int .i64 xm) := bcell hXq 2 _ rfl
            have r3 : Wq.cell? ⟨XB, 3, none⟩ = some (.int .i64 xa) := bcell hXq 3 _ rfl
            rcases Move_two EQ hDq xn xm xa hwn hwm with MV | MV
            · unfold eV at MV
              go_wp2_with (go_at_call 15; refine MV.mono ?_; rintro e' w7 ⟨k7, -, -, rfl, b7⟩)
              go_roundw
              case rel => exact ⟨i + 1, tg, p, M, nx, c, r, by omega, by go_num, BQ.trans (b7.mono hDq.low), hDq.below b7, by omega⟩
              case measure => simp [intOf]; omega
            · have MV' := MV.mono (R' := fun _ _ => False) fun e' w7 h7 => by
                obtain ⟨-, k7, x7, o7, q07, q7, -, r7⟩ := h7
                have h8 := HPP.out
                unfold parD at h8
                rw [r7.hn] at h8
                have h9 := HK.out
                unfold kidsD at h9
                rw [← h8, r7.ho] at h9
                have h10 : a = K.length := by omega
                rw [h10, ← h9] at hny
                exact hny.none r7.hno
              go_wp2_with (go_at_call 15; refine MV'.mono ?_; rintro e' w7 h7; exact h7.elim)
      · have hge : ¬ (i : Int) < (l.length : Int) := by omega
        obtain ⟨La, hLa, hlen, hpos⟩ := hD.all
        have hle := hD.le
        have hll := hD.alll
        have AL := All_doc hD.w 11 (by omega) hD.d.dp0 (by omega)
        have hin : ∀ y ∈ fromL M 11 0, ∃ e, M y = some e := fun y hy => ((hD.d.mem hD.d.dp0).1 hy).in_
        have hps : ∀ j y, 1 ≤ j → (fromL M 11 0)[j]? = some y → 0 < y := fun j y hj hy => by
          rw [hLa] at hy
          cases j with
          | zero => omega
          | succ j => exact (hpos y (List.mem_of_getElem? (by simpa using hy))).1
        have h00 : (fromL M 11 0)[0]? = some 0 := by rw [hLa]; rfl
        rw [← hLa] at hlen
        obtain ⟨LL, hLL⟩ : ∃ LL, fromL M 11 0 = LL := ⟨_, rfl⟩
        rw [hLL] at AL hll hin hps h00 hlen
        have hc1 : ((LL.length : Int) != (c : Int)) = false := by rw [hlen]; simp
        have hl0 : 0 < LL.length := (List.getElem?_eq_some_iff.1 h00).1
        have hc2 : ((LL.length : Int) == 0) = false := by rw [beq_eq_false_iff_ne]; omega
        have HIN : Hid (∀ y ∈ LL, ∃ e, M y = some e) := hin
        have HPS : Hid (∀ j y, 1 ≤ j → LL[j]? = some y → 0 < y) := hps
        have HD : Hid (DocS w2.heap.size tg wr DB MB p M nx c r) := hD
        have HB : Hid (Below w2.heap.size w2 wr) := hB
        clear hin hps hpos hLa hlen hLL hD hB
        go_upto_region 27 with (go_at_call 13; refine AL.mono ?_; rintro e' w4 ⟨o4, k4, rfl, b4, ow4⟩)
        obtain ⟨g4, hg4, hc4⟩ := row_get ow4 0 _ (intsV_get h00)
        have ho4 : o4 = some ⟨g4, 0, none⟩ := by
          rcases ow4.2 with ⟨_, e1⟩ | ⟨g1, cap1, cur, e1, _⟩
          · omega
          · cases e1; cases hg4; rfl
        subst ho4
        have HD4 : Hid (DocS w2.heap.size tg w4 DB MB p M nx c r) := HD.out.below b4
        have HB4 : Hid (Below w2.heap.size w2 w4) := HB.out.trans (b4.mono HD.out.low)
        have HR4 : Hid (w4.ownsRow (wr.heap.size + 1) 3 1 (.slice (some ⟨g4, 0, none⟩) LL.length k4) LL.length (intsV LL)) := ow4
        have CT := Count_doc HD4.out.w
        have PZ := Parent_par HD4.out.w 0 (by decide)
        have hp0 : parD M 0 = -1 := by
          obtain ⟨e0, h1, h2⟩ := HD4.out.d.root
          unfold parD
          rw [h1]
          exact h2
        rw [hp0] at PZ
        clear ow4 hg4 AL hp0
        go_upto_region 30 with (first | (go_at_call 12; refine PZ.mono ?_; rintro e' w5 ⟨rfl, h5⟩; rw [h5]; clear h5) | (go_at_call 17; refine CT.mono ?_; rintro e' w5 ⟨rfl, h5⟩; rw [h5]; clear h5))
        clear CT PZ hc4 hc1 hc2
        go_loopw [16] (fun y wq => ∃ j : Nat, 1 ≤ j ∧ j ≤ LL.length ∧ y = .int .i64 j ∧ Below w4.heap.size w4 wq) (fun y _ => LL.length - (intOf y).toNat)
        case atStart => exact ⟨1, Nat.le_refl _, hl0, rfl, Below.refl _ _⟩
        case round =>
          obtain ⟨j, hj1, hj, rfl, hbj⟩ := hrel
          by_cases hlj : j < LL.length
          · have hlj' : (j : Int) < (LL.length : Int) := by omega
            obtain ⟨y, hy⟩ : ∃ y, LL[j]? = some y := ⟨_, List.getElem?_eq_getElem hlj⟩
            have hyp := HPS.out j y hj1 hy
            obtain ⟨ey, hey⟩ := HIN.out y (List.mem_of_getElem? hy)
            obtain ⟨gj, hgj, hcj⟩ := row_get (own_bel HR4.out hbj) j _ (intsV_get hy)
            have hgj' : gj = g4 := by cases hgj; rfl
            subst hgj'
            have hDj := HD4.out.below hbj
            have PY := Parent_par hDj.w y (hDj.w.i64 hey)
            have KY := Kids_doc hDj.w (parD M y) (hDj.wfpar y) (by have := hDj.fewk (parD M y); omega)
            have hkl := hDj.fewk (parD M y)
            have hone : (kidsD M (parD M y)).count y = 1 := by
              have h1 := hDj.d.once hey (by omega)
              unfold parD
              rw [hey]
              exact h1
            obtain ⟨K, hK⟩ : ∃ K, kidsD M (parD M y) = K := ⟨_, rfl⟩
            rw [hK] at KY hkl hone
            have HONE : Hid (K.count y = 1) := hone
            have HEY : Hid (M y = some ey) := hey
            clear hgj hK hone hey
            go_upto_region 34 with (first | (go_at_call 14; refine KY.mono ?_; rintro e' w6 ⟨o6, k6, rfl, ow6, b6⟩) | (go_at_call 12; refine PY.mono ?_; rintro e' w5 ⟨rfl, h5⟩; rw [h5]; clear h5))
            have c6 := (b6.cell (cell_lt3 hcj)).trans hcj
            have HK6 : Hid (w6.ownsRow wr.heap.size 3 1 (.slice o6 K.length k6) K.length (intsV K)) := ow6
            have HB6 : Hid (Below w4.heap.size w4 w6) := mbel hbj b6
            clear ow6 KY PY hcj hDj
            go_wp2_with fail
            go_loopw [18, 19] (fun ym yk wq => ∃ k : Nat, k ≤ K.length ∧ yk = .int .i64 k ∧ ym = .int .i64 ((K.take k).count y : Nat) ∧ Below w6.heap.size w6 wq) (fun _ yk _ => K.length - (intOf yk).toNat)
            case atStart => exact ⟨0, Nat.zero_le _, rfl, by simp, Below.refl _ _⟩
            case round =>
              obtain ⟨k, hk, rfl, rfl, hbk⟩ := hrel
              have ck := (hbk.cell (cell_lt3 c6)).trans c6
              have hcl : (K.take k).count y ≤ 100 := Nat.le_trans List.count_le_length (by rw [List.length_take]; omega)
              by_cases hlk : k < K.length
              · have hlk' : (k : Int) < (K.length : Int) := by omega
                obtain ⟨z, hz⟩ : ∃ z, K[k]? = some z := ⟨_, List.getElem?_eq_getElem hlk⟩
                obtain ⟨gk, hgk, hck⟩ := row_get (own_bel HK6.out hbk) k _ (intsV_get hz)
                have hok : o6 = some ⟨gk, 0, none⟩ := by
                  rcases HK6.out.2 with ⟨_, e1⟩ | ⟨g1, cap1, cur, e1, _⟩
                  · omega
                  · cases e1; cases hgk; rfl
                subst hok
                have hct := count_take (x := y) hz
                have HCT : Hid ((K.take (k + 1)).count y = (K.take k).count y + if z = y then 1 else 0) := hct
                clear hgk hz hct
                by_cases hzy : z = y
                · have hzy' : (z == y) = true := by rw [beq_iff_eq]; exact hzy
                  have HZ : Hid (z = y) := hzy
                  clear hzy
                  go_wp2_with fail
                  go_region
                  go_wp2_with fail
                  go_roundw
                  case rel => exact ⟨k + 1, by omega, by go_num, by rw [HCT.out, if_pos HZ.out]; go_num, mdrew 1 hbk⟩
                  case measure => simp [intOf]; omega
                · have hzy' : (z == y) = false := by rw [beq_eq_false_iff_ne]; exact hzy
                  go_wp2_with fail
                  go_region
                  go_wp2_with fail
                  go_roundw
                  case rel => exact ⟨k + 1, by omega, by go_num, by rw [HCT.out, if_neg hzy]; rfl, mdrew 1 hbk⟩
                  case measure => simp [intOf]; omega
              · have hge2 : ¬ (k : Int) < (K.length : Int) := by omega
                have hmany : (K.take k).count y = 1 := by rw [List.take_of_length_le (by omega)]; exact HONE.out
                rw [hmany]
                have BK : Below w4.heap.size w4 wr := mbel HB6.out hbk
                have HDk : Hid (DocS w2.heap.size tg wr DB MB p M nx c r) := HD4.out.below BK
                have hrb := (HDk.out.d.rb y ey HEY.out).2
                clear hmany hcl
                go_wp2_with fail
                go_loopw [20, 21] (fun yd yq wq => ∃ (d : Nat) (q : Int), yd = .int .i64 d ∧ yq = .int .i64 q ∧ wq = wr ∧ 0 ≤ q ∧ (∃ e, M q = some e) ∧ r q + d = r y) (fun _ yq _ => r (intOf yq))
                case atStart => exact ⟨0, y, rfl, rfl, rfl, by omega, ⟨ey, HEY.out⟩, rfl⟩
                case round =>
                  obtain ⟨d, q, rfl, rfl, hwq, hq0, ⟨eq, heq⟩, hrq⟩ := hrel
                  rw [hwq]
                  clear hwq
                  have hrq1 := HDk.out.d.rb q eq heq
                  by_cases hqp : 0 < q
                  · have hd10 : (d : Int) ≤ 10 := by omega
                    have PQ := Parent_par HDk.out.w q (HDk.out.w.i64 heq)
                    obtain ⟨q2, h1, h2, h3⟩ := HDk.out.d.up_one heq hqp
                    go_wp2_with (go_at_call 12; refine PQ.mono ?_; rintro e' w8 ⟨rfl, h8⟩; rw [h8]; clear h8)
                    go_roundw
                    case rel => exact ⟨d + 1, parD M q, by go_num, rfl, trivial, h2, ⟨q2, h1⟩, by omega⟩
                    case measure => simp only [intOf]; omega
                  · obtain rfl : q = 0 := by omega
                    have hr0 := HDk.out.d.r0
                    have hd10 : ¬ 10 ≤ (d : Int) := by omega
                    go_wp2_with fail
                    go_roundw
                    case rel => exact ⟨j + 1, by omega, by omega, by go_num, BK⟩
                    case measure => simp [intOf]; omega
          · have hge3 : ¬ (j : Int) < (LL.length : Int) := by omega
            go_wp2_with fail
            go_ret
            exact ⟨rfl, mbel BW2 (HB4.out.trans (hbj.mono HD4.out.low))⟩
  · have NW := New_no E n _ _ _ w2 E2 (NdC.below B2 n HA.out) (by omega) hc
    clear hc
    go_wp2_with (go_at_call 9; refine NW.mono ?_; rintro e w3 ⟨b3, pb, rfl⟩)
    go_ret
    exact ⟨rfl, mbel BW2 b3⟩

end Go.Proofs.YtmlajdhkkcmjnacDoor

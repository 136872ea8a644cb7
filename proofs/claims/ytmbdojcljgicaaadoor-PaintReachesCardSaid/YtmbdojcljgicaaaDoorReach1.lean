/-
  PaintReaches: the walk.
-/
import Derived.Test.YtmbdojcljgicaaaDoorPaint11
import Derived.Test.YtmbdojcljgicaaaDoorPaint12
namespace Go.Proofs.YtmbdojcljgicaaaDoor
open Go.RowKit

theorem Own5.row {w : World} {base : Nat} {v : Value} {l : List P5} (h : Own5 w base v l) : ∃ o cap, v = .slice o l.length cap ∧ Row5 w o cap l := by
  rcases h.rw with ⟨rfl, rfl⟩ | ⟨b, cap, rfl, -, -, hle, hr⟩
  · exact ⟨none, 0, rfl, fun i x hx => by simp at hx, Nat.le_refl _, fun _ => rfl⟩
  · exact ⟨_, cap, rfl, hr.at_, hle, fun h => by cases h⟩
theorem okAll_sP {l m : List P5} (h : sP l = sP m) (hk : okAll l) : okAll m := fun x hx => by
  have : x.s ∈ sP l := by rw [h]; exact List.mem_map.2 ⟨x, hx, rfl⟩
  obtain ⟨y, hy, e⟩ := List.mem_map.1 this
  rw [← e]
  exact hk y hy
theorem len_sP {l m : List P5} (h : sP l = sP m) : l.length = m.length := by
  have := congrArg List.length h
  simpa [sP] using this
theorem sP_filter (l : List P5) (y : Int) : sP (l.filter fun x => reachM x.s.pts y) = (sP l).filter fun s => reachM s.pts y := by
  have := filter_sP l y
  simpa using this
theorem okAll_filter {l : List P5} {q : P5 → Bool} (h : okAll l) : okAll (l.filter q) := fun x hx => h x (List.mem_filter.1 hx).1

set_option maxRecDepth 20000 in
set_option maxHeartbeats 16000000 in
theorem reaches_law (aB aS aZ aV : Addr) (l : List P5) (o : Option Addr) (cap : Nat) (n h y : Int) (W : World) (hE : EP aB aS aZ aV W) (hR : P5sAt W o l) (hP : PtsOf W l) (hn : I64 n) (hh : I64 h) (hy : I64 y) :
    Calls Tryd.prog 3 #[.slice o l.length cap, .int .i64 n, .int .i64 h, .int .i64 y] W fun e w' => e = .returned (.bool true) ∧ Below W.heap.size W w' := by
  have PA := painted_any aB aS aZ aV W hE
  go_enter Tryd.func3, Tryd.ntmps3
  go_upto_region 2 with (go_at_call 4; refine PA.mono ?_; rintro e w1 ⟨rfl, b1⟩)
  clear PA
  have LP := longPieces_any l o cap w1 (hR.below b1 (Nat.le_refl _))
  go_cut [34] from 21 to 33 (fun v wx => (v = .bool true ∨ (v = .bool false ∧ l.length ≤ 8 ∧ (∀ x ∈ l, shortP x) ∧ 1 ≤ n ∧ n ≤ 12)) ∧ Below w1.heap.size w1 wx)
  case first =>
    go_wp2_with fail
    refine LP.mono ?_
    rintro e w2 ⟨hr, b2⟩
    rcases hr with rfl | ⟨rfl, h8, hs⟩
    · go_wp2_with fail
      go_meet
      exact ⟨.inl rfl, b2⟩
    · by_cases n1 : n < 1
      · go_wp2_with fail
        go_meet
        exact ⟨.inl rfl, b2⟩
      · by_cases n2 : 12 < n
        · go_wp2_with fail
          go_meet
          exact ⟨.inl rfl, b2⟩
        · go_wp2_with fail
          go_meet
          exact ⟨.inr ⟨by simp; omega, h8, hs, by omega, by omega⟩, b2⟩
  case rest =>
    obtain ⟨w2, rfl⟩ : ∃ V, V = wc := ⟨_, rfl⟩
    obtain ⟨hv, b2⟩ := hcut
    have bw2 := bel_more b1 b2
    clear LP
    rcases hv with rfl | ⟨rfl, h8, hs, n1, n2⟩
    · go_wp2_with fail
      go_ret
      exact ⟨rfl, bw2⟩
    obtain ⟨N, rfl⟩ : ∃ N : Nat, n = N := ⟨n.toNat, by omega⟩
    go_upto_region 4 with fail
    go_cut [50] from 36 to 49 (fun v wx => (v = .bool true ∨ (v = .bool false ∧ 1 ≤ h ∧ h ≤ 12 ∧ 0 ≤ y ∧ y < h)) ∧ wx = w2)
    case first =>
      by_cases h1 : h < 1
      · go_wp2_with fail
        go_meet
        exact ⟨.inl rfl, rfl⟩
      · by_cases h2 : 12 < h
        · go_wp2_with fail
          go_meet
          exact ⟨.inl rfl, rfl⟩
        · by_cases y1 : y < 0
          · go_wp2_with fail
            go_meet
            exact ⟨.inl rfl, rfl⟩
          · by_cases y2 : h ≤ y
            · go_wp2_with fail
              go_meet
              exact ⟨.inl rfl, rfl⟩
            · go_wp2_with fail
              go_meet
              exact ⟨.inr ⟨by simp, by omega, by omega, by omega, by omega⟩, rfl⟩
    case rest =>
      obtain ⟨hv, hwc⟩ := hcut
      rw [hwc]
      clear hwc
      rcases hv with rfl | ⟨rfl, h1, h2, y1, y2⟩
      · go_wp2_with fail
        go_ret
        exact ⟨rfl, bw2⟩
      obtain ⟨H, rfl⟩ : ∃ H : Nat, h = H := ⟨h.toNat, by omega⟩
      obtain ⟨Y, rfl⟩ : ∃ Y : Nat, y = Y := ⟨y.toNat, by omega⟩
      have hl8 : l.length ≤ 1000 := by omega
      have hs8 : ∀ x ∈ l, x.s.pts.length ≤ 1000 := fun x hx => by have := (hs x hx).1; omega
      have AS := fun V (hv : Below W.heap.size W V) => asPieces_any l o cap V hl8 hs8 (hR.below hv (Nat.le_refl _)) (hP.below hv (Nat.le_refl _))
      have A1 := AS w2 bw2
      have hN1 : 1 ≤ N := by omega
      have hN2 : N ≤ 40 := by omega
      have hH1 : 1 ≤ H := by omega
      have hH2 : H ≤ 40 := by omega
      have PN : ∀ V v m, Below W.heap.size W V → Own5 V w2.heap.size v m → sP m = sP l → PtsOf V m → Calls Tryd.prog 6 #[v, .int .i64 N, .int .i64 H] V fun e X => ((okAll l ∧ ∃ v, e = .returned (.tuple #[.agg #[.int .i64 N, .int .i64 H, v], .nilIface]) ∧ X.ownsRow V.heap.size 9 1 v (N * H) ((picM reachM (sP l) N H).map .string)) ∨ (¬ okAll l ∧ ∃ a, e = .returned (.tuple #[.agg #[.int .i64 0, .int .i64 0, .slice none 0 0], .iface 64 (.pointer (some a))]))) ∧ Below V.heap.size V X := fun V v m hV ow hsm hpm => by
        obtain ⟨o', c', rfl, hrow⟩ := ow.row
        have hlm := len_sP hsm
        refine (Paint_in aB aS aZ aV m o' c' N H V hN1 hN2 hH1 hH2 (by omega) hrow hpm (hE.below hV (Nat.le_refl _))).mono ?_
        rintro e X ⟨hc, hb⟩
        refine ⟨?_, hb⟩
        rcases hc with ⟨hk, v', h1, h2⟩ | ⟨hk, a, h1⟩
        · rw [hsm] at h2
          exact .inl ⟨okAll_sP hsm hk, v', h1, h2⟩
        · exact .inr ⟨fun h => hk (okAll_sP hsm.symm h), a, h1⟩
      go_upto_region 7 with (first | (go_at_call 6; refine (PN w3 v3 m3 (bel_more bw2 b3) ow3 hm3 hp3).mono ?_; rintro e w4 ⟨hpa, b4⟩; obtain ⟨a0, a1, qo, qn, qc, er1, rfl, hpb⟩ : ∃ (a0 a1 : Int) (qo : Option Addr) (qn qc : Nat) (er1 : Value), e = .returned (.tuple #[.agg #[.int .i64 a0, .int .i64 a1, .slice qo qn qc], er1]) ∧ ((okAll l ∧ er1 = .nilIface ∧ w4.ownsRow w3.heap.size 9 1 (.slice qo qn qc) (N * H) ((picM reachM (sP l) N H).map .string)) ∨ (¬ okAll l ∧ ∃ a, er1 = .iface 64 (.pointer (some a)))) := (by rcases hpa with ⟨k1, v', k2, k3⟩ | ⟨k1, a, k2⟩; obtain ⟨g, cp, rfl, -, -⟩ := k3.form (Nat.mul_pos hN1 hH1); exact ⟨_, _, _, _, _, _, k2, .inl ⟨k1, rfl, k3⟩⟩; exact ⟨_, _, _, _, _, _, k2, .inr ⟨k1, a, rfl⟩⟩)) | (go_at_call 7; refine A1.mono ?_; rintro e w3 ⟨v3, m3, rfl, ow3, hm3, hp3, b3⟩))
      clear A1 PN ow3 hm3 hp3
      have b5 := mbelow w4 (.cells #[.int .i64 a0, .int .i64 a1, .slice qo qn qc] 27)
      have r5 := World.alloc_heap_new w4 (.cells #[.int .i64 a0, .int .i64 a1, .slice qo qn qc] 27)
      obtain ⟨w5, hw5⟩ : ∃ V, w4.alloc (.cells #[.int .i64 a0, .int .i64 a1, .slice qo qn qc] 27) = V := ⟨_, rfl⟩
      obtain ⟨PB, hPB⟩ : ∃ B, w4.heap.size = B := ⟨_, rfl⟩
      rw [hw5] at b5 r5 ⊢
      have b35 := bel_more b4 b5
      have b25 := bel_more b3 b35
      have bw5 := bel_more bw2 b25
      have hpa5 : (okAll l ∧ er1 = .nilIface ∧ w5.ownsRow w3.heap.size 9 1 (.slice qo qn qc) (N * H) ((picM reachM (sP l) N H).map .string)) ∨ (¬ okAll l ∧ ∃ a, er1 = .iface 64 (.pointer (some a))) := by
        rcases hpb with ⟨k1, k2, k3⟩ | k
        · exact .inl ⟨k1, k2, own_below k3 b5⟩
        · exact .inr k
      rw [hPB] at r5 ⊢
      clear hw5 hpa hpb hPB b5 b35
      have A2 := AS w5 bw5
      have RW : ∀ V v m, Below W.heap.size W V → Own5 V w5.heap.size v m → sP m = sP l → PtsOf V m → Calls Tryd.prog 8 #[v, .int .i64 N, .int .i64 Y] V fun e X => ((okAll l ∧ ∃ v, e = .returned (.tuple #[v, .nilIface]) ∧ X.ownsRow V.heap.size 9 1 v N ((rowM reachM (sP l) N Y).map .string)) ∨ (¬ okAll l ∧ ∃ a, e = .returned (.tuple #[.slice none 0 0, .iface 64 (.pointer (some a))]))) ∧ Below V.heap.size V X := fun V v m hV ow hsm hpm => by
        obtain ⟨o', c', rfl, hrow⟩ := ow.row
        have hlm := len_sP hsm
        refine (Row_in aB aS aZ aV m o' c' N Y V hN1 hN2 (by omega) (by omega) (by omega) hrow hpm (hE.below hV (Nat.le_refl _))).mono ?_
        rintro e X ⟨hc, hb⟩
        refine ⟨?_, hb⟩
        rcases hc with ⟨hk, v', h1, h2⟩ | ⟨hk, a, h1⟩
        · rw [hsm] at h2
          exact .inl ⟨okAll_sP hsm hk, v', h1, h2⟩
        · exact .inr ⟨fun h => hk (okAll_sP hsm.symm h), a, h1⟩
      go_upto_region 8 with (first | (go_at_call 8; refine (RW w6 v6 m6 (bel_more bw5 b6) ow6 hm6 hp6).mono ?_; rintro e w7 ⟨hro, b7⟩; obtain ⟨so, sn, sc, er2, rfl, hrb⟩ : ∃ (so : Option Addr) (sn sc : Nat) (er2 : Value), e = .returned (.tuple #[.slice so sn sc, er2]) ∧ ((okAll l ∧ er2 = .nilIface ∧ w7.ownsRow w6.heap.size 9 1 (.slice so sn sc) N ((rowM reachM (sP l) N Y).map .string)) ∨ (¬ okAll l ∧ ∃ a, er2 = .iface 64 (.pointer (some a)))) := (by rcases hro with ⟨k1, v', k2, k3⟩ | ⟨k1, a, k2⟩; obtain ⟨g, cp, rfl, -, -⟩ := k3.form hN1; exact ⟨_, _, _, _, k2, .inl ⟨k1, rfl, k3⟩⟩; exact ⟨_, _, _, _, k2, .inr ⟨k1, a, rfl⟩⟩)) | (go_at_call 7; refine A2.mono ?_; rintro e w6 ⟨v6, m6, rfl, ow6, hm6, hp6, b6⟩))
      clear A2 RW ow6 hm6 hp6 hro
      have b57 := bel_more b6 b7
      have bw7 := bel_more bw5 b57
      rcases hpa5 with ⟨hok, rfl, hpic⟩ | ⟨hno, a, rfl⟩
      · rcases hrb with ⟨-, rfl, hrw⟩ | ⟨hno, -⟩
        · have hpic7 := own_below hpic b57
          have r7 := (b57.block _ (Array.getElem?_eq_some_iff.1 r5).1).trans r5
          obtain ⟨p0, p1, p2, -, -, -⟩ := Blk3.of r7
          obtain ⟨gq, cq, hq1, -, -⟩ := hpic7.form (Nat.mul_pos hN1 hH1)
          cases hq1
          obtain ⟨qo', qc', hq, hql, hqc, hqT⟩ := TxAt.own hpic7
          simp only [Value.slice.injEq] at hq
          obtain ⟨rfl, -, rfl⟩ := hq
          obtain ⟨so', sc', hsq, hsl, hsc, hsT⟩ := TxAt.own hrw
          simp only [Value.slice.injEq] at hsq
          obtain ⟨rfl, hsn, rfl⟩ := hsq
          obtain ⟨K, hK⟩ : ∃ K, N * Y = K := ⟨_, rfl⟩
          have hKz : (N : Int) * (Y : Int) = (K : Int) := by rw [← hK]; simp
          obtain ⟨E, hEq⟩ : ∃ E, K + N = E := ⟨_, rfl⟩
          have hEz : (K : Int) + (N : Int) = (E : Int) := by omega
          have hKE : E ≤ N * H := by
            have : N * Y + N ≤ N * H := by rw [← Nat.mul_succ]; exact Nat.mul_le_mul_left N (by omega)
            omega
          have hNH : N * H ≤ 144 := Nat.mul_le_mul (show N ≤ 12 by omega) (show H ≤ 12 by omega)
          have hslice := hqT.slice K N
          have hrowEq : ((picM reachM (sP l) N H).drop K).take N = rowM reachM (sP l) N Y := by rw [← hK]; exact picM_row reachM (sP l) N H Y (by omega)
          rw [hrowEq, Nat.zero_add] at hslice
          have ST := SameTexts_same (rowM reachM (sP l) N Y) (rowM reachM (sP l) N Y) so (some ⟨gq, K, none⟩) sc (qc - K) w7 (by rw [rowM_len]; omega) hsT hslice rfl
          have hrl : (rowM reachM (sP l) N Y).length = N := rowM_len _ _ _ _
          rw [hrl] at ST hsn
          obtain rfl := hsn.symm
          have hEK : E - K = N := by omega
          have hKc : (K : Int) < (qc : Int) := by
            rcases hpic7.2 with ⟨h, -⟩ | ⟨g', cap', cur, h, -, -, h2, -⟩
            · cases h
            · cases h; omega
          have hEc : (E : Int) ≤ (qc : Int) := by
            rcases hpic7.2 with ⟨h, -⟩ | ⟨g', cap', cur, h, -, -, h2, -⟩
            · cases h
            · cases h; omega
          have hKn : ¬ qc - K = 0 := by omega
          have HRW : Hid (w7.ownsRow w6.heap.size 9 1 (.slice so N sc) N ((rowM reachM (sP l) N Y).map .string) ∧ TxAt w7 so (rowM reachM (sP l) N Y)) := ⟨hrw, hsT⟩
          have HKE : Hid (N * Y = K ∧ K + N = E) := ⟨hK, hEq⟩
          clear hpic7 hpic hslice hqT hrw hsT hK hEq hrowEq hql hqc hsl hsc hrl r5 r7
          go_upto_region 12 with (go_at_call 9; refine ST.mono ?_; rintro e w8 ⟨rfl, b8⟩)
          clear ST HKE p0 p1 p2 hKz hEz hKE hEK hKc hEc hKn hNH
          have bw8 := bel_more bw7 b8
          have A3 := AS w8 bw8
          go_upto_region 14 with (go_at_call 7; refine A3.mono ?_; rintro e w9 ⟨vA, mA, rfl, owA, hmA, hpA, b9⟩; obtain ⟨oA, cA, rfl, hrA⟩ := owA.row)
          clear A3 AS owA
          have bw9 := bel_more bw8 b9
          have hEA := hE.below bw9 (Nat.le_refl _)
          have hlA : mA.length ≤ 8 := by rw [len_sP hmA]; exact h8
          have hkA : okAll mA := okAll_sP hmA.symm hok
          obtain ⟨i0, hi, hz0, hz1, hz2⟩ := info_parts infoPc
          go_wp2_with fail
          go_loopw [14, 16] (fun v i wr => ∃ k : Nat, k ≤ mA.length ∧ i = .int .i64 k ∧ Own5 wr w9.heap.size v ((mA.take k).filter fun x => reachM x.s.pts (Y : Int)) ∧ Below w9.heap.size w9 wr) (fun _ i _ => mA.length - (intOf i).toNat)
          case atStart => exact ⟨0, Nat.zero_le _, rfl, World.ownsRow_nil _ _ _ _, Below.refl _ _⟩
          case round =>
            obtain ⟨k, hk, rfl, hown, hb⟩ := hrel
            obtain ⟨ov, cv, rfl, hrv⟩ := hown.row
            have hvl : ((mA.take k).filter fun x => reachM x.s.pts (Y : Int)).length ≤ 8 := by
              have := List.length_filter_le (fun x : P5 => reachM x.s.pts (Y : Int)) (mA.take k)
              rw [List.length_take] at this
              omega
            by_cases hlt : k < mA.length
            · have hlt' : (k : Int) < (mA.length : Int) := by omega
              obtain ⟨x, hx⟩ : ∃ x, mA[k]? = some x := ⟨_, List.getElem?_eq_getElem hlt⟩
              have hmem : x ∈ mA := List.mem_of_getElem? hx
              obtain ⟨b, off, rfl, c0, c1, c2, c3, c4⟩ := hrA.at_.below hb (Nat.le_refl _) k x hx
              have RE := Reaches_any aB aS aZ x (Y : Int) wr (by have := (hkA x hmem).1.1; omega) ((hpA x hmem).below hb (Nat.le_refl _)) (hEA.below hb (Nat.le_refl _)).e3
              have HX : Hid (mA[k]? = some x) := hx
              have hfl : (mA.take (k + 1)).filter (fun x => reachM x.s.pts (Y : Int)) = (mA.take k).filter (fun x => reachM x.s.pts (Y : Int)) ++ (if reachM x.s.pts (Y : Int) then [x] else []) := by
                rw [List.take_add_one, hx, List.filter_append]
                cases hq : reachM x.s.pts (Y : Int) <;> simp [hq]
              have HFL : Hid _ := hfl
              clear hx hfl
              cases hq : reachM x.s.pts (Y : Int) with
              | false =>
                rw [hq] at RE HFL
                go_wp2_with (go_at_call 10; refine RE.mono ?_; rintro e w10 ⟨rfl, b10⟩)
                go_roundw
                case rel =>
                  refine ⟨k + 1, by omega, by go_num, ?_, bel_more hb b10⟩
                  rw [HFL.out, if_neg (by simp), List.append_nil]
                  exact own_below hown b10
                case measure => simp [intOf]; omega
              | true =>
                rw [hq] at RE HFL
                go_upto_region 19 with (go_at_call 10; refine RE.mono ?_; rintro e w10 ⟨rfl, b10⟩)
                have d0 := (b10.cell (cell_lt c0)).trans c0
                have d1 := (b10.cell (cell_lt c1)).trans c1
                have d2 := (b10.cell (cell_lt c2)).trans c2
                have d3 := (b10.cell (cell_lt c3)).trans c3
                have d4 := (b10.cell (cell_lt c4)).trans c4
                have ow10 := own_below hown b10
                have b90 := bel_more hb b10
                have hs90 := b90.size
                have H0 := World.alloc_heap_new w10 (.cells (p5A x) 42)
                clear c0 c1 c2 c3 c4 RE hrv
                go_wp2_with (at_builtin; refine wpList_append_own _ rfl _ _ 32 rfl w9.heap.size 42 i0 (.agg #[.int .i64 0, .slice none 0 0, .string ⟨#[]⟩, .string ⟨#[]⟩, .int .i64 0]) 5 72 Tryd.underlying32 hi hz0 hz1 hz2 rfl (by decide) _ _ _ rfl (World.ownsRow.alloc ow10 _) ⟨w10.heap.size, 0, none⟩ 1 1 [.int .i64 x.nd, .slice x.o x.s.pts.length x.cap, .string x.s.fill, .string x.s.rule, .int .i64 x.lv] rfl rfl (World.news_of_block H0) (fun u hu => by simp at hu; rcases hu with rfl | rfl | rfl | rfl | rfl <;> rfl) (by simp only [maxLen]; omega) (by omega) (by simp; omega) ?_; intro v7 w7' ow7 gr7 _)
                go_roundw
                case rel =>
                  refine ⟨k + 1, by omega, by go_num, ?_, (b90.alloc hs90 _).grown gr7 (by simp; omega) (fun r e => (ow10.lt r e).1)⟩
                  rw [HFL.out, if_pos (by simp)]
                  exact Own5.app ow7
                case measure => simp [intOf]; omega
            · obtain rfl : k = mA.length := by omega
              rw [List.take_length] at hown hrv hvl ⊢
              have hkF : okAll (mA.filter fun x => reachM x.s.pts (Y : Int)) := okAll_filter hkA
              have hpF : PtsOf wr (mA.filter fun x => reachM x.s.pts (Y : Int)) := fun x hx => (hpA x (List.mem_filter.1 hx).1).below hb (Nat.le_refl _)
              have hsF : rowM reachM (sP (mA.filter fun x => reachM x.s.pts (Y : Int))) N (Y : Int) = rowM reachM (sP l) N (Y : Int) := by rw [sP_filter, hmA, rowM_again]
              have RW := Row_in aB aS aZ aV (mA.filter fun x => reachM x.s.pts (Y : Int)) ov cv N Y wr hN1 hN2 (by omega) (by omega) (by omega) hrv hpF (hEA.below hb (Nat.le_refl _))
              rw [hsF] at RW
              have b79 := bel_more b8 b9
              have hsT := HRW.out.2.below (bel_more b79 hb)
              have hrl : (rowM reachM (sP l) N (Y : Int)).length = N := rowM_len _ _ _ _
              have HRL : Hid ((rowM reachM (sP l) N (Y : Int)).length = N) := hrl
              generalize (mA.filter fun x => reachM x.s.pts (Y : Int)) = mF at hown hrv hvl hkF RW ⊢
              clear hsF hpF hrl hown hrv
              go_upto_region 21 with (go_at_call 8; refine RW.mono ?_; rintro e w11 ⟨hro, b11⟩; obtain ⟨lo, ln, lc, rfl, hlr⟩ : ∃ (lo : Option Addr) (ln lc : Nat), e = .returned (.tuple #[.slice lo ln lc, .nilIface]) ∧ w11.ownsRow wr.heap.size 9 1 (.slice lo ln lc) N ((rowM reachM (sP l) N Y).map .string) := (by rcases hro with ⟨k1, v', k2, k3⟩ | ⟨k1, -⟩; obtain ⟨g, cp, rfl, -, -⟩ := k3.form hN1; exact ⟨_, _, _, k2, k3⟩; exact absurd hkF k1))
              clear hro RW
              obtain ⟨lo', lc', hlq, -, -, hlT⟩ := TxAt.own hlr
              simp only [Value.slice.injEq] at hlq
              obtain ⟨rfl, hln, rfl⟩ := hlq
              rw [HRL.out] at hln
              obtain rfl := hln.symm
              have ST := SameTexts_same (rowM reachM (sP l) N Y) (rowM reachM (sP l) N Y) lo so lc sc w11 (by rw [HRL.out]; omega) hlT (hsT.below b11) rfl
              rw [HRL.out] at ST
              clear hlT hsT hlr
              go_wp2_with (go_at_call 9; refine ST.mono ?_; rintro e w12 ⟨rfl, b12⟩)
              go_ret
              exact ⟨rfl, bel_more bw9 (bel_more hb (bel_more b11 b12))⟩
        · exact absurd hok hno
      · rcases hrb with ⟨hok, -⟩ | ⟨-, a', rfl⟩
        · exact absurd hok hno
        · go_wp2_with fail
          go_ret
          exact ⟨rfl, bw7⟩
end Go.Proofs.YtmbdojcljgicaaaDoor

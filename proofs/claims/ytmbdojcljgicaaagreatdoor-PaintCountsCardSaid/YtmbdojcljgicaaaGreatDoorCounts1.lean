/-
  PaintCounts: the walk.
-/
import Derived.Test.YtmbdojcljgicaaaGreatDoorPaint11
import Derived.Test.YtmbdojcljgicaaaGreatDoorCount2
import Derived.Test.YtmbdojcljgicaaaGreatDoorSame1
import Derived.Test.YtmbdojcljgicaaaGreatDoorPaintO
import Derived.Lib.QuietBelow
namespace Go.Proofs.YtmbdojcljgicaaaGreatDoor
open Go.RowKit Go.Maps Go.Sort

theorem Own5.row {w : World} {base : Nat} {v : Value} {l : List P5} (h : Own5 w base v l) : ∃ o cap, v = .slice o l.length cap ∧ Row5 w o cap l := by
  rcases h.rw with ⟨rfl, rfl⟩ | ⟨b, cap, rfl, -, -, hle, hr⟩
  · exact ⟨none, 0, rfl, fun i x hx => by simp at hx, Nat.le_refl _, fun _ => rfl⟩
  · exact ⟨_, cap, rfl, hr.at_, hle, fun h => by cases h⟩
theorem okAll_sP {l m : List P5} (h : sP l = sP m) (hk : okAll l) : okAll m := fun x hx => by
  have : x.s ∈ sP l := by rw [h]; exact List.mem_map.2 ⟨x, hx, rfl⟩
  obtain ⟨y, hy, e⟩ := List.mem_map.1 this
  rw [← e]
  exact hk y hy
theorem len_sP {l m : List P5} (h : sP l = sP m) : l.length = m.length := by
  have := congrArg List.length h
  simpa [sP] using this
theorem count_take (T : List By) (k : Nat) {s x : By} (h : T[k]? = some x) : (T.take (k + 1)).count s = (T.take k).count s + (if x = s then 1 else 0) := by
  rw [List.take_add_one, h, List.count_append]
  simp only [Option.toList_some, List.count_singleton]
  by_cases e : x = s
  · subst e; simp
  · rw [if_neg e]; simp [e]
set_option maxRecDepth 20000 in
set_option maxHeartbeats 4000000 in
theorem squareB_any (n : Int) (w : World) (h1 : -1000 ≤ n) (h2 : n ≤ 1000) :
    Calls Tryz.prog 10 #[.int .i64 n] w fun e W => ∃ b cap, e = .returned (.slice (some ⟨b, 0, none⟩) 4 cap) ∧ PtsAt W (some ⟨b, 0, none⟩) (sqL n) ∧ (∃ cur, W.heap[b]? = some (.cells cur 61 (0, 0))) ∧ Below w.heap.size w W := by
  go_enter Tryz.func10, Tryz.ntmps10
  go_wp2
  go_ret
  have hn := World.alloc_heap_new ((w.alloc (.cells #[.int .i64 0, .int .i64 1] 59)).alloc (.cells #[.int .i64 n, .int .i64 1] 59)) (.cells #[.int .i64 0, .int .i64 1, .int .i64 0, .int .i64 1, .int .i64 n, .int .i64 1, .int .i64 0, .int .i64 1, .int .i64 n, .int .i64 1, .int .i64 n, .int .i64 1, .int .i64 0, .int .i64 1, .int .i64 n, .int .i64 1] 61)
  rw [show ((w.alloc (.cells #[.int .i64 0, .int .i64 1] 59)).alloc (.cells #[.int .i64 n, .int .i64 1] 59)).heap.size = w.heap.size + 1 + 1 from by simp] at hn
  have hi := i64_small h1 h2
  have z0 := i64_small (n := 0) (by decide) (by decide)
  have z1 := i64_small (n := 1) (by decide) (by decide)
  exact ⟨w.heap.size + 1 + 1, 4, rfl, pts_four (a0 := ⟨0, 1, 0, 1⟩) (a1 := ⟨n, 1, 0, 1⟩) (a2 := ⟨n, 1, n, 1⟩) (a3 := ⟨0, 1, n, 1⟩) hn ⟨z0, z1, z0, z1⟩ ⟨hi, z1, z0, z1⟩ ⟨hi, z1, hi, z1⟩ ⟨z0, z1, hi, z1⟩, ⟨_, hn⟩, (((Below.refl _ _).alloc (Nat.le_refl _) _).alloc (by simp) _).alloc (by simp; omega) _⟩
/-- What Paint answers, in the law's words. -/
def PaR (l : List P5) (N H : Nat) (X : World) (e : Ending) : Prop :=
  (okAll l ∧ ∃ qo qc, e = .returned (.tuple #[.agg #[.int .i64 N, .int .i64 H, .slice qo (picM reachM (sP l) N H).length qc], .nilIface]) ∧ TxAt X qo (picM reachM (sP l) N H)) ∨
  (¬ okAll l ∧ ∃ a, e = .returned (.tuple #[.agg #[.int .i64 0, .int .i64 0, .slice none 0 0], .iface 69 (.pointer (some a))]))
theorem paint_row (aB aS aZ aV : Addr) (l m : List P5) (v : Value) (base N H : Nat) (V : World) (hN1 : 1 ≤ N) (hN2 : N ≤ 40) (hH1 : 1 ≤ H) (hH2 : H ≤ 40) (hl : l.length ≤ 1000) (ow : Own5 V base v m) (hsm : sP m = sP l) (hpm : PtsOf V m) (hE : EP aB aS aZ aV V) :
    Calls Tryz.prog 6 #[v, .int .i64 N, .int .i64 H] V fun e X => PaR l N H X e ∧ Below V.heap.size V X := by
  obtain ⟨o', c', rfl, hrow⟩ := ow.row
  have hlm := len_sP hsm
  refine (Paint_in aB aS aZ aV m o' c' N H V hN1 hN2 hH1 hH2 (by omega) hrow hpm hE).mono ?_
  rintro e X ⟨hc, hb⟩
  refine ⟨?_, hb⟩
  rcases hc with ⟨hk, v', h1, h2⟩ | ⟨hk, a, h1⟩
  · rw [hsm] at h2
    obtain ⟨qo, qc, rfl, -, -, hT⟩ := TxAt.own h2
    exact .inl ⟨okAll_sP hsm hk, qo, qc, h1, hT⟩
  · exact .inr ⟨fun h => hk (okAll_sP hsm.symm h), a, h1⟩
set_option maxRecDepth 20000 in
set_option maxHeartbeats 16000000 in
theorem counts_law (aB aS aZ aV : Addr) (l : List P5) (o : Option Addr) (cap : Nat) (n h : Int) (W : World) (hE : EP aB aS aZ aV W) (hR : P5sAt W o l) (hP : PtsOf W l) (hn : I64 n) (hh : I64 h) :
    Calls Tryz.prog 3 #[.slice o l.length cap, .int .i64 n, .int .i64 h] W fun e w' => e = .returned (.bool true) ∧ Below W.heap.size W w' := by
  have PA := painted_any aB aS aZ aV W hE
  go_enter Tryz.func3, Tryz.ntmps3
  go_upto_region 2 with (go_at_call 4; refine PA.mono ?_; rintro e w1 ⟨rfl, b1⟩)
  clear PA
  have LP := longPieces_any l o cap w1 (hR.below b1 (Nat.le_refl _))
  go_cut [41] from 20 to 40 (fun v wx => (v = .bool true ∨ (v = .bool false ∧ l.length ≤ 8 ∧ (∀ x ∈ l, shortP x) ∧ 1 ≤ n ∧ n ≤ 12 ∧ 1 ≤ h ∧ h ≤ 12)) ∧ Below w1.heap.size w1 wx)
  case first =>
    go_wp2_with fail
    refine LP.mono ?_
    rintro e w2 ⟨hr, b2⟩
    rcases hr with rfl | ⟨rfl, h8, hs⟩
    · go_wp2_with fail
      go_meet
      exact ⟨.inl rfl, b2⟩
    · by_cases n1 : n < 1
      · go_wp2_with fail
        go_meet
        exact ⟨.inl rfl, b2⟩
      · by_cases n2 : 12 < n
        · go_wp2_with fail
          go_meet
          exact ⟨.inl rfl, b2⟩
        · by_cases h1 : h < 1
          · go_wp2_with fail
            go_meet
            exact ⟨.inl rfl, b2⟩
          · by_cases h2 : 12 < h
            · go_wp2_with fail
              go_meet
              exact ⟨.inl rfl, b2⟩
            · go_wp2_with fail
              go_meet
              exact ⟨.inr ⟨by simp; omega, h8, hs, by omega, by omega, by omega, by omega⟩, b2⟩
  case rest =>
    obtain ⟨w2, rfl⟩ : ∃ V, V = wc := ⟨_, rfl⟩
    obtain ⟨hv, b2⟩ := hcut
    have bw2 := bel_more b1 b2
    clear LP
    rcases hv with rfl | ⟨rfl, h8, hs, n1, n2, h1, h2⟩
    · go_wp2_with fail
      go_ret
      exact ⟨rfl, bw2⟩
    obtain ⟨N, rfl⟩ : ∃ N : Nat, n = N := ⟨n.toNat, by omega⟩
    obtain ⟨H, rfl⟩ : ∃ H : Nat, h = H := ⟨h.toNat, by omega⟩
    have hl8 : l.length ≤ 1000 := by omega
    have hs8 : ∀ x ∈ l, x.s.pts.length ≤ 1000 := fun x hx => by have := (hs x hx).1; omega
    have AS := fun V (hv : Below W.heap.size W V) => asPieces_both l o cap V hl8 hs8 (hR.below hv (Nat.le_refl _)) (hP.below hv (Nat.le_refl _))
    have A1 := AS w2 bw2
    have hN1 : 1 ≤ N := by omega
    have hN2 : N ≤ 12 := by omega
    have hH1 : 1 ≤ H := by omega
    have hH2 : H ≤ 12 := by omega
    go_upto_region 5 with (first | (go_at_call 6; refine (paint_row aB aS aZ aV l m3 v3 w2.heap.size N H w3 hN1 (by omega) hH1 (by omega) hl8 ow3 hm3 hp3.1 (hE.below (bel_more bw2 b3) (Nat.le_refl _))).mono ?_; rintro e w4 ⟨hpa, b4⟩; obtain ⟨a0, a1, qo, qn, qc, er1, rfl, hpb⟩ : ∃ (a0 a1 : Int) (qo : Option Addr) (qn qc : Nat) (er1 : Value), e = .returned (.tuple #[.agg #[.int .i64 a0, .int .i64 a1, .slice qo qn qc], er1]) ∧ ((okAll l ∧ er1 = .nilIface ∧ a0 = N ∧ a1 = H ∧ qn = (picM reachM (sP l) N H).length ∧ TxAt w4 qo (picM reachM (sP l) N H)) ∨ (¬ okAll l ∧ qn = 0 ∧ ∃ a, er1 = .iface 69 (.pointer (some a)))) := (by rcases hpa with ⟨k1, q1, q2, k2, k3⟩ | ⟨k1, a, k2⟩; exact ⟨_, _, _, _, _, _, k2, .inl ⟨k1, rfl, rfl, rfl, rfl, k3⟩⟩; exact ⟨_, _, _, _, _, _, k2, .inr ⟨k1, rfl, a, rfl⟩⟩)) | (go_at_call 7; refine A1.mono ?_; rintro e w3 ⟨v3, m3, rfl, ow3, hm3, hp3, b3⟩))
    clear A1 ow3 hm3 hp3 hpa
    have b5 := mbelow w4 (.cells #[.int .i64 a0, .int .i64 a1, .slice qo qn qc] 27)
    have r5 := World.alloc_heap_new w4 (.cells #[.int .i64 a0, .int .i64 a1, .slice qo qn qc] 27)
    obtain ⟨w5, hw5⟩ : ∃ V, w4.alloc (.cells #[.int .i64 a0, .int .i64 a1, .slice qo qn qc] 27) = V := ⟨_, rfl⟩
    obtain ⟨PB, hPB⟩ : ∃ B, w4.heap.size = B := ⟨_, rfl⟩
    rw [hw5] at b5 r5 ⊢
    have bw5 := bel_more bw2 (bel_more b3 (bel_more b4 b5))
    rw [hPB] at r5 ⊢
    rcases hpb with ⟨hok, rfl, rfl, rfl, hqn, hqT⟩ | ⟨hno, rfl, a, rfl⟩
    · have hqT5 := hqT.below b5
      clear hw5 hPB b5 hqT b4 b3
      obtain ⟨C, hC⟩ : ∃ C, picM reachM (sP l) N H = C := ⟨_, rfl⟩
      rw [hC] at hqn hqT5
      have hCl : C.length = N * H := by rw [← hC]; exact picM_len _ _ _ _
      have hNH : N * H ≤ 144 := Nat.mul_le_mul hN2 hH2
      have hNH1 : 1 ≤ N * H := Nat.mul_pos hN1 hH1
      have hCs : ∀ s ∈ C, s.size ≤ 60 := by
        rw [← hC]
        exact pic_short (sP l) N (fun s hs' => by obtain ⟨x, hx, rfl⟩ := List.mem_map.1 hs'; exact (hs x hx).2.1) H
      subst hqn
      have HC : Hid (picM reachM (sP l) N H = C ∧ C.length = N * H) := ⟨hC, hCl⟩
      have hC144 : C.length ≤ 144 := by omega
      have hC1 : 1 ≤ C.length := by omega
      clear hC hCl
      obtain ⟨p0, p1, p2, -, -, -⟩ := Blk3.of r5
      have CN := Count_any C qo qc (N : Int) (H : Int) w5 (by omega) hCs hqT5
      go_upto_region 8 with (go_at_call 8; refine CN.mono ?_; rintro e w6 ⟨N0, v1, v2, rfl, hN, ow1, ow2, b6⟩; rw [nm_enc] at ow1; obtain ⟨o1, c1, rfl, -, -, hT1⟩ := TxAt.own ow1; obtain ⟨g2, c2, rfl, hg2, hg2l⟩ := ow2.form (by
        have h1 := hN.sum
        cases N0 with
        | nil => simp [sumC, tl] at h1; omega
        | cons _ _ => simp))
      clear CN p0 p1 p2 ow1
      have hnl : (nmB N0).length = N0.length := by simp [nmB]
      have HNL : Hid ((nmB N0).length = N0.length) := hnl
      clear hnl
      have bw6 := bel_more bw5 b6
      have r6 := (b6.block _ (Array.getElem?_eq_some_iff.1 r5).1).trans r5
      have hqT6 := hqT5.below b6
      have hMany : ∀ k s, N0[k]? = some s → w6.cell? ⟨g2, k, none⟩ = some (.int .i64 ((tl C).count s : Nat)) := fun k s hk => by
        have := own_news ow2 k (.int .i64 ((tl C).count s : Nat)) (by rw [cntV, List.getElem?_map, hk]; rfl)
        rw [addr_add, Nat.zero_add] at this
        exact this
      have hN0l : N0.length ≤ 144 := by
        have h1 := hN.perm.length_eq
        have h2 : (ded (tl C)).length ≤ (tl C).length := (ded_nodup (tl C)).length_le_of_subset (fun x hx => (ded_mem (tl C) x).1 hx)
        have h3 : (tl C).length = C.length := List.length_map _
        omega
      have HN : Hid (NamesOf (tl C) N0) := hN
      clear hN ow2 r5 hqT5 b6 hg2 hg2l
      have hne : ((N0.length : Int) != (N0.length : Int)) = false := by simp
      go_wp2_with fail
      go_loopw [12, 13] (fun u v wr => ∃ k : Nat, k ≤ N0.length ∧ v = .int .i64 k ∧ u = .int .i64 (sumC (tl C) (N0.take k) : Nat) ∧ Below w6.heap.size w6 wr) (fun _ v _ => N0.length - (intOf v).toNat)
      case atStart => exact ⟨0, Nat.zero_le _, rfl, rfl, Below.refl _ _⟩
      case round =>
        obtain ⟨k, hk, rfl, rfl, hb⟩ := hrel
        obtain ⟨wo, rfl⟩ : ∃ V, V = wr := ⟨_, rfl⟩
        by_cases hlt : k < N0.length
        · have hlt' : (k : Int) < (N0.length : Int) := by omega
          obtain ⟨s, hsk⟩ : ∃ s, N0[k]? = some s := ⟨_, List.getElem?_eq_getElem hlt⟩
          have hsum : sumC (tl C) (N0.take (k + 1)) = sumC (tl C) (N0.take k) + (tl C).count s := by
            rw [List.take_add_one, hsk, sumC_app]
            rfl
          have hle : sumC (tl C) (N0.take (k + 1)) ≤ 144 := by
            have h1 := HN.out.sum
            have h2 := sumC_app (tl C) (N0.take (k + 1)) (N0.drop (k + 1))
            rw [List.take_append_drop] at h2
            have h3 : (tl C).length = C.length := List.length_map _
            omega
          have hpos := HN.out.pos (List.mem_of_getElem? hsk)
          obtain ⟨sb, hsb⟩ : ∃ sb : ByteArray, (⟨s.toArray⟩ : ByteArray) = sb := ⟨_, rfl⟩
          have hsd : sb.data.toList = s := by rw [← hsb]
          have hnm : (nmB N0)[k]? = some sb := by rw [nmB, List.getElem?_map, hsk, ← hsb]; rfl
          have HS : Hid (sb.data.toList = s ∧ N0[k]? = some s ∧ (nmB N0)[k]? = some sb) := ⟨hsd, hsk, hnm⟩
          have HSM : Hid (sumC (tl C) (N0.take (k + 1)) = sumC (tl C) (N0.take k) + (tl C).count s) := hsum
          obtain ⟨A, hA⟩ : ∃ A, sumC (tl C) (N0.take k) = A := ⟨_, rfl⟩
          obtain ⟨Z, hZ⟩ : ∃ Z, (tl C).count s = Z := ⟨_, rfl⟩
          have hAZ : A + Z ≤ 144 := by omega
          have hZ0 : 0 < Z := by omega
          rw [hA]
          have HAZ : Hid (sumC (tl C) (N0.take k) = A ∧ (tl C).count s = Z) := ⟨hA, hZ⟩
          clear hsd hsb hsk hnm hsum hle hpos hA hZ
          go_wp2_with fail
          go_loopw [14, 15] (fun u v wi => ∃ j : Nat, j ≤ C.length ∧ v = .int .i64 j ∧ u = .int .i64 (((tl C).take j).count s : Nat) ∧ Below wo.heap.size wo wi) (fun _ v _ => C.length - (intOf v).toNat)
          case atStart => exact ⟨0, Nat.zero_le _, rfl, rfl, Below.refl _ _⟩
          case round =>
            obtain ⟨j, hj, rfl, rfl, hbi⟩ := hrel
            have hb6 := bel_more hb hbi
            have ri := (hb6.block _ (Array.getElem?_eq_some_iff.1 r6).1).trans r6
            obtain ⟨p0, p1, p2, -, -, -⟩ := Blk3.of ri
            have hcj : ((tl C).take j).count s ≤ 144 := by
              have := List.count_le_length (a := s) (l := (tl C).take j)
              rw [List.length_take, List.length_map] at this
              omega
            by_cases hjl : j < C.length
            · have hjl' : (j : Int) < (C.length : Int) := by omega
              obtain ⟨c, hcj'⟩ : ∃ c, C[j]? = some c := ⟨_, List.getElem?_eq_getElem hjl⟩
              obtain ⟨bq, fq, rfl, cq⟩ := hqT6.below hb6 j c hcj'
              obtain ⟨bn, fn, rfl, cn⟩ := hT1.below hb6 k sb HS.out.2.2
              have hct := count_take (tl C) j (s := s) (x := c.data.toList) (by rw [tl, List.getElem?_map, hcj']; rfl)
              have HCT : Hid (((tl C).take (j + 1)).count s = ((tl C).take j).count s + (if c.data.toList = s then 1 else 0)) := hct
              generalize ((tl C).take j).count s = cnt at HCT hcj ⊢
              clear hct hcj'
              have q1 : wr.drew.cell? ⟨bq, fq + j, none⟩ = some (.string c) := cq
              have q2 : wr.drew.cell? ⟨bn, fn + k, none⟩ = some (.string sb) := cn
              have q3 : wr.drew.cell? ⟨PB, 2, none⟩ = some (.slice (some ⟨bq, fq, none⟩) C.length qc) := p2
              by_cases he : c = sb
              · subst he
                go_upto_region 18 with fail
                go_region
                all_goals
                  go_wp2_with fail
                  go_roundw
                  case rel => exact ⟨j + 1, by omega, by go_num, by rw [HCT.out, if_pos HS.out.1]; go_num, hbi.drew⟩
                  case measure => simp [intOf]; omega
              · have hel : (c.toList == sb.toList) = false := beq_eq_false_iff_ne.2 (fun h => he (ba_eq h))
                have hns : ¬ c.data.toList = s := fun h => he (ba_eq (by rw [ByteArray.toList_eq, ByteArray.toList_eq, h, HS.out.1]))
                go_upto_region 18 with fail
                go_region
                all_goals
                  go_wp2_with fail
                  go_roundw
                  case rel => exact ⟨j + 1, by omega, by go_num, by rw [HCT.out, if_neg hns, Nat.add_zero], hbi.drew⟩
                  case measure => simp [intOf]; omega
            · obtain rfl : j = C.length := by omega
              have htl : (tl C).take C.length = tl C := List.take_of_length_le (by rw [List.length_map]; exact Nat.le_refl _)
              rw [htl, HAZ.out.2]
              clear hcj htl
              obtain ⟨bn, fn, rfl, cn⟩ := hT1.below hb6 k sb HS.out.2.2
              have hmk := (hb6.cell (cell_lt (hMany k s HS.out.2.1))).trans (hMany k s HS.out.2.1)
              rw [HAZ.out.2] at hmk
              have rM := cell_regrown hmk
              have rN := cell_regrown cn
              have hz1 : ((Z : Int) == 0) = false := by rw [beq_eq_false_iff_ne]; omega
              have hz2 : ((Z : Int) != (Z : Int)) = false := by simp
              by_cases hk0 : k = 0
              · have hk1 : ¬ 0 < (k : Int) := by omega
                have hk2 : ¬ 0 < k := by omega
                clear hk0
                go_upto_region 20 with fail
                refine wp_region_quiet_below (by kernel_rfl) (by kernel_rfl) ?_
                repeat (go_big_quiet_step (fail))
                refine wpQuiet_nil ?_
                intro _ hw'
                obtain ⟨pp, hw''⟩ := hw'
                subst hw''
                have b20 := below_regrown wr pp.d pp.os
                generalize Go.Sort.grow (redrawn wr pp.d) pp.os = w20 at b20 ⊢
                clear rM rN hmk cn p0 p1 p2
                go_wp2_with fail
                go_roundw
                case rel => exact ⟨k + 1, by omega, by go_num, by rw [HSM.out, HAZ.out.1, HAZ.out.2]; go_num, bel_more hb6 b20⟩
                case measure => simp [intOf]; omega
              · have hk1 : 0 < (k : Int) := by omega
                have hk2 : 0 < k := by omega
                obtain ⟨k', hk'⟩ : ∃ k' : Nat, k = k' + 1 := ⟨k - 1, by omega⟩
                have hk3 : (k : Int) - 1 = (k' : Int) := by omega
                have hk4 : IntKind.i64.wrap (k' : Int) = (k' : Int) := IntWalk.i64_in _ (by omega)
                have hk5 : (k' : Int) < (N0.length : Int) := by omega
                have hk6 : ¬ (k' : Int) < 0 := by omega
                obtain ⟨s1, hs1⟩ : ∃ s1, N0[k']? = some s1 := ⟨_, List.getElem?_eq_getElem (by omega)⟩
                have hrise : ¬ s ≤ s1 := HN.out.lt hs1 (by rw [← hk']; exact HS.out.2.1)
                obtain ⟨sb1, hsb1⟩ : ∃ sb : ByteArray, (⟨s1.toArray⟩ : ByteArray) = sb := ⟨_, rfl⟩
                have hsd1 : sb1.data.toList = s1 := by rw [← hsb1]
                have hle1 : ¬ sb.toList ≤ sb1.toList := by rw [ByteArray.toList_eq, ByteArray.toList_eq, HS.out.1, hsd1]; exact hrise
                have hl1 : Op.bytesLess sb.toList sb1.toList = false := by rw [bytesLess_eq]; exact decide_eq_false (fun h => hle1 (List.le_of_lt h))
                have hl2 : (sb.toList == sb1.toList) = false := beq_eq_false_iff_ne.2 (fun h => hle1 (by rw [h]; exact List.le_refl _))
                clear hle1
                obtain ⟨bn', fn', hbn, cn1⟩ := hT1.below hb6 k' sb1 (by rw [nmB, List.getElem?_map, hs1, ← hsb1]; rfl)
                cases hbn
                have rN1 := cell_regrown cn1
                clear hs1 hrise hsb1 hsd1 hk' hk0 cn1
                go_upto_region 20 with fail
                refine wp_region_quiet_below (by kernel_rfl) (by kernel_rfl) ?_
                repeat (go_big_quiet_step (fail))
                refine wpQuiet_nil ?_
                intro _ hw'
                obtain ⟨pp, hw''⟩ := hw'
                subst hw''
                have b20 := below_regrown wr pp.d pp.os
                generalize Go.Sort.grow (redrawn wr pp.d) pp.os = w20 at b20 ⊢
                clear rM rN rN1 hmk cn p0 p1 p2
                go_wp2_with fail
                go_roundw
                case rel => exact ⟨k + 1, by omega, by go_num, by rw [HSM.out, HAZ.out.1, HAZ.out.2]; go_num, bel_more hb6 b20⟩
                case measure => simp [intOf]; omega
        · obtain rfl : k = N0.length := by omega
          have hall : sumC (tl C) (N0.take N0.length) = C.length := by
            rw [List.take_length, HN.out.sum]
            exact List.length_map _
          rw [hall]
          have hmul : (N : Int) * (H : Int) = (C.length : Int) := by rw [HC.out.2]; simp
          have hmn : ((C.length : Int) != (C.length : Int)) = false := by simp
          have rO := (hb.block _ (Array.getElem?_eq_some_iff.1 r6).1).trans r6
          obtain ⟨p0, p1, p2, -, -, -⟩ := Blk3.of rO
          have hqo := hqT6.below hb
          have SM := Same_any C C qo qo qc qc (N : Int) (H : Int) wo (by omega) hqo hqo
          have SM2 : Calls Tryz.prog 9 #[.agg #[.int .i64 N, .int .i64 H, .slice qo C.length qc], .agg #[.int .i64 N, .int .i64 H, .slice qo C.length qc]] wo fun e X => e = .returned (.bool true) ∧ Below wo.heap.size wo X := SM.mono fun e X h => by
            rcases h.1 with ⟨-, h1⟩ | ⟨h1, -⟩
            · exact ⟨h1, h.2⟩
            · exact absurd rfl h1
          clear SM hall
          go_upto_region 25 with (go_at_call 9; refine SM2.mono ?_; rintro e w7 ⟨rfl, b7⟩)
          clear SM2 hmul hmn p0 p1 p2 HNL hMany
          have bo7 := bel_more hb b7
          have bw7 := bel_more bw6 bo7
          have A2 := AS w7 bw7
          have hsq := fun V => squareB_any 12 V (by decide) (by decide)
          obtain ⟨i0, hi, hz0, hz1, hz2⟩ := info_parts infoPc
          go_upto_region 25 with fail
          go_cut [16] from 132 to 138 (fun v wx => ∃ m, Own5 wx w7.heap.size v m ∧ sP m = sP l ++ [sqPm] ∧ PtsOf wx m ∧ Below w7.heap.size w7 wx)
          case first =>
            go_wp2_with fail
            refine A2.mono ?_
            rintro e w8 ⟨v8, m8, rfl, ow8, hm8, hp8, b8⟩
            have SQ := hsq w8
            go_wp2_with fail
            refine SQ.mono ?_
            rintro e w9 ⟨bs, cs, rfl, hPs, hBs, b9⟩
            have hml : m8.length ≤ 8 := by rw [len_sP hm8]; exact h8
            have ow9 : Own5 w9 w7.heap.size v8 m8 := own_below ow8 b9
            have b79 := bel_more b8 b9
            have hp9 := hp8.1.below b9 (Nat.le_refl _)
            have hq9 := hp8.2.below b9
            have hs79 := b79.size
            have H0 := World.alloc_heap_new w9 (.cells #[.int .i64 0, .slice (some ⟨bs, 0, none⟩) 4 cs, .string ⟨#[122]⟩, .string ⟨#[119, 105, 110, 100]⟩, .int .i64 0] 43)
            clear SQ A2 hsq
            go_wp2_with (at_builtin; refine wpList_append_own _ rfl _ _ 32 rfl w7.heap.size 43 i0 (.agg #[.int .i64 0, .slice none 0 0, .string ⟨#[]⟩, .string ⟨#[]⟩, .int .i64 0]) 5 72 Tryz.underlying32 hi hz0 hz1 hz2 rfl (by decide) _ _ _ rfl (World.ownsRow.alloc ow9 _) ⟨w9.heap.size, 0, none⟩ 1 1 [.int .i64 0, .slice (some ⟨bs, 0, none⟩) 4 cs, .string ⟨#[122]⟩, .string ⟨#[119, 105, 110, 100]⟩, .int .i64 0] rfl rfl (World.news_of_block H0) (fun u hu => by simp at hu; rcases hu with rfl | rfl | rfl | rfl | rfl <;> rfl) (by simp only [maxLen]; omega) (by omega) (by simp; omega) ?_; intro v10 w10 ow10 gr10 _)
            go_meet
            have bd := mbelow w9 (.cells #[.int .i64 0, .slice (some ⟨bs, 0, none⟩) 4 cs, .string ⟨#[122]⟩, .string ⟨#[119, 105, 110, 100]⟩, .int .i64 0] 43)
            have hpn : PtsOf w9 (m8 ++ [⟨0, some ⟨bs, 0, none⟩, cs, sqPm, 0⟩]) := fun z hz => by
              rcases List.mem_append.1 hz with hz | hz
              · exact hp9 z hz
              · simp at hz; subst hz; exact hPs
            have hbn : PtsB w9 (m8 ++ [⟨0, some ⟨bs, 0, none⟩, cs, sqPm, 0⟩]) := fun z hz => by
              rcases List.mem_append.1 hz with hz | hz
              · exact hq9 z hz
              · simp at hz; subst hz; exact fun a ha => by cases ha; exact hBs
            have hpg := pts_grown (hpn.below bd (Nat.le_refl _)) (hbn.below bd) gr10 (own_kind (World.ownsRow.alloc ow9 _))
            refine ⟨m8 ++ [⟨0, some ⟨bs, 0, none⟩, cs, sqPm, 0⟩], Own5.app (x := ⟨0, some ⟨bs, 0, none⟩, cs, sqPm, 0⟩) ow10, ?_, hpg.1, (b79.alloc hs79 _).grown gr10 (by simp; omega) (fun r e => (ow9.lt r e).1)⟩
            simp only [sP, List.map_append] at hm8 ⊢
            rw [hm8]
            rfl
          case rest =>
            obtain ⟨w10, rfl⟩ : ∃ V, V = wc := ⟨_, rfl⟩
            obtain ⟨m, owm, hsm, hpm, b10⟩ := hcut
            have bw10 := bel_more bw7 b10
            clear A2 hsq
            have hml : m.length = l.length + 1 := by
              have := congrArg List.length hsm
              simpa [sP] using this
            have hokm : okAll m := fun x hx => by
              have h1 : x.s ∈ sP l ++ [sqPm] := by rw [← hsm]; exact List.mem_map.2 ⟨x, hx, rfl⟩
              rcases List.mem_append.1 h1 with h1 | h1
              · obtain ⟨z, hz, e⟩ := List.mem_map.1 h1
                rw [← e]
                exact hok z hz
              · simp at h1
                rw [h1]
                exact sq_okPm
            have PQ := paint_row aB aS aZ aV m m _ w7.heap.size N H w10 hN1 (by omega) hH1 (by omega) (by omega) owm rfl hpm (hE.below bw10 (Nat.le_refl _))
            have hover : picM reachM (sP m) N H = List.replicate C.length ⟨#[122]⟩ := by rw [hsm, pic_over (sP l) N hN2 H hH2, HC.out.2]
            have PQ2 : Calls Tryz.prog 6 #[u16, .int .i64 N, .int .i64 H] w10 fun e X => (∃ ro rc, e = .returned (.tuple #[.agg #[.int .i64 N, .int .i64 H, .slice ro C.length rc], .nilIface]) ∧ TxAt X ro (List.replicate C.length ⟨#[122]⟩)) ∧ Below w10.heap.size w10 X := PQ.mono fun e X h => by
              refine ⟨?_, h.2⟩
              rcases h.1 with ⟨-, ro, rc, e1, hT⟩ | ⟨h1, -⟩
              · rw [hover] at e1 hT
                rw [List.length_replicate] at e1
                exact ⟨ro, rc, e1, hT⟩
              · exact absurd hokm h1
            clear PQ hover hokm hsm hpm owm
            go_upto_region 27 with (go_at_call 6; refine PQ2.mono ?_; rintro e w11 ⟨⟨ro, rc, rfl, hrT⟩, b11⟩)
            clear PQ2
            have b12 := mbelow w11 (.cells #[.int .i64 N, .int .i64 H, .slice ro C.length rc] 27)
            have r12 := World.alloc_heap_new w11 (.cells #[.int .i64 N, .int .i64 H, .slice ro C.length rc] 27)
            obtain ⟨w12, hw12⟩ : ∃ V, w11.alloc (.cells #[.int .i64 N, .int .i64 H, .slice ro C.length rc] 27) = V := ⟨_, rfl⟩
            obtain ⟨QB, hQB⟩ : ∃ B, w11.heap.size = B := ⟨_, rfl⟩
            rw [hw12] at b12 r12 ⊢
            have hrT12 := hrT.below b12
            have b1012 := bel_more b11 b12
            have bw12 := bel_more bw10 b1012
            have bo12 := bel_more b7 (bel_more b10 b1012)
            have ro12 := (bo12.block _ (Array.getElem?_eq_some_iff.1 rO).1).trans rO
            rw [hQB] at r12 ⊢
            clear hw12 hQB b12 hrT b11
            go_wp2_with fail
            go_loopw [18] (fun v wi => ∃ j : Nat, j ≤ C.length ∧ v = .int .i64 j ∧ Below w12.heap.size w12 wi) (fun v _ => C.length - (intOf v).toNat)
            case atStart => exact ⟨0, Nat.zero_le _, rfl, Below.refl _ _⟩
            case round =>
              obtain ⟨j, hj, rfl, hbi⟩ := hrel
              have ri := (hbi.block _ (Array.getElem?_eq_some_iff.1 r12).1).trans r12
              obtain ⟨p0, p1, p2, -, -, -⟩ := Blk3.of ri
              by_cases hjl : j < C.length
              · have hjl' : (j : Int) < (C.length : Int) := by omega
                obtain ⟨bq, fq, rfl, cq⟩ := hrT12.below hbi j ⟨#[122]⟩ (by rw [List.getElem?_replicate, if_pos hjl])
                go_wp2_with fail
                go_roundw
                case rel => exact ⟨j + 1, by omega, by go_num, hbi⟩
                case measure => simp [intOf]; omega
              · obtain rfl : j = C.length := by omega
                have rp := (hbi.block _ (Array.getElem?_eq_some_iff.1 ro12).1).trans ro12
                obtain ⟨t0, t1, t2, -, -, -⟩ := Blk3.of rp
                have hqi := (hqo.below bo12).below hbi
                have hri := hrT12.below hbi
                have hrl : (List.replicate C.length (⟨#[122]⟩ : ByteArray)).length = C.length := List.length_replicate
                have SA : ∀ V, Below wr.heap.size wr V → Calls Tryz.prog 9 #[.agg #[.int .i64 N, .int .i64 H, .slice qo C.length qc], .agg #[.int .i64 N, .int .i64 H, .slice ro C.length rc]] V fun e X => SameR C (List.replicate C.length ⟨#[122]⟩) e ∧ Below V.heap.size V X := fun V hV => by
                  have := Same_any C (List.replicate C.length ⟨#[122]⟩) qo ro qc rc (N : Int) (H : Int) V (by omega) (hqi.below hV) (hri.below hV)
                  rw [hrl] at this
                  exact this
                have ST : ∀ V, Below wr.heap.size wr V → Calls Tryz.prog 11 #[.slice qo C.length qc, .slice ro C.length rc] V fun e X => SameR C (List.replicate C.length ⟨#[122]⟩) e ∧ Below V.heap.size V X := fun V hV => by
                  have := SameTexts_any C (List.replicate C.length ⟨#[122]⟩) qo ro qc rc V (by omega) (hqi.below hV) (hri.below hV)
                  rw [hrl] at this
                  exact this
                obtain ⟨bo, SA2, ST2⟩ : ∃ bo : Bool, (∀ V, Below wr.heap.size wr V → Calls Tryz.prog 9 #[.agg #[.int .i64 N, .int .i64 H, .slice qo C.length qc], .agg #[.int .i64 N, .int .i64 H, .slice ro C.length rc]] V fun e X => e = .returned (.bool bo) ∧ Below V.heap.size V X) ∧ (∀ V, Below wr.heap.size wr V → Calls Tryz.prog 11 #[.slice qo C.length qc, .slice ro C.length rc] V fun e X => e = .returned (.bool bo) ∧ Below V.heap.size V X) := by
                  by_cases hcc : C = List.replicate C.length ⟨#[122]⟩
                  · refine ⟨true, fun V hV => (SA V hV).mono fun e X h => ?_, fun V hV => (ST V hV).mono fun e X h => ?_⟩
                    all_goals
                      rcases h.1 with ⟨-, h1⟩ | ⟨h1, -⟩
                      · exact ⟨h1, h.2⟩
                      · exact absurd hcc h1
                  · refine ⟨false, fun V hV => (SA V hV).mono fun e X h => ?_, fun V hV => (ST V hV).mono fun e X h => ?_⟩
                    all_goals
                      rcases h.1 with ⟨h1, -⟩ | ⟨-, h1⟩
                      · exact absurd h1 hcc
                      · exact ⟨h1, h.2⟩
                have q1 : ∀ d os, Calls Tryz.prog 9 #[.agg #[.int .i64 N, .int .i64 H, .slice qo C.length qc], .agg #[.int .i64 N, .int .i64 H, .slice ro C.length rc]] (Go.Sort.grow (redrawn wr d) os) fun e w'' => e = .returned (.bool bo) ∧ ∃ p : Regrown, w'' = Go.Sort.grow (redrawn wr p.d) p.os := fun d os => Calls.regrown_of (SA2 _ (below_regrown wr d os))
                have q2 : ∀ d os, Calls Tryz.prog 11 #[.slice qo C.length qc, .slice ro C.length rc] (Go.Sort.grow (redrawn wr d) os) fun e w'' => e = .returned (.bool bo) ∧ ∃ p : Regrown, w'' = Go.Sort.grow (redrawn wr p.d) p.os := fun d os => Calls.regrown_of (ST2 _ (below_regrown wr d os))
                clear SA ST SA2 ST2 hrl
                have x0 := cell_regrown t0
                have x1 := cell_regrown t1
                have x2 := cell_regrown t2
                have y0 := cell_regrown p0
                have y1 := cell_regrown p1
                have y2 := cell_regrown p2
                go_upto_region 34 with fail
                refine wp_region_quiet_below (by kernel_rfl) (by kernel_rfl) ?_
                repeat (go_big_quiet_step ((first | (go_at_call 9; exact q1 _ _) | (go_at_call 11; exact q2 _ _))))
                refine wpQuiet_nil ?_
                intro _ hw'
                obtain ⟨pp, hw''⟩ := hw'
                subst hw''
                have b20 := below_regrown wr pp.d pp.os
                generalize Go.Sort.grow (redrawn wr pp.d) pp.os = w20 at b20 ⊢
                go_wp2_with fail
                go_ret
                exact ⟨by simp, bel_more bw12 (bel_more hbi b20)⟩
    · obtain ⟨p0, p1, p2, -, -, -⟩ := Blk3.of r5
      go_wp2_with fail
      go_ret
      exact ⟨rfl, bw5⟩
end Go.Proofs.YtmbdojcljgicaaaGreatDoor

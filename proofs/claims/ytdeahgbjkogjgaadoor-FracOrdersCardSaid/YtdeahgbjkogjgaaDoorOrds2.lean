/-
  The walk of the law FracOrders, by cases of what its calls answer: it answers true.
-/
import Derived.Test.YtdeahgbjkogjgaaDoorOrds1
namespace Go.Proofs.YtdeahgbjkogjgaaDoor
open Go.RowKit

set_option maxHeartbeats 2000000 in
theorem ords_bad (aB aS aZ : Addr) (an ad bn bd cn cd : Int) (w : World) (i1 : I64 an) (i2 : I64 ad) (i3 : I64 bn) (i4 : I64 bd) (h : G aB aS aZ w) (hr : chk2 an ad bn bd = 2 ∨ chk2 an ad bn bd = 3) (hr' : chk2 bn bd an ad = 2 ∨ chk2 bn bd an ad = 3) :
    Calls Tryd.prog 7 #[.agg #[.int .i64 an, .int .i64 ad], .agg #[.int .i64 bn, .int .i64 bd], .agg #[.int .i64 cn, .int .i64 cd]] w fun e w' => e = .returned (.bool true) ∧ Below w.heap.size w w' := by
  have HR : Hid (chk2 an ad bn bd = 2 ∨ chk2 an ad bn bd = 3) := hr
  have HR' : Hid (chk2 bn bd an ad = 2 ∨ chk2 bn bd an ad = 3) := hr'
  clear hr hr'
  go_enter Tryd.func7, Tryd.ntmps7
  go_wp2_with (first | (go_at_call 12; refine (halved_any aB aS aZ _ (K3.new h).g).mono ?_; rintro e w1 ⟨rfl, hb⟩; have H1 := (K3.new h).below hb; obtain ⟨k1, k2, k3, k4, k5, k6⟩ := H1.cells) | (go_at_call 21; have hc2 := Cmp_no aB aS aZ bn bd an ad w2 i3 i4 i1 i2 H2.g.e3 HR'.out; obtain ⟨a2, hc2⟩ := hc2; refine hc2.mono ?_; clear hc2; rintro e w3 ⟨rfl, hb3⟩; have H3 := H2.below hb3) | (go_at_call 21; have hc1 := Cmp_no aB aS aZ an ad bn bd w1 i1 i2 i3 i4 H1.g.e3 HR.out; obtain ⟨a1, hc1⟩ := hc1; refine hc1.mono ?_; clear hc1; rintro e w2 ⟨rfl, hb2⟩; have H2 := H1.below hb2; clear k1 k2 k3 k4 k5 k6; obtain ⟨k1, k2, k3, k4, k5, k6⟩ := H2.cells))
  go_ret
  exact ⟨rfl, H3.hw⟩

set_option maxHeartbeats 4000000 in
theorem ords_x (aB aS aZ : Addr) (an ad bn bd cn cd : Int) (w : World) (i5 : I64 cn) (i6 : I64 cd) (h : G aB aS aZ w) (ha : chk an ad = 0) (hb : chk bn bd = 0) (hx : ∃ c, (c = 2 ∨ c = 3) ∧ add an ad cn cd = ⟨0, 0, c⟩) :
    Calls Tryd.prog 7 #[.agg #[.int .i64 an, .int .i64 ad], .agg #[.int .i64 bn, .int .i64 bd], .agg #[.int .i64 cn, .int .i64 cd]] w fun e w' => e = .returned (.bool true) ∧ Below w.heap.size w w' := by
  obtain ⟨n, m, hn, hm, hnm, m1, m2, hz⟩ := cmp_facts ha hb
  have HX : Hid (∃ c, (c = 2 ∨ c = 3) ∧ add an ad cn cd = ⟨0, 0, c⟩) := hx
  clear hx
  have HA : Hid (chk an ad = 0) := ha
  have HB : Hid (chk bn bd = 0) := hb
  obtain ⟨i1, i2⟩ := i64_of_chk ha
  obtain ⟨i3, i4⟩ := i64_of_chk hb
  have HN : Hid (cmpF an ad bn bd = n) := hn
  have HM : Hid (cmpF bn bd an ad = m) := hm
  clear ha hb hn hm
  subst hnm
  have hm0 : (-m == 0) = (m == 0) := by rw [Bool.eq_iff_iff]; simp
  by_cases e1 : an = bn
  · subst e1
    by_cases e2 : ad = bd
    · subst e2
      obtain rfl : m = 0 := by have := hz.2 ⟨rfl, rfl⟩; omega
      clear hz hm0
      go_enter Tryd.func7, Tryd.ntmps7
      go_wp2_with (first | (go_at_call 12; refine (halved_any aB aS aZ _ (K3.new h).g).mono ?_; rintro e w1 ⟨rfl, hb⟩; have H1 := (K3.new h).below hb; obtain ⟨k1, k2, k3, k4, k5, k6⟩ := H1.cells) | (go_at_call 21; have hc2 := Cmp_ok aB aS aZ an ad an ad w2 HB.out HA.out H2.g.e3; rw [HM.out] at hc2; refine hc2.mono ?_; clear hc2; rintro e w3 ⟨rfl, hb3⟩; have H3 := H2.below hb3; clear k1 k2 k3 k4 k5 k6; obtain ⟨k1, k2, k3, k4, k5, k6⟩ := H3.cells) | (go_at_call 21; have hc1 := Cmp_ok aB aS aZ an ad an ad w1 HA.out HB.out H1.g.e3; rw [HN.out] at hc1; refine hc1.mono ?_; clear hc1; rintro e w2 ⟨rfl, hb2⟩; have H2 := H1.below hb2; clear k1 k2 k3 k4 k5 k6; obtain ⟨k1, k2, k3, k4, k5, k6⟩ := H2.cells) | (go_at_call 23; have hc4 := fun W hW => Add_any aB aS aZ an ad cn cd W i3 i4 i5 i6 hW; refine (hc4 _ (H4.alloc _).g.e3).mono ?_; clear hc4; rintro e w5 ⟨rfl, hb5⟩; have H5 := (H4.alloc _).below hb5; have X5 := (Two.new w4 _ _ _).below hb5 (Nat.le_refl _); clear l1 l2 l3 l4 l5 l6; obtain ⟨x1, x2⟩ := X5.cellsA) | (go_at_call 23; have hc3 := Add_no aB aS aZ an ad cn cd w3 i1 i2 i5 i6 H3.g.e3 HX.out; obtain ⟨a3, hc3⟩ := hc3; refine hc3.mono ?_; clear hc3; rintro e w4 ⟨rfl, hb4⟩; have H4 := H3.below hb4; clear k1 k2 k3 k4 k5 k6; obtain ⟨l1, l2, l3, l4, l5, l6⟩ := H4.cellsA))
      go_ret
      exact ⟨rfl, (H5.alloc _).hw⟩
    · have hne : ¬ m = 0 := fun e => e2 (hz.1 (by omega)).2
      clear hz hm0
      go_enter Tryd.func7, Tryd.ntmps7
      go_wp2_with (first | (go_at_call 12; refine (halved_any aB aS aZ _ (K3.new h).g).mono ?_; rintro e w1 ⟨rfl, hb⟩; have H1 := (K3.new h).below hb; obtain ⟨k1, k2, k3, k4, k5, k6⟩ := H1.cells) | (go_at_call 21; have hc2 := Cmp_ok aB aS aZ an bd an ad w2 HB.out HA.out H2.g.e3; rw [HM.out] at hc2; refine hc2.mono ?_; clear hc2; rintro e w3 ⟨rfl, hb3⟩; have H3 := H2.below hb3; clear k1 k2 k3 k4 k5 k6; obtain ⟨k1, k2, k3, k4, k5, k6⟩ := H3.cells) | (go_at_call 21; have hc1 := Cmp_ok aB aS aZ an ad an bd w1 HA.out HB.out H1.g.e3; rw [HN.out] at hc1; refine hc1.mono ?_; clear hc1; rintro e w2 ⟨rfl, hb2⟩; have H2 := H1.below hb2; clear k1 k2 k3 k4 k5 k6; obtain ⟨k1, k2, k3, k4, k5, k6⟩ := H2.cells) | (go_at_call 23; have hc4 := fun W hW => Add_any aB aS aZ an bd cn cd W i3 i4 i5 i6 hW; refine (hc4 _ (H4.alloc _).g.e3).mono ?_; clear hc4; rintro e w5 ⟨rfl, hb5⟩; have H5 := (H4.alloc _).below hb5; have X5 := (Two.new w4 _ _ _).below hb5 (Nat.le_refl _); clear l1 l2 l3 l4 l5 l6; obtain ⟨x1, x2⟩ := X5.cellsA) | (go_at_call 23; have hc3 := Add_no aB aS aZ an ad cn cd w3 i1 i2 i5 i6 H3.g.e3 HX.out; obtain ⟨a3, hc3⟩ := hc3; refine hc3.mono ?_; clear hc3; rintro e w4 ⟨rfl, hb4⟩; have H4 := H3.below hb4; clear k1 k2 k3 k4 k5 k6; obtain ⟨l1, l2, l3, l4, l5, l6⟩ := H4.cellsA))
      go_ret
      exact ⟨rfl, (H5.alloc _).hw⟩
  · have hne : ¬ m = 0 := fun e => e1 (hz.1 (by omega)).1
    clear hz hm0
    go_enter Tryd.func7, Tryd.ntmps7
    go_wp2_with (first | (go_at_call 12; refine (halved_any aB aS aZ _ (K3.new h).g).mono ?_; rintro e w1 ⟨rfl, hb⟩; have H1 := (K3.new h).below hb; obtain ⟨k1, k2, k3, k4, k5, k6⟩ := H1.cells) | (go_at_call 21; have hc2 := Cmp_ok aB aS aZ bn bd an ad w2 HB.out HA.out H2.g.e3; rw [HM.out] at hc2; refine hc2.mono ?_; clear hc2; rintro e w3 ⟨rfl, hb3⟩; have H3 := H2.below hb3; clear k1 k2 k3 k4 k5 k6; obtain ⟨k1, k2, k3, k4, k5, k6⟩ := H3.cells) | (go_at_call 21; have hc1 := Cmp_ok aB aS aZ an ad bn bd w1 HA.out HB.out H1.g.e3; rw [HN.out] at hc1; refine hc1.mono ?_; clear hc1; rintro e w2 ⟨rfl, hb2⟩; have H2 := H1.below hb2; clear k1 k2 k3 k4 k5 k6; obtain ⟨k1, k2, k3, k4, k5, k6⟩ := H2.cells) | (go_at_call 23; have hc4 := fun W hW => Add_any aB aS aZ bn bd cn cd W i3 i4 i5 i6 hW; refine (hc4 _ (H4.alloc _).g.e3).mono ?_; clear hc4; rintro e w5 ⟨rfl, hb5⟩; have H5 := (H4.alloc _).below hb5; have X5 := (Two.new w4 _ _ _).below hb5 (Nat.le_refl _); clear l1 l2 l3 l4 l5 l6; obtain ⟨x1, x2⟩ := X5.cellsA) | (go_at_call 23; have hc3 := Add_no aB aS aZ an ad cn cd w3 i1 i2 i5 i6 H3.g.e3 HX.out; obtain ⟨a3, hc3⟩ := hc3; refine hc3.mono ?_; clear hc3; rintro e w4 ⟨rfl, hb4⟩; have H4 := H3.below hb4; clear k1 k2 k3 k4 k5 k6; obtain ⟨l1, l2, l3, l4, l5, l6⟩ := H4.cellsA))
    go_ret
    exact ⟨rfl, (H5.alloc _).hw⟩

set_option maxHeartbeats 4000000 in
theorem ords_y (aB aS aZ : Addr) (an ad bn bd cn cd xn xd : Int) (w : World) (i5 : I64 cn) (i6 : I64 cd) (h : G aB aS aZ w) (ha : chk an ad = 0) (hb : chk bn bd = 0) (hx : add an ad cn cd = ⟨xn, xd, 0⟩) (hy : ∃ c, (c = 2 ∨ c = 3) ∧ add bn bd cn cd = ⟨0, 0, c⟩) :
    Calls Tryd.prog 7 #[.agg #[.int .i64 an, .int .i64 ad], .agg #[.int .i64 bn, .int .i64 bd], .agg #[.int .i64 cn, .int .i64 cd]] w fun e w' => e = .returned (.bool true) ∧ Below w.heap.size w w' := by
  obtain ⟨n, m, hn, hm, hnm, m1, m2, hz⟩ := cmp_facts ha hb
  have HX : Hid (add an ad cn cd = ⟨xn, xd, 0⟩) := hx
  clear hx
  have HY : Hid (∃ c, (c = 2 ∨ c = 3) ∧ add bn bd cn cd = ⟨0, 0, c⟩) := hy
  clear hy
  have HA : Hid (chk an ad = 0) := ha
  have HB : Hid (chk bn bd = 0) := hb
  obtain ⟨i1, i2⟩ := i64_of_chk ha
  obtain ⟨i3, i4⟩ := i64_of_chk hb
  have HN : Hid (cmpF an ad bn bd = n) := hn
  have HM : Hid (cmpF bn bd an ad = m) := hm
  clear ha hb hn hm
  subst hnm
  have hm0 : (-m == 0) = (m == 0) := by rw [Bool.eq_iff_iff]; simp
  by_cases e1 : an = bn
  · subst e1
    by_cases e2 : ad = bd
    · subst e2
      obtain rfl : m = 0 := by have := hz.2 ⟨rfl, rfl⟩; omega
      clear hz hm0
      go_enter Tryd.func7, Tryd.ntmps7
      go_wp2_with (first | (go_at_call 12; refine (halved_any aB aS aZ _ (K3.new h).g).mono ?_; rintro e w1 ⟨rfl, hb⟩; have H1 := (K3.new h).below hb; obtain ⟨k1, k2, k3, k4, k5, k6⟩ := H1.cells) | (go_at_call 21; have hc2 := Cmp_ok aB aS aZ an ad an ad w2 HB.out HA.out H2.g.e3; rw [HM.out] at hc2; refine hc2.mono ?_; clear hc2; rintro e w3 ⟨rfl, hb3⟩; have H3 := H2.below hb3; clear k1 k2 k3 k4 k5 k6; obtain ⟨k1, k2, k3, k4, k5, k6⟩ := H3.cells) | (go_at_call 21; have hc1 := Cmp_ok aB aS aZ an ad an ad w1 HA.out HB.out H1.g.e3; rw [HN.out] at hc1; refine hc1.mono ?_; clear hc1; rintro e w2 ⟨rfl, hb2⟩; have H2 := H1.below hb2; clear k1 k2 k3 k4 k5 k6; obtain ⟨k1, k2, k3, k4, k5, k6⟩ := H2.cells) | (go_at_call 23; have hc4 := fun o => Add_no aB aS aZ an ad cn cd (w4.alloc o) i3 i4 i5 i6 (H4.alloc _).g.e3 HY.out; obtain ⟨a4, hc4⟩ := hc4 _; refine hc4.mono ?_; clear hc4; rintro e w5 ⟨rfl, hb5⟩; have H5 := (H4.alloc _).below hb5; have X5 := (Two.new w4 _ _ _).below hb5 (Nat.le_refl _); clear l1 l2 l3 l4 l5 l6; obtain ⟨x1, x2⟩ := X5.cellsA) | (go_at_call 23; have hc3 := Add_ok aB aS aZ an ad cn cd xn xd w3 HX.out H3.g.e3; refine hc3.mono ?_; clear hc3; rintro e w4 ⟨rfl, hb4⟩; have H4 := H3.below hb4; clear k1 k2 k3 k4 k5 k6; obtain ⟨l1, l2, l3, l4, l5, l6⟩ := H4.cellsA))
      go_ret
      exact ⟨rfl, (H5.alloc _).hw⟩
    · have hne : ¬ m = 0 := fun e => e2 (hz.1 (by omega)).2
      clear hz hm0
      go_enter Tryd.func7, Tryd.ntmps7
      go_wp2_with (first | (go_at_call 12; refine (halved_any aB aS aZ _ (K3.new h).g).mono ?_; rintro e w1 ⟨rfl, hb⟩; have H1 := (K3.new h).below hb; obtain ⟨k1, k2, k3, k4, k5, k6⟩ := H1.cells) | (go_at_call 21; have hc2 := Cmp_ok aB aS aZ an bd an ad w2 HB.out HA.out H2.g.e3; rw [HM.out] at hc2; refine hc2.mono ?_; clear hc2; rintro e w3 ⟨rfl, hb3⟩; have H3 := H2.below hb3; clear k1 k2 k3 k4 k5 k6; obtain ⟨k1, k2, k3, k4, k5, k6⟩ := H3.cells) | (go_at_call 21; have hc1 := Cmp_ok aB aS aZ an ad an bd w1 HA.out HB.out H1.g.e3; rw [HN.out] at hc1; refine hc1.mono ?_; clear hc1; rintro e w2 ⟨rfl, hb2⟩; have H2 := H1.below hb2; clear k1 k2 k3 k4 k5 k6; obtain ⟨k1, k2, k3, k4, k5, k6⟩ := H2.cells) | (go_at_call 23; have hc4 := fun o => Add_no aB aS aZ an bd cn cd (w4.alloc o) i3 i4 i5 i6 (H4.alloc _).g.e3 HY.out; obtain ⟨a4, hc4⟩ := hc4 _; refine hc4.mono ?_; clear hc4; rintro e w5 ⟨rfl, hb5⟩; have H5 := (H4.alloc _).below hb5; have X5 := (Two.new w4 _ _ _).below hb5 (Nat.le_refl _); clear l1 l2 l3 l4 l5 l6; obtain ⟨x1, x2⟩ := X5.cellsA) | (go_at_call 23; have hc3 := Add_ok aB aS aZ an ad cn cd xn xd w3 HX.out H3.g.e3; refine hc3.mono ?_; clear hc3; rintro e w4 ⟨rfl, hb4⟩; have H4 := H3.below hb4; clear k1 k2 k3 k4 k5 k6; obtain ⟨l1, l2, l3, l4, l5, l6⟩ := H4.cellsA))
      go_ret
      exact ⟨rfl, (H5.alloc _).hw⟩
  · have hne : ¬ m = 0 := fun e => e1 (hz.1 (by omega)).1
    clear hz hm0
    go_enter Tryd.func7, Tryd.ntmps7
    go_wp2_with (first | (go_at_call 12; refine (halved_any aB aS aZ _ (K3.new h).g).mono ?_; rintro e w1 ⟨rfl, hb⟩; have H1 := (K3.new h).below hb; obtain ⟨k1, k2, k3, k4, k5, k6⟩ := H1.cells) | (go_at_call 21; have hc2 := Cmp_ok aB aS aZ bn bd an ad w2 HB.out HA.out H2.g.e3; rw [HM.out] at hc2; refine hc2.mono ?_; clear hc2; rintro e w3 ⟨rfl, hb3⟩; have H3 := H2.below hb3; clear k1 k2 k3 k4 k5 k6; obtain ⟨k1, k2, k3, k4, k5, k6⟩ := H3.cells) | (go_at_call 21; have hc1 := Cmp_ok aB aS aZ an ad bn bd w1 HA.out HB.out H1.g.e3; rw [HN.out] at hc1; refine hc1.mono ?_; clear hc1; rintro e w2 ⟨rfl, hb2⟩; have H2 := H1.below hb2; clear k1 k2 k3 k4 k5 k6; obtain ⟨k1, k2, k3, k4, k5, k6⟩ := H2.cells) | (go_at_call 23; have hc4 := fun o => Add_no aB aS aZ bn bd cn cd (w4.alloc o) i3 i4 i5 i6 (H4.alloc _).g.e3 HY.out; obtain ⟨a4, hc4⟩ := hc4 _; refine hc4.mono ?_; clear hc4; rintro e w5 ⟨rfl, hb5⟩; have H5 := (H4.alloc _).below hb5; have X5 := (Two.new w4 _ _ _).below hb5 (Nat.le_refl _); clear l1 l2 l3 l4 l5 l6; obtain ⟨x1, x2⟩ := X5.cellsA) | (go_at_call 23; have hc3 := Add_ok aB aS aZ an ad cn cd xn xd w3 HX.out H3.g.e3; refine hc3.mono ?_; clear hc3; rintro e w4 ⟨rfl, hb4⟩; have H4 := H3.below hb4; clear k1 k2 k3 k4 k5 k6; obtain ⟨l1, l2, l3, l4, l5, l6⟩ := H4.cellsA))
    go_ret
    exact ⟨rfl, (H5.alloc _).hw⟩

set_option maxHeartbeats 4000000 in
theorem ords_p (aB aS aZ : Addr) (an ad bn bd cn cd xn xd yn yd : Int) (w : World) (_i5 : I64 cn) (_i6 : I64 cd) (h : G aB aS aZ w) (ha : chk an ad = 0) (hb : chk bn bd = 0) (hx : add an ad cn cd = ⟨xn, xd, 0⟩) (hy : add bn bd cn cd = ⟨yn, yd, 0⟩) (hp : ∃ c, (c = 2 ∨ c = 3) ∧ add xn xd bn bd = ⟨0, 0, c⟩) :
    Calls Tryd.prog 7 #[.agg #[.int .i64 an, .int .i64 ad], .agg #[.int .i64 bn, .int .i64 bd], .agg #[.int .i64 cn, .int .i64 cd]] w fun e w' => e = .returned (.bool true) ∧ Below w.heap.size w w' := by
  obtain ⟨n, m, hn, hm, hnm, m1, m2, hz⟩ := cmp_facts ha hb
  have HXC : Hid (chk xn xd = 0) := (chk_of_add hx).2.2
  have HYC : Hid (chk yn yd = 0) := (chk_of_add hy).2.2
  obtain ⟨j1, j2⟩ := i64_of_chk (chk_of_add hx).2.2
  obtain ⟨j3, j4⟩ := i64_of_chk (chk_of_add hy).2.2
  have HXY : Hid (cmpF xn xd yn yd = n) := (cmpF_add hx hy).trans hn
  have HX : Hid (add an ad cn cd = ⟨xn, xd, 0⟩) := hx
  clear hx
  have HY : Hid (add bn bd cn cd = ⟨yn, yd, 0⟩) := hy
  clear hy
  have HP : Hid (∃ c, (c = 2 ∨ c = 3) ∧ add xn xd bn bd = ⟨0, 0, c⟩) := hp
  clear hp
  have HA : Hid (chk an ad = 0) := ha
  have HB : Hid (chk bn bd = 0) := hb
  obtain ⟨i1, i2⟩ := i64_of_chk ha
  obtain ⟨i3, i4⟩ := i64_of_chk hb
  have HN : Hid (cmpF an ad bn bd = n) := hn
  have HM : Hid (cmpF bn bd an ad = m) := hm
  clear ha hb hn hm
  subst hnm
  have hm0 : (-m == 0) = (m == 0) := by rw [Bool.eq_iff_iff]; simp
  by_cases e1 : an = bn
  · subst e1
    by_cases e2 : ad = bd
    · subst e2
      obtain rfl : m = 0 := by have := hz.2 ⟨rfl, rfl⟩; omega
      clear hz hm0
      go_enter Tryd.func7, Tryd.ntmps7
      go_wp2_with (first | (go_at_call 12; refine (halved_any aB aS aZ _ (K3.new h).g).mono ?_; rintro e w1 ⟨rfl, hb⟩; have H1 := (K3.new h).below hb; obtain ⟨k1, k2, k3, k4, k5, k6⟩ := H1.cells) | (go_at_call 21; have hc5 := fun W hW => Cmp_ok aB aS aZ xn xd yn yd W HXC.out HYC.out hW; rw [HXY.out] at hc5; refine (hc5 _ (H5.alloc _).g.e3).mono ?_; clear hc5; rintro e w6 ⟨rfl, hb6⟩; have H6 := (H5.alloc _).below hb6; have X6 := (X5.alloc _).below hb6 (Nat.le_refl _); have Y6 := (Two.new w5 _ _ _).below hb6 (Nat.le_refl _); clear x1 x2; obtain ⟨k1, k2, k3, k4, k5, k6⟩ := H6.cells; obtain ⟨x1, x2, _, _⟩ := X6; obtain ⟨y1, y2, _, _⟩ := Y6) | (go_at_call 21; have hc2 := Cmp_ok aB aS aZ an ad an ad w2 HB.out HA.out H2.g.e3; rw [HM.out] at hc2; refine hc2.mono ?_; clear hc2; rintro e w3 ⟨rfl, hb3⟩; have H3 := H2.below hb3; clear k1 k2 k3 k4 k5 k6; obtain ⟨k1, k2, k3, k4, k5, k6⟩ := H3.cells) | (go_at_call 21; have hc1 := Cmp_ok aB aS aZ an ad an ad w1 HA.out HB.out H1.g.e3; rw [HN.out] at hc1; refine hc1.mono ?_; clear hc1; rintro e w2 ⟨rfl, hb2⟩; have H2 := H1.below hb2; clear k1 k2 k3 k4 k5 k6; obtain ⟨k1, k2, k3, k4, k5, k6⟩ := H2.cells) | (go_at_call 23; have hc7 := fun W hW => Add_any aB aS aZ an ad yn yd W i1 i2 j3 j4 hW; refine (hc7 _ (H7.alloc _).g.e3).mono ?_; clear hc7; rintro e w8 ⟨rfl, hb8⟩; have H8 := (H7.alloc _).below hb8; have P8 := (Two.new w7 _ _ _).below hb8 (Nat.le_refl _); obtain ⟨z1, z2⟩ := P8.cellsA) | (go_at_call 23; have hc6 := Add_no aB aS aZ xn xd an ad w6 j1 j2 i3 i4 H6.g.e3 HP.out; obtain ⟨a6, hc6⟩ := hc6; refine hc6.mono ?_; clear hc6; rintro e w7 ⟨rfl, hb7⟩; have H7 := H6.below hb7; have Y7 := Two.below ⟨y1, y2, ‹_›, ‹_›⟩ hb7 (Nat.le_refl _); clear k1 k2 k3 k4 k5 k6 x1 x2; obtain ⟨l1, l2, l3, l4, l5, l6⟩ := H7.cellsA; obtain ⟨y3, y4⟩ := Y7.cellsA) | (go_at_call 23; have hc4 := fun W hW => Add_ok aB aS aZ an ad cn cd yn yd W HY.out hW; refine (hc4 _ (H4.alloc _).g.e3).mono ?_; clear hc4; rintro e w5 ⟨rfl, hb5⟩; have H5 := (H4.alloc _).below hb5; have X5 := (Two.new w4 _ _ _).below hb5 (Nat.le_refl _); clear l1 l2 l3 l4 l5 l6; obtain ⟨x1, x2⟩ := X5.cellsA) | (go_at_call 23; have hc3 := Add_ok aB aS aZ an ad cn cd xn xd w3 HX.out H3.g.e3; refine hc3.mono ?_; clear hc3; rintro e w4 ⟨rfl, hb4⟩; have H4 := H3.below hb4; clear k1 k2 k3 k4 k5 k6; obtain ⟨l1, l2, l3, l4, l5, l6⟩ := H4.cellsA))
      go_ret
      exact ⟨rfl, (H8.alloc _).hw⟩
    · have hne : ¬ m = 0 := fun e => e2 (hz.1 (by omega)).2
      clear hz hm0
      go_enter Tryd.func7, Tryd.ntmps7
      go_wp2_with (first | (go_at_call 12; refine (halved_any aB aS aZ _ (K3.new h).g).mono ?_; rintro e w1 ⟨rfl, hb⟩; have H1 := (K3.new h).below hb; obtain ⟨k1, k2, k3, k4, k5, k6⟩ := H1.cells) | (go_at_call 21; have hc5 := fun W hW => Cmp_ok aB aS aZ xn xd yn yd W HXC.out HYC.out hW; rw [HXY.out] at hc5; refine (hc5 _ (H5.alloc _).g.e3).mono ?_; clear hc5; rintro e w6 ⟨rfl, hb6⟩; have H6 := (H5.alloc _).below hb6; have X6 := (X5.alloc _).below hb6 (Nat.le_refl _); have Y6 := (Two.new w5 _ _ _).below hb6 (Nat.le_refl _); clear x1 x2; obtain ⟨k1, k2, k3, k4, k5, k6⟩ := H6.cells; obtain ⟨x1, x2, _, _⟩ := X6; obtain ⟨y1, y2, _, _⟩ := Y6) | (go_at_call 21; have hc2 := Cmp_ok aB aS aZ an bd an ad w2 HB.out HA.out H2.g.e3; rw [HM.out] at hc2; refine hc2.mono ?_; clear hc2; rintro e w3 ⟨rfl, hb3⟩; have H3 := H2.below hb3; clear k1 k2 k3 k4 k5 k6; obtain ⟨k1, k2, k3, k4, k5, k6⟩ := H3.cells) | (go_at_call 21; have hc1 := Cmp_ok aB aS aZ an ad an bd w1 HA.out HB.out H1.g.e3; rw [HN.out] at hc1; refine hc1.mono ?_; clear hc1; rintro e w2 ⟨rfl, hb2⟩; have H2 := H1.below hb2; clear k1 k2 k3 k4 k5 k6; obtain ⟨k1, k2, k3, k4, k5, k6⟩ := H2.cells) | (go_at_call 23; have hc7 := fun W hW => Add_any aB aS aZ an ad yn yd W i1 i2 j3 j4 hW; refine (hc7 _ (H7.alloc _).g.e3).mono ?_; clear hc7; rintro e w8 ⟨rfl, hb8⟩; have H8 := (H7.alloc _).below hb8; have P8 := (Two.new w7 _ _ _).below hb8 (Nat.le_refl _); obtain ⟨z1, z2⟩ := P8.cellsA) | (go_at_call 23; have hc6 := Add_no aB aS aZ xn xd an bd w6 j1 j2 i3 i4 H6.g.e3 HP.out; obtain ⟨a6, hc6⟩ := hc6; refine hc6.mono ?_; clear hc6; rintro e w7 ⟨rfl, hb7⟩; have H7 := H6.below hb7; have Y7 := Two.below ⟨y1, y2, ‹_›, ‹_›⟩ hb7 (Nat.le_refl _); clear k1 k2 k3 k4 k5 k6 x1 x2; obtain ⟨l1, l2, l3, l4, l5, l6⟩ := H7.cellsA; obtain ⟨y3, y4⟩ := Y7.cellsA) | (go_at_call 23; have hc4 := fun W hW => Add_ok aB aS aZ an bd cn cd yn yd W HY.out hW; refine (hc4 _ (H4.alloc _).g.e3).mono ?_; clear hc4; rintro e w5 ⟨rfl, hb5⟩; have H5 := (H4.alloc _).below hb5; have X5 := (Two.new w4 _ _ _).below hb5 (Nat.le_refl _); clear l1 l2 l3 l4 l5 l6; obtain ⟨x1, x2⟩ := X5.cellsA) | (go_at_call 23; have hc3 := Add_ok aB aS aZ an ad cn cd xn xd w3 HX.out H3.g.e3; refine hc3.mono ?_; clear hc3; rintro e w4 ⟨rfl, hb4⟩; have H4 := H3.below hb4; clear k1 k2 k3 k4 k5 k6; obtain ⟨l1, l2, l3, l4, l5, l6⟩ := H4.cellsA))
      go_ret
      exact ⟨rfl, (H8.alloc _).hw⟩
  · have hne : ¬ m = 0 := fun e => e1 (hz.1 (by omega)).1
    clear hz hm0
    go_enter Tryd.func7, Tryd.ntmps7
    go_wp2_with (first | (go_at_call 12; refine (halved_any aB aS aZ _ (K3.new h).g).mono ?_; rintro e w1 ⟨rfl, hb⟩; have H1 := (K3.new h).below hb; obtain ⟨k1, k2, k3, k4, k5, k6⟩ := H1.cells) | (go_at_call 21; have hc5 := fun W hW => Cmp_ok aB aS aZ xn xd yn yd W HXC.out HYC.out hW; rw [HXY.out] at hc5; refine (hc5 _ (H5.alloc _).g.e3).mono ?_; clear hc5; rintro e w6 ⟨rfl, hb6⟩; have H6 := (H5.alloc _).below hb6; have X6 := (X5.alloc _).below hb6 (Nat.le_refl _); have Y6 := (Two.new w5 _ _ _).below hb6 (Nat.le_refl _); clear x1 x2; obtain ⟨k1, k2, k3, k4, k5, k6⟩ := H6.cells; obtain ⟨x1, x2, _, _⟩ := X6; obtain ⟨y1, y2, _, _⟩ := Y6) | (go_at_call 21; have hc2 := Cmp_ok aB aS aZ bn bd an ad w2 HB.out HA.out H2.g.e3; rw [HM.out] at hc2; refine hc2.mono ?_; clear hc2; rintro e w3 ⟨rfl, hb3⟩; have H3 := H2.below hb3; clear k1 k2 k3 k4 k5 k6; obtain ⟨k1, k2, k3, k4, k5, k6⟩ := H3.cells) | (go_at_call 21; have hc1 := Cmp_ok aB aS aZ an ad bn bd w1 HA.out HB.out H1.g.e3; rw [HN.out] at hc1; refine hc1.mono ?_; clear hc1; rintro e w2 ⟨rfl, hb2⟩; have H2 := H1.below hb2; clear k1 k2 k3 k4 k5 k6; obtain ⟨k1, k2, k3, k4, k5, k6⟩ := H2.cells) | (go_at_call 23; have hc7 := fun W hW => Add_any aB aS aZ an ad yn yd W i1 i2 j3 j4 hW; refine (hc7 _ (H7.alloc _).g.e3).mono ?_; clear hc7; rintro e w8 ⟨rfl, hb8⟩; have H8 := (H7.alloc _).below hb8; have P8 := (Two.new w7 _ _ _).below hb8 (Nat.le_refl _); obtain ⟨z1, z2⟩ := P8.cellsA) | (go_at_call 23; have hc6 := Add_no aB aS aZ xn xd bn bd w6 j1 j2 i3 i4 H6.g.e3 HP.out; obtain ⟨a6, hc6⟩ := hc6; refine hc6.mono ?_; clear hc6; rintro e w7 ⟨rfl, hb7⟩; have H7 := H6.below hb7; have Y7 := Two.below ⟨y1, y2, ‹_›, ‹_›⟩ hb7 (Nat.le_refl _); clear k1 k2 k3 k4 k5 k6 x1 x2; obtain ⟨l1, l2, l3, l4, l5, l6⟩ := H7.cellsA; obtain ⟨y3, y4⟩ := Y7.cellsA) | (go_at_call 23; have hc4 := fun W hW => Add_ok aB aS aZ bn bd cn cd yn yd W HY.out hW; refine (hc4 _ (H4.alloc _).g.e3).mono ?_; clear hc4; rintro e w5 ⟨rfl, hb5⟩; have H5 := (H4.alloc _).below hb5; have X5 := (Two.new w4 _ _ _).below hb5 (Nat.le_refl _); clear l1 l2 l3 l4 l5 l6; obtain ⟨x1, x2⟩ := X5.cellsA) | (go_at_call 23; have hc3 := Add_ok aB aS aZ an ad cn cd xn xd w3 HX.out H3.g.e3; refine hc3.mono ?_; clear hc3; rintro e w4 ⟨rfl, hb4⟩; have H4 := H3.below hb4; clear k1 k2 k3 k4 k5 k6; obtain ⟨l1, l2, l3, l4, l5, l6⟩ := H4.cellsA))
    go_ret
    exact ⟨rfl, (H8.alloc _).hw⟩

set_option maxHeartbeats 4000000 in
theorem ords_q (aB aS aZ : Addr) (an ad bn bd cn cd xn xd yn yd pn pd : Int) (w : World) (_i5 : I64 cn) (_i6 : I64 cd) (h : G aB aS aZ w) (ha : chk an ad = 0) (hb : chk bn bd = 0) (hx : add an ad cn cd = ⟨xn, xd, 0⟩) (hy : add bn bd cn cd = ⟨yn, yd, 0⟩) (hp : add xn xd bn bd = ⟨pn, pd, 0⟩) (hq : ∃ c, (c = 2 ∨ c = 3) ∧ add an ad yn yd = ⟨0, 0, c⟩) :
    Calls Tryd.prog 7 #[.agg #[.int .i64 an, .int .i64 ad], .agg #[.int .i64 bn, .int .i64 bd], .agg #[.int .i64 cn, .int .i64 cd]] w fun e w' => e = .returned (.bool true) ∧ Below w.heap.size w w' := by
  obtain ⟨n, m, hn, hm, hnm, m1, m2, hz⟩ := cmp_facts ha hb
  have HXC : Hid (chk xn xd = 0) := (chk_of_add hx).2.2
  have HYC : Hid (chk yn yd = 0) := (chk_of_add hy).2.2
  obtain ⟨j1, j2⟩ := i64_of_chk (chk_of_add hx).2.2
  obtain ⟨j3, j4⟩ := i64_of_chk (chk_of_add hy).2.2
  have HXY : Hid (cmpF xn xd yn yd = n) := (cmpF_add hx hy).trans hn
  have HX : Hid (add an ad cn cd = ⟨xn, xd, 0⟩) := hx
  clear hx
  have HY : Hid (add bn bd cn cd = ⟨yn, yd, 0⟩) := hy
  clear hy
  have HP : Hid (add xn xd bn bd = ⟨pn, pd, 0⟩) := hp
  clear hp
  have HQ : Hid (∃ c, (c = 2 ∨ c = 3) ∧ add an ad yn yd = ⟨0, 0, c⟩) := hq
  clear hq
  have HA : Hid (chk an ad = 0) := ha
  have HB : Hid (chk bn bd = 0) := hb
  obtain ⟨i1, i2⟩ := i64_of_chk ha
  obtain ⟨i3, i4⟩ := i64_of_chk hb
  have HN : Hid (cmpF an ad bn bd = n) := hn
  have HM : Hid (cmpF bn bd an ad = m) := hm
  clear ha hb hn hm
  subst hnm
  have hm0 : (-m == 0) = (m == 0) := by rw [Bool.eq_iff_iff]; simp
  by_cases e1 : an = bn
  · subst e1
    by_cases e2 : ad = bd
    · subst e2
      obtain rfl : m = 0 := by have := hz.2 ⟨rfl, rfl⟩; omega
      clear hz hm0
      go_enter Tryd.func7, Tryd.ntmps7
      go_wp2_with (first | (go_at_call 12; refine (halved_any aB aS aZ _ (K3.new h).g).mono ?_; rintro e w1 ⟨rfl, hb⟩; have H1 := (K3.new h).below hb; obtain ⟨k1, k2, k3, k4, k5, k6⟩ := H1.cells) | (go_at_call 21; have hc5 := fun W hW => Cmp_ok aB aS aZ xn xd yn yd W HXC.out HYC.out hW; rw [HXY.out] at hc5; refine (hc5 _ (H5.alloc _).g.e3).mono ?_; clear hc5; rintro e w6 ⟨rfl, hb6⟩; have H6 := (H5.alloc _).below hb6; have X6 := (X5.alloc _).below hb6 (Nat.le_refl _); have Y6 := (Two.new w5 _ _ _).below hb6 (Nat.le_refl _); clear x1 x2; obtain ⟨k1, k2, k3, k4, k5, k6⟩ := H6.cells; obtain ⟨x1, x2, _, _⟩ := X6; obtain ⟨y1, y2, _, _⟩ := Y6) | (go_at_call 21; have hc2 := Cmp_ok aB aS aZ an ad an ad w2 HB.out HA.out H2.g.e3; rw [HM.out] at hc2; refine hc2.mono ?_; clear hc2; rintro e w3 ⟨rfl, hb3⟩; have H3 := H2.below hb3; clear k1 k2 k3 k4 k5 k6; obtain ⟨k1, k2, k3, k4, k5, k6⟩ := H3.cells) | (go_at_call 21; have hc1 := Cmp_ok aB aS aZ an ad an ad w1 HA.out HB.out H1.g.e3; rw [HN.out] at hc1; refine hc1.mono ?_; clear hc1; rintro e w2 ⟨rfl, hb2⟩; have H2 := H1.below hb2; clear k1 k2 k3 k4 k5 k6; obtain ⟨k1, k2, k3, k4, k5, k6⟩ := H2.cells) | (go_at_call 23; have hc7 := fun o => Add_no aB aS aZ an ad yn yd (w7.alloc o) i1 i2 j3 j4 (H7.alloc _).g.e3 HQ.out; obtain ⟨a7, hc7⟩ := hc7 _; refine hc7.mono ?_; clear hc7; rintro e w8 ⟨rfl, hb8⟩; have H8 := (H7.alloc _).below hb8; have P8 := (Two.new w7 _ _ _).below hb8 (Nat.le_refl _); obtain ⟨z1, z2⟩ := P8.cellsA) | (go_at_call 23; have hc6 := Add_ok aB aS aZ xn xd an ad pn pd w6 HP.out H6.g.e3; refine hc6.mono ?_; clear hc6; rintro e w7 ⟨rfl, hb7⟩; have H7 := H6.below hb7; have Y7 := Two.below ⟨y1, y2, ‹_›, ‹_›⟩ hb7 (Nat.le_refl _); clear k1 k2 k3 k4 k5 k6 x1 x2; obtain ⟨l1, l2, l3, l4, l5, l6⟩ := H7.cellsA; obtain ⟨y3, y4⟩ := Y7.cellsA) | (go_at_call 23; have hc4 := fun W hW => Add_ok aB aS aZ an ad cn cd yn yd W HY.out hW; refine (hc4 _ (H4.alloc _).g.e3).mono ?_; clear hc4; rintro e w5 ⟨rfl, hb5⟩; have H5 := (H4.alloc _).below hb5; have X5 := (Two.new w4 _ _ _).below hb5 (Nat.le_refl _); clear l1 l2 l3 l4 l5 l6; obtain ⟨x1, x2⟩ := X5.cellsA) | (go_at_call 23; have hc3 := Add_ok aB aS aZ an ad cn cd xn xd w3 HX.out H3.g.e3; refine hc3.mono ?_; clear hc3; rintro e w4 ⟨rfl, hb4⟩; have H4 := H3.below hb4; clear k1 k2 k3 k4 k5 k6; obtain ⟨l1, l2, l3, l4, l5, l6⟩ := H4.cellsA))
      go_ret
      exact ⟨rfl, (H8.alloc _).hw⟩
    · have hne : ¬ m = 0 := fun e => e2 (hz.1 (by omega)).2
      clear hz hm0
      go_enter Tryd.func7, Tryd.ntmps7
      go_wp2_with (first | (go_at_call 12; refine (halved_any aB aS aZ _ (K3.new h).g).mono ?_; rintro e w1 ⟨rfl, hb⟩; have H1 := (K3.new h).below hb; obtain ⟨k1, k2, k3, k4, k5, k6⟩ := H1.cells) | (go_at_call 21; have hc5 := fun W hW => Cmp_ok aB aS aZ xn xd yn yd W HXC.out HYC.out hW; rw [HXY.out] at hc5; refine (hc5 _ (H5.alloc _).g.e3).mono ?_; clear hc5; rintro e w6 ⟨rfl, hb6⟩; have H6 := (H5.alloc _).below hb6; have X6 := (X5.alloc _).below hb6 (Nat.le_refl _); have Y6 := (Two.new w5 _ _ _).below hb6 (Nat.le_refl _); clear x1 x2; obtain ⟨k1, k2, k3, k4, k5, k6⟩ := H6.cells; obtain ⟨x1, x2, _, _⟩ := X6; obtain ⟨y1, y2, _, _⟩ := Y6) | (go_at_call 21; have hc2 := Cmp_ok aB aS aZ an bd an ad w2 HB.out HA.out H2.g.e3; rw [HM.out] at hc2; refine hc2.mono ?_; clear hc2; rintro e w3 ⟨rfl, hb3⟩; have H3 := H2.below hb3; clear k1 k2 k3 k4 k5 k6; obtain ⟨k1, k2, k3, k4, k5, k6⟩ := H3.cells) | (go_at_call 21; have hc1 := Cmp_ok aB aS aZ an ad an bd w1 HA.out HB.out H1.g.e3; rw [HN.out] at hc1; refine hc1.mono ?_; clear hc1; rintro e w2 ⟨rfl, hb2⟩; have H2 := H1.below hb2; clear k1 k2 k3 k4 k5 k6; obtain ⟨k1, k2, k3, k4, k5, k6⟩ := H2.cells) | (go_at_call 23; have hc7 := fun o => Add_no aB aS aZ an ad yn yd (w7.alloc o) i1 i2 j3 j4 (H7.alloc _).g.e3 HQ.out; obtain ⟨a7, hc7⟩ := hc7 _; refine hc7.mono ?_; clear hc7; rintro e w8 ⟨rfl, hb8⟩; have H8 := (H7.alloc _).below hb8; have P8 := (Two.new w7 _ _ _).below hb8 (Nat.le_refl _); obtain ⟨z1, z2⟩ := P8.cellsA) | (go_at_call 23; have hc6 := Add_ok aB aS aZ xn xd an bd pn pd w6 HP.out H6.g.e3; refine hc6.mono ?_; clear hc6; rintro e w7 ⟨rfl, hb7⟩; have H7 := H6.below hb7; have Y7 := Two.below ⟨y1, y2, ‹_›, ‹_›⟩ hb7 (Nat.le_refl _); clear k1 k2 k3 k4 k5 k6 x1 x2; obtain ⟨l1, l2, l3, l4, l5, l6⟩ := H7.cellsA; obtain ⟨y3, y4⟩ := Y7.cellsA) | (go_at_call 23; have hc4 := fun W hW => Add_ok aB aS aZ an bd cn cd yn yd W HY.out hW; refine (hc4 _ (H4.alloc _).g.e3).mono ?_; clear hc4; rintro e w5 ⟨rfl, hb5⟩; have H5 := (H4.alloc _).below hb5; have X5 := (Two.new w4 _ _ _).below hb5 (Nat.le_refl _); clear l1 l2 l3 l4 l5 l6; obtain ⟨x1, x2⟩ := X5.cellsA) | (go_at_call 23; have hc3 := Add_ok aB aS aZ an ad cn cd xn xd w3 HX.out H3.g.e3; refine hc3.mono ?_; clear hc3; rintro e w4 ⟨rfl, hb4⟩; have H4 := H3.below hb4; clear k1 k2 k3 k4 k5 k6; obtain ⟨l1, l2, l3, l4, l5, l6⟩ := H4.cellsA))
      go_ret
      exact ⟨rfl, (H8.alloc _).hw⟩
  · have hne : ¬ m = 0 := fun e => e1 (hz.1 (by omega)).1
    clear hz hm0
    go_enter Tryd.func7, Tryd.ntmps7
    go_wp2_with (first | (go_at_call 12; refine (halved_any aB aS aZ _ (K3.new h).g).mono ?_; rintro e w1 ⟨rfl, hb⟩; have H1 := (K3.new h).below hb; obtain ⟨k1, k2, k3, k4, k5, k6⟩ := H1.cells) | (go_at_call 21; have hc5 := fun W hW => Cmp_ok aB aS aZ xn xd yn yd W HXC.out HYC.out hW; rw [HXY.out] at hc5; refine (hc5 _ (H5.alloc _).g.e3).mono ?_; clear hc5; rintro e w6 ⟨rfl, hb6⟩; have H6 := (H5.alloc _).below hb6; have X6 := (X5.alloc _).below hb6 (Nat.le_refl _); have Y6 := (Two.new w5 _ _ _).below hb6 (Nat.le_refl _); clear x1 x2; obtain ⟨k1, k2, k3, k4, k5, k6⟩ := H6.cells; obtain ⟨x1, x2, _, _⟩ := X6; obtain ⟨y1, y2, _, _⟩ := Y6) | (go_at_call 21; have hc2 := Cmp_ok aB aS aZ bn bd an ad w2 HB.out HA.out H2.g.e3; rw [HM.out] at hc2; refine hc2.mono ?_; clear hc2; rintro e w3 ⟨rfl, hb3⟩; have H3 := H2.below hb3; clear k1 k2 k3 k4 k5 k6; obtain ⟨k1, k2, k3, k4, k5, k6⟩ := H3.cells) | (go_at_call 21; have hc1 := Cmp_ok aB aS aZ an ad bn bd w1 HA.out HB.out H1.g.e3; rw [HN.out] at hc1; refine hc1.mono ?_; clear hc1; rintro e w2 ⟨rfl, hb2⟩; have H2 := H1.below hb2; clear k1 k2 k3 k4 k5 k6; obtain ⟨k1, k2, k3, k4, k5, k6⟩ := H2.cells) | (go_at_call 23; have hc7 := fun o => Add_no aB aS aZ an ad yn yd (w7.alloc o) i1 i2 j3 j4 (H7.alloc _).g.e3 HQ.out; obtain ⟨a7, hc7⟩ := hc7 _; refine hc7.mono ?_; clear hc7; rintro e w8 ⟨rfl, hb8⟩; have H8 := (H7.alloc _).below hb8; have P8 := (Two.new w7 _ _ _).below hb8 (Nat.le_refl _); obtain ⟨z1, z2⟩ := P8.cellsA) | (go_at_call 23; have hc6 := Add_ok aB aS aZ xn xd bn bd pn pd w6 HP.out H6.g.e3; refine hc6.mono ?_; clear hc6; rintro e w7 ⟨rfl, hb7⟩; have H7 := H6.below hb7; have Y7 := Two.below ⟨y1, y2, ‹_›, ‹_›⟩ hb7 (Nat.le_refl _); clear k1 k2 k3 k4 k5 k6 x1 x2; obtain ⟨l1, l2, l3, l4, l5, l6⟩ := H7.cellsA; obtain ⟨y3, y4⟩ := Y7.cellsA) | (go_at_call 23; have hc4 := fun W hW => Add_ok aB aS aZ bn bd cn cd yn yd W HY.out hW; refine (hc4 _ (H4.alloc _).g.e3).mono ?_; clear hc4; rintro e w5 ⟨rfl, hb5⟩; have H5 := (H4.alloc _).below hb5; have X5 := (Two.new w4 _ _ _).below hb5 (Nat.le_refl _); clear l1 l2 l3 l4 l5 l6; obtain ⟨x1, x2⟩ := X5.cellsA) | (go_at_call 23; have hc3 := Add_ok aB aS aZ an ad cn cd xn xd w3 HX.out H3.g.e3; refine hc3.mono ?_; clear hc3; rintro e w4 ⟨rfl, hb4⟩; have H4 := H3.below hb4; clear k1 k2 k3 k4 k5 k6; obtain ⟨l1, l2, l3, l4, l5, l6⟩ := H4.cellsA))
    go_ret
    exact ⟨rfl, (H8.alloc _).hw⟩

set_option maxHeartbeats 4000000 in
theorem ords_ok (aB aS aZ : Addr) (an ad bn bd cn cd xn xd yn yd qn qd : Int) (w : World) (_i5 : I64 cn) (_i6 : I64 cd) (h : G aB aS aZ w) (ha : chk an ad = 0) (hb : chk bn bd = 0) (hx : add an ad cn cd = ⟨xn, xd, 0⟩) (hy : add bn bd cn cd = ⟨yn, yd, 0⟩) (hp : add xn xd bn bd = ⟨qn, qd, 0⟩) (hq : add an ad yn yd = ⟨qn, qd, 0⟩) :
    Calls Tryd.prog 7 #[.agg #[.int .i64 an, .int .i64 ad], .agg #[.int .i64 bn, .int .i64 bd], .agg #[.int .i64 cn, .int .i64 cd]] w fun e w' => e = .returned (.bool true) ∧ Below w.heap.size w w' := by
  obtain ⟨n, m, hn, hm, hnm, m1, m2, hz⟩ := cmp_facts ha hb
  have HXC : Hid (chk xn xd = 0) := (chk_of_add hx).2.2
  have HYC : Hid (chk yn yd = 0) := (chk_of_add hy).2.2
  obtain ⟨j1, j2⟩ := i64_of_chk (chk_of_add hx).2.2
  obtain ⟨j3, j4⟩ := i64_of_chk (chk_of_add hy).2.2
  have HXY : Hid (cmpF xn xd yn yd = n) := (cmpF_add hx hy).trans hn
  have HX : Hid (add an ad cn cd = ⟨xn, xd, 0⟩) := hx
  clear hx
  have HY : Hid (add bn bd cn cd = ⟨yn, yd, 0⟩) := hy
  clear hy
  have HP : Hid (add xn xd bn bd = ⟨qn, qd, 0⟩) := hp
  clear hp
  have HQ : Hid (add an ad yn yd = ⟨qn, qd, 0⟩) := hq
  clear hq
  have HA : Hid (chk an ad = 0) := ha
  have HB : Hid (chk bn bd = 0) := hb
  obtain ⟨i1, i2⟩ := i64_of_chk ha
  obtain ⟨i3, i4⟩ := i64_of_chk hb
  have HN : Hid (cmpF an ad bn bd = n) := hn
  have HM : Hid (cmpF bn bd an ad = m) := hm
  clear ha hb hn hm
  subst hnm
  have hm0 : (-m == 0) = (m == 0) := by rw [Bool.eq_iff_iff]; simp
  by_cases e1 : an = bn
  · subst e1
    by_cases e2 : ad = bd
    · subst e2
      obtain rfl : m = 0 := by have := hz.2 ⟨rfl, rfl⟩; omega
      clear hz hm0
      go_enter Tryd.func7, Tryd.ntmps7
      go_wp2_with (first | (go_at_call 12; refine (halved_any aB aS aZ _ (K3.new h).g).mono ?_; rintro e w1 ⟨rfl, hb⟩; have H1 := (K3.new h).below hb; obtain ⟨k1, k2, k3, k4, k5, k6⟩ := H1.cells) | (go_at_call 21; have hc5 := fun W hW => Cmp_ok aB aS aZ xn xd yn yd W HXC.out HYC.out hW; rw [HXY.out] at hc5; refine (hc5 _ (H5.alloc _).g.e3).mono ?_; clear hc5; rintro e w6 ⟨rfl, hb6⟩; have H6 := (H5.alloc _).below hb6; have X6 := (X5.alloc _).below hb6 (Nat.le_refl _); have Y6 := (Two.new w5 _ _ _).below hb6 (Nat.le_refl _); clear x1 x2; obtain ⟨k1, k2, k3, k4, k5, k6⟩ := H6.cells; obtain ⟨x1, x2, _, _⟩ := X6; obtain ⟨y1, y2, _, _⟩ := Y6) | (go_at_call 21; have hc2 := Cmp_ok aB aS aZ an ad an ad w2 HB.out HA.out H2.g.e3; rw [HM.out] at hc2; refine hc2.mono ?_; clear hc2; rintro e w3 ⟨rfl, hb3⟩; have H3 := H2.below hb3; clear k1 k2 k3 k4 k5 k6; obtain ⟨k1, k2, k3, k4, k5, k6⟩ := H3.cells) | (go_at_call 21; have hc1 := Cmp_ok aB aS aZ an ad an ad w1 HA.out HB.out H1.g.e3; rw [HN.out] at hc1; refine hc1.mono ?_; clear hc1; rintro e w2 ⟨rfl, hb2⟩; have H2 := H1.below hb2; clear k1 k2 k3 k4 k5 k6; obtain ⟨k1, k2, k3, k4, k5, k6⟩ := H2.cells) | (go_at_call 23; have hc7 := fun W hW => Add_ok aB aS aZ an ad yn yd qn qd W HQ.out hW; refine (hc7 _ (H7.alloc _).g.e3).mono ?_; clear hc7; rintro e w8 ⟨rfl, hb8⟩; have H8 := (H7.alloc _).below hb8; have P8 := (Two.new w7 _ _ _).below hb8 (Nat.le_refl _); obtain ⟨z1, z2⟩ := P8.cellsA) | (go_at_call 23; have hc6 := Add_ok aB aS aZ xn xd an ad qn qd w6 HP.out H6.g.e3; refine hc6.mono ?_; clear hc6; rintro e w7 ⟨rfl, hb7⟩; have H7 := H6.below hb7; have Y7 := Two.below ⟨y1, y2, ‹_›, ‹_›⟩ hb7 (Nat.le_refl _); clear k1 k2 k3 k4 k5 k6 x1 x2; obtain ⟨l1, l2, l3, l4, l5, l6⟩ := H7.cellsA; obtain ⟨y3, y4⟩ := Y7.cellsA) | (go_at_call 23; have hc4 := fun W hW => Add_ok aB aS aZ an ad cn cd yn yd W HY.out hW; refine (hc4 _ (H4.alloc _).g.e3).mono ?_; clear hc4; rintro e w5 ⟨rfl, hb5⟩; have H5 := (H4.alloc _).below hb5; have X5 := (Two.new w4 _ _ _).below hb5 (Nat.le_refl _); clear l1 l2 l3 l4 l5 l6; obtain ⟨x1, x2⟩ := X5.cellsA) | (go_at_call 23; have hc3 := Add_ok aB aS aZ an ad cn cd xn xd w3 HX.out H3.g.e3; refine hc3.mono ?_; clear hc3; rintro e w4 ⟨rfl, hb4⟩; have H4 := H3.below hb4; clear k1 k2 k3 k4 k5 k6; obtain ⟨l1, l2, l3, l4, l5, l6⟩ := H4.cellsA))
      go_ret
      exact ⟨rfl, (H8.alloc _).hw⟩
    · have hne : ¬ m = 0 := fun e => e2 (hz.1 (by omega)).2
      clear hz hm0
      go_enter Tryd.func7, Tryd.ntmps7
      go_wp2_with (first | (go_at_call 12; refine (halved_any aB aS aZ _ (K3.new h).g).mono ?_; rintro e w1 ⟨rfl, hb⟩; have H1 := (K3.new h).below hb; obtain ⟨k1, k2, k3, k4, k5, k6⟩ := H1.cells) | (go_at_call 21; have hc5 := fun W hW => Cmp_ok aB aS aZ xn xd yn yd W HXC.out HYC.out hW; rw [HXY.out] at hc5; refine (hc5 _ (H5.alloc _).g.e3).mono ?_; clear hc5; rintro e w6 ⟨rfl, hb6⟩; have H6 := (H5.alloc _).below hb6; have X6 := (X5.alloc _).below hb6 (Nat.le_refl _); have Y6 := (Two.new w5 _ _ _).below hb6 (Nat.le_refl _); clear x1 x2; obtain ⟨k1, k2, k3, k4, k5, k6⟩ := H6.cells; obtain ⟨x1, x2, _, _⟩ := X6; obtain ⟨y1, y2, _, _⟩ := Y6) | (go_at_call 21; have hc2 := Cmp_ok aB aS aZ an bd an ad w2 HB.out HA.out H2.g.e3; rw [HM.out] at hc2; refine hc2.mono ?_; clear hc2; rintro e w3 ⟨rfl, hb3⟩; have H3 := H2.below hb3; clear k1 k2 k3 k4 k5 k6; obtain ⟨k1, k2, k3, k4, k5, k6⟩ := H3.cells) | (go_at_call 21; have hc1 := Cmp_ok aB aS aZ an ad an bd w1 HA.out HB.out H1.g.e3; rw [HN.out] at hc1; refine hc1.mono ?_; clear hc1; rintro e w2 ⟨rfl, hb2⟩; have H2 := H1.below hb2; clear k1 k2 k3 k4 k5 k6; obtain ⟨k1, k2, k3, k4, k5, k6⟩ := H2.cells) | (go_at_call 23; have hc7 := fun W hW => Add_ok aB aS aZ an ad yn yd qn qd W HQ.out hW; refine (hc7 _ (H7.alloc _).g.e3).mono ?_; clear hc7; rintro e w8 ⟨rfl, hb8⟩; have H8 := (H7.alloc _).below hb8; have P8 := (Two.new w7 _ _ _).below hb8 (Nat.le_refl _); obtain ⟨z1, z2⟩ := P8.cellsA) | (go_at_call 23; have hc6 := Add_ok aB aS aZ xn xd an bd qn qd w6 HP.out H6.g.e3; refine hc6.mono ?_; clear hc6; rintro e w7 ⟨rfl, hb7⟩; have H7 := H6.below hb7; have Y7 := Two.below ⟨y1, y2, ‹_›, ‹_›⟩ hb7 (Nat.le_refl _); clear k1 k2 k3 k4 k5 k6 x1 x2; obtain ⟨l1, l2, l3, l4, l5, l6⟩ := H7.cellsA; obtain ⟨y3, y4⟩ := Y7.cellsA) | (go_at_call 23; have hc4 := fun W hW => Add_ok aB aS aZ an bd cn cd yn yd W HY.out hW; refine (hc4 _ (H4.alloc _).g.e3).mono ?_; clear hc4; rintro e w5 ⟨rfl, hb5⟩; have H5 := (H4.alloc _).below hb5; have X5 := (Two.new w4 _ _ _).below hb5 (Nat.le_refl _); clear l1 l2 l3 l4 l5 l6; obtain ⟨x1, x2⟩ := X5.cellsA) | (go_at_call 23; have hc3 := Add_ok aB aS aZ an ad cn cd xn xd w3 HX.out H3.g.e3; refine hc3.mono ?_; clear hc3; rintro e w4 ⟨rfl, hb4⟩; have H4 := H3.below hb4; clear k1 k2 k3 k4 k5 k6; obtain ⟨l1, l2, l3, l4, l5, l6⟩ := H4.cellsA))
      go_ret
      exact ⟨rfl, (H8.alloc _).hw⟩
  · have hne : ¬ m = 0 := fun e => e1 (hz.1 (by omega)).1
    clear hz hm0
    go_enter Tryd.func7, Tryd.ntmps7
    go_wp2_with (first | (go_at_call 12; refine (halved_any aB aS aZ _ (K3.new h).g).mono ?_; rintro e w1 ⟨rfl, hb⟩; have H1 := (K3.new h).below hb; obtain ⟨k1, k2, k3, k4, k5, k6⟩ := H1.cells) | (go_at_call 21; have hc5 := fun W hW => Cmp_ok aB aS aZ xn xd yn yd W HXC.out HYC.out hW; rw [HXY.out] at hc5; refine (hc5 _ (H5.alloc _).g.e3).mono ?_; clear hc5; rintro e w6 ⟨rfl, hb6⟩; have H6 := (H5.alloc _).below hb6; have X6 := (X5.alloc _).below hb6 (Nat.le_refl _); have Y6 := (Two.new w5 _ _ _).below hb6 (Nat.le_refl _); clear x1 x2; obtain ⟨k1, k2, k3, k4, k5, k6⟩ := H6.cells; obtain ⟨x1, x2, _, _⟩ := X6; obtain ⟨y1, y2, _, _⟩ := Y6) | (go_at_call 21; have hc2 := Cmp_ok aB aS aZ bn bd an ad w2 HB.out HA.out H2.g.e3; rw [HM.out] at hc2; refine hc2.mono ?_; clear hc2; rintro e w3 ⟨rfl, hb3⟩; have H3 := H2.below hb3; clear k1 k2 k3 k4 k5 k6; obtain ⟨k1, k2, k3, k4, k5, k6⟩ := H3.cells) | (go_at_call 21; have hc1 := Cmp_ok aB aS aZ an ad bn bd w1 HA.out HB.out H1.g.e3; rw [HN.out] at hc1; refine hc1.mono ?_; clear hc1; rintro e w2 ⟨rfl, hb2⟩; have H2 := H1.below hb2; clear k1 k2 k3 k4 k5 k6; obtain ⟨k1, k2, k3, k4, k5, k6⟩ := H2.cells) | (go_at_call 23; have hc7 := fun W hW => Add_ok aB aS aZ an ad yn yd qn qd W HQ.out hW; refine (hc7 _ (H7.alloc _).g.e3).mono ?_; clear hc7; rintro e w8 ⟨rfl, hb8⟩; have H8 := (H7.alloc _).below hb8; have P8 := (Two.new w7 _ _ _).below hb8 (Nat.le_refl _); obtain ⟨z1, z2⟩ := P8.cellsA) | (go_at_call 23; have hc6 := Add_ok aB aS aZ xn xd bn bd qn qd w6 HP.out H6.g.e3; refine hc6.mono ?_; clear hc6; rintro e w7 ⟨rfl, hb7⟩; have H7 := H6.below hb7; have Y7 := Two.below ⟨y1, y2, ‹_›, ‹_›⟩ hb7 (Nat.le_refl _); clear k1 k2 k3 k4 k5 k6 x1 x2; obtain ⟨l1, l2, l3, l4, l5, l6⟩ := H7.cellsA; obtain ⟨y3, y4⟩ := Y7.cellsA) | (go_at_call 23; have hc4 := fun W hW => Add_ok aB aS aZ bn bd cn cd yn yd W HY.out hW; refine (hc4 _ (H4.alloc _).g.e3).mono ?_; clear hc4; rintro e w5 ⟨rfl, hb5⟩; have H5 := (H4.alloc _).below hb5; have X5 := (Two.new w4 _ _ _).below hb5 (Nat.le_refl _); clear l1 l2 l3 l4 l5 l6; obtain ⟨x1, x2⟩ := X5.cellsA) | (go_at_call 23; have hc3 := Add_ok aB aS aZ an ad cn cd xn xd w3 HX.out H3.g.e3; refine hc3.mono ?_; clear hc3; rintro e w4 ⟨rfl, hb4⟩; have H4 := H3.below hb4; clear k1 k2 k3 k4 k5 k6; obtain ⟨l1, l2, l3, l4, l5, l6⟩ := H4.cellsA))
    go_ret
    exact ⟨rfl, (H8.alloc _).hw⟩
end Go.Proofs.YtdeahgbjkogjgaaDoor

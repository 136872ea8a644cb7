/-
  The document's checks of a point (leadlightref2), and its order of fractions.
-/
import Derived.Test.YtdjeblcmpegmpaaDoorRef1
import Derived.Test.YtdjeblcmpegmpaaDoorShape2
import Derived.Deep.Cut
namespace Go.Proofs.YtdjeblcmpegmpaaDoor
open Go.RowKit

/-- the error's number of a coordinate -/
def errF (n d : Int) : Nat := if chk n d ≠ 0 then chk n d else if tgr n d = true then 2 else 0
theorem errF_of {n d : Int} (h : chk n d = 0) : errF n d = if tgr n d = true then 2 else 0 := by unfold errF; rw [if_neg (by simp [h])]
set_option maxHeartbeats 2000000 in
theorem fracError_any (n d : Int) (w : World) (hn : I64 n) (hd : I64 d) (hc : chk n d = 0) :
    Calls Tryd.prog 29 #[.agg #[.int .i64 n, .int .i64 d]] w fun e w' => e = .returned (.int .i64 (errF n d : Nat)) ∧ Below w.heap.size w w' := by
  have hd1 : 1 ≤ d := (chk_zero.1 hc).1
  have hb0 := mbelow w (.cells #[.int .i64 n, .int .i64 d] 24)
  have T0 := Two.new w (.int .i64 n) (.int .i64 d) 24
  have FE := FracError_any n d (w.alloc (.cells #[.int .i64 n, .int .i64 d] 24)) hn hd
  rw [hc] at FE
  obtain ⟨n1, n2⟩ := hn
  rw [errF_of hc]
  clear hc
  by_cases h20 : 20 < d
  · have e : tgr n d = true := by unfold tgr; simp; omega
    rw [if_pos e]
    go_enter Tryd.func29, Tryd.ntmps29
    go_wp2_with (go_at_call 28; refine FE.mono ?_; rintro e w1 ⟨rfl, b1⟩; obtain ⟨t0, t1, -, -⟩ := T0.below b1 (Nat.le_refl _))
    go_ret
    exact ⟨rfl, bel_more hb0 b1⟩
  · by_cases ha : 1000 * d < n
    · have e : tgr n d = true := by unfold tgr; simp; omega
      rw [if_pos e]
      go_enter Tryd.func29, Tryd.ntmps29
      go_wp2_with (go_at_call 28; refine FE.mono ?_; rintro e w1 ⟨rfl, b1⟩; obtain ⟨t0, t1, -, -⟩ := T0.below b1 (Nat.le_refl _))
      go_ret
      exact ⟨rfl, bel_more hb0 b1⟩
    · by_cases hs : n < -1000 * d
      · have e : tgr n d = true := by unfold tgr; simp; omega
        rw [if_pos e]
        go_enter Tryd.func29, Tryd.ntmps29
        go_wp2_with (go_at_call 28; refine FE.mono ?_; rintro e w1 ⟨rfl, b1⟩; obtain ⟨t0, t1, -, -⟩ := T0.below b1 (Nat.le_refl _))
        go_ret
        exact ⟨rfl, bel_more hb0 b1⟩
      · have e : ¬ tgr n d = true := by unfold tgr; simp; omega
        rw [if_neg e]
        go_enter Tryd.func29, Tryd.ntmps29
        go_wp2_with (go_at_call 28; refine FE.mono ?_; rintro e w1 ⟨rfl, b1⟩; obtain ⟨t0, t1, -, -⟩ := T0.below b1 (Nat.le_refl _))
        go_ret
        exact ⟨rfl, bel_more hb0 b1⟩

set_option maxRecDepth 20000 in
set_option maxHeartbeats 4000000 in
theorem PointError_any (a : Qt) (w : World) (h : PI a) :
    Calls Tryd.prog 13 #[qtV a] w fun e w' => e = .returned (.int .i64 (errP a : Nat)) ∧ Below w.heap.size w w' := by
  have hb0 := mbelow w (.cells #[.int .i64 a.xn, .int .i64 a.xd, .int .i64 a.yn, .int .i64 a.yd] 26)
  have F0 := Four.new w (.int .i64 a.xn) (.int .i64 a.xd) (.int .i64 a.yn) (.int .i64 a.yd) 26
  have EX := fun V => FracError_any a.xn a.xd V h.xn h.xd
  have EY := fun V => FracError_any a.yn a.yd V h.yn h.yd
  by_cases hx : chk a.xn a.xd = 0
  · rw [hx] at EX
    by_cases hy : chk a.yn a.yd = 0
    · rw [hy] at EY
      have GX := fun V => fracError_any a.xn a.xd V h.xn h.xd hx
      have GY := fun V => fracError_any a.yn a.yd V h.yn h.yd hy
      have hP : chkP a = 0 := chkP_zero.2 ⟨hx, hy⟩
      have e0 : errP a = bigP a := by unfold errP; rw [if_neg (by simp [hP])]
      rw [e0]
      rw [errF_of hx] at GX
      rw [errF_of hy] at GY
      clear hx hy hP e0
      cases h1 : tgr a.xn a.xd with
      | true =>
        have e : bigP a = 2 := by unfold bigP; rw [if_pos (.inl h1)]
        rw [e]
        rw [h1, if_pos rfl] at GX
        go_enter Tryd.func13, Tryd.ntmps13
        go_upto_region 1 with fail
        obtain ⟨U, hU⟩ : ∃ U, w.alloc (.cells #[.int .i64 a.xn, .int .i64 a.xd, .int .i64 a.yn, .int .i64 a.yd] 26) = U := ⟨_, rfl⟩
        rw [hU] at hb0 F0 ⊢
        clear hU
        obtain ⟨f0, f1, f2, f3⟩ := id F0
        go_upto_region 3 with (go_at_call 28; refine (EX U).mono ?_; rintro e w1 ⟨rfl, b1⟩)
        obtain ⟨f0, f1, f2, f3⟩ := F0.below b1 (Nat.le_refl _)
        go_upto_region 5 with (go_at_call 28; refine (EY w1).mono ?_; rintro e w2 ⟨rfl, b2⟩)
        obtain ⟨f0, f1, f2, f3⟩ := (F0.below b1 (Nat.le_refl _)).below b2 (Nat.le_refl _)
        go_wp2_with (go_at_call 29; refine (GX w2).mono ?_; rintro e w3 ⟨rfl, b3⟩)
        go_ret
        exact ⟨rfl, bel_more hb0 (bel_more (bel_more b1 b2) b3)⟩
      | false =>
        have e : bigP a = if tgr a.yn a.yd = true then 2 else 0 := by unfold bigP; simp [h1]
        rw [e]
        rw [h1, if_neg (by simp)] at GX
        generalize (if tgr a.yn a.yd = true then 2 else 0) = g at *
        clear e
        go_enter Tryd.func13, Tryd.ntmps13
        go_upto_region 1 with fail
        obtain ⟨U, hU⟩ : ∃ U, w.alloc (.cells #[.int .i64 a.xn, .int .i64 a.xd, .int .i64 a.yn, .int .i64 a.yd] 26) = U := ⟨_, rfl⟩
        rw [hU] at hb0 F0 ⊢
        clear hU
        obtain ⟨f0, f1, f2, f3⟩ := id F0
        go_upto_region 3 with (go_at_call 28; refine (EX U).mono ?_; rintro e w1 ⟨rfl, b1⟩)
        obtain ⟨f0, f1, f2, f3⟩ := F0.below b1 (Nat.le_refl _)
        go_upto_region 5 with (go_at_call 28; refine (EY w1).mono ?_; rintro e w2 ⟨rfl, b2⟩)
        have F2 := (F0.below b1 (Nat.le_refl _)).below b2 (Nat.le_refl _)
        obtain ⟨f0, f1, f2, f3⟩ := id F2
        go_upto_region 7 with (go_at_call 29; refine (GX w2).mono ?_; rintro e w3 ⟨rfl, b3⟩)
        obtain ⟨f0, f1, f2, f3⟩ := F2.below b3 (Nat.le_refl _)
        go_wp2_with (go_at_call 29; refine (GY w3).mono ?_; rintro e w4 ⟨rfl, b4⟩)
        go_ret
        exact ⟨rfl, bel_more hb0 (bel_more (bel_more b1 b2) (bel_more b3 b4))⟩
    · have e : errP a = chk a.yn a.yd := by
        have h1 : chkP a = chk a.yn a.yd := by unfold chkP; rw [if_neg (by simp [hx])]
        unfold errP
        rw [h1, if_pos hy]
      rw [e]
      obtain ⟨g, hg⟩ : ∃ g, chk a.yn a.yd = g := ⟨_, rfl⟩
      rw [hg] at EY hy ⊢
      have hg' : ((g : Int) == 0) = false := by rw [beq_eq_false_iff_ne]; omega
      have hg2 : ¬ (g : Int) = 0 := by omega
      clear hg e hx hy
      go_enter Tryd.func13, Tryd.ntmps13
      go_upto_region 1 with fail
      obtain ⟨U, hU⟩ : ∃ U, w.alloc (.cells #[.int .i64 a.xn, .int .i64 a.xd, .int .i64 a.yn, .int .i64 a.yd] 26) = U := ⟨_, rfl⟩
      rw [hU] at hb0 F0 ⊢
      clear hU
      obtain ⟨f0, f1, f2, f3⟩ := id F0
      go_upto_region 3 with (go_at_call 28; refine (EX U).mono ?_; rintro e w1 ⟨rfl, b1⟩)
      obtain ⟨f0, f1, f2, f3⟩ := F0.below b1 (Nat.le_refl _)
      go_wp2_with (go_at_call 28; refine (EY w1).mono ?_; rintro e w2 ⟨rfl, b2⟩)
      go_ret
      exact ⟨rfl, bel_more hb0 (bel_more b1 b2)⟩
  · have e : errP a = chk a.xn a.xd := by
      have h1 : chkP a = chk a.xn a.xd := by unfold chkP; rw [if_pos hx]
      unfold errP
      rw [h1, if_pos hx]
    rw [e]
    obtain ⟨g, hg⟩ : ∃ g, chk a.xn a.xd = g := ⟨_, rfl⟩
    rw [hg] at EX hx ⊢
    have hg' : ((g : Int) == 0) = false := by rw [beq_eq_false_iff_ne]; omega
    have hg2 : ¬ (g : Int) = 0 := by omega
    clear hg e hx
    go_enter Tryd.func13, Tryd.ntmps13
    go_wp2_with (go_at_call 28; refine (EX _).mono ?_; rintro e w1 ⟨rfl, b1⟩)
    go_ret
    exact ⟨rfl, bel_more hb0 b1⟩

set_option maxHeartbeats 1000000 in
theorem FracCmp_sh (an ad bn bd : Int) (w : World) (ha : chk an ad = 0) (hb : chk bn bd = 0) :
    Calls Tryd.prog 18 #[.agg #[.int .i64 an, .int .i64 ad], .agg #[.int .i64 bn, .int .i64 bd]] w fun e w' => e = .returned (.int .i64 (cmpF an ad bn bd)) ∧ Below w.heap.size w w' := by
  obtain ⟨a1, _, a3, a4⟩ := chk_zero.1 ha
  obtain ⟨b1, _, b3, b4⟩ := chk_zero.1 hb
  obtain ⟨m11, m12⟩ := mul_bound a3 b4
  obtain ⟨m31, m32⟩ := mul_bound b3 a4
  have hB : ∀ o o', Below w.heap.size w ((w.alloc o).alloc o') := fun o o' => ((Below.refl _ _).alloc (Nat.le_refl _) o).alloc (by simp) o'
  have HB : Hid (∀ o o', Below w.heap.size w ((w.alloc o).alloc o')) := hB
  unfold cmpF
  clear ha hb a1 a3 a4 b1 b3 b4 hB
  rcases Int.lt_trichotomy (an * bd - bn * ad) 0 with h | h | h
  · have e : sgn (an * bd - bn * ad) = -1 := by unfold sgn; rw [if_pos h]
    rw [e]; clear e
    go_enter Tryd.func18, Tryd.ntmps18
    go_wp2
    go_ret
    exact ⟨rfl, HB.out _ _⟩
  · have e : sgn (an * bd - bn * ad) = 0 := by rw [h]; rfl
    rw [e]; clear e
    have h1 : ¬ an * bd - bn * ad < 0 := by omega
    have h2 : ¬ 0 < an * bd - bn * ad := by omega
    clear h
    go_enter Tryd.func18, Tryd.ntmps18
    go_wp2
    go_ret
    exact ⟨rfl, HB.out _ _⟩
  · have e : sgn (an * bd - bn * ad) = 1 := by unfold sgn; rw [if_neg (by omega), if_pos h]
    rw [e]; clear e
    go_enter Tryd.func18, Tryd.ntmps18
    go_wp2
    go_ret
    exact ⟨rfl, HB.out _ _⟩
end Go.Proofs.YtdjeblcmpegmpaaDoor

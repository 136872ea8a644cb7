/-
  The walk of package shape's turnOf: how an edge turns around a point.
-/
import Derived.Test.YtmbdojcljgicaaaGreatDoorShape3
namespace Go.Proofs.YtmbdojcljgicaaaGreatDoor
open Go.RowKit

theorem mbl {W X Y : World} (h1 : Below W.heap.size W X) (h2 : Below X.heap.size X Y) : Below W.heap.size W Y := h1.trans (h2.mono h1.size)
/-- three blocks of four cells -/
structure Tri (U : World) (A B C : Nat) (a0 a1 a2 a3 b0 b1 b2 b3 c0 c1 c2 c3 : Value) : Prop where
  a : Four U A a0 a1 a2 a3
  b : Four U B b0 b1 b2 b3
  c : Four U C c0 c1 c2 c3
theorem Tri.below {U V : World} {A B C n : Nat} {a0 a1 a2 a3 b0 b1 b2 b3 c0 c1 c2 c3 : Value} (h : Tri U A B C a0 a1 a2 a3 b0 b1 b2 b3 c0 c1 c2 c3) (hb : Below n U V) (hn : U.heap.size ≤ n) : Tri V A B C a0 a1 a2 a3 b0 b1 b2 b3 c0 c1 c2 c3 := ⟨h.a.below hb hn, h.b.below hb hn, h.c.below hb hn⟩
theorem minus_bel {an ad bn bd : Int} (w : World) (a1 : 1 ≤ ad) (a2 : ad ≤ 20) (a3 : -20000 ≤ an) (a4 : an ≤ 20000) (b1 : 1 ≤ bd) (b2 : bd ≤ 20) (b3 : -20000 ≤ bn) (b4 : bn ≤ 20000) :
    Calls Tryz.prog 85 #[.agg #[.int .i64 an, .int .i64 ad], .agg #[.int .i64 bn, .int .i64 bd]] w fun e w' => e = .returned (.agg #[.int .i64 (an * bd - bn * ad), .int .i64 (ad * bd)]) ∧ Below w.heap.size w w' :=
  (minus_b w a1 a2 a3 a4 b1 b2 b3 b4).mono fun _ _ h => ⟨h.1, by rw [h.2]; exact minusW_below _ _ _ _ _⟩

theorem fld0 (x y : Int) (w : World) : (Instr.field 159 (.agg #[.int .i64 x, .int .i64 y]) 0).run Tryz.prog w = .ok (.int .i64 x) w := by kernel_rfl
set_option maxRecDepth 20000 in
set_option maxHeartbeats 4000000 in
theorem turnOf_sh (f t p : Qt) (w : World) (hf : PB f) (ht : PB t) (hp : PB p) :
    Calls Tryz.prog 71 #[qtV f, qtV t, qtV p] w fun e w' => e = .returned (.int .i64 (turnI p f t)) ∧ Below w.heap.size w w' := by
  have M1 := fun V => minus_bel (an := p.yn) (ad := p.yd) (bn := f.yn) (bd := f.yd) V hp.y1 hp.y2 hp.y3 hp.y4 hf.y1 hf.y2 hf.y3 hf.y4
  have M2 := fun V => minus_bel (an := p.yn) (ad := p.yd) (bn := t.yn) (bd := t.yd) V hp.y1 hp.y2 hp.y3 hp.y4 ht.y1 ht.y2 ht.y3 ht.y4
  have SD := fun V => side_any f t p V hf ht hp
  have e1 : p.yn * f.yd - f.yn * p.yd = nY p f := rfl
  have e2 : p.yn * t.yd - t.yn * p.yd = nY p t := rfl
  simp only [e1] at M1
  simp only [e2] at M2
  clear e1 e2
  obtain ⟨tv, htv⟩ : ∃ v, turnI p f t = v := ⟨_, rfl⟩
  rw [htv]
  have HV : Hid (turnI p f t = tv) := htv
  clear htv
  clear hf ht hp
  have hfd1 := fun V => fld0 (nY p f) (p.yd * f.yd) V
  have hfd2 := fun V => fld0 (nY p t) (p.yd * t.yd) V
  go_enter Tryz.func71, Tryz.ntmps71
  go_upto_region 1 with fail
  obtain ⟨U, hU⟩ : ∃ U, ((w.alloc (.cells #[.int .i64 f.xn, .int .i64 f.xd, .int .i64 f.yn, .int .i64 f.yd] 61)).alloc (.cells #[.int .i64 t.xn, .int .i64 t.xd, .int .i64 t.yn, .int .i64 t.yd] 61)).alloc (.cells #[.int .i64 p.xn, .int .i64 p.xd, .int .i64 p.yn, .int .i64 p.yd] 61) = U := ⟨_, rfl⟩
  have hbU : Below w.heap.size w U := by rw [← hU]; exact (((Below.refl _ _).alloc (Nat.le_refl _) _).alloc (by simp) _).alloc (by simp; omega) _
  obtain ⟨FA, FB, FC⟩ : Four U (w.heap.size) (.int .i64 f.xn) (.int .i64 f.xd) (.int .i64 f.yn) (.int .i64 f.yd) ∧ Four U (w.heap.size + 1) (.int .i64 t.xn) (.int .i64 t.xd) (.int .i64 t.yn) (.int .i64 t.yd) ∧ Four U (w.heap.size + 1 + 1) (.int .i64 p.xn) (.int .i64 p.xd) (.int .i64 p.yn) (.int .i64 p.yd) := by rw [← hU]; exact fours w _ _ _ _ _ _ _ _ _ _ _ _ _ _ _
  rw [hU]
  clear hU
  have T0 := Tri.mk FA FB FC
  obtain ⟨s0, s1, s2, s3⟩ := FA
  obtain ⟨s4, s5, s6, s7⟩ := FB
  obtain ⟨s8, s9, s10, s11⟩ := FC
  by_cases h1 : 0 ≤ nY p f
  · by_cases h2 : 0 ≤ nY p t
    · have hv : Hid (turnI p f t = 0) := (by unfold turnI; rw [if_neg (fun h => h.2.1 h2), if_neg (fun h => h.2.1 h1)] : turnI p f t = _)
      go_wp2_with (first | (go_at_call_of 85 (Value.agg #[.int .i64 p.yn, .int .i64 p.yd]); refine (M2 w1).mono ?_; rintro e w2 ⟨rfl, b2⟩; have T2 := T1.below b2 (Nat.le_refl _); have yT := T2; obtain ⟨⟨y0, y1, y2, y3⟩, ⟨y4, y5, y6, y7⟩, ⟨y8, y9, y10, y11⟩⟩ := yT) | (go_at_call_of 85 (Value.agg #[.int .i64 p.yn, .int .i64 p.yd]); refine (M1 _).mono ?_; rintro e w1 ⟨rfl, b1⟩; have T1 := T0.below b1 (Nat.le_refl _); have xT := T1; obtain ⟨⟨x0, x1, x2, x3⟩, ⟨x4, x5, x6, x7⟩, ⟨x8, x9, x10, x11⟩⟩ := xT))
      go_ret
      exact ⟨ret_int (hv.out.symm.trans HV.out), mbl hbU (mbl b1 b2)⟩
    · have k2 : (!decide (0 ≤ nY p t)) = true := by simp; omega
      by_cases h3 : 0 < sideI f t p
      · have hv : Hid (turnI p f t = 1) := (by unfold turnI; rw [if_pos ⟨h1, h2, h3⟩] : turnI p f t = _)
        go_wp2_with (first | (go_at_call 86; refine (SD w2).mono ?_; rintro e w3 ⟨rfl, b3⟩) | (go_at_call_of 85 (Value.agg #[.int .i64 p.yn, .int .i64 p.yd]); refine (M2 w1).mono ?_; rintro e w2 ⟨rfl, b2⟩; have T2 := T1.below b2 (Nat.le_refl _); have yT := T2; obtain ⟨⟨y0, y1, y2, y3⟩, ⟨y4, y5, y6, y7⟩, ⟨y8, y9, y10, y11⟩⟩ := yT) | (go_at_call_of 85 (Value.agg #[.int .i64 p.yn, .int .i64 p.yd]); refine (M1 _).mono ?_; rintro e w1 ⟨rfl, b1⟩; have T1 := T0.below b1 (Nat.le_refl _); have xT := T1; obtain ⟨⟨x0, x1, x2, x3⟩, ⟨x4, x5, x6, x7⟩, ⟨x8, x9, x10, x11⟩⟩ := xT))
        go_ret
        exact ⟨ret_int (hv.out.symm.trans HV.out), mbl hbU (mbl (mbl b1 b2) b3)⟩
      · have hv : Hid (turnI p f t = 0) := (by unfold turnI; rw [if_neg (fun h => h3 h.2.2), if_neg (fun h => h2 h.1)] : turnI p f t = _)
        go_wp2_with (first | (go_at_call 86; refine (SD w2).mono ?_; rintro e w3 ⟨rfl, b3⟩) | (go_at_call_of 85 (Value.agg #[.int .i64 p.yn, .int .i64 p.yd]); refine (M2 w1).mono ?_; rintro e w2 ⟨rfl, b2⟩; have T2 := T1.below b2 (Nat.le_refl _); have yT := T2; obtain ⟨⟨y0, y1, y2, y3⟩, ⟨y4, y5, y6, y7⟩, ⟨y8, y9, y10, y11⟩⟩ := yT) | (go_at_call_of 85 (Value.agg #[.int .i64 p.yn, .int .i64 p.yd]); refine (M1 _).mono ?_; rintro e w1 ⟨rfl, b1⟩; have T1 := T0.below b1 (Nat.le_refl _); have xT := T1; obtain ⟨⟨x0, x1, x2, x3⟩, ⟨x4, x5, x6, x7⟩, ⟨x8, x9, x10, x11⟩⟩ := xT))
        go_ret
        exact ⟨ret_int (hv.out.symm.trans HV.out), mbl hbU (mbl (mbl b1 b2) b3)⟩
  · by_cases h2 : 0 ≤ nY p t
    · by_cases h3 : sideI f t p < 0
      · have hv : Hid (turnI p f t = -1) := (by unfold turnI; rw [if_neg (fun h => h1 h.1), if_pos ⟨h2, h1, h3⟩] : turnI p f t = _)
        go_wp2_with (first | (go_at_call 86; refine (SD w2).mono ?_; rintro e w3 ⟨rfl, b3⟩) | (go_at_call_of 85 (Value.agg #[.int .i64 p.yn, .int .i64 p.yd]); refine (M2 w1).mono ?_; rintro e w2 ⟨rfl, b2⟩; have T2 := T1.below b2 (Nat.le_refl _); have yT := T2; obtain ⟨⟨y0, y1, y2, y3⟩, ⟨y4, y5, y6, y7⟩, ⟨y8, y9, y10, y11⟩⟩ := yT) | (go_at_call_of 85 (Value.agg #[.int .i64 p.yn, .int .i64 p.yd]); refine (M1 _).mono ?_; rintro e w1 ⟨rfl, b1⟩; have T1 := T0.below b1 (Nat.le_refl _); have xT := T1; obtain ⟨⟨x0, x1, x2, x3⟩, ⟨x4, x5, x6, x7⟩, ⟨x8, x9, x10, x11⟩⟩ := xT))
        go_ret
        exact ⟨ret_int (hv.out.symm.trans HV.out), mbl hbU (mbl (mbl b1 b2) b3)⟩
      · have hv : Hid (turnI p f t = 0) := (by unfold turnI; rw [if_neg (fun h => h1 h.1), if_neg (fun h => h3 h.2.2)] : turnI p f t = _)
        go_wp2_with (first | (go_at_call 86; refine (SD w2).mono ?_; rintro e w3 ⟨rfl, b3⟩) | (go_at_call_of 85 (Value.agg #[.int .i64 p.yn, .int .i64 p.yd]); refine (M2 w1).mono ?_; rintro e w2 ⟨rfl, b2⟩; have T2 := T1.below b2 (Nat.le_refl _); have yT := T2; obtain ⟨⟨y0, y1, y2, y3⟩, ⟨y4, y5, y6, y7⟩, ⟨y8, y9, y10, y11⟩⟩ := yT) | (go_at_call_of 85 (Value.agg #[.int .i64 p.yn, .int .i64 p.yd]); refine (M1 _).mono ?_; rintro e w1 ⟨rfl, b1⟩; have T1 := T0.below b1 (Nat.le_refl _); have xT := T1; obtain ⟨⟨x0, x1, x2, x3⟩, ⟨x4, x5, x6, x7⟩, ⟨x8, x9, x10, x11⟩⟩ := xT))
        go_ret
        exact ⟨ret_int (hv.out.symm.trans HV.out), mbl hbU (mbl (mbl b1 b2) b3)⟩
    · have hv : Hid (turnI p f t = 0) := (by unfold turnI; rw [if_neg (fun h => h1 h.1), if_neg (fun h => h2 h.1)] : turnI p f t = _)
      go_wp2_with (first | (go_at_call_of 85 (Value.agg #[.int .i64 p.yn, .int .i64 p.yd]); refine (M2 w1).mono ?_; rintro e w2 ⟨rfl, b2⟩; have T2 := T1.below b2 (Nat.le_refl _); have yT := T2; obtain ⟨⟨y0, y1, y2, y3⟩, ⟨y4, y5, y6, y7⟩, ⟨y8, y9, y10, y11⟩⟩ := yT) | (go_at_call_of 85 (Value.agg #[.int .i64 p.yn, .int .i64 p.yd]); refine (M1 _).mono ?_; rintro e w1 ⟨rfl, b1⟩; have T1 := T0.below b1 (Nat.le_refl _); have xT := T1; obtain ⟨⟨x0, x1, x2, x3⟩, ⟨x4, x5, x6, x7⟩, ⟨x8, x9, x10, x11⟩⟩ := xT))
      go_ret
      exact ⟨ret_int (hv.out.symm.trans HV.out), mbl hbU (mbl b1 b2)⟩
end Go.Proofs.YtmbdojcljgicaaaGreatDoor

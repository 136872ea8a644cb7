/-
  The walk of package shape's side.
-/
import Derived.Test.YtmbdojcljgicaaaDoorShape2
import Derived.Deep.Cut
import Derived.Deep.CutRange
import Derived.Deep.RegionHeld3
namespace Go.Proofs.YtmbdojcljgicaaaDoor
open Go.RowKit

/-- a point whose fractions are right and not too great: bounds -/
structure PB (a : Qt) : Prop where
  x1 : 1 ≤ a.xd
  x2 : a.xd ≤ 20
  x3 : -20000 ≤ a.xn
  x4 : a.xn ≤ 20000
  y1 : 1 ≤ a.yd
  y2 : a.yd ≤ 20
  y3 : -20000 ≤ a.yn
  y4 : a.yn ≤ 20000
theorem PB.pos {a : Qt} (h : PB a) : Pos a := ⟨h.x1, h.y1⟩
theorem PB.of {a : Qt} (h : errP a = 0) : PB a := by
  obtain ⟨h1, h2⟩ := errP_zero.1 h
  obtain ⟨p1, p2⟩ := chkP_pos h1
  unfold bigP tgr at h2
  split at h2
  · cases h2
  · rename_i h3
    simp at h3
    exact ⟨p1, by omega, by omega, by omega, p2, by omega, by omega, by omega⟩
theorem PB.pi {a : Qt} (h : PB a) : PI a := by
  obtain ⟨h1, h2, h3, h4, h5, h6, h7, h8⟩ := h
  exact ⟨⟨by omega, by omega⟩, ⟨by omega, by omega⟩, ⟨by omega, by omega⟩, ⟨by omega, by omega⟩⟩
theorem mul_abs {a b A B : Int} (h1 : -A ≤ a) (h2 : a ≤ A) (h3 : -B ≤ b) (h4 : b ≤ B) : -(A * B) ≤ a * b ∧ a * b ≤ A * B := by
  have hA : 0 ≤ A := by omega
  have hB : 0 ≤ B := by omega
  have h5 : (a * b).natAbs ≤ (A * B).natAbs := by
    rw [Int.natAbs_mul, Int.natAbs_mul]
    exact Nat.mul_le_mul (by omega) (by omega)
  have h6 : 0 ≤ A * B := Int.mul_nonneg hA hB
  omega
/-- what lies between two coordinates, in bounds -/
theorem gap_b {an ad bn bd : Int} (a1 : 1 ≤ ad) (a2 : ad ≤ 20) (a3 : -20000 ≤ an) (a4 : an ≤ 20000) (b1 : 1 ≤ bd) (b2 : bd ≤ 20) (b3 : -20000 ≤ bn) (b4 : bn ≤ 20000) :
    (-400000 ≤ an * bd ∧ an * bd ≤ 400000) ∧ (-400000 ≤ bn * ad ∧ bn * ad ≤ 400000) ∧ (-800000 ≤ an * bd - bn * ad ∧ an * bd - bn * ad ≤ 800000) ∧ (1 ≤ ad * bd ∧ ad * bd ≤ 400) := by
  have m1 := mul_abs (a := an) (b := bd) (A := 20000) (B := 20) a3 a4 (by omega) b2
  have m2 := mul_abs (a := bn) (b := ad) (A := 20000) (B := 20) b3 b4 (by omega) a2
  have m3 := mul_abs (a := ad) (b := bd) (A := 20) (B := 20) (by omega) a2 (by omega) b2
  have m4 : 0 < ad * bd := Int.mul_pos (by omega) (by omega)
  omega
theorem minus_b {an ad bn bd : Int} (w : World) (a1 : 1 ≤ ad) (a2 : ad ≤ 20) (a3 : -20000 ≤ an) (a4 : an ≤ 20000) (b1 : 1 ≤ bd) (b2 : bd ≤ 20) (b3 : -20000 ≤ bn) (b4 : bn ≤ 20000) :
    Calls Tryd.prog 57 #[.agg #[.int .i64 an, .int .i64 ad], .agg #[.int .i64 bn, .int .i64 bd]] w fun e w' => e = .returned (.agg #[.int .i64 (an * bd - bn * ad), .int .i64 (ad * bd)]) ∧ w' = minusW an ad bn bd w := by
  obtain ⟨m1, m2, m3, m4⟩ := gap_b a1 a2 a3 a4 b1 b2 b3 b4
  exact minus_any an ad bn bd w ⟨by omega, by omega⟩ ⟨by omega, by omega⟩ ⟨by omega, by omega⟩ ⟨by omega, by omega⟩
/-- the products of a side, in bounds -/
theorem side_b {w y xd hd : Int} (h1 : -800000 ≤ w ∧ w ≤ 800000) (h2 : -800000 ≤ y ∧ y ≤ 800000) (h3 : 1 ≤ xd ∧ xd ≤ 400) (h4 : 1 ≤ hd ∧ hd ≤ 400) :
    (-640000000000 ≤ w * y ∧ w * y ≤ 640000000000) ∧ (-256000000000000 ≤ w * y * xd ∧ w * y * xd ≤ 256000000000000) ∧ (-102400000000000000 ≤ w * y * xd * hd ∧ w * y * xd * hd ≤ 102400000000000000) := by
  have m1 := mul_abs (a := w) (b := y) (A := 800000) (B := 800000) h1.1 h1.2 h2.1 h2.2
  have m2 := mul_abs (a := w * y) (b := xd) (A := 640000000000) (B := 400) (by omega) (by omega) (by omega) (by omega)
  have m3 := mul_abs (a := w * y * xd) (b := hd) (A := 256000000000000) (B := 400) (by omega) (by omega) (by omega) (by omega)
  omega

theorem Four.al {w : World} {b : Nat} {x y z u : Value} (h : Four w b x y z u) (o : Obj) : Four (w.alloc o) b x y z u := h.below (mbelow w o) (Nat.le_refl _)
theorem fours (w : World) (x0 x1 x2 x3 y0 y1 y2 y3 z0 z1 z2 z3 : Value) (t t' t'' : TypeId) :
    Four (((w.alloc (.cells #[x0, x1, x2, x3] t)).alloc (.cells #[y0, y1, y2, y3] t')).alloc (.cells #[z0, z1, z2, z3] t'')) w.heap.size x0 x1 x2 x3 ∧
    Four (((w.alloc (.cells #[x0, x1, x2, x3] t)).alloc (.cells #[y0, y1, y2, y3] t')).alloc (.cells #[z0, z1, z2, z3] t'')) (w.heap.size + 1) y0 y1 y2 y3 ∧
    Four (((w.alloc (.cells #[x0, x1, x2, x3] t)).alloc (.cells #[y0, y1, y2, y3] t')).alloc (.cells #[z0, z1, z2, z3] t'')) (w.heap.size + 1 + 1) z0 z1 z2 z3 := by
  refine ⟨((Four.new w x0 x1 x2 x3 t).al _).al _, ?_, ?_⟩
  · have h := (Four.new (w.alloc (.cells #[x0, x1, x2, x3] t)) y0 y1 y2 y3 t').al (.cells #[z0, z1, z2, z3] t'')
    simpa using h
  · have h := Four.new ((w.alloc (.cells #[x0, x1, x2, x3] t)).alloc (.cells #[y0, y1, y2, y3] t')) z0 z1 z2 z3 t''
    simpa using h
/-- two new blocks of two cells -/
structure Gap (U w : World) (X Y : Nat) (x0 x1 y0 y1 : Value) : Prop where
  b : Below U.heap.size U w
  x : w.cell? ⟨X, 0, none⟩ = some x0 ∧ w.cell? ⟨X, 1, none⟩ = some x1
  y : w.cell? ⟨Y, 0, none⟩ = some y0 ∧ w.cell? ⟨Y, 1, none⟩ = some y1
set_option maxHeartbeats 4000000 in
theorem side_any (f t p : Qt) (w : World) (hf : PB f) (ht : PB t) (hp : PB p) :
    Calls Tryd.prog 58 #[qtV f, qtV t, qtV p] w fun e w' => e = .returned (.int .i64 (sideI f t p)) ∧ Below w.heap.size w w' := by
  have M1 := fun V => minus_b (an := t.xn) (ad := t.xd) (bn := f.xn) (bd := f.xd) V ht.x1 ht.x2 ht.x3 ht.x4 hf.x1 hf.x2 hf.x3 hf.x4
  have M2 := fun V => minus_b (an := t.yn) (ad := t.yd) (bn := f.yn) (bd := f.yd) V ht.y1 ht.y2 ht.y3 ht.y4 hf.y1 hf.y2 hf.y3 hf.y4
  have M3 := fun V => minus_b (an := p.xn) (ad := p.xd) (bn := f.xn) (bd := f.xd) V hp.x1 hp.x2 hp.x3 hp.x4 hf.x1 hf.x2 hf.x3 hf.x4
  have M4 := fun V => minus_b (an := p.yn) (ad := p.yd) (bn := f.yn) (bd := f.yd) V hp.y1 hp.y2 hp.y3 hp.y4 hf.y1 hf.y2 hf.y3 hf.y4
  obtain ⟨S, hS⟩ : ∃ S, sideI f t p = S := ⟨_, rfl⟩
  rw [hS]
  have HS : Hid (sideI f t p = S) := hS
  clear hS
  go_enter Tryd.func58, Tryd.ntmps58
  go_upto_region 1 with fail
  obtain ⟨U, hU⟩ : ∃ U, ((w.alloc (.cells #[.int .i64 f.xn, .int .i64 f.xd, .int .i64 f.yn, .int .i64 f.yd] 54)).alloc (.cells #[.int .i64 t.xn, .int .i64 t.xd, .int .i64 t.yn, .int .i64 t.yd] 54)).alloc (.cells #[.int .i64 p.xn, .int .i64 p.xd, .int .i64 p.yn, .int .i64 p.yd] 54) = U := ⟨_, rfl⟩
  have hU3 : w.heap.size + 1 + 1 < U.heap.size := by rw [← hU]; simp
  have hbU : Below w.heap.size w U := by rw [← hU]; exact (((Below.refl _ _).alloc (Nat.le_refl _) _).alloc (by simp) _).alloc (by simp; omega) _
  obtain ⟨FA, FB, FC⟩ : Four U (w.heap.size) (.int .i64 f.xn) (.int .i64 f.xd) (.int .i64 f.yn) (.int .i64 f.yd) ∧ Four U (w.heap.size + 1) (.int .i64 t.xn) (.int .i64 t.xd) (.int .i64 t.yn) (.int .i64 t.yd) ∧ Four U (w.heap.size + 1 + 1) (.int .i64 p.xn) (.int .i64 p.xd) (.int .i64 p.yn) (.int .i64 p.yd) := by rw [← hU]; exact fours w _ _ _ _ _ _ _ _ _ _ _ _ _ _ _
  rw [hU]
  clear hU
  have K12 : ∀ V, Below U.heap.size U V → (fun w' : World => w'.cell? ⟨w.heap.size, 0, none⟩ = some (.int .i64 f.xn) ∧ w'.cell? ⟨w.heap.size, 1, none⟩ = some (.int .i64 f.xd) ∧ w'.cell? ⟨w.heap.size, 2, none⟩ = some (.int .i64 f.yn) ∧ w'.cell? ⟨w.heap.size, 3, none⟩ = some (.int .i64 f.yd) ∧ w'.cell? ⟨w.heap.size + 1, 0, none⟩ = some (.int .i64 t.xn) ∧ w'.cell? ⟨w.heap.size + 1, 1, none⟩ = some (.int .i64 t.xd) ∧ w'.cell? ⟨w.heap.size + 1, 2, none⟩ = some (.int .i64 t.yn) ∧ w'.cell? ⟨w.heap.size + 1, 3, none⟩ = some (.int .i64 t.yd) ∧ w'.cell? ⟨w.heap.size + 1 + 1, 0, none⟩ = some (.int .i64 p.xn) ∧ w'.cell? ⟨w.heap.size + 1 + 1, 1, none⟩ = some (.int .i64 p.xd) ∧ w'.cell? ⟨w.heap.size + 1 + 1, 2, none⟩ = some (.int .i64 p.yn) ∧ w'.cell? ⟨w.heap.size + 1 + 1, 3, none⟩ = some (.int .i64 p.yd)) V := fun V hV => by
    obtain ⟨a0, a1, a2, a3⟩ := FA.below hV (Nat.le_refl _)
    obtain ⟨b0, b1, b2, b3⟩ := FB.below hV (Nat.le_refl _)
    obtain ⟨c0, c1, c2, c3⟩ := FC.below hV (Nat.le_refl _)
    exact ⟨a0, a1, a2, a3, b0, b1, b2, b3, c0, c1, c2, c3⟩
  obtain ⟨s0, s1, s2, s3⟩ := FA
  obtain ⟨s4, s5, s6, s7⟩ := FB
  obtain ⟨s8, s9, s10, s11⟩ := FC
  go_cut [7, 8] from 11 to 20 (fun p q wx => ∃ X Y, p = .pointer (some ⟨X, 0, none⟩) ∧ q = .pointer (some ⟨Y, 0, none⟩) ∧ Gap U wx X Y (.int .i64 (nX t f)) (.int .i64 (t.xd * f.xd)) (.int .i64 (nY t f)) (.int .i64 (t.yd * f.yd)))
  case first =>
    go_region_held3 (fun w' => w'.cell? ⟨w.heap.size, 0, none⟩ = some (.int .i64 f.xn) ∧ w'.cell? ⟨w.heap.size, 1, none⟩ = some (.int .i64 f.xd) ∧ w'.cell? ⟨w.heap.size, 2, none⟩ = some (.int .i64 f.yn) ∧ w'.cell? ⟨w.heap.size, 3, none⟩ = some (.int .i64 f.yd) ∧ w'.cell? ⟨w.heap.size + 1, 0, none⟩ = some (.int .i64 t.xn) ∧ w'.cell? ⟨w.heap.size + 1, 1, none⟩ = some (.int .i64 t.xd) ∧ w'.cell? ⟨w.heap.size + 1, 2, none⟩ = some (.int .i64 t.yn) ∧ w'.cell? ⟨w.heap.size + 1, 3, none⟩ = some (.int .i64 t.yd) ∧ w'.cell? ⟨w.heap.size + 1 + 1, 0, none⟩ = some (.int .i64 p.xn) ∧ w'.cell? ⟨w.heap.size + 1 + 1, 1, none⟩ = some (.int .i64 p.xd) ∧ w'.cell? ⟨w.heap.size + 1 + 1, 2, none⟩ = some (.int .i64 p.yn) ∧ w'.cell? ⟨w.heap.size + 1 + 1, 3, none⟩ = some (.int .i64 p.yd)) ((refine K12 _ ?_; repeat (first | exact Below.refl _ _ | refine Below.drew ?_ | refine Below.alloc ?_ (by first | omega | (simp; done) | (simp; omega)) _ | refine Below.setCell ?_ (by first | omega | (simp; done) | (simp; omega)) _))) (first | (go_at_call_of 57 (Value.agg #[.int .i64 t.xn, .int .i64 t.xd]); refine (M1 _).mono ?_; rintro e w1 ⟨rfl, rfl⟩; unfold minusW) | (go_at_call_of 57 (Value.agg #[.int .i64 t.yn, .int .i64 t.yd]); refine (M2 _).mono ?_; rintro e w2 ⟨rfl, rfl⟩; unfold minusW))
    all_goals (go_wp2_with fail; go_meet; exact ⟨_, _, rfl, rfl, ⟨by repeat (first | exact Below.refl _ _ | refine Below.drew ?_ | refine Below.alloc ?_ (by first | omega | (simp; done) | (simp; omega)) _), ⟨by simp [go_sem]; rfl, by simp [go_sem]⟩, ⟨by simp [go_sem]; rfl, by simp [go_sem]⟩⟩⟩)
  case rest =>
    obtain ⟨X, Y, rfl, rfl, hbV, ⟨x0, x1⟩, ⟨y0, y1⟩⟩ := hcut
    obtain ⟨V, rfl⟩ : ∃ V, V = wc := ⟨_, rfl⟩
    have hVs := hbV.size
    obtain ⟨s0, s1, s2, s3, s4, s5, s6, s7, s8, s9, s10, s11⟩ := K12 V hbV
    go_upto_region 2 with fail
    go_cut [9, 10] from 21 to 30 (fun p' q' wx => ∃ X2 Y2, p' = .pointer (some ⟨X2, 0, none⟩) ∧ q' = .pointer (some ⟨Y2, 0, none⟩) ∧ Gap V wx X2 Y2 (.int .i64 (nX p f)) (.int .i64 (p.xd * f.xd)) (.int .i64 (nY p f)) (.int .i64 (p.yd * f.yd)))
    case first =>
      go_region_held3 (fun w' => w'.cell? ⟨w.heap.size, 0, none⟩ = some (.int .i64 f.xn) ∧ w'.cell? ⟨w.heap.size, 1, none⟩ = some (.int .i64 f.xd) ∧ w'.cell? ⟨w.heap.size, 2, none⟩ = some (.int .i64 f.yn) ∧ w'.cell? ⟨w.heap.size, 3, none⟩ = some (.int .i64 f.yd) ∧ w'.cell? ⟨w.heap.size + 1, 0, none⟩ = some (.int .i64 t.xn) ∧ w'.cell? ⟨w.heap.size + 1, 1, none⟩ = some (.int .i64 t.xd) ∧ w'.cell? ⟨w.heap.size + 1, 2, none⟩ = some (.int .i64 t.yn) ∧ w'.cell? ⟨w.heap.size + 1, 3, none⟩ = some (.int .i64 t.yd) ∧ w'.cell? ⟨w.heap.size + 1 + 1, 0, none⟩ = some (.int .i64 p.xn) ∧ w'.cell? ⟨w.heap.size + 1 + 1, 1, none⟩ = some (.int .i64 p.xd) ∧ w'.cell? ⟨w.heap.size + 1 + 1, 2, none⟩ = some (.int .i64 p.yn) ∧ w'.cell? ⟨w.heap.size + 1 + 1, 3, none⟩ = some (.int .i64 p.yd)) ((refine K12 _ ?_; repeat (first | exact hbV | refine Below.drew ?_ | refine Below.alloc ?_ (by first | omega | (simp; done) | (simp; omega)) _ | refine Below.setCell ?_ (by first | omega | (simp; done) | (simp; omega)) _))) (first | (go_at_call_of 57 (Value.agg #[.int .i64 p.xn, .int .i64 p.xd]); refine (M3 _).mono ?_; rintro e w1 ⟨rfl, rfl⟩; unfold minusW) | (go_at_call_of 57 (Value.agg #[.int .i64 p.yn, .int .i64 p.yd]); refine (M4 _).mono ?_; rintro e w2 ⟨rfl, rfl⟩; unfold minusW))
      all_goals (go_wp2_with fail; go_meet; exact ⟨_, _, rfl, rfl, ⟨by repeat (first | exact Below.refl _ _ | refine Below.drew ?_ | refine Below.alloc ?_ (by first | omega | (simp; done) | (simp; omega)) _), ⟨by simp [go_sem]; rfl, by simp [go_sem]⟩, ⟨by simp [go_sem]; rfl, by simp [go_sem]⟩⟩⟩)
    case rest =>
      obtain ⟨X2, Y2, rfl, rfl, hbZ, ⟨u0, u1⟩, ⟨v0, v1⟩⟩ := hcut
      obtain ⟨Z, rfl⟩ : ∃ Z, Z = wc := ⟨_, rfl⟩
      have t0 := (hbZ.cell (cell_lt x0)).trans x0
      have t1 := (hbZ.cell (cell_lt x1)).trans x1
      have r0 := (hbZ.cell (cell_lt y0)).trans y0
      have r1 := (hbZ.cell (cell_lt y1)).trans y1
      have hbW := hbU.trans ((hbV.trans (hbZ.mono hVs)).mono hbU.size)
      obtain ⟨-, -, B1, D1⟩ := gap_b (an := t.xn) (ad := t.xd) (bn := f.xn) (bd := f.xd) ht.x1 ht.x2 ht.x3 ht.x4 hf.x1 hf.x2 hf.x3 hf.x4
      obtain ⟨-, -, B2, D2⟩ := gap_b (an := t.yn) (ad := t.yd) (bn := f.yn) (bd := f.yd) ht.y1 ht.y2 ht.y3 ht.y4 hf.y1 hf.y2 hf.y3 hf.y4
      obtain ⟨-, -, B3, D3⟩ := gap_b (an := p.xn) (ad := p.xd) (bn := f.xn) (bd := f.xd) hp.x1 hp.x2 hp.x3 hp.x4 hf.x1 hf.x2 hf.x3 hf.x4
      obtain ⟨-, -, B4, D4⟩ := gap_b (an := p.yn) (ad := p.yd) (bn := f.yn) (bd := f.yd) hp.y1 hp.y2 hp.y3 hp.y4 hf.y1 hf.y2 hf.y3 hf.y4
      have P1 := side_b B1 B4 D3 D2
      have P2 := side_b B3 B2 D1 D4
      have hS := HS.out
      unfold sideI at hS
      have e1 : t.xn * f.xd - f.xn * t.xd = nX t f := rfl
      have e2 : t.yn * f.yd - f.yn * t.yd = nY t f := rfl
      have e3 : p.xn * f.xd - f.xn * p.xd = nX p f := rfl
      have e4 : p.yn * f.yd - f.yn * p.yd = nY p f := rfl
      rw [e1, e4] at P1
      rw [e3, e2] at P2
      clear e1 e2 e3 e4 B1 B2 B3 B4 D1 D2 D3 D4 M1 M2 M3 M4 K12 s0 s1 s2 s3 s4 s5 s6 s7 s8 s9 s10 s11 x0 x1 y0 y1 hf ht hp
      generalize nX t f = a1 at hS t0 t1 r0 r1 u0 u1 v0 v1 P1 P2
      generalize nY t f = a2 at hS t0 t1 r0 r1 u0 u1 v0 v1 P1 P2
      generalize nX p f = a3 at hS t0 t1 r0 r1 u0 u1 v0 v1 P1 P2
      generalize nY p f = a4 at hS t0 t1 r0 r1 u0 u1 v0 v1 P1 P2
      generalize t.xd * f.xd = d1 at hS t0 t1 r0 r1 u0 u1 v0 v1 P1 P2
      generalize t.yd * f.yd = d2 at hS t0 t1 r0 r1 u0 u1 v0 v1 P1 P2
      generalize p.xd * f.xd = d3 at hS t0 t1 r0 r1 u0 u1 v0 v1 P1 P2
      generalize p.yd * f.yd = d4 at hS t0 t1 r0 r1 u0 u1 v0 v1 P1 P2
      obtain ⟨⟨p1, p2⟩, ⟨p3, p4⟩, ⟨p5, p6⟩⟩ := P1
      obtain ⟨⟨q1, q2⟩, ⟨q3, q4⟩, ⟨q5, q6⟩⟩ := P2
      go_wp2
      go_ret
      exact ⟨rfl, hbW⟩
end Go.Proofs.YtmbdojcljgicaaaDoor

/-
  A box in plain integers: how often it goes around a point, and how many of its edges are crossed.
-/
import Derived.Test.YtmbdojcljgicaaaDoorShapeM
namespace Go.Proofs.YtmbdojcljgicaaaDoor

theorem lt_cross {a b c d e f : Int} (hb : 0 < b) (hd : 0 < d) (hf : 0 < f) (h1 : a * d ≤ c * b) (h2 : c * f < e * d) : a * f < e * b := by
  have k1 : a * d * f ≤ c * b * f := Int.mul_le_mul_of_nonneg_right h1 (by omega)
  have k2 : c * f * b < e * d * b := Int.mul_lt_mul_of_pos_right h2 hb
  have e1 : d * (a * f) < d * (e * b) := by
    have : a * d * f = d * (a * f) := by grind
    have : c * b * f = c * f * b := by grind
    have : e * d * b = d * (e * b) := by grind
    omega
  exact Int.lt_of_mul_lt_mul_left e1 (by omega)
theorem le_cross {a b c d e f : Int} (hb : 0 < b) (hd : 0 < d) (hf : 0 < f) (h1 : a * d ≤ c * b) (h2 : c * f ≤ e * d) : a * f ≤ e * b := by
  have k1 : a * d * f ≤ c * b * f := Int.mul_le_mul_of_nonneg_right h1 (by omega)
  have k2 : c * f * b ≤ e * d * b := Int.mul_le_mul_of_nonneg_right h2 (by omega)
  have e1 : d * (a * f) ≤ d * (e * b) := by
    have : a * d * f = d * (a * f) := by grind
    have : c * b * f = c * f * b := by grind
    have : e * d * b = d * (e * b) := by grind
    omega
  exact Int.le_of_mul_le_mul_left e1 hd

/-- the four corners: (x, y), (X, y), (X, Y), (x, Y) -/
def boxL (xn xd yn yd Xn Xd Yn Yd : Int) : List Qt := [⟨xn, xd, yn, yd⟩, ⟨Xn, Xd, yn, yd⟩, ⟨Xn, Xd, Yn, Yd⟩, ⟨xn, xd, Yn, Yd⟩]

theorem turn_flat {p a b : Qt} (h : nY p a = nY p b) : turnI p a b = 0 := by
  unfold turnI
  rw [h, if_neg (by rintro ⟨h1, h2, -⟩; exact h2 h1), if_neg (by rintro ⟨h1, h2, -⟩; exact h2 h1)]
/-- an edge that goes straight up -/
theorem turn_up {p : Qt} {xn xd yn yd Yn Yd : Int} (hx : 0 < xd) (hy : 0 < yd) (hY : 0 < Yd) (py : 0 < p.yd) (hle : yn * Yd ≤ Yn * yd) :
    turnI p ⟨xn, xd, yn, yd⟩ ⟨xn, xd, Yn, Yd⟩ = (if (yn * p.yd ≤ p.yn * yd ∧ p.yn * Yd < Yn * p.yd) ∧ p.xn * xd < xn * p.xd then 1 else 0) ∧
    turnI p ⟨xn, xd, Yn, Yd⟩ ⟨xn, xd, yn, yd⟩ = - (if (yn * p.yd ≤ p.yn * yd ∧ p.yn * Yd < Yn * p.yd) ∧ p.xn * xd < xn * p.xd then 1 else 0) := by
  have hs : turnI p ⟨xn, xd, yn, yd⟩ ⟨xn, xd, Yn, Yd⟩ = (if (yn * p.yd ≤ p.yn * yd ∧ p.yn * Yd < Yn * p.yd) ∧ p.xn * xd < xn * p.xd then 1 else 0) := by
    have hf : Pos ⟨xn, xd, yn, yd⟩ := ⟨hx, hy⟩
    unfold turnI
    simp only [side_pos hf, side_neg hf]
    have n1 : nY p ⟨xn, xd, yn, yd⟩ = p.yn * yd - yn * p.yd := rfl
    have n2 : nY p ⟨xn, xd, Yn, Yd⟩ = p.yn * Yd - Yn * p.yd := rfl
    rw [n1, n2]
    have hno : ¬ (0 ≤ p.yn * Yd - Yn * p.yd ∧ ¬ 0 ≤ p.yn * yd - yn * p.yd) := by
      rintro ⟨h1, h2⟩
      have := lt_cross (a := Yn) (b := Yd) (c := p.yn) (d := p.yd) (e := yn) (f := yd) hY py hy (by omega) (by omega)
      omega
    rw [if_neg (c := 0 ≤ p.yn * Yd - Yn * p.yd ∧ _) (by rintro ⟨h1, h2, -⟩; exact hno ⟨h1, h2⟩)]
    by_cases hin : yn * p.yd ≤ p.yn * yd ∧ p.yn * Yd < Yn * p.yd
    · have hlt := lt_cross (a := yn) (b := yd) (c := p.yn) (d := p.yd) (e := Yn) (f := Yd) hy py hY hin.1 hin.2
      have e1 : sideS ⟨xn, xd, yn, yd⟩ ⟨xn, xd, Yn, Yd⟩ p = ((Yn * yd - yn * Yd) * xd * p.yd) * (xn * p.xd - p.xn * xd) := by
        unfold sideS nX nY
        grind
      have hp : 0 < (Yn * yd - yn * Yd) * xd * p.yd := Int.mul_pos (Int.mul_pos (by omega) hx) py
      rw [e1]
      by_cases hq : p.xn * xd < xn * p.xd
      · rw [if_pos ⟨by omega, by omega, (mul_pos_iff' hp).2 (by omega)⟩, if_pos ⟨hin, hq⟩]
      · rw [if_neg (fun h => hq (by have := (mul_pos_iff' hp).1 h.2.2; omega)), if_neg (fun h => hq h.2)]
    · rw [if_neg (fun h => hin ⟨by omega, by omega⟩), if_neg (fun h => hin h.1)]
  refine ⟨hs, ?_⟩
  rw [← hs]
  exact turn_swap ⟨hx, hy⟩ ⟨hx, hY⟩

/-- is a point in the box? -/
def inBox (xn xd yn yd Xn Xd Yn Yd : Int) (p : Qt) : Prop := (xn * p.xd ≤ p.xn * xd ∧ p.xn * Xd < Xn * p.xd) ∧ (yn * p.yd ≤ p.yn * yd ∧ p.yn * Yd < Yn * p.yd)
theorem box_wind {xn xd yn yd Xn Xd Yn Yd : Int} {p : Qt} (hx : 0 < xd) (hX : 0 < Xd) (hy : 0 < yd) (hY : 0 < Yd) (px : 0 < p.xd) (py : 0 < p.yd) (hlx : xn * Xd ≤ Xn * xd) (hly : yn * Yd ≤ Yn * yd) :
    (inBox xn xd yn yd Xn Xd Yn Yd p → windE (turnI p) (boxL xn xd yn yd Xn Xd Yn Yd) = 1 ∧ windE (fun a b => turnI p a b * turnI p a b) (boxL xn xd yn yd Xn Xd Yn Yd) = 1) ∧
    (¬ inBox xn xd yn yd Xn Xd Yn Yd p → windE (turnI p) (boxL xn xd yn yd Xn Xd Yn Yd) = 0 ∧ (windE (fun a b => turnI p a b * turnI p a b) (boxL xn xd yn yd Xn Xd Yn Yd) = 0 ∨ windE (fun a b => turnI p a b * turnI p a b) (boxL xn xd yn yd Xn Xd Yn Yd) = 2)) := by
  have t1 : turnI p ⟨xn, xd, yn, yd⟩ ⟨Xn, Xd, yn, yd⟩ = 0 := turn_flat rfl
  have t2 := (turn_up (p := p) (xn := Xn) hX hy hY py hly).1
  have t3 : turnI p ⟨Xn, Xd, Yn, Yd⟩ ⟨xn, xd, Yn, Yd⟩ = 0 := turn_flat rfl
  have t4 := (turn_up (p := p) (xn := xn) hx hy hY py hly).2
  have e1 : windE (turnI p) (boxL xn xd yn yd Xn Xd Yn Yd) = turnI p ⟨xn, xd, yn, yd⟩ ⟨Xn, Xd, yn, yd⟩ + (turnI p ⟨Xn, Xd, yn, yd⟩ ⟨Xn, Xd, Yn, Yd⟩ + (turnI p ⟨Xn, Xd, Yn, Yd⟩ ⟨xn, xd, Yn, Yd⟩ + turnI p ⟨xn, xd, Yn, Yd⟩ ⟨xn, xd, yn, yd⟩)) := by
    simp [windE, edges, boxL, sumE]
  have e2 : windE (fun a b => turnI p a b * turnI p a b) (boxL xn xd yn yd Xn Xd Yn Yd) = turnI p ⟨xn, xd, yn, yd⟩ ⟨Xn, Xd, yn, yd⟩ * turnI p ⟨xn, xd, yn, yd⟩ ⟨Xn, Xd, yn, yd⟩ + (turnI p ⟨Xn, Xd, yn, yd⟩ ⟨Xn, Xd, Yn, Yd⟩ * turnI p ⟨Xn, Xd, yn, yd⟩ ⟨Xn, Xd, Yn, Yd⟩ + (turnI p ⟨Xn, Xd, Yn, Yd⟩ ⟨xn, xd, Yn, Yd⟩ * turnI p ⟨Xn, Xd, Yn, Yd⟩ ⟨xn, xd, Yn, Yd⟩ + turnI p ⟨xn, xd, Yn, Yd⟩ ⟨xn, xd, yn, yd⟩ * turnI p ⟨xn, xd, Yn, Yd⟩ ⟨xn, xd, yn, yd⟩)) := by
    simp [windE, edges, boxL, sumE]
  rw [e1, e2, t1, t2, t3, t4]
  have hmore : p.xn * xd < xn * p.xd → p.xn * Xd < Xn * p.xd := fun h => by
    have h' := lt_cross (a := -Xn) (b := Xd) (c := -xn) (d := xd) (e := -p.xn) (f := p.xd) hX hx px (by have e1 := Int.neg_mul Xn xd; have e2 := Int.neg_mul xn Xd; omega) (by have e1 := Int.neg_mul xn p.xd; have e2 := Int.neg_mul p.xn xd; omega)
    have e1 := Int.neg_mul Xn p.xd
    have e2 := Int.neg_mul p.xn Xd
    omega
  unfold inBox
  by_cases hin : yn * p.yd ≤ p.yn * yd ∧ p.yn * Yd < Yn * p.yd
  · by_cases ha : p.xn * xd < xn * p.xd
    · have hb := hmore ha
      rw [if_pos ⟨hin, hb⟩, if_pos ⟨hin, ha⟩]
      exact ⟨fun h => absurd h.1.1 (by omega), fun _ => ⟨by decide, .inr (by decide)⟩⟩
    · by_cases hb : p.xn * Xd < Xn * p.xd
      · rw [if_pos ⟨hin, hb⟩, if_neg (fun h => ha h.2)]
        exact ⟨fun _ => ⟨by decide, by decide⟩, fun h => absurd ⟨⟨by omega, hb⟩, hin⟩ h⟩
      · rw [if_neg (fun h => hb h.2), if_neg (fun h => ha h.2)]
        exact ⟨fun h => absurd h.1.2 hb, fun _ => ⟨by decide, .inl (by decide)⟩⟩
  · rw [if_neg (fun h => hin h.1), if_neg (fun h => hin h.1)]
    exact ⟨fun h => absurd h.2 hin, fun _ => ⟨by decide, .inl (by decide)⟩⟩
end Go.Proofs.YtmbdojcljgicaaaDoor

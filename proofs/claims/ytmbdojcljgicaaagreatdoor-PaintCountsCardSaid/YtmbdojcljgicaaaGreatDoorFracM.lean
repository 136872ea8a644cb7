/-
  Fractions in plain integers, with nothing of the program: the error's number of a fraction, lowest terms, sums, products, quotients and orders.
-/
import Derived.WalkKit
namespace Go.Proofs.YtmbdojcljgicaaaGreatDoor

/-- is a part too great? -/
def isBig (n : Int) : Bool := decide (1073741824 < n.natAbs)
theorem isBig_true {n : Int} : isBig n = true ↔ 1073741824 < n.natAbs := by simp [isBig]
theorem isBig_false {n : Int} : isBig n = false ↔ n.natAbs ≤ 1073741824 := by simp [isBig]

/-- the greatest common divisor, as a number from 0 on -/
def gcdI (n d : Int) : Nat := Nat.gcd n.natAbs d.natAbs

/-- the number of Check's error: 0 none, 2 bound, 3 shape -/
def chk (n d : Int) : Nat := if d < 1 ∨ gcdI n d ≠ 1 then 3 else if isBig n = true ∨ isBig d = true then 2 else 0

theorem chk_zero {n d : Int} : chk n d = 0 ↔ 1 ≤ d ∧ gcdI n d = 1 ∧ n.natAbs ≤ 1073741824 ∧ d.natAbs ≤ 1073741824 := by
  unfold chk
  constructor
  · intro h
    split at h
    · cases h
    · rename_i h1
      split at h
      · cases h
      · rename_i h2
        rw [isBig_true, isBig_true] at h2
        refine ⟨by omega, ?_, by omega, by omega⟩
        by_cases hg : gcdI n d = 1
        · exact hg
        · exact absurd (Or.inr hg) h1
  · rintro ⟨h1, h2, h3, h4⟩
    rw [if_neg (by rintro (h | h); omega; exact h h2), if_neg (by rw [isBig_true, isBig_true]; omega)]
theorem chk_cases (n d : Int) : chk n d = 0 ∨ chk n d = 2 ∨ chk n d = 3 := by
  unfold chk
  split
  · simp
  · split <;> simp

/-- two parts and an error's number -/
structure R3 where
  n : Int
  d : Int
  c : Nat

theorem R3.ext' {x y : R3} (h1 : x.n = y.n) (h2 : x.d = y.d) (h3 : x.c = y.c) : x = y := by cases x; cases y; simp_all

/-- lowest terms, the lower part above 0 -/
def lowP (n d : Int) : R3 :=
  if isBig (n / gcdI n d) = true ∨ isBig (d / gcdI n d) = true then ⟨0, 0, 2⟩ else ⟨n / gcdI n d, d / gcdI n d, 0⟩
def low (n d : Int) : R3 := if d < 0 then lowP (-n) (-d) else lowP n d

theorem gcdI_pos {n d : Int} (h : d ≠ 0) : 0 < gcdI n d := Nat.gcd_pos_of_pos_right _ (by omega)
theorem gcdI_dvd_left (n d : Int) : (gcdI n d : Int) ∣ n := Int.ofNat_dvd_left.2 (Nat.gcd_dvd_left _ _)
theorem gcdI_dvd_right (n d : Int) : (gcdI n d : Int) ∣ d := Int.ofNat_dvd_left.2 (Nat.gcd_dvd_right _ _)

/-- n over d, both divided by their divisor: no divisor in common is left -/
theorem gcdI_div {n d : Int} (h : d ≠ 0) : gcdI (n / gcdI n d) (d / gcdI n d) = 1 := by
  have hp := gcdI_pos (n := n) h
  have e1 : (n / (gcdI n d : Int)).natAbs = n.natAbs / gcdI n d := by
    rw [Int.natAbs_ediv_of_dvd (gcdI_dvd_left n d)]; simp
  have e2 : (d / (gcdI n d : Int)).natAbs = d.natAbs / gcdI n d := by
    rw [Int.natAbs_ediv_of_dvd (gcdI_dvd_right n d)]; simp
  show Nat.gcd _ _ = 1
  rw [e1, e2]
  exact Nat.coprime_div_gcd_div_gcd hp
theorem lowP_mul {n d : Int} : n / gcdI n d * d = n * (d / gcdI n d) := by
  obtain ⟨x, hx⟩ := gcdI_dvd_left n d
  obtain ⟨y, hy⟩ := gcdI_dvd_right n d
  rcases Nat.eq_zero_or_pos (gcdI n d) with h0 | hp
  · rw [h0] at hx hy
    simp at hx hy
    simp [hx, hy]
  · have hp' : (gcdI n d : Int) ≠ 0 := by omega
    have e1 : n / (gcdI n d : Int) = x := by rw [Int.ediv_eq_iff_eq_mul_right hp' (gcdI_dvd_left n d)]; exact hx
    have e2 : d / (gcdI n d : Int) = y := by rw [Int.ediv_eq_iff_eq_mul_right hp' (gcdI_dvd_right n d)]; exact hy
    rw [e1, e2]
    generalize (gcdI n d : Int) = g at *
    rw [hx, hy, ← Int.mul_assoc, Int.mul_comm x g]

/-- in lowest terms there is one way alone -/
theorem unique {n d n' d' : Int} (h1 : 1 ≤ d) (g1 : gcdI n d = 1) (h2 : 1 ≤ d') (g2 : gcdI n' d' = 1) (e : n * d' = n' * d) : n = n' ∧ d = d' := by
  have a1 : d.natAbs ∣ d'.natAbs := by
    have : d.natAbs ∣ n.natAbs * d'.natAbs := by rw [← Int.natAbs_mul, e, Int.natAbs_mul]; exact Nat.dvd_mul_left _ _
    exact Nat.Coprime.dvd_of_dvd_mul_left (show Nat.gcd _ _ = 1 by rw [Nat.gcd_comm]; exact g1) this
  have a2 : d'.natAbs ∣ d.natAbs := by
    have : d'.natAbs ∣ n'.natAbs * d.natAbs := by rw [← Int.natAbs_mul, ← e, Int.natAbs_mul]; exact Nat.dvd_mul_left _ _
    exact Nat.Coprime.dvd_of_dvd_mul_left (show Nat.gcd _ _ = 1 by rw [Nat.gcd_comm]; exact g2) this
  have a3 : d = d' := by have := Nat.dvd_antisymm a1 a2; omega
  subst a3
  exact ⟨Int.eq_of_mul_eq_mul_right (by omega) e, rfl⟩

theorem lowP_cases {n d : Int} : lowP n d = ⟨0, 0, 2⟩ ∨ (lowP n d).c = 0 := by
  unfold lowP; split <;> simp
theorem lowP_some {n d p q : Int} (hd : 0 < d) : lowP n d = ⟨p, q, 0⟩ ↔ chk p q = 0 ∧ p * d = n * q := by
  have hp := gcdI_pos (n := n) (d := d) (by omega)
  have hq : 1 ≤ d / (gcdI n d : Int) := by
    obtain ⟨y, hy⟩ := gcdI_dvd_right n d
    have e2 : d / (gcdI n d : Int) = y := by rw [Int.ediv_eq_iff_eq_mul_right (by omega) (gcdI_dvd_right n d)]; exact hy
    rw [e2]
    rcases Int.lt_or_le 0 y with h | h
    · omega
    · have := Int.mul_nonpos_of_nonneg_of_nonpos (show (0 : Int) ≤ gcdI n d by omega) h
      omega
  have hg := gcdI_div (n := n) (d := d) (by omega)
  have hm := lowP_mul (n := n) (d := d)
  constructor
  · intro h
    unfold lowP at h
    split at h
    · cases h
    · rename_i hb
      rw [isBig_true, isBig_true] at hb
      simp only [R3.mk.injEq] at h
      obtain ⟨rfl, rfl, _⟩ := h
      exact ⟨chk_zero.2 ⟨hq, hg, by omega, by omega⟩, hm⟩
  · rintro ⟨hc, he⟩
    obtain ⟨c1, c2, c3, c4⟩ := chk_zero.1 hc
    have hx : n / (gcdI n d : Int) * q = p * (d / (gcdI n d : Int)) := by
      apply Int.eq_of_mul_eq_mul_right (show d ≠ 0 by omega)
      grind
    obtain ⟨e1, e2⟩ := unique hq hg c1 c2 hx
    unfold lowP
    rw [e1, e2, if_neg (by rw [isBig_true, isBig_true]; omega)]

theorem low_cases {n d : Int} : low n d = ⟨0, 0, 2⟩ ∨ (low n d).c = 0 := by
  unfold low; split
  · exact lowP_cases
  · exact lowP_cases
/-- LOWEST TERMS: the answer is the right fraction of the same value, where there is one -/
theorem low_some {n d p q : Int} (hd : d ≠ 0) : low n d = ⟨p, q, 0⟩ ↔ chk p q = 0 ∧ p * d = n * q := by
  unfold low; split
  · rw [lowP_some (by omega)]
    constructor
    · rintro ⟨a, b⟩; exact ⟨a, by grind⟩
    · rintro ⟨a, b⟩; exact ⟨a, by grind⟩
  · exact lowP_some (by omega)

def add (an ad bn bd : Int) : R3 := if chk an ad ≠ 0 then ⟨0, 0, chk an ad⟩ else if chk bn bd ≠ 0 then ⟨0, 0, chk bn bd⟩ else low (an * bd + bn * ad) (ad * bd)
def sub (an ad bn bd : Int) : R3 := if chk an ad ≠ 0 then ⟨0, 0, chk an ad⟩ else if chk bn bd ≠ 0 then ⟨0, 0, chk bn bd⟩ else low (an * bd - bn * ad) (ad * bd)
def mul (an ad bn bd : Int) : R3 := if chk an ad ≠ 0 then ⟨0, 0, chk an ad⟩ else if chk bn bd ≠ 0 then ⟨0, 0, chk bn bd⟩ else low (an * bn) (ad * bd)
def div (an ad bn bd : Int) : R3 := if chk an ad ≠ 0 then ⟨0, 0, chk an ad⟩ else if chk bn bd ≠ 0 then ⟨0, 0, chk bn bd⟩ else if bn = 0 then ⟨0, 0, 11⟩ else low (an * bd) (ad * bn)

theorem add_some {an ad bn bd p q : Int} : add an ad bn bd = ⟨p, q, 0⟩ ↔ chk an ad = 0 ∧ chk bn bd = 0 ∧ chk p q = 0 ∧ p * (ad * bd) = (an * bd + bn * ad) * q := by
  unfold add
  by_cases h1 : chk an ad = 0
  · by_cases h2 : chk bn bd = 0
    · have hd : ad * bd ≠ 0 := by
        have := (chk_zero.1 h1).1; have := (chk_zero.1 h2).1
        exact Int.mul_ne_zero (by omega) (by omega)
      simp [h1, h2, low_some hd]
    · simp [h1, h2]
  · simp [h1]
theorem sub_some {an ad bn bd p q : Int} : sub an ad bn bd = ⟨p, q, 0⟩ ↔ chk an ad = 0 ∧ chk bn bd = 0 ∧ chk p q = 0 ∧ p * (ad * bd) = (an * bd - bn * ad) * q := by
  unfold sub
  by_cases h1 : chk an ad = 0
  · by_cases h2 : chk bn bd = 0
    · have hd : ad * bd ≠ 0 := by
        have := (chk_zero.1 h1).1; have := (chk_zero.1 h2).1
        exact Int.mul_ne_zero (by omega) (by omega)
      simp [h1, h2, low_some hd]
    · simp [h1, h2]
  · simp [h1]
theorem mul_some {an ad bn bd p q : Int} : mul an ad bn bd = ⟨p, q, 0⟩ ↔ chk an ad = 0 ∧ chk bn bd = 0 ∧ chk p q = 0 ∧ p * (ad * bd) = (an * bn) * q := by
  unfold mul
  by_cases h1 : chk an ad = 0
  · by_cases h2 : chk bn bd = 0
    · have hd : ad * bd ≠ 0 := by
        have := (chk_zero.1 h1).1; have := (chk_zero.1 h2).1
        exact Int.mul_ne_zero (by omega) (by omega)
      simp [h1, h2, low_some hd]
    · simp [h1, h2]
  · simp [h1]
theorem div_some {an ad bn bd p q : Int} : div an ad bn bd = ⟨p, q, 0⟩ ↔ chk an ad = 0 ∧ chk bn bd = 0 ∧ bn ≠ 0 ∧ chk p q = 0 ∧ p * (ad * bn) = (an * bd) * q := by
  unfold div
  by_cases h1 : chk an ad = 0
  · by_cases h2 : chk bn bd = 0
    · by_cases h3 : bn = 0
      · subst h3; simp [h1, h2]
      · have hd : ad * bn ≠ 0 := by
          have := (chk_zero.1 h1).1
          exact Int.mul_ne_zero (by omega) h3
        simp [h1, h2, h3, low_some hd]
    · simp [h1, h2]
  · simp [h1]

/-- the sign of a number -/
def sgn (n : Int) : Int := if n < 0 then -1 else if 0 < n then 1 else 0
theorem sgn_neg (n : Int) : sgn (-n) = -sgn n := by unfold sgn; split <;> split <;> (try split) <;> (try split) <;> omega
theorem sgn_zero {n : Int} : sgn n = 0 ↔ n = 0 := by unfold sgn; split <;> (try split) <;> omega
theorem sgn_of_mul {x y a b : Int} (ha : 0 < a) (hb : 0 < b) (h : x * a = y * b) : sgn x = sgn y := by
  rcases Int.lt_trichotomy x 0 with h1 | h1 | h1
  · have h2 : y * b < 0 := by rw [← h]; exact Int.mul_neg_of_neg_of_pos h1 ha
    have h3 : y < 0 := by
      rcases Int.lt_or_le y 0 with h | h'
      · exact h
      · have := Int.mul_nonneg h' (Int.le_of_lt hb); omega
    unfold sgn; simp [h1, h3]
  · subst h1
    have h3 : y = 0 := by
      rw [Int.zero_mul] at h
      rcases Int.mul_eq_zero.1 h.symm with h | h <;> omega
    simp [h3]
  · have h2 : 0 < y * b := by rw [← h]; exact Int.mul_pos h1 ha
    have h3 : 0 < y := by
      rcases Int.lt_or_le 0 y with h | h'
      · exact h
      · have := Int.mul_nonpos_of_nonpos_of_nonneg h' (Int.le_of_lt hb); omega
    unfold sgn; simp [h1, h3, show ¬ x < 0 by omega, show ¬ y < 0 by omega]

/-- the order of two fractions: the sign of what one is more -/
def cmpF (an ad bn bd : Int) : Int := sgn (an * bd - bn * ad)
theorem cmpF_swap (an ad bn bd : Int) : cmpF an ad bn bd = - cmpF bn bd an ad := by unfold cmpF; rw [← sgn_neg]; congr 1; omega
theorem cmpF_zero {an ad bn bd : Int} (h1 : chk an ad = 0) (h2 : chk bn bd = 0) : cmpF an ad bn bd = 0 ↔ an = bn ∧ ad = bd := by
  unfold cmpF
  rw [sgn_zero]
  obtain ⟨a1, a2, _, _⟩ := chk_zero.1 h1
  obtain ⟨b1, b2, _, _⟩ := chk_zero.1 h2
  constructor
  · intro h; exact unique a1 a2 b1 b2 (by omega)
  · rintro ⟨rfl, rfl⟩; omega
/-- what is added to both makes no difference -/
theorem cmpF_add {an ad bn bd cn cd xn xd yn yd : Int} (hx : add an ad cn cd = ⟨xn, xd, 0⟩) (hy : add bn bd cn cd = ⟨yn, yd, 0⟩) : cmpF xn xd yn yd = cmpF an ad bn bd := by
  obtain ⟨a, c, x, ex⟩ := add_some.1 hx
  obtain ⟨b, _, y, ey⟩ := add_some.1 hy
  have a1 := (chk_zero.1 a).1; have b1 := (chk_zero.1 b).1; have c1 := (chk_zero.1 c).1; have x1 := (chk_zero.1 x).1; have y1 := (chk_zero.1 y).1
  refine sgn_of_mul (a := ad * cd * (bd * cd)) (b := xd * yd * (cd * cd)) (Int.mul_pos (Int.mul_pos (by omega) (by omega)) (Int.mul_pos (by omega) (by omega))) (Int.mul_pos (Int.mul_pos (by omega) (by omega)) (Int.mul_pos (by omega) (by omega))) ?_
  grind
/-- a sum of three may be put together in any way -/
theorem add_assoc' {an ad bn bd cn cd xn xd yn yd pn pd qn qd : Int} (hx : add an ad cn cd = ⟨xn, xd, 0⟩) (hy : add bn bd cn cd = ⟨yn, yd, 0⟩) (hp : add xn xd bn bd = ⟨pn, pd, 0⟩) (hq : add an ad yn yd = ⟨qn, qd, 0⟩) : pn = qn ∧ pd = qd := by
  obtain ⟨a, c, x, ex⟩ := add_some.1 hx
  obtain ⟨b, _, y, ey⟩ := add_some.1 hy
  obtain ⟨_, _, p, ep⟩ := add_some.1 hp
  obtain ⟨_, _, q, eq⟩ := add_some.1 hq
  have a1 := (chk_zero.1 a).1; have b1 := (chk_zero.1 b).1; have c1 := (chk_zero.1 c).1; have x1 := (chk_zero.1 x).1; have y1 := (chk_zero.1 y).1
  obtain ⟨p1, p2, _, _⟩ := chk_zero.1 p
  obtain ⟨q1, q2, _, _⟩ := chk_zero.1 q
  have e1 : pn * (ad * bd * cd) = (an * bd * cd + bn * ad * cd + cn * ad * bd) * pd := by
    apply Int.eq_of_mul_eq_mul_right (show xd ≠ 0 by omega)
    grind
  have e2 : qn * (ad * bd * cd) = (an * bd * cd + bn * ad * cd + cn * ad * bd) * qd := by
    apply Int.eq_of_mul_eq_mul_right (show yd ≠ 0 by omega)
    grind
  refine unique p1 p2 q1 q2 ?_
  apply Int.eq_of_mul_eq_mul_right (show ad * bd * cd ≠ 0 from Int.mul_ne_zero (Int.mul_ne_zero (by omega) (by omega)) (by omega))
  grind
theorem add_comm' (an ad bn bd : Int) (h : (add an ad bn bd).c = 0) : add bn bd an ad = add an ad bn bd := by
  have h' : add an ad bn bd = ⟨(add an ad bn bd).n, (add an ad bn bd).d, 0⟩ := R3.ext' rfl rfl h
  obtain ⟨a, b, x, ex⟩ := add_some.1 h'
  rw [h', add_some]
  exact ⟨b, a, x, by grind⟩
/-- what was added is taken off -/
theorem sub_add {an ad bn bd xn xd : Int} (hx : add an ad bn bd = ⟨xn, xd, 0⟩) : sub xn xd bn bd = ⟨an, ad, 0⟩ := by
  obtain ⟨a, b, x, ex⟩ := add_some.1 hx
  have b1 := (chk_zero.1 b).1
  rw [sub_some]
  refine ⟨x, b, a, ?_⟩
  apply Int.eq_of_mul_eq_mul_right (show bd ≠ 0 by omega)
  grind
theorem mul_comm' {an ad bn bd xn xd : Int} (hx : mul an ad bn bd = ⟨xn, xd, 0⟩) : mul bn bd an ad = ⟨xn, xd, 0⟩ := by
  obtain ⟨a, b, x, ex⟩ := mul_some.1 hx
  rw [mul_some]
  exact ⟨b, a, x, by grind⟩
/-- what was multiplied is divided -/
theorem div_mul {an ad bn bd xn xd : Int} (hx : mul an ad bn bd = ⟨xn, xd, 0⟩) (hb : bn ≠ 0) : div xn xd bn bd = ⟨an, ad, 0⟩ := by
  obtain ⟨a, b, x, ex⟩ := mul_some.1 hx
  have b1 := (chk_zero.1 b).1
  rw [div_some]
  refine ⟨x, b, hb, a, ?_⟩
  grind
theorem mul_zero' {an ad bd xn xd : Int} (hx : mul an ad 0 bd = ⟨xn, xd, 0⟩) : xn = 0 ∧ xd = 1 ∧ bd = 1 := by
  obtain ⟨a, b, x, ex⟩ := mul_some.1 hx
  have a1 := (chk_zero.1 a).1; obtain ⟨b1, b2, _, _⟩ := chk_zero.1 b
  obtain ⟨x1, x2, _, _⟩ := chk_zero.1 x
  have h0 : xn * (ad * bd) = 0 := by rw [ex]; simp
  have hn : xn = 0 := by
    rcases Int.mul_eq_zero.1 h0 with h | h
    · exact h
    · rcases Int.mul_eq_zero.1 h with h | h <;> omega
  subst hn
  unfold gcdI at b2 x2
  simp at b2 x2
  exact ⟨rfl, by omega, by omega⟩
end Go.Proofs.YtmbdojcljgicaaaGreatDoor

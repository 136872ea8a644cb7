/-
  Moves of the plane, as plain mathematics: fractions by their two parts, moves of six of them; what package move reckons, and what holds of it over the rational numbers.
-/
import Derived.Test.YtdjeblcmpegmpaaDoorFracM
namespace Go.Proofs.YtdjeblcmpegmpaaDoor

structure Fr where
  n : Int
  d : Int
deriving DecidableEq

structure Pt where
  x : Fr
  y : Fr
deriving DecidableEq

structure Mv where
  a : Fr
  b : Fr
  c : Fr
  d : Fr
  e : Fr
  f : Fr
deriving DecidableEq

def Fr.zero : Fr := ⟨0, 0⟩
def Pt.zero : Pt := ⟨.zero, .zero⟩
def Mv.zero : Mv := ⟨.zero, .zero, .zero, .zero, .zero, .zero⟩
def Fr.whole (n : Int) : Fr := ⟨n, 1⟩
def Mv.one : Mv := ⟨.whole 1, .whole 0, .whole 0, .whole 1, .whole 0, .whole 0⟩

def Fr.ok (x : Fr) : Prop := chk x.n x.d = 0
def Pt.ok (p : Pt) : Prop := p.x.ok ∧ p.y.ok
def Mv.ok (m : Mv) : Prop := m.a.ok ∧ m.b.ok ∧ m.c.ok ∧ m.d.ok ∧ m.e.ok ∧ m.f.ok

abbrev Op4 := Int → Int → Int → Int → R3

/-- One step of the work: nothing is done behind an error. -/
def doF (op : Op4) (c : Nat) (x y : Fr) : Fr × Nat :=
  if c = 0 then (⟨(op x.n x.d y.n y.d).n, (op x.n x.d y.n y.d).d⟩, (op x.n x.d y.n y.d).c) else (.zero, c)

/-- A sum of two products, from the state c on. -/
def dotF (c : Nat) (a x b y : Fr) : Fr × Nat :=
  doF add (doF mul (doF mul c a x).2 b y).2 (doF mul c a x).1 (doF mul (doF mul c a x).2 b y).1

def turnedF (c : Nat) (m : Mv) (p : Pt) : Pt × Nat :=
  (⟨(dotF c m.a p.x m.c p.y).1, (dotF (dotF c m.a p.x m.c p.y).2 m.b p.x m.d p.y).1⟩, (dotF (dotF c m.a p.x m.c p.y).2 m.b p.x m.d p.y).2)

def movedF (c : Nat) (m : Mv) (p : Pt) : Pt × Nat :=
  (⟨(doF add (turnedF c m p).2 (turnedF c m p).1.x m.e).1, (doF add (doF add (turnedF c m p).2 (turnedF c m p).1.x m.e).2 (turnedF c m p).1.y m.f).1⟩,
   (doF add (doF add (turnedF c m p).2 (turnedF c m p).1.x m.e).2 (turnedF c m p).1.y m.f).2)

/-- The steps of Then: where the first move's columns and its last one go. -/
def thenS (m n : Mv) : Mv × Nat :=
  (⟨(turnedF 0 n ⟨m.a, m.b⟩).1.x, (turnedF 0 n ⟨m.a, m.b⟩).1.y,
    (turnedF (turnedF 0 n ⟨m.a, m.b⟩).2 n ⟨m.c, m.d⟩).1.x, (turnedF (turnedF 0 n ⟨m.a, m.b⟩).2 n ⟨m.c, m.d⟩).1.y,
    (movedF (turnedF (turnedF 0 n ⟨m.a, m.b⟩).2 n ⟨m.c, m.d⟩).2 n ⟨m.e, m.f⟩).1.x, (movedF (turnedF (turnedF 0 n ⟨m.a, m.b⟩).2 n ⟨m.c, m.d⟩).2 n ⟨m.e, m.f⟩).1.y⟩,
   (movedF (turnedF (turnedF 0 n ⟨m.a, m.b⟩).2 n ⟨m.c, m.d⟩).2 n ⟨m.e, m.f⟩).2)

/-- A right fraction as a rational number. -/
def Fr.val (x : Fr) : Rat := (x.n : Rat) / (x.d : Rat)

theorem Fr.ok_pos {x : Fr} (h : x.ok) : x.d ≠ 0 := by have := (chk_zero.1 h).1; omega

theorem val_inj {x y : Fr} (hx : x.ok) (hy : y.ok) (h : x.val = y.val) : x = y := by
  have h1 : (x.d : Rat) ≠ 0 := by simpa using Fr.ok_pos hx
  have h2 : (y.d : Rat) ≠ 0 := by simpa using Fr.ok_pos hy
  unfold Fr.val at h
  have h3 : (x.n : Rat) = (y.n : Rat) / y.d * x.d := by rw [← h]; grind
  have h4 : (x.n : Rat) * y.d = y.n * x.d := by rw [h3]; grind
  have h5 : x.n * y.d = y.n * x.d := by exact_mod_cast h4
  have hu := unique (chk_zero.1 hx).1 (chk_zero.1 hx).2.1 (chk_zero.1 hy).1 (chk_zero.1 hy).2.1 h5
  cases x; cases y; simp_all

theorem low_two {n d : Int} {r : R3} (h : low n d = r) : r.c = 0 ∨ r = ⟨0, 0, 2⟩ := by
  rcases low_cases (n := n) (d := d) with h1 | h1
  · exact .inr (h.symm.trans h1)
  · exact .inl (by rw [← h]; exact h1)

/-- An operation that is right, or tells the bound, and is what the rational numbers have. -/
structure Good (op : Op4) (F : Rat → Rat → Rat) : Prop where
  two : ∀ x y : Fr, x.ok → y.ok → (op x.n x.d y.n y.d).c = 0 ∨ op x.n x.d y.n y.d = ⟨0, 0, 2⟩
  val : ∀ x y : Fr, ∀ p q, op x.n x.d y.n y.d = ⟨p, q, 0⟩ → x.ok ∧ y.ok ∧ Fr.ok ⟨p, q⟩ ∧ Fr.val ⟨p, q⟩ = F x.val y.val

theorem good_add : Good add (· + ·) where
  two x y hx hy := by
    unfold add; unfold Fr.ok at hx hy; rw [if_neg (by simp [hx]), if_neg (by simp [hy])]
    rcases low_cases (n := x.n * y.d + y.n * x.d) (d := x.d * y.d) with h | h
    · exact .inr h
    · exact .inl h
  val x y p q h := by
    obtain ⟨h1, h2, h3, h4⟩ := add_some.1 h
    refine ⟨h1, h2, h3, ?_⟩
    have e1 : (x.d : Rat) ≠ 0 := by simpa using Fr.ok_pos h1
    have e2 : (y.d : Rat) ≠ 0 := by simpa using Fr.ok_pos h2
    have e3 : (q : Rat) ≠ 0 := by simpa using Fr.ok_pos (x := ⟨p, q⟩) h3
    have e4 : (p : Rat) * (x.d * y.d) = (x.n * y.d + y.n * x.d) * q := by exact_mod_cast h4
    unfold Fr.val; simp only; grind

theorem good_mul : Good mul (· * ·) where
  two x y hx hy := by
    unfold mul; unfold Fr.ok at hx hy; rw [if_neg (by simp [hx]), if_neg (by simp [hy])]
    rcases low_cases (n := x.n * y.n) (d := x.d * y.d) with h | h
    · exact .inr h
    · exact .inl h
  val x y p q h := by
    obtain ⟨h1, h2, h3, h4⟩ := mul_some.1 h
    refine ⟨h1, h2, h3, ?_⟩
    have e1 : (x.d : Rat) ≠ 0 := by simpa using Fr.ok_pos h1
    have e2 : (y.d : Rat) ≠ 0 := by simpa using Fr.ok_pos h2
    have e3 : (q : Rat) ≠ 0 := by simpa using Fr.ok_pos (x := ⟨p, q⟩) h3
    have e4 : (p : Rat) * (x.d * y.d) = (x.n * y.n) * q := by exact_mod_cast h4
    unfold Fr.val; simp only; grind

/-- A step: the state is 0 or 2 behind it; where it is 0, all was right, and it is as the rational numbers have it. -/
theorem Good.step {op : Op4} {F : Rat → Rat → Rat} (g : Good op F) {c : Nat} {x y : Fr} (hc : c = 0 ∨ c = 2) (hx : c = 0 → x.ok) (hy : c = 0 → y.ok) :
    ((doF op c x y).2 = 0 ∨ (doF op c x y).2 = 2) ∧ ((doF op c x y).2 = 0 → c = 0 ∧ (doF op c x y).1.ok ∧ (doF op c x y).1.val = F x.val y.val) := by
  rcases hc with rfl | rfl
  · rcases g.two x y (hx rfl) (hy rfl) with h | h
    · have := g.val x y (op x.n x.d y.n y.d).n (op x.n x.d y.n y.d).d (by rw [← h])
      simp only [doF, if_pos, h]
      exact ⟨.inl trivial, fun _ => ⟨trivial, this.2.2.1, this.2.2.2⟩⟩
    · simp [doF, h]
  · simp [doF]

theorem dot_step {c : Nat} {a x b y : Fr} (hc : c = 0 ∨ c = 2) (ha : a.ok) (hx : x.ok) (hb : b.ok) (hy : y.ok) :
    ((dotF c a x b y).2 = 0 ∨ (dotF c a x b y).2 = 2) ∧ ((dotF c a x b y).2 = 0 → c = 0 ∧ (dotF c a x b y).1.ok ∧ (dotF c a x b y).1.val = a.val * x.val + b.val * y.val) := by
  obtain ⟨h1, k1⟩ := good_mul.step hc (fun _ => ha) (fun _ => hx)
  obtain ⟨h2, k2⟩ := good_mul.step h1 (fun _ => hb) (fun _ => hy)
  obtain ⟨h3, k3⟩ := good_add.step h2 (x := (doF mul c a x).1) (y := (doF mul (doF mul c a x).2 b y).1) (fun e => (k1 (k2 e).1).2.1) (fun e => (k2 e).2.1)
  refine ⟨h3, fun e => ?_⟩
  obtain ⟨e2, o3, v3⟩ := k3 e
  obtain ⟨e1, _, v2⟩ := k2 e2
  obtain ⟨e0, _, v1⟩ := k1 e1
  exact ⟨e0, o3, by rw [dotF, v3, v2, v1]⟩

theorem turned_step {c : Nat} {m : Mv} {p : Pt} (hc : c = 0 ∨ c = 2) (hm : m.ok) (hp : p.ok) :
    ((turnedF c m p).2 = 0 ∨ (turnedF c m p).2 = 2) ∧ ((turnedF c m p).2 = 0 → c = 0 ∧ (turnedF c m p).1.ok ∧
      (turnedF c m p).1.x.val = m.a.val * p.x.val + m.c.val * p.y.val ∧ (turnedF c m p).1.y.val = m.b.val * p.x.val + m.d.val * p.y.val) := by
  obtain ⟨h1, k1⟩ := dot_step hc hm.1 hp.1 hm.2.2.1 hp.2
  obtain ⟨h2, k2⟩ := dot_step h1 hm.2.1 hp.1 hm.2.2.2.1 hp.2
  refine ⟨h2, fun e => ?_⟩
  obtain ⟨e1, o2, v2⟩ := k2 e
  obtain ⟨e0, o1, v1⟩ := k1 e1
  exact ⟨e0, ⟨o1, o2⟩, v1, v2⟩

theorem moved_step {c : Nat} {m : Mv} {p : Pt} (hc : c = 0 ∨ c = 2) (hm : m.ok) (hp : p.ok) :
    ((movedF c m p).2 = 0 ∨ (movedF c m p).2 = 2) ∧ ((movedF c m p).2 = 0 → c = 0 ∧ (movedF c m p).1.ok ∧
      (movedF c m p).1.x.val = m.a.val * p.x.val + m.c.val * p.y.val + m.e.val ∧ (movedF c m p).1.y.val = m.b.val * p.x.val + m.d.val * p.y.val + m.f.val) := by
  obtain ⟨h1, k1⟩ := turned_step hc hm hp
  unfold movedF
  generalize turnedF c m p = t at h1 k1 ⊢
  obtain ⟨h2, k2⟩ := good_add.step h1 (x := t.1.x) (y := m.e) (fun e => (k1 e).2.1.1) (fun _ => hm.2.2.2.2.1)
  generalize doF add t.2 t.1.x m.e = u at h2 k2 ⊢
  obtain ⟨h3, k3⟩ := good_add.step h2 (x := t.1.y) (y := m.f) (fun e => (k1 (k2 e).1).2.1.2) (fun _ => hm.2.2.2.2.2)
  generalize doF add u.2 t.1.y m.f = v at h3 k3 ⊢
  refine ⟨h3, fun e => ?_⟩
  obtain ⟨e2, o3, v3⟩ := k3 e
  obtain ⟨e1, o2, v2⟩ := k2 e2
  obtain ⟨e0, _, v0, v1⟩ := k1 e1
  exact ⟨e0, ⟨o2, o3⟩, v2.trans (by rw [v0]), v3.trans (by rw [v1])⟩

theorem then_step {m n : Mv} (hm : m.ok) (hn : n.ok) :
    ((thenS m n).2 = 0 ∨ (thenS m n).2 = 2) ∧ ((thenS m n).2 = 0 → (thenS m n).1.ok ∧
      (thenS m n).1.a.val = n.a.val * m.a.val + n.c.val * m.b.val ∧ (thenS m n).1.b.val = n.b.val * m.a.val + n.d.val * m.b.val ∧
      (thenS m n).1.c.val = n.a.val * m.c.val + n.c.val * m.d.val ∧ (thenS m n).1.d.val = n.b.val * m.c.val + n.d.val * m.d.val ∧
      (thenS m n).1.e.val = n.a.val * m.e.val + n.c.val * m.f.val + n.e.val ∧ (thenS m n).1.f.val = n.b.val * m.e.val + n.d.val * m.f.val + n.f.val) := by
  obtain ⟨h1, k1⟩ := turned_step (c := 0) (m := n) (p := ⟨m.a, m.b⟩) (.inl rfl) hn ⟨hm.1, hm.2.1⟩
  unfold thenS
  generalize turnedF 0 n ⟨m.a, m.b⟩ = t at h1 k1 ⊢
  obtain ⟨h2, k2⟩ := turned_step (m := n) (p := ⟨m.c, m.d⟩) h1 hn ⟨hm.2.2.1, hm.2.2.2.1⟩
  generalize turnedF t.2 n ⟨m.c, m.d⟩ = u at h2 k2 ⊢
  obtain ⟨h3, k3⟩ := moved_step (m := n) (p := ⟨m.e, m.f⟩) h2 hn ⟨hm.2.2.2.2.1, hm.2.2.2.2.2⟩
  generalize movedF u.2 n ⟨m.e, m.f⟩ = v at h3 k3 ⊢
  refine ⟨h3, fun e => ?_⟩
  obtain ⟨e2, o3, v3, w3⟩ := k3 e
  obtain ⟨e1, o2, v2, w2⟩ := k2 e2
  obtain ⟨_, o1, v1, w1⟩ := k1 e1
  exact ⟨⟨o1.1, o1.2, o2.1, o2.2, o3.1, o3.2⟩, v1, w1, v2, w2, v3, w3⟩

end Go.Proofs.YtdjeblcmpegmpaaDoor

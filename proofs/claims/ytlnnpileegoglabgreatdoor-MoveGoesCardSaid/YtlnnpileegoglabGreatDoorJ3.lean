/-
  Moves of the plane, as plain mathematics: fractions by their two parts, moves of six of them; what package move reckons, and what holds of it over the rational numbers.
-/
import Derived.Test.YtlnnpileegoglabGreatDoorJ1
import Derived.RangeFuncNested
import Derived.RangeFuncBound
import Derived.RangeFuncCalls
import Derived.RangeFuncLeaves
import Derived.Shelf.Abstract
import Derived.Shelf.RegionOpen
import Derived.WalkKit
import Derived.OwnWalkIn
import Derived.TacticsInMore
import Derived.LoopNIn
import Derived.LoopIn
import Derived.Deep.RegionHeld3
namespace Go.Proofs.YtlnnpileegoglabGreatDoor

structure Fr where
  n : Int
  d : Int
deriving DecidableEq

structure Pt where
  x : Fr
  y : Fr
deriving DecidableEq

structure Mv where
  a : Fr
  b : Fr
  c : Fr
  d : Fr
  e : Fr
  f : Fr
deriving DecidableEq

def Fr.zero : Fr := ⟨0, 0⟩
def Pt.zero : Pt := ⟨.zero, .zero⟩
def Mv.zero : Mv := ⟨.zero, .zero, .zero, .zero, .zero, .zero⟩
def Fr.whole (n : Int) : Fr := ⟨n, 1⟩
def Mv.one : Mv := ⟨.whole 1, .whole 0, .whole 0, .whole 1, .whole 0, .whole 0⟩

def Fr.ok (x : Fr) : Prop := chk x.n x.d = 0
def Pt.ok (p : Pt) : Prop := p.x.ok ∧ p.y.ok
def Mv.ok (m : Mv) : Prop := m.a.ok ∧ m.b.ok ∧ m.c.ok ∧ m.d.ok ∧ m.e.ok ∧ m.f.ok

abbrev Op4 := Int → Int → Int → Int → R3

/-- One step of the work: nothing is done behind an error. -/
def doF (op : Op4) (c : Nat) (x y : Fr) : Fr × Nat :=
  if c = 0 then (⟨(op x.n x.d y.n y.d).n, (op x.n x.d y.n y.d).d⟩, (op x.n x.d y.n y.d).c) else (.zero, c)

/-- A sum of two products, from the state c on. -/
def dotF (c : Nat) (a x b y : Fr) : Fr × Nat :=
  doF add (doF mul (doF mul c a x).2 b y).2 (doF mul c a x).1 (doF mul (doF mul c a x).2 b y).1

def turnedF (c : Nat) (m : Mv) (p : Pt) : Pt × Nat :=
  (⟨(dotF c m.a p.x m.c p.y).1, (dotF (dotF c m.a p.x m.c p.y).2 m.b p.x m.d p.y).1⟩, (dotF (dotF c m.a p.x m.c p.y).2 m.b p.x m.d p.y).2)

def movedF (c : Nat) (m : Mv) (p : Pt) : Pt × Nat :=
  (⟨(doF add (turnedF c m p).2 (turnedF c m p).1.x m.e).1, (doF add (doF add (turnedF c m p).2 (turnedF c m p).1.x m.e).2 (turnedF c m p).1.y m.f).1⟩,
   (doF add (doF add (turnedF c m p).2 (turnedF c m p).1.x m.e).2 (turnedF c m p).1.y m.f).2)

/-- The steps of Then: where the first move's columns and its last one go. -/
def thenS (m n : Mv) : Mv × Nat :=
  (⟨(turnedF 0 n ⟨m.a, m.b⟩).1.x, (turnedF 0 n ⟨m.a, m.b⟩).1.y,
    (turnedF (turnedF 0 n ⟨m.a, m.b⟩).2 n ⟨m.c, m.d⟩).1.x, (turnedF (turnedF 0 n ⟨m.a, m.b⟩).2 n ⟨m.c, m.d⟩).1.y,
    (movedF (turnedF (turnedF 0 n ⟨m.a, m.b⟩).2 n ⟨m.c, m.d⟩).2 n ⟨m.e, m.f⟩).1.x, (movedF (turnedF (turnedF 0 n ⟨m.a, m.b⟩).2 n ⟨m.c, m.d⟩).2 n ⟨m.e, m.f⟩).1.y⟩,
   (movedF (turnedF (turnedF 0 n ⟨m.a, m.b⟩).2 n ⟨m.c, m.d⟩).2 n ⟨m.e, m.f⟩).2)

/-- A right fraction as a rational number. -/
def Fr.val (x : Fr) : Rat := (x.n : Rat) / (x.d : Rat)

theorem Fr.ok_pos {x : Fr} (h : x.ok) : x.d ≠ 0 := by have := (chk_zero.1 h).1; omega

theorem val_inj {x y : Fr} (hx : x.ok) (hy : y.ok) (h : x.val = y.val) : x = y := by
  have h1 : (x.d : Rat) ≠ 0 := by simpa using Fr.ok_pos hx
  have h2 : (y.d : Rat) ≠ 0 := by simpa using Fr.ok_pos hy
  unfold Fr.val at h
  have h3 : (x.n : Rat) = (y.n : Rat) / y.d * x.d := by rw [← h]; grind
  have h4 : (x.n : Rat) * y.d = y.n * x.d := by rw [h3]; grind
  have h5 : x.n * y.d = y.n * x.d := by exact_mod_cast h4
  have hu := unique (chk_zero.1 hx).1 (chk_zero.1 hx).2.1 (chk_zero.1 hy).1 (chk_zero.1 hy).2.1 h5
  cases x; cases y; simp_all

theorem low_two {n d : Int} {r : R3} (h : low n d = r) : r.c = 0 ∨ r = ⟨0, 0, 2⟩ := by
  rcases low_cases (n := n) (d := d) with h1 | h1
  · exact .inr (h.symm.trans h1)
  · exact .inl (by rw [← h]; exact h1)

/-- An operation that is right, or tells the bound, and is what the rational numbers have. -/
structure Good (op : Op4) (F : Rat → Rat → Rat) : Prop where
  two : ∀ x y : Fr, x.ok → y.ok → (op x.n x.d y.n y.d).c = 0 ∨ op x.n x.d y.n y.d = ⟨0, 0, 2⟩
  val : ∀ x y : Fr, ∀ p q, op x.n x.d y.n y.d = ⟨p, q, 0⟩ → x.ok ∧ y.ok ∧ Fr.ok ⟨p, q⟩ ∧ Fr.val ⟨p, q⟩ = F x.val y.val

theorem good_add : Good add (· + ·) where
  two x y hx hy := by
    unfold add; unfold Fr.ok at hx hy; rw [if_neg (by simp [hx]), if_neg (by simp [hy])]
    rcases low_cases (n := x.n * y.d + y.n * x.d) (d := x.d * y.d) with h | h
    · exact .inr h
    · exact .inl h
  val x y p q h := by
    obtain ⟨h1, h2, h3, h4⟩ := add_some.1 h
    refine ⟨h1, h2, h3, ?_⟩
    have e1 : (x.d : Rat) ≠ 0 := by simpa using Fr.ok_pos h1
    have e2 : (y.d : Rat) ≠ 0 := by simpa using Fr.ok_pos h2
    have e3 : (q : Rat) ≠ 0 := by simpa using Fr.ok_pos (x := ⟨p, q⟩) h3
    have e4 : (p : Rat) * (x.d * y.d) = (x.n * y.d + y.n * x.d) * q := by exact_mod_cast h4
    unfold Fr.val; simp only; grind

theorem good_mul : Good mul (· * ·) where
  two x y hx hy := by
    unfold mul; unfold Fr.ok at hx hy; rw [if_neg (by simp [hx]), if_neg (by simp [hy])]
    rcases low_cases (n := x.n * y.n) (d := x.d * y.d) with h | h
    · exact .inr h
    · exact .inl h
  val x y p q h := by
    obtain ⟨h1, h2, h3, h4⟩ := mul_some.1 h
    refine ⟨h1, h2, h3, ?_⟩
    have e1 : (x.d : Rat) ≠ 0 := by simpa using Fr.ok_pos h1
    have e2 : (y.d : Rat) ≠ 0 := by simpa using Fr.ok_pos h2
    have e3 : (q : Rat) ≠ 0 := by simpa using Fr.ok_pos (x := ⟨p, q⟩) h3
    have e4 : (p : Rat) * (x.d * y.d) = (x.n * y.n) * q := by exact_mod_cast h4
    unfold Fr.val; simp only; grind

/-- A step: the state is 0 or 2 behind it; where it is 0, all was right, and it is as the rational numbers have it. -/
theorem Good.step {op : Op4} {F : Rat → Rat → Rat} (g : Good op F) {c : Nat} {x y : Fr} (hc : c = 0 ∨ c = 2) (hx : c = 0 → x.ok) (hy : c = 0 → y.ok) :
    ((doF op c x y).2 = 0 ∨ (doF op c x y).2 = 2) ∧ ((doF op c x y).2 = 0 → c = 0 ∧ (doF op c x y).1.ok ∧ (doF op c x y).1.val = F x.val y.val) := by
  rcases hc with rfl | rfl
  · rcases g.two x y (hx rfl) (hy rfl) with h | h
    · have := g.val x y (op x.n x.d y.n y.d).n (op x.n x.d y.n y.d).d (by rw [← h])
      simp only [doF, if_pos, h]
      exact ⟨.inl trivial, fun _ => ⟨trivial, this.2.2.1, this.2.2.2⟩⟩
    · simp [doF, h]
  · simp [doF]

theorem dot_step {c : Nat} {a x b y : Fr} (hc : c = 0 ∨ c = 2) (ha : a.ok) (hx : x.ok) (hb : b.ok) (hy : y.ok) :
    ((dotF c a x b y).2 = 0 ∨ (dotF c a x b y).2 = 2) ∧ ((dotF c a x b y).2 = 0 → c = 0 ∧ (dotF c a x b y).1.ok ∧ (dotF c a x b y).1.val = a.val * x.val + b.val * y.val) := by
  obtain ⟨h1, k1⟩ := good_mul.step hc (fun _ => ha) (fun _ => hx)
  obtain ⟨h2, k2⟩ := good_mul.step h1 (fun _ => hb) (fun _ => hy)
  obtain ⟨h3, k3⟩ := good_add.step h2 (x := (doF mul c a x).1) (y := (doF mul (doF mul c a x).2 b y).1) (fun e => (k1 (k2 e).1).2.1) (fun e => (k2 e).2.1)
  refine ⟨h3, fun e => ?_⟩
  obtain ⟨e2, o3, v3⟩ := k3 e
  obtain ⟨e1, _, v2⟩ := k2 e2
  obtain ⟨e0, _, v1⟩ := k1 e1
  exact ⟨e0, o3, by rw [dotF, v3, v2, v1]⟩

theorem turned_step {c : Nat} {m : Mv} {p : Pt} (hc : c = 0 ∨ c = 2) (hm : m.ok) (hp : p.ok) :
    ((turnedF c m p).2 = 0 ∨ (turnedF c m p).2 = 2) ∧ ((turnedF c m p).2 = 0 → c = 0 ∧ (turnedF c m p).1.ok ∧
      (turnedF c m p).1.x.val = m.a.val * p.x.val + m.c.val * p.y.val ∧ (turnedF c m p).1.y.val = m.b.val * p.x.val + m.d.val * p.y.val) := by
  obtain ⟨h1, k1⟩ := dot_step hc hm.1 hp.1 hm.2.2.1 hp.2
  obtain ⟨h2, k2⟩ := dot_step h1 hm.2.1 hp.1 hm.2.2.2.1 hp.2
  refine ⟨h2, fun e => ?_⟩
  obtain ⟨e1, o2, v2⟩ := k2 e
  obtain ⟨e0, o1, v1⟩ := k1 e1
  exact ⟨e0, ⟨o1, o2⟩, v1, v2⟩

theorem moved_step {c : Nat} {m : Mv} {p : Pt} (hc : c = 0 ∨ c = 2) (hm : m.ok) (hp : p.ok) :
    ((movedF c m p).2 = 0 ∨ (movedF c m p).2 = 2) ∧ ((movedF c m p).2 = 0 → c = 0 ∧ (movedF c m p).1.ok ∧
      (movedF c m p).1.x.val = m.a.val * p.x.val + m.c.val * p.y.val + m.e.val ∧ (movedF c m p).1.y.val = m.b.val * p.x.val + m.d.val * p.y.val + m.f.val) := by
  obtain ⟨h1, k1⟩ := turned_step hc hm hp
  unfold movedF
  generalize turnedF c m p = t at h1 k1 ⊢
  obtain ⟨h2, k2⟩ := good_add.step h1 (x := t.1.x) (y := m.e) (fun e => (k1 e).2.1.1) (fun _ => hm.2.2.2.2.1)
  generalize doF add t.2 t.1.x m.e = u at h2 k2 ⊢
  obtain ⟨h3, k3⟩ := good_add.step h2 (x := t.1.y) (y := m.f) (fun e => (k1 (k2 e).1).2.1.2) (fun _ => hm.2.2.2.2.2)
  generalize doF add u.2 t.1.y m.f = v at h3 k3 ⊢
  refine ⟨h3, fun e => ?_⟩
  obtain ⟨e2, o3, v3⟩ := k3 e
  obtain ⟨e1, o2, v2⟩ := k2 e2
  obtain ⟨e0, _, v0, v1⟩ := k1 e1
  exact ⟨e0, ⟨o2, o3⟩, v2.trans (by rw [v0]), v3.trans (by rw [v1])⟩

theorem then_step {m n : Mv} (hm : m.ok) (hn : n.ok) :
    ((thenS m n).2 = 0 ∨ (thenS m n).2 = 2) ∧ ((thenS m n).2 = 0 → (thenS m n).1.ok ∧
      (thenS m n).1.a.val = n.a.val * m.a.val + n.c.val * m.b.val ∧ (thenS m n).1.b.val = n.b.val * m.a.val + n.d.val * m.b.val ∧
      (thenS m n).1.c.val = n.a.val * m.c.val + n.c.val * m.d.val ∧ (thenS m n).1.d.val = n.b.val * m.c.val + n.d.val * m.d.val ∧
      (thenS m n).1.e.val = n.a.val * m.e.val + n.c.val * m.f.val + n.e.val ∧ (thenS m n).1.f.val = n.b.val * m.e.val + n.d.val * m.f.val + n.f.val) := by
  obtain ⟨h1, k1⟩ := turned_step (c := 0) (m := n) (p := ⟨m.a, m.b⟩) (.inl rfl) hn ⟨hm.1, hm.2.1⟩
  unfold thenS
  generalize turnedF 0 n ⟨m.a, m.b⟩ = t at h1 k1 ⊢
  obtain ⟨h2, k2⟩ := turned_step (m := n) (p := ⟨m.c, m.d⟩) h1 hn ⟨hm.2.2.1, hm.2.2.2.1⟩
  generalize turnedF t.2 n ⟨m.c, m.d⟩ = u at h2 k2 ⊢
  obtain ⟨h3, k3⟩ := moved_step (m := n) (p := ⟨m.e, m.f⟩) h2 hn ⟨hm.2.2.2.2.1, hm.2.2.2.2.2⟩
  generalize movedF u.2 n ⟨m.e, m.f⟩ = v at h3 k3 ⊢
  refine ⟨h3, fun e => ?_⟩
  obtain ⟨e2, o3, v3, w3⟩ := k3 e
  obtain ⟨e1, o2, v2, w2⟩ := k2 e2
  obtain ⟨_, o1, v1, w1⟩ := k1 e1
  exact ⟨⟨o1.1, o1.2, o2.1, o2.2, o3.1, o3.2⟩, v1, w1, v2, w2, v3, w3⟩

end Go.Proofs.YtlnnpileegoglabGreatDoor

namespace Go.Proofs.YtlnnpileegoglabGreatDoor
open Go.RowKit Go.Shelf

attribute [local go_sem] Oper.semAt_some

/-- A fraction with its number, of parts that an int holds. -/
structure Item where
  i : Int
  x : Fr
  h1 : I64 x.n
  h2 : I64 x.d

abbrev fv (x : Fr) : Value := .agg #[.int .i64 x.n, .int .i64 x.d]
abbrev itemV (x : Item) : Array Value := #[.int .i64 x.i, .agg #[.int .i64 x.x.n, .int .i64 x.x.d]]

theorem take_succ' {α : Type} (xs : List α) (k : Nat) (h : k < xs.length) : xs.take (k + 1) = xs.take k ++ [xs[k]] := by
  rw [List.take_add_one, List.getElem?_eq_getElem h]; rfl

set_option maxRecDepth 100000 in
set_option maxHeartbeats 2000000 in
theorem numbered1_in (F : Fence) (n : Nat) (hf : F.fn 58) (hro : F.round = none) (hn : 1 ≤ n) (l Bl Bf n₀ b len cap : Nat) (fr : Nat) (xs : List Item) (hx : xs.length = len) (hlen : len ≤ 1000) (hfr : fr ≤ 1000) (hb : b < n₀) (hBf0 : Bf < n₀) (J Jx : List Item → World → Prop)
    (hJ : ∀ s W W', J s W → W.grownBy W' none → J s W')
    (hY : ∀ pre x W, J pre W → pre.length < len → YieldAt F (n - 1) Tryz.prog l #[.int .i64 x.i, .agg #[.int .i64 x.x.n, .int .i64 x.x.d]] W fun e W' =>
      (e = .returned (.bool true) ∧ J (pre ++ [x]) W' ∧ Below n₀ W W') ∨ (e = .returned (.bool false) ∧ Jx (pre ++ [x]) W'))
    (W : World) (hn₀ : n₀ ≤ W.heap.size) (hBl : W.cell? ⟨Bl, 0, none⟩ = some (.slice (some ⟨b, 0, none⟩) len cap)) (hBf : W.cell? ⟨Bf, 0, none⟩ = some (.int .i64 fr))
    (hc0 : ∀ j (h : j < xs.length), W.cell? ⟨b, j * 2, none⟩ = some (.int .i64 xs[j].x.n)) (hc1 : ∀ j (h : j < xs.length), W.cell? ⟨b, j * 2 + 1, none⟩ = some (.int .i64 xs[j].x.d))
    (hi : ∀ j (h : j < xs.length), xs[j].i = fr + j) (h0 : J [] W) :
    CallsIn F n Tryz.prog 58 #[.func (.yield l) #[] #[], .pointer (some ⟨Bl, 0, none⟩), .pointer (some ⟨Bf, 0, none⟩)] W fun e W' => (∃ v, e = .returned v) ∧
      ((∃ ys, ys = xs ∧ J ys W') ∨ (∃ pre, pre <+: xs ∧ Jx pre W')) := by
  refine callsIn_of_wp Tryz.func58 rfl hf ?_ hro
  simp only [Tryz.ntmps58, List.size_toArray, List.length_cons, List.length_nil, Nat.reduceAdd, Nat.reduceSub, Array.replicate_succ, Array.replicate_zero, List.push_toArray, List.append_toArray, List.nil_append, List.cons_append]
  gi_wp2
  gi_loopw [8] (fun i wr => ∃ k : Nat, k ≤ len ∧ i = .int .i64 k ∧ J (xs.take k) wr ∧ Below n₀ W wr)
    (fun i _ => len - (intOf i).toNat)
  case atStart => exact ⟨0, Nat.zero_le _, rfl, h0, Below.refl _ _⟩
  case round =>
    obtain ⟨k, hk, rfl, hJs, hnx⟩ := hrel
    by_cases hlt : k < len
    · have hkx : k < xs.length := by omega
      have c0 := (hnx.cell (p := ⟨b, k * 2, none⟩) hb).trans (hc0 k hkx)
      have c1 := (hnx.cell (p := ⟨b, k * 2 + 1, none⟩) hb).trans (hc1 k hkx)
      have cf := (hnx.cell (p := ⟨Bf, 0, none⟩) hBf0).trans hBf
      have hii := hi k hkx
      have hts := take_succ' xs k hkx
      generalize xs[k] = x at c0 c1 hii hts
      have hg : wr.grownBy (wr.alloc (.cells #[.int .i64 x.x.n, .int .i64 x.x.d] 23)) none := World.grownBy_alloc wr _ none
      have hal := (Below.refl n₀ wr).alloc (Nat.le_trans hn₀ hnx.size) (.cells #[.int .i64 x.x.n, .int .i64 x.x.d] 23)
      have cfa := (hal.cell (p := ⟨Bf, 0, none⟩) hBf0).trans cf
      obtain ⟨fn, tmps, assign, body, hy, hR⟩ := hY (xs.take k) x (wr.alloc (.cells #[.int .i64 x.x.n, .int .i64 x.x.d] 23)) (hJ _ _ _ hJs hg) (by rw [List.length_take]; omega)
      rw [hii] at hy
      gi_wp2
      refine hR.mono ?_
      rintro e W3 (⟨rfl, hJ3, hk3⟩ | ⟨rfl, hJx3⟩)
      · gi_wp2
        go_roundw
        case rel => exact ⟨k + 1, by omega, by simp, by rw [hts]; exact hJ3, hnx.trans (hal.trans hk3)⟩
        case measure => simp [intOf]; omega
      · gi_wp2
        refine bodyPost_ret (results_none rfl _ _ _) rfl ?_
        exact ⟨⟨_, rfl⟩, .inr ⟨_, by rw [← hts]; exact List.take_prefix _ _, hJx3⟩⟩
    · obtain rfl : k = len := by omega
      gi_wp2
      go_end0
      exact ⟨⟨_, rfl⟩, .inl ⟨_, by rw [List.take_of_length_le (by omega)], hJs⟩⟩

end Go.Proofs.YtlnnpileegoglabGreatDoor

namespace Go.Proofs.YtlnnpileegoglabGreatDoor
open Go.RowKit Go.Shelf

attribute [local go_sem] Oper.semAt_some

theorem below_others {W W' : World} (h : Below W.heap.size W W') : KeepsOthers W W' :=
  ⟨h.size, fun k _ hk _ => (h.block k (Array.getElem?_eq_some_iff.1 hk).1).trans hk⟩

theorem cell_one (W : World) (v : Value) (t : TypeId) : (W.alloc (.cells #[v] t)).cell? ⟨W.heap.size, 0, none⟩ = some v ∧ (W.alloc (.cells #[v] t)).frozen? ⟨W.heap.size, 0, none⟩ = false := ⟨by simp, by simp⟩
theorem cell_al {W : World} {a : Addr} {v : Value} (o : Obj) (h : W.cell? a = some v) : (W.alloc o).cell? a = some v := cell_kept h (World.grownBy_alloc W o none) (fun r e => by cases e)
theorem froz_al {W : World} {a : Addr} {v : Value} (o : Obj) (h : W.cell? a = some v) (hf : W.frozen? a = false) : (W.alloc o).frozen? a = false := (frozen_kept h (World.grownBy_alloc W o none) (fun r e => by cases e)).trans hf

/-- Where an iterator over numbered fractions reads. -/
structure Rows6 (W : World) (n₀ Bl Bf b cap fr : Nat) (xs : List Item) : Prop where
  lb : Bl < n₀
  lf : Bf < n₀
  ls : b < n₀
  l : W.cell? ⟨Bl, 0, none⟩ = some (.slice (some ⟨b, 0, none⟩) xs.length cap)
  f : W.cell? ⟨Bf, 0, none⟩ = some (.int .i64 fr)
  c0 : ∀ j (h : j < xs.length), W.cell? ⟨b, j * 2, none⟩ = some (.int .i64 xs[j].x.n)
  c1 : ∀ j (h : j < xs.length), W.cell? ⟨b, j * 2 + 1, none⟩ = some (.int .i64 xs[j].x.d)
  i : ∀ j (h : j < xs.length), xs[j].i = fr + j
  len : xs.length ≤ 1000
  fr : fr ≤ 1000

theorem Rows6.below {W W' : World} {n₀ Bl Bf b cap fr : Nat} {xs : List Item} (h : Rows6 W n₀ Bl Bf b cap fr xs) (hb : Below n₀ W W') : Rows6 W' n₀ Bl Bf b cap fr xs :=
  ⟨h.lb, h.lf, h.ls, (hb.cell (p := ⟨Bl, 0, none⟩) h.lb).trans h.l, (hb.cell (p := ⟨Bf, 0, none⟩) h.lf).trans h.f, fun j hj => (hb.cell (p := ⟨b, j * 2, none⟩) h.ls).trans (h.c0 j hj), fun j hj => (hb.cell (p := ⟨b, j * 2 + 1, none⟩) h.ls).trans (h.c1 j hj), h.i, h.len, h.fr⟩

theorem numbered_stops (F : Fence) (n : Nat) (hf : F.fn 58) (hro : F.round = none) (hn : 1 ≤ n) (Bl Bf n₀ b cap fr : Nat) (xs : List Item) (w : World) (hn₀ : n₀ ≤ w.heap.size) (h : Rows6 w n₀ Bl Bf b cap fr xs) :
    SeqStopsK F n Tryz.prog 58 #[.pointer (some ⟨Bl, 0, none⟩), .pointer (some ⟨Bf, 0, none⟩)] itemV (Below n₀) (fun ys => ys = xs) (fun pre => pre <+: xs) xs.length w := fun l J Jx W hW hJ _ hY h0 => by
  have h' := h.below (hW.mono hn₀)
  exact numbered1_in F n hf hro hn l Bl Bf n₀ b xs.length cap fr xs rfl h.len h.fr h.ls h.lf J Jx (fun s A B hs hg => hJ s A B none hs hg (fun r e => by cases e)) hY W (Nat.le_trans hn₀ hW.size) h'.l h'.f h'.c0 h'.c1 h'.i h0

theorem two_own {β : Type} (B : Nat) (x y : Value) : Own (fun (_ : β) W => Two W B x y) := fun _ _ _ _ hs hg hr =>
  ⟨cell_kept hs.c0 hg hr, cell_kept hs.c1 hg hr, (frozen_kept hs.c0 hg hr).trans hs.f0, (frozen_kept hs.c1 hg hr).trans hs.f1⟩

/-- What checkAll answers. -/
def FaultAt (aB aS aZ : Addr) (w : World) (xs : List Item) (e : Ending) (W : World) : Prop :=
  ((∀ y ∈ xs, chk y.x.n y.x.d = 0) ∧ e = .returned .nilIface) ∨
  (∃ q x r pb, xs = q ++ x :: r ∧ (∀ y ∈ q, chk y.x.n y.x.d = 0) ∧ chk x.x.n x.x.d ≠ 0 ∧ w.heap.size ≤ pb ∧ e = .returned (.iface 102 (.pointer (some ⟨pb, 0, none⟩))) ∧ W.cell? ⟨pb, 0, none⟩ = some (.int .i64 x.i) ∧ W.cell? ⟨pb, 1, none⟩ = some (er aB aS aZ (chk x.x.n x.x.d)))

set_option maxRecDepth 100000 in
set_option maxHeartbeats 4000000 in
theorem checkAll_in (aB aS aZ : Addr) (Bl Bf b cap fr : Nat) (xs : List Item) (w : World) (h : Rows6 w w.heap.size Bl Bf b cap fr xs) (hE : E3 aB aS aZ w) :
    CallsIn Fence.wide 9 Tryz.prog 36 #[.func (.func 58) #[] #[.pointer (some ⟨Bl, 0, none⟩), .pointer (some ⟨Bf, 0, none⟩)]] w fun e W => FaultAt aB aS aZ w xs e W ∧ Below w.heap.size w W := by
  refine callsIn_of_wp_marks Tryz.func36 rfl trivial ?_ rfl
  simp only [Tryz.ntmps36, List.size_toArray, List.length_cons, List.length_nil, Nat.reduceAdd, Nat.reduceSub, Array.replicate_succ, Array.replicate_zero, List.push_toArray, List.append_toArray, List.nil_append, List.cons_append]
  gi_wp2
  have c0 := cell_one w .nilIface 33
  have hB0 : Below w.heap.size w (w.alloc (.cells #[.nilIface] 33)) := (Below.refl _ w).alloc (Nat.le_refl _) _
  refine wpIn_rangeFunc_ownH rfl (by omega) (gf := 58) (lb := #[.pointer (some ⟨Bl, 0, none⟩), .pointer (some ⟨Bf, 0, none⟩)]) rfl trivial (enters_of Tryz.func58 (by kernel_rfl) rfl)
    (numbered_stops Fence.wide _ trivial rfl (by omega) Bl Bf w.heap.size b cap fr xs _ (by simp) (h.below hB0)) belowK_t (belowK_b (by simp)) (Below.refl _ _) (fun _ => rfl)
    (fun pre W => ((∀ y ∈ pre, chk y.x.n y.x.d = 0) ∧ W.cell? ⟨w.heap.size, 0, none⟩ = some .nilIface ∧ W.frozen? ⟨w.heap.size, 0, none⟩ = false) ∧ Below w.heap.size w W)
    (fun c pre W => (c = .ret ∧ ∃ q x pb, pre = q ++ [x] ∧ (∀ y ∈ q, chk y.x.n y.x.d = 0) ∧ chk x.x.n x.x.d ≠ 0 ∧ w.heap.size ≤ pb ∧ W.cell? ⟨w.heap.size, 0, none⟩ = some (.iface 102 (.pointer (some ⟨pb, 0, none⟩))) ∧ W.cell? ⟨pb, 0, none⟩ = some (.int .i64 x.i) ∧ W.cell? ⟨pb, 1, none⟩ = some (er aB aS aZ (chk x.x.n x.x.d))) ∧ Below w.heap.size w W)
    (OwnFrom.and (Own.from (fun s A B row hs hg hr => ⟨hs.1, cell_kept hs.2.1 hg hr, (frozen_kept hs.2.1 hg hr).trans hs.2.2⟩) _) (ownFrom_below (Nat.le_refl _) (by simp)))
    (fun c => OwnFrom.and (Own.from (fun s A B row hs hg hr => by obtain ⟨h1, q, x, pb, h2, h3, h4, h5, h6, h7, h8⟩ := hs; exact ⟨h1, q, x, pb, h2, h3, h4, h5, cell_kept h6 hg hr, cell_kept h7 hg hr, cell_kept h8 hg hr⟩) _) (ownFrom_below (Nat.le_refl _) (by simp)))
    ⟨⟨by simp, c0.1, c0.2⟩, hB0⟩
    (fun x a' W => ∃ Bx, w.heap.size < Bx ∧ Two W Bx (.int .i64 x.x.n) (.int .i64 x.x.d) ∧ a' = { tmps := #[.func (.func 58) #[] #[.pointer (some ⟨Bl, 0, none⟩), .pointer (some ⟨Bf, 0, none⟩)], undef, .pointer (some ⟨w.heap.size, 0, none⟩), .int .i64 x.i, .pointer (some ⟨Bx, 0, none⟩), undef, .func (.func 58) #[] #[.pointer (some ⟨Bl, 0, none⟩), .pointer (some ⟨Bf, 0, none⟩)], .int .i64 x.i, .agg #[.int .i64 x.x.n, .int .i64 x.x.d], undef, undef, undef, undef, undef, undef, undef, undef, undef], defers := [] })
    (fun x a' s A B row hs hg hr => by obtain ⟨Bx, h1, h2, h3⟩ := hs; exact ⟨Bx, h1, (two_own Bx _ _) () A B row h2 hg (fun r e => (hr r e).2), h3⟩)
    ?assign ?body ?done ?stop
  case assign =>
    rintro l pre x W K ⟨⟨hp, hc, hf⟩, hB⟩ hK
    gi_wp2
    have hs := hB.size
    have hlt := cell_lt hc
    exact hK _ _ ((KeepsOthers.alloc _ _).from _) ((Below.refl _ W).alloc hs _) ⟨⟨hp, cell_al _ hc, froz_al _ hc hf⟩, hB.alloc hs _⟩ ⟨W.heap.size, hlt, Two.new W _ _ _, rfl⟩
  case body =>
    rintro l pre x a' W hl hr ⟨⟨hp, hc, hf⟩, hB⟩ ⟨Bx, hBx, ⟨k1, k2, k3, k4⟩, rfl⟩ hlt
    have hlt := cell_lt hc
    have hEW := hE.below hB (Nat.le_refl _)
    have HK := Check_any aB aS aZ x.x.n x.x.d W x.h1 x.h2 hEW
    by_cases hx : chk x.x.n x.x.d = 0
    · rw [hx] at HK
      gi_wp2_with (refine ⟨trivial, ?_⟩; gi_at_call 57; refine (CallsIn.inRound l (callsIn_wide.2 HK)).mono ?_; rintro e w' ⟨rfl, hb⟩; simp only [er_0])
      exact ⟨(below_others hb).from _, hb.mono hB.size, ⟨fun y hy => (List.mem_append.1 hy).elim (hp y) (fun e => by simp at e; subst e; exact hx), (hb.cell (p := ⟨w.heap.size, 0, none⟩) hlt).trans hc, (hb.frozen (p := ⟨w.heap.size, 0, none⟩) hlt).trans hf⟩, hB.trans (hb.mono hB.size)⟩
    · obtain ⟨a, ha⟩ := er_cases aB aS aZ (show chk x.x.n x.x.d = 2 ∨ chk x.x.n x.x.d = 3 by have := chk_cases x.x.n x.x.d; omega)
      have HC : Hid (er aB aS aZ (chk x.x.n x.x.d) = .iface 180 (.pointer (some a))) := ha
      have HX : Hid (¬ chk x.x.n x.x.d = 0) := hx
      rw [ha] at HK
      clear ha hx
      gi_wp2_with (refine ⟨trivial, ?_⟩; gi_at_call 57; refine (CallsIn.inRound l (callsIn_wide.2 HK)).mono ?_; rintro e w' ⟨rfl, hb⟩; have hz := hb.size; have hc2 := (hb.cell (p := ⟨w.heap.size, 0, none⟩) hlt).trans hc; have hf2 := (hb.frozen (p := ⟨w.heap.size, 0, none⟩) hlt).trans hf; have hc3 := fun o => cell_al o hc2; have hf3 := fun o => froz_al o hc2 hf2)
      have hne : w'.heap.size ≠ w.heap.size := by omega
      refine ⟨((below_others hb).trans ((KeepsOthers.alloc _ _).trans (KeepsOthers.setCell _ _ _))).from _, ⟨rfl, pre, x, w'.heap.size, rfl, hp, HX.out, by have := hB.size; omega, World.cell?_setCell_same' _ _ _ (by rw [hc3]; rfl), ?_, ?_⟩, ?_⟩
      · rw [World.cell?_setCell_far _ _ _ _ (fun e => hne e.symm)]; simp
      · rw [HC.out, World.cell?_setCell_far _ _ _ _ (fun e => hne e.symm)]; simp
      · exact (hB.trans (hb.mono hB.size)).alloc (by have := hB.size; omega) _ |>.setCell (by simp) _
  case done =>
    rintro D ys W hD rfl ⟨⟨hp, hcr, hfr⟩, hB⟩ hK
    gi_wp2
    have hK' := (KeepsOthers.setCell W ⟨w.heap.size, 0, none⟩ .nilIface).same D _ hK rfl
    refine ⟨by simp, .inl ⟨_, _, rfl, run_takeDeferred hK', ?_⟩⟩
    have hc5 := cell_kept (World.cell?_setCell_same' W ⟨w.heap.size, 0, none⟩ .nilIface (by rw [hcr]; rfl)) (grownBy_putObj' _ D (.deferred none)) (fun r e => by cases e; exact ⟨_, hK', rfl⟩)
    refine ⟨.nilIface, ?_, .inl ⟨hp, rfl⟩, (hB.setCell (p := ⟨w.heap.size, 0, none⟩) (by simp) _).trans (belowK_b (w := w) (Nat.le_refl _) _ D _ _ (by simp at hD; omega) hK' rfl rfl)⟩
    simp [results, Tryz.results36, go_sem, hc5]
  case stop =>
    rintro D c pre W hD hpre ⟨⟨rfl, q, x, pb, rfl, h3, h4, h5, h6, h7, h8⟩, hB⟩ hK
    gi_wp2
    refine ⟨by simp, .inl ⟨_, _, rfl, run_takeDeferred hK, ?_⟩⟩
    have hr : ∀ r, some D = some r → ∃ o : Obj, W.heap[r]? = some o ∧ o.isCells = false := fun r e => by cases e; exact ⟨_, hK, rfl⟩
    have hg := grownBy_putObj' W D (.deferred none)
    have hc5 := cell_kept h6 hg hr
    obtain ⟨r, hr'⟩ := hpre
    refine ⟨_, ?_, .inr ⟨q, x, r, pb, by rw [← hr']; simp, h3, h4, h5, rfl, cell_kept h7 hg hr, cell_kept h8 hg hr⟩, hB.trans (belowK_b (w := w) (Nat.le_refl _) W D _ _ (by simp at hD; omega) hK rfl rfl)⟩
    simp [results, Tryz.results36, go_sem, hc5]

end Go.Proofs.YtlnnpileegoglabGreatDoor

namespace Go.Proofs.YtlnnpileegoglabGreatDoor
open Go.RowKit Go.Shelf

abbrev pv (p : Pt) : Value := .agg #[.int .i64 p.x.n, .int .i64 p.x.d, .int .i64 p.y.n, .int .i64 p.y.d]
abbrev mv (m : Mv) : Value := .agg #[.int .i64 m.a.n, .int .i64 m.a.d, .int .i64 m.b.n, .int .i64 m.b.d, .int .i64 m.c.n, .int .i64 m.c.d, .int .i64 m.d.n, .int .i64 m.d.d, .int .i64 m.e.n, .int .i64 m.e.d, .int .i64 m.f.n, .int .i64 m.f.d]
def Fr.i64 (x : Fr) : Prop := I64 x.n ∧ I64 x.d
def Pt.i64 (p : Pt) : Prop := p.x.i64 ∧ p.y.i64
def Mv.i64 (m : Mv) : Prop := m.a.i64 ∧ m.b.i64 ∧ m.c.i64 ∧ m.d.i64 ∧ m.e.i64 ∧ m.f.i64

/-- The first fraction that is not right: its error's number, and where; (0, 0) if there is none. -/
def firstBad : Nat → List Fr → Nat × Nat
  | _, [] => (0, 0)
  | i, x :: r => if chk x.n x.d = 0 then firstBad (i + 1) r else (chk x.n x.d, i)

theorem firstBad_none : ∀ (l : List Fr) (i : Nat), (∀ y ∈ l, chk y.n y.d = 0) → firstBad i l = (0, 0)
  | [], _, _ => rfl
  | x :: r, i, h => by unfold firstBad; rw [if_pos (h x (by simp))]; exact firstBad_none r (i + 1) (fun y hy => h y (by simp [hy]))
theorem firstBad_some : ∀ (q : List Fr) (x : Fr) (r : List Fr) (i : Nat), (∀ y ∈ q, chk y.n y.d = 0) → chk x.n x.d ≠ 0 → firstBad i (q ++ x :: r) = (chk x.n x.d, i + q.length)
  | [], x, r, i, _, h => by unfold firstBad; simp [h]
  | y :: q, x, r, i, hq, h => by
    rw [List.cons_append, firstBad, if_pos (hq y (by simp)), firstBad_some q x r (i + 1) (fun z hz => hq z (by simp [hz])) h]
    simp; omega

/-- What a check tells: nil, or a fault with a number and an error. -/
def Told (aB aS aZ : Addr) (B : Nat) (r : Nat × Nat) (v : Value) (W : World) : Prop :=
  (r.1 = 0 ∧ v = .nilIface) ∨
  (r.1 ≠ 0 ∧ (r.1 = 2 ∨ r.1 = 3) ∧ ∃ pb, B ≤ pb ∧ v = .iface 102 (.pointer (some ⟨pb, 0, none⟩)) ∧ W.cell? ⟨pb, 0, none⟩ = some (.int .i64 r.2) ∧ W.cell? ⟨pb, 1, none⟩ = some (er aB aS aZ r.1))

theorem Told.mono {aB aS aZ : Addr} {B B' : Nat} {r : Nat × Nat} {v : Value} {W : World} (h : Told aB aS aZ B r v W) (hB : B' ≤ B) : Told aB aS aZ B' r v W := by
  rcases h with h | ⟨h1, h2, pb, h3, h4⟩
  · exact .inl h
  · exact .inr ⟨h1, h2, pb, Nat.le_trans hB h3, h4⟩

theorem told_of {aB aS aZ : Addr} {w : World} {xs : List Item} {e : Ending} {W : World} {fr : Nat} (hi : ∀ j (h : j < xs.length), xs[j].i = fr + j) (h : FaultAt aB aS aZ w xs e W) : ∃ v, e = .returned v ∧ Told aB aS aZ w.heap.size (firstBad fr (xs.map (·.x))) v W := by
  rcases h with ⟨h1, h2⟩ | ⟨q, x, r, pb, rfl, h3, h4, h5, h6, h7, h8⟩
  · rw [firstBad_none _ _ (by simpa using h1)]; exact ⟨_, h2, .inl ⟨rfl, rfl⟩⟩
  · have hx := hi q.length (by simp)
    rw [List.getElem_append_right (Nat.le_refl _)] at hx
    simp only [Nat.sub_self, List.getElem_cons_zero] at hx
    rw [List.map_append, List.map_cons, firstBad_some _ _ _ _ (by simpa using h3) h4]
    refine ⟨_, h6, .inr ⟨h4, by have := chk_cases x.x.n x.x.d; simp only; omega, pb, h5, rfl, ?_, h8⟩⟩
    rw [h7, hx]; simp

set_option maxHeartbeats 1000000 in
theorem numbered_any (fr : Int) (s : Value) (a : Option Addr) (n c : Nat) (hs : s = .slice a n c) (W : World) :
    Calls Tryz.prog 37 #[.int .i64 fr, s] W fun e w' => e = .returned (.func (.func 58) #[] #[.pointer (some ⟨W.heap.size + 1, 0, none⟩), .pointer (some ⟨W.heap.size, 0, none⟩)]) ∧ w' = (W.alloc (.cells #[.int .i64 fr] 3)).alloc (.cells #[s] 110) := by
  subst hs
  have hmf : ∀ (fn : Fn) (first cap : Array Value) (w : World), (Instr.makeFunc fn first cap).run Tryz.prog w = .ok (.func fn first cap) w := fun _ _ _ _ => rfl
  go_enter Tryz.func37, Tryz.ntmps37
  go_wp2
  go_ret
  exact ⟨rfl, rfl⟩

/-- A move's six parts, numbered. -/
def Mv.items (m : Mv) (h : m.i64) : List Item :=
  [⟨0, m.a, h.1.1, h.1.2⟩, ⟨1, m.b, h.2.1.1, h.2.1.2⟩, ⟨2, m.c, h.2.2.1.1, h.2.2.1.2⟩, ⟨3, m.d, h.2.2.2.1.1, h.2.2.2.1.2⟩, ⟨4, m.e, h.2.2.2.2.1.1, h.2.2.2.2.1.2⟩, ⟨5, m.f, h.2.2.2.2.2.1, h.2.2.2.2.2.2⟩]
def Mv.list (m : Mv) : List Fr := [m.a, m.b, m.c, m.d, m.e, m.f]
/-- A point's two parts, numbered behind a move's. -/
def Pt.items (p : Pt) (h : p.i64) : List Item := [⟨6, p.x, h.1.1, h.1.2⟩, ⟨7, p.y, h.2.1, h.2.2⟩]
def Pt.list (p : Pt) : List Fr := [p.x, p.y]

theorem cell_at {W : World} {cs : Array Value} {t : TypeId} {B k : Nat} {v : Value} (hB : B = W.heap.size) (h : cs[k]? = some v) : (W.alloc (.cells cs t)).cell? ⟨B, k, none⟩ = some v := by
  subst hB; simp [h]
theorem below_six {j : Nat} (h : j < 6) : j = 0 ∨ j = 1 ∨ j = 2 ∨ j = 3 ∨ j = 4 ∨ j = 5 := by omega
theorem below_two {j : Nat} (h : j < 2) : j = 0 ∨ j = 1 := by omega

theorem rows_six (m : Mv) (h : m.i64) (W : World) (t t' t'' : TypeId) :
    Rows6 (((W.alloc (.cells #[.int .i64 m.a.n, .int .i64 m.a.d, .int .i64 m.b.n, .int .i64 m.b.d, .int .i64 m.c.n, .int .i64 m.c.d, .int .i64 m.d.n, .int .i64 m.d.d, .int .i64 m.e.n, .int .i64 m.e.d, .int .i64 m.f.n, .int .i64 m.f.d] t)).alloc (.cells #[.int .i64 0] t')).alloc (.cells #[.slice (some ⟨W.heap.size, 0, none⟩) 6 6] t'')) (W.heap.size + 3) (W.heap.size + 2) (W.heap.size + 1) W.heap.size 6 0 (m.items h) where
  lb := by omega
  lf := by omega
  ls := by omega
  l := cell_at (by simp) rfl
  f := cell_al _ (cell_at (by simp) rfl)
  c0 := fun j hj => by rcases below_six hj with rfl | rfl | rfl | rfl | rfl | rfl <;> exact cell_al _ (cell_al _ (cell_at rfl rfl))
  c1 := fun j hj => by rcases below_six hj with rfl | rfl | rfl | rfl | rfl | rfl <;> exact cell_al _ (cell_al _ (cell_at rfl rfl))
  i := fun j hj => by rcases below_six hj with rfl | rfl | rfl | rfl | rfl | rfl <;> rfl
  len := by simp [Mv.items]
  fr := by omega

theorem rows_two (p : Pt) (h : p.i64) (W : World) (t t' t'' : TypeId) :
    Rows6 (((W.alloc (.cells #[.int .i64 p.x.n, .int .i64 p.x.d, .int .i64 p.y.n, .int .i64 p.y.d] t)).alloc (.cells #[.int .i64 6] t')).alloc (.cells #[.slice (some ⟨W.heap.size, 0, none⟩) 2 2] t'')) (W.heap.size + 3) (W.heap.size + 2) (W.heap.size + 1) W.heap.size 2 6 (p.items h) where
  lb := by omega
  lf := by omega
  ls := by omega
  l := cell_at (by simp) rfl
  f := cell_al _ (cell_at (by simp) rfl)
  c0 := fun j hj => by rcases below_two hj with rfl | rfl <;> exact cell_al _ (cell_al _ (cell_at rfl rfl))
  c1 := fun j hj => by rcases below_two hj with rfl | rfl <;> exact cell_al _ (cell_al _ (cell_at rfl rfl))
  i := fun j hj => by rcases below_two hj with rfl | rfl <;> rfl
  len := by simp [Pt.items]
  fr := by omega

set_option maxHeartbeats 2000000 in
theorem parts_any (m : Mv) (h : m.i64) (W : World) :
    Calls Tryz.prog 38 #[mv m] W fun e w' => e = .returned (.func (.func 58) #[] #[.pointer (some ⟨W.heap.size + 3, 0, none⟩), .pointer (some ⟨W.heap.size + 2, 0, none⟩)]) ∧ Below W.heap.size W w' ∧ w'.heap.size = W.heap.size + 4 ∧ Rows6 w' (W.heap.size + 4) (W.heap.size + 3) (W.heap.size + 2) (W.heap.size + 1) 6 0 (m.items h) := by
  have HN := numbered_any
  have HR := rows_six m h
  generalize m.items h = xs at HR ⊢
  clear h
  obtain ⟨⟨n1, d1⟩, ⟨n2, d2⟩, ⟨n3, d3⟩, ⟨n4, d4⟩, ⟨n5, d5⟩, ⟨n6, d6⟩⟩ := m
  dsimp only [mv] at HR ⊢
  go_enter Tryz.func38, Tryz.ntmps38
  go_wp2_with (go_at_call 37; refine (HN 0 (.slice (some ⟨W.heap.size + 1, 0, none⟩) 6 6) _ _ _ rfl _).mono ?_; rintro e w' ⟨rfl, rfl⟩)
  go_ret
  refine ⟨rfl, ?_, by simp, ?_⟩
  · exact ((((Below.refl _ W).alloc (Nat.le_refl _) _).alloc (by simp) _).alloc (by simp; omega) _).alloc (by simp; omega) _
  · have := HR (W.alloc (.cells #[.int .i64 n1, .int .i64 d1, .int .i64 n2, .int .i64 d2, .int .i64 n3, .int .i64 d3, .int .i64 n4, .int .i64 d4, .int .i64 n5, .int .i64 d5, .int .i64 n6, .int .i64 d6] 30)) 23 3 110
    simpa using this

/-- A check of six parts, or of two, by checkAll's contract. -/
theorem checkAll_told (aB aS aZ : Addr) (Bl Bf b cap fr : Nat) (xs : List Item) (w : World) (h : Rows6 w w.heap.size Bl Bf b cap fr xs) (hE : E3 aB aS aZ w) :
    Calls Tryz.prog 36 #[.func (.func 58) #[] #[.pointer (some ⟨Bl, 0, none⟩), .pointer (some ⟨Bf, 0, none⟩)]] w fun e W => (∃ v, e = .returned v ∧ Told aB aS aZ w.heap.size (firstBad fr (xs.map (·.x))) v W) ∧ Below w.heap.size w W :=
  (callsIn_wide.1 (checkAll_in aB aS aZ Bl Bf b cap fr xs w h hE)).mono fun _ _ hx => ⟨told_of h.i hx.1, hx.2⟩

set_option maxHeartbeats 2000000 in
theorem mvCheck_any (aB aS aZ : Addr) (m : Mv) (h : m.i64) (W : World) (hE : E3 aB aS aZ W) :
    Calls Tryz.prog 15 #[mv m] W fun e w' => (∃ v, e = .returned v ∧ Told aB aS aZ W.heap.size (firstBad 0 m.list) v w') ∧ Below W.heap.size W w' := by
  have HP := parts_any m h
  have HC := checkAll_told aB aS aZ
  have hl : (m.items h).map (·.x) = m.list := rfl
  generalize m.items h = xs at HP hl
  generalize m.list = l at hl ⊢
  subst hl
  clear h
  obtain ⟨⟨n1, d1⟩, ⟨n2, d2⟩, ⟨n3, d3⟩, ⟨n4, d4⟩, ⟨n5, d5⟩, ⟨n6, d6⟩⟩ := m
  dsimp only [mv] at HP ⊢
  go_enter Tryz.func15, Tryz.ntmps15
  go_wp2_with (first | (go_at_call 36; refine HC1.mono ?_; rintro e w2 ⟨⟨v, rfl, ht⟩, hb2⟩) | (go_at_call 38; refine (HP _).mono ?_; rintro e w1 ⟨rfl, hb1, hz1, hR⟩; have hE1 := (hE.alloc _).below hb1 (Nat.le_refl _); rw [← hz1] at hR; have HC1 := HC _ _ _ _ _ _ w1 hR hE1; simp only [World.size_alloc] at HC1))
  go_ret
  have hs1 := hb1.size
  rw [World.size_alloc] at hs1
  exact ⟨⟨v, rfl, ht.mono (by omega)⟩, (((Below.refl _ W).alloc (Nat.le_refl _) _).trans (hb1.mono (by simp))).trans (hb2.mono (by omega))⟩

end Go.Proofs.YtlnnpileegoglabGreatDoor

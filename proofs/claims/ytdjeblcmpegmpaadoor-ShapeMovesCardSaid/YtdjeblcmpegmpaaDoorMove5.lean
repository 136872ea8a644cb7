/-
  Words for package move's turned and moved: what a step of the work leaves as it was.
-/
import Derived.Test.YtdjeblcmpegmpaaDoorMove4
import Derived.Deep.DeepCutAuto
namespace Go.Proofs.YtdjeblcmpegmpaaDoor
open Go.RowKit

theorem Upto.alloc {b : Nat} {A B : World} (h : Upto b A B) (o : Obj) : Upto b A (B.alloc o) := h.trans (Upto.of_below ((Below.refl _ B).alloc (Nat.le_refl _) o))
theorem Upto.refl (b : Nat) (A : World) : Upto b A A := Upto.of_below (Below.refl _ A)
theorem Upto.drew (b : Nat) (A : World) (k : Nat) : Upto b A (A.drewN k) := Upto.of_below (below_drewN (Below.refl _ A) k)
theorem Upto.store {b R : Nat} {A w : World} (hu : Upto b A w) (hR : A.heap.size ≤ R) (o : Nat) (v : Value) : Upto b A (w.setCell ⟨R, o, none⟩ v) :=
  ⟨by simpa using hu.size, fun k hk hkb => (Below.heap_setCell _ _ _ k (by simp; omega)).trans (hu.block k hk hkb)⟩
theorem Wk.store {aB aS aZ : Addr} {w0 w : World} {b c R : Nat} (h : Wk aB aS aZ w0 b c w) (hR : w0.heap.size ≤ R) (hb : R ≠ b) (o : Nat) (v : Value) : Wk aB aS aZ w0 b c (w.setCell ⟨R, o, none⟩ v) :=
  ⟨h.e3, h.hb.setCell hR v, h.lo, (World.cell?_setCell_far _ _ _ _ hb).trans h.cell, by rw [World.frozen?_setCell]; exact h.froz⟩
theorem Two.upto {b R : Nat} {A B : World} {x y : Value} (h : Two A R x y) (hu : Upto b A B) (hR : R ≠ b) : Two B R x y :=
  ⟨hu.cell h.c0 hR, hu.cell h.c1 hR, hu.frozen h.c0 h.f0 hR, hu.frozen h.c1 h.f1 hR⟩
theorem Two.store {R : Nat} {w : World} {x y : Value} (hT : Two w R x y) (p q : Value) : Two ((w.setCell ⟨R, 0, none⟩ p).setCell ⟨R, 1, none⟩ q) R p q := by
  have c1 : (w.setCell ⟨R, 0, none⟩ p).cell? ⟨R, 1, none⟩ = some y := by rw [World.cell?_setCell_other _ _ _ _ (by simp)]; exact hT.c1
  refine ⟨?_, World.cell?_setCell_same' _ _ _ (by rw [c1]; rfl), ?_, ?_⟩
  · have : (w.setCell ⟨R, 0, none⟩ p).cell? ⟨R, 0, none⟩ = some p := World.cell?_setCell_same' _ _ _ (by rw [hT.c0]; rfl)
    rw [World.cell?_setCell_other _ _ _ _ (by simp)]; exact this
  · rw [World.frozen?_setCell, World.frozen?_setCell]; exact hT.f0
  · rw [World.frozen?_setCell, World.frozen?_setCell]; exact hT.f1

theorem froz_at {W : World} {cs : Array Value} {t : TypeId} {B k : Nat} (hB : B = W.heap.size) : (W.alloc (.cells cs t)).frozen? ⟨B, k, none⟩ = false := by subst hB; simp
theorem size_drewN' (w : World) (k : Nat) : (w.drewN k).heap.size = w.heap.size := rfl
theorem Wk.ne {aB aS aZ : Addr} {w0 : World} {b c : Nat} {V : World} (h : Wk aB aS aZ w0 b c V) : V.heap.size ≠ b := by
  have := cell_lt h.cell; simp only at this; omega
theorem Upto.lo {b lo : Nat} {A w : World} (hu : Upto b A w) (h : lo ≤ A.heap.size) : lo ≤ w.heap.size := Nat.le_trans h hu.size
theorem lo_alloc {lo : Nat} {A : World} {o : Obj} (h : lo ≤ A.heap.size) : lo ≤ (A.alloc o).heap.size := by rw [World.size_alloc]; omega
/-- A block of two cells of one's own, made since the heap was lo great. -/
structure Own2 (lo b : Nat) (w : World) (R : Nat) (x y : Value) : Prop where
  t : Two w R x y
  ne : R ≠ b
  lo : lo ≤ R
theorem Own2.upto {lo b R : Nat} {A B : World} {x y : Value} (h : Own2 lo b A R x y) (hu : Upto b A B) : Own2 lo b B R x y := ⟨h.t.upto hu h.ne, h.ne, h.lo⟩
theorem Own2.new {aB aS aZ : Addr} {w0 : World} {lo b c : Nat} {V B : World} {x y : Value} {t : TypeId} (h : Wk aB aS aZ w0 b c V) (hlo : lo ≤ V.heap.size) (hu : Upto b (V.alloc (.cells #[x, y] t)) B) : Own2 lo b B V.heap.size x y := ⟨(Two.new V x y t).upto hu h.ne, h.ne, hlo⟩
theorem Own2.last {aB aS aZ : Addr} {w0 : World} {lo b c : Nat} {V : World} {x y : Value} {t : TypeId} (h : Wk aB aS aZ w0 b c V) (hlo : lo ≤ V.heap.size) : Own2 lo b (V.alloc (.cells #[x, y] t)) V.heap.size x y := ⟨Two.new V x y t, h.ne, hlo⟩
theorem Own2.store {lo b R : Nat} {w : World} {x y : Value} (h : Own2 lo b w R x y) (p q : Value) : Own2 lo b ((w.setCell ⟨R, 0, none⟩ p).setCell ⟨R, 1, none⟩ q) R p q := ⟨h.t.store p q, h.ne, h.lo⟩

theorem Wk.al_drew {aB aS aZ : Addr} {w0 : World} {b c : Nat} {V : World} (h : Wk aB aS aZ w0 b c V) (o : Obj) : Wk aB aS aZ w0 b c (V.alloc o).drew := (h.alloc o).drew 1
theorem Upto.al_drew {b : Nat} {A B : World} (h : Upto b A B) (o : Obj) : Upto b A (B.alloc o).drew := (h.alloc o).trans (Upto.drew b _ 1)
theorem lo_al_drew {lo : Nat} {A : World} {o : Obj} (h : lo ≤ A.heap.size) : lo ≤ (A.alloc o).drew.heap.size := lo_alloc h
theorem Own2.newd {aB aS aZ : Addr} {w0 : World} {lo b c : Nat} {V B : World} {x y : Value} {t : TypeId} (h : Wk aB aS aZ w0 b c V) (hlo : lo ≤ V.heap.size) (hu : Upto b (V.alloc (.cells #[x, y] t)).drew B) : Own2 lo b B V.heap.size x y := ⟨((Two.new V x y t).drewN 1).upto hu h.ne, h.ne, hlo⟩

/-- What one step answers, from whatever world of its state. -/
def DoC (aB aS aZ : Addr) (w0 : World) (b : Nat) (k : Nat) (c : Nat) (x y z : Fr) (c' : Nat) : Prop :=
  ∀ W, Wk aB aS aZ w0 b c W → Calls Tryd.prog 31 #[.pointer (some ⟨b, 0, none⟩), .func (.func k) #[] #[], .agg #[.int .i64 x.n, .int .i64 x.d], .agg #[.int .i64 y.n, .int .i64 y.d]] W fun e w' => e = .returned (.agg #[.int .i64 z.n, .int .i64 z.d]) ∧ Wk aB aS aZ w0 b c' w' ∧ Upto b W w'

theorem doC_add {aB aS aZ : Addr} {w0 : World} {b c : Nat} {x y : Fr} (hc : c = 0 ∨ c = 2) (hx : x.i64) (hy : y.i64) (hr : c = 0 → (add x.n x.d y.n y.d).c = 0 ∨ (add x.n x.d y.n y.d).c = 2) : DoC aB aS aZ w0 b 39 c x y (doF add c x y).1 (doF add c x y).2 := fun W h => by
  rcases hc with rfl | rfl
  · exact do_add_go aB aS aZ w0 b x y W hx hy (hr rfl) h
  · exact (do_add_err aB aS aZ w0 b x y W h).mono fun _ _ k => ⟨k.1, h.below k.2, Upto.of_below k.2⟩
theorem doC_mul {aB aS aZ : Addr} {w0 : World} {b c : Nat} {x y : Fr} (hc : c = 0 ∨ c = 2) (hx : x.i64) (hy : y.i64) (hr : c = 0 → (mul x.n x.d y.n y.d).c = 0 ∨ (mul x.n x.d y.n y.d).c = 2) : DoC aB aS aZ w0 b 33 c x y (doF mul c x y).1 (doF mul c x y).2 := fun W h => by
  rcases hc with rfl | rfl
  · exact do_mul_go aB aS aZ w0 b x y W hx hy (hr rfl) h
  · exact (do_mul_err aB aS aZ w0 b x y W h).mono fun _ _ k => ⟨k.1, h.below k.2, Upto.of_below k.2⟩

/-- The blocks of one's own at the head of turned and moved: the move, the point, the answer's place. -/
structure Head (W : World) (m : Mv) (p : Pt) (V : World) : Prop where
  c0 : V.cell? ⟨W.heap.size, 0, none⟩ = some (.int .i64 m.a.n)
  c1 : V.cell? ⟨W.heap.size, 1, none⟩ = some (.int .i64 m.a.d)
  c2 : V.cell? ⟨W.heap.size, 2, none⟩ = some (.int .i64 m.b.n)
  c3 : V.cell? ⟨W.heap.size, 3, none⟩ = some (.int .i64 m.b.d)
  c4 : V.cell? ⟨W.heap.size, 4, none⟩ = some (.int .i64 m.c.n)
  c5 : V.cell? ⟨W.heap.size, 5, none⟩ = some (.int .i64 m.c.d)
  c6 : V.cell? ⟨W.heap.size, 6, none⟩ = some (.int .i64 m.d.n)
  c7 : V.cell? ⟨W.heap.size, 7, none⟩ = some (.int .i64 m.d.d)
  c8 : V.cell? ⟨W.heap.size, 8, none⟩ = some (.int .i64 m.e.n)
  c9 : V.cell? ⟨W.heap.size, 9, none⟩ = some (.int .i64 m.e.d)
  c10 : V.cell? ⟨W.heap.size, 10, none⟩ = some (.int .i64 m.f.n)
  c11 : V.cell? ⟨W.heap.size, 11, none⟩ = some (.int .i64 m.f.d)
  c12 : V.cell? ⟨W.heap.size + 1, 0, none⟩ = some (.int .i64 p.x.n)
  c13 : V.cell? ⟨W.heap.size + 1, 1, none⟩ = some (.int .i64 p.x.d)
  c14 : V.cell? ⟨W.heap.size + 1, 2, none⟩ = some (.int .i64 p.y.n)
  c15 : V.cell? ⟨W.heap.size + 1, 3, none⟩ = some (.int .i64 p.y.d)
  r0 : V.cell? ⟨W.heap.size + 1 + 1, 0, none⟩ = some (.int .i64 0)
  f0 : V.frozen? ⟨W.heap.size + 1 + 1, 0, none⟩ = false
  r1 : V.cell? ⟨W.heap.size + 1 + 1, 1, none⟩ = some (.int .i64 0)
  f1 : V.frozen? ⟨W.heap.size + 1 + 1, 1, none⟩ = false
  r2 : V.cell? ⟨W.heap.size + 1 + 1, 2, none⟩ = some (.int .i64 0)
  f2 : V.frozen? ⟨W.heap.size + 1 + 1, 2, none⟩ = false
  r3 : V.cell? ⟨W.heap.size + 1 + 1, 3, none⟩ = some (.int .i64 0)
  f3 : V.frozen? ⟨W.heap.size + 1 + 1, 3, none⟩ = false
  sz : W.heap.size + 3 ≤ V.heap.size
theorem Head.new (W : World) (m : Mv) (p : Pt) : Head W m p (((W.alloc (.cells #[.int .i64 m.a.n, .int .i64 m.a.d, .int .i64 m.b.n, .int .i64 m.b.d, .int .i64 m.c.n, .int .i64 m.c.d, .int .i64 m.d.n, .int .i64 m.d.d, .int .i64 m.e.n, .int .i64 m.e.d, .int .i64 m.f.n, .int .i64 m.f.d] 37)).alloc (.cells #[.int .i64 p.x.n, .int .i64 p.x.d, .int .i64 p.y.n, .int .i64 p.y.d] 26)).alloc (.cells #[.int .i64 0, .int .i64 0, .int .i64 0, .int .i64 0] 26)) where
  c0 := cell_al _ (cell_al _ (cell_at rfl rfl))
  c1 := cell_al _ (cell_al _ (cell_at rfl rfl))
  c2 := cell_al _ (cell_al _ (cell_at rfl rfl))
  c3 := cell_al _ (cell_al _ (cell_at rfl rfl))
  c4 := cell_al _ (cell_al _ (cell_at rfl rfl))
  c5 := cell_al _ (cell_al _ (cell_at rfl rfl))
  c6 := cell_al _ (cell_al _ (cell_at rfl rfl))
  c7 := cell_al _ (cell_al _ (cell_at rfl rfl))
  c8 := cell_al _ (cell_al _ (cell_at rfl rfl))
  c9 := cell_al _ (cell_al _ (cell_at rfl rfl))
  c10 := cell_al _ (cell_al _ (cell_at rfl rfl))
  c11 := cell_al _ (cell_al _ (cell_at rfl rfl))
  c12 := cell_al _ (cell_at (by simp) rfl)
  c13 := cell_al _ (cell_at (by simp) rfl)
  c14 := cell_al _ (cell_at (by simp) rfl)
  c15 := cell_al _ (cell_at (by simp) rfl)
  r0 := cell_at (by simp) rfl
  f0 := froz_at (by simp)
  r1 := cell_at (by simp) rfl
  f1 := froz_at (by simp)
  r2 := cell_at (by simp) rfl
  f2 := froz_at (by simp)
  r3 := cell_at (by simp) rfl
  f3 := froz_at (by simp)
  sz := by simp
theorem Head.upto {b : Nat} {W A B : World} {m : Mv} {p : Pt} (h : Head W m p A) (hu : Upto b A B) (hb : b < W.heap.size) : Head W m p B where
  c0 := hu.cell h.c0 (by simp; omega)
  c1 := hu.cell h.c1 (by simp; omega)
  c2 := hu.cell h.c2 (by simp; omega)
  c3 := hu.cell h.c3 (by simp; omega)
  c4 := hu.cell h.c4 (by simp; omega)
  c5 := hu.cell h.c5 (by simp; omega)
  c6 := hu.cell h.c6 (by simp; omega)
  c7 := hu.cell h.c7 (by simp; omega)
  c8 := hu.cell h.c8 (by simp; omega)
  c9 := hu.cell h.c9 (by simp; omega)
  c10 := hu.cell h.c10 (by simp; omega)
  c11 := hu.cell h.c11 (by simp; omega)
  c12 := hu.cell h.c12 (by simp; omega)
  c13 := hu.cell h.c13 (by simp; omega)
  c14 := hu.cell h.c14 (by simp; omega)
  c15 := hu.cell h.c15 (by simp; omega)
  r0 := hu.cell h.r0 (by simp; omega)
  f0 := hu.frozen h.r0 h.f0 (by simp; omega)
  r1 := hu.cell h.r1 (by simp; omega)
  f1 := hu.frozen h.r1 h.f1 (by simp; omega)
  r2 := hu.cell h.r2 (by simp; omega)
  f2 := hu.frozen h.r2 h.f2 (by simp; omega)
  r3 := hu.cell h.r3 (by simp; omega)
  f3 := hu.frozen h.r3 h.f3 (by simp; omega)
  sz := Nat.le_trans h.sz hu.size

theorem ne_lo1 {W V : World} {R : Nat} {m : Mv} {p : Pt} (hd : Head W m p V) (h : V.heap.size ≤ R) : R ≠ W.heap.size ∧ R ≠ W.heap.size + 1 := by have := hd.sz; omega

theorem keeps1 {W w : World} {m : Mv} {p : Pt} {R : Nat} {u v : Value} (h : (fun w' => w'.cell? ⟨W.heap.size, 0, none⟩ = some (.int .i64 m.a.n) ∧ w'.cell? ⟨W.heap.size, 1, none⟩ = some (.int .i64 m.a.d) ∧ w'.cell? ⟨W.heap.size + 1, 0, none⟩ = some (.int .i64 p.x.n) ∧ w'.cell? ⟨W.heap.size + 1, 1, none⟩ = some (.int .i64 p.x.d) ∧ w'.cell? ⟨W.heap.size, 4, none⟩ = some (.int .i64 m.c.n) ∧ w'.cell? ⟨W.heap.size, 5, none⟩ = some (.int .i64 m.c.d) ∧ w'.cell? ⟨W.heap.size + 1, 2, none⟩ = some (.int .i64 p.y.n) ∧ w'.cell? ⟨W.heap.size + 1, 3, none⟩ = some (.int .i64 p.y.d)) w) (e1 : R ≠ W.heap.size) (e2 : R ≠ W.heap.size + 1) : (fun w' => w'.cell? ⟨W.heap.size, 0, none⟩ = some (.int .i64 m.a.n) ∧ w'.cell? ⟨W.heap.size, 1, none⟩ = some (.int .i64 m.a.d) ∧ w'.cell? ⟨W.heap.size + 1, 0, none⟩ = some (.int .i64 p.x.n) ∧ w'.cell? ⟨W.heap.size + 1, 1, none⟩ = some (.int .i64 p.x.d) ∧ w'.cell? ⟨W.heap.size, 4, none⟩ = some (.int .i64 m.c.n) ∧ w'.cell? ⟨W.heap.size, 5, none⟩ = some (.int .i64 m.c.d) ∧ w'.cell? ⟨W.heap.size + 1, 2, none⟩ = some (.int .i64 p.y.n) ∧ w'.cell? ⟨W.heap.size + 1, 3, none⟩ = some (.int .i64 p.y.d)) ((w.setCell ⟨R, 0, none⟩ u).setCell ⟨R, 1, none⟩ v) := by
  obtain ⟨k0, k1, k2, k3, k4, k5, k6, k7⟩ := h
  exact ⟨(World.cell?_setCell_far _ _ _ _ e1).trans ((World.cell?_setCell_far _ _ _ _ e1).trans k0), (World.cell?_setCell_far _ _ _ _ e1).trans ((World.cell?_setCell_far _ _ _ _ e1).trans k1), (World.cell?_setCell_far _ _ _ _ e2).trans ((World.cell?_setCell_far _ _ _ _ e2).trans k2), (World.cell?_setCell_far _ _ _ _ e2).trans ((World.cell?_setCell_far _ _ _ _ e2).trans k3), (World.cell?_setCell_far _ _ _ _ e1).trans ((World.cell?_setCell_far _ _ _ _ e1).trans k4), (World.cell?_setCell_far _ _ _ _ e1).trans ((World.cell?_setCell_far _ _ _ _ e1).trans k5), (World.cell?_setCell_far _ _ _ _ e2).trans ((World.cell?_setCell_far _ _ _ _ e2).trans k6), (World.cell?_setCell_far _ _ _ _ e2).trans ((World.cell?_setCell_far _ _ _ _ e2).trans k7)⟩

theorem keeps2 {W w : World} {m : Mv} {p : Pt} {R : Nat} {u v : Value} (h : (fun w' => w'.cell? ⟨W.heap.size, 2, none⟩ = some (.int .i64 m.b.n) ∧ w'.cell? ⟨W.heap.size, 3, none⟩ = some (.int .i64 m.b.d) ∧ w'.cell? ⟨W.heap.size + 1, 0, none⟩ = some (.int .i64 p.x.n) ∧ w'.cell? ⟨W.heap.size + 1, 1, none⟩ = some (.int .i64 p.x.d) ∧ w'.cell? ⟨W.heap.size, 6, none⟩ = some (.int .i64 m.d.n) ∧ w'.cell? ⟨W.heap.size, 7, none⟩ = some (.int .i64 m.d.d) ∧ w'.cell? ⟨W.heap.size + 1, 2, none⟩ = some (.int .i64 p.y.n) ∧ w'.cell? ⟨W.heap.size + 1, 3, none⟩ = some (.int .i64 p.y.d)) w) (e1 : R ≠ W.heap.size) (e2 : R ≠ W.heap.size + 1) : (fun w' => w'.cell? ⟨W.heap.size, 2, none⟩ = some (.int .i64 m.b.n) ∧ w'.cell? ⟨W.heap.size, 3, none⟩ = some (.int .i64 m.b.d) ∧ w'.cell? ⟨W.heap.size + 1, 0, none⟩ = some (.int .i64 p.x.n) ∧ w'.cell? ⟨W.heap.size + 1, 1, none⟩ = some (.int .i64 p.x.d) ∧ w'.cell? ⟨W.heap.size, 6, none⟩ = some (.int .i64 m.d.n) ∧ w'.cell? ⟨W.heap.size, 7, none⟩ = some (.int .i64 m.d.d) ∧ w'.cell? ⟨W.heap.size + 1, 2, none⟩ = some (.int .i64 p.y.n) ∧ w'.cell? ⟨W.heap.size + 1, 3, none⟩ = some (.int .i64 p.y.d)) ((w.setCell ⟨R, 0, none⟩ u).setCell ⟨R, 1, none⟩ v) := by
  obtain ⟨k0, k1, k2, k3, k4, k5, k6, k7⟩ := h
  exact ⟨(World.cell?_setCell_far _ _ _ _ e1).trans ((World.cell?_setCell_far _ _ _ _ e1).trans k0), (World.cell?_setCell_far _ _ _ _ e1).trans ((World.cell?_setCell_far _ _ _ _ e1).trans k1), (World.cell?_setCell_far _ _ _ _ e2).trans ((World.cell?_setCell_far _ _ _ _ e2).trans k2), (World.cell?_setCell_far _ _ _ _ e2).trans ((World.cell?_setCell_far _ _ _ _ e2).trans k3), (World.cell?_setCell_far _ _ _ _ e1).trans ((World.cell?_setCell_far _ _ _ _ e1).trans k4), (World.cell?_setCell_far _ _ _ _ e1).trans ((World.cell?_setCell_far _ _ _ _ e1).trans k5), (World.cell?_setCell_far _ _ _ _ e2).trans ((World.cell?_setCell_far _ _ _ _ e2).trans k6), (World.cell?_setCell_far _ _ _ _ e2).trans ((World.cell?_setCell_far _ _ _ _ e2).trans k7)⟩

theorem keep1 {b : Nat} {W A B : World} {m : Mv} {p : Pt} (hu : Upto b A B) (h1 : W.heap.size ≠ b) (h2 : W.heap.size + 1 ≠ b) (h : (fun w' => w'.cell? ⟨W.heap.size, 0, none⟩ = some (.int .i64 m.a.n) ∧ w'.cell? ⟨W.heap.size, 1, none⟩ = some (.int .i64 m.a.d) ∧ w'.cell? ⟨W.heap.size + 1, 0, none⟩ = some (.int .i64 p.x.n) ∧ w'.cell? ⟨W.heap.size + 1, 1, none⟩ = some (.int .i64 p.x.d) ∧ w'.cell? ⟨W.heap.size, 4, none⟩ = some (.int .i64 m.c.n) ∧ w'.cell? ⟨W.heap.size, 5, none⟩ = some (.int .i64 m.c.d) ∧ w'.cell? ⟨W.heap.size + 1, 2, none⟩ = some (.int .i64 p.y.n) ∧ w'.cell? ⟨W.heap.size + 1, 3, none⟩ = some (.int .i64 p.y.d)) A) : (fun w' => w'.cell? ⟨W.heap.size, 0, none⟩ = some (.int .i64 m.a.n) ∧ w'.cell? ⟨W.heap.size, 1, none⟩ = some (.int .i64 m.a.d) ∧ w'.cell? ⟨W.heap.size + 1, 0, none⟩ = some (.int .i64 p.x.n) ∧ w'.cell? ⟨W.heap.size + 1, 1, none⟩ = some (.int .i64 p.x.d) ∧ w'.cell? ⟨W.heap.size, 4, none⟩ = some (.int .i64 m.c.n) ∧ w'.cell? ⟨W.heap.size, 5, none⟩ = some (.int .i64 m.c.d) ∧ w'.cell? ⟨W.heap.size + 1, 2, none⟩ = some (.int .i64 p.y.n) ∧ w'.cell? ⟨W.heap.size + 1, 3, none⟩ = some (.int .i64 p.y.d)) B := by
  obtain ⟨k0, k1, k2, k3, k4, k5, k6, k7⟩ := h
  exact ⟨hu.cell k0 h1, hu.cell k1 h1, hu.cell k2 h2, hu.cell k3 h2, hu.cell k4 h1, hu.cell k5 h1, hu.cell k6 h2, hu.cell k7 h2⟩

theorem keep2 {b : Nat} {W A B : World} {m : Mv} {p : Pt} (hu : Upto b A B) (h1 : W.heap.size ≠ b) (h2 : W.heap.size + 1 ≠ b) (h : (fun w' => w'.cell? ⟨W.heap.size, 2, none⟩ = some (.int .i64 m.b.n) ∧ w'.cell? ⟨W.heap.size, 3, none⟩ = some (.int .i64 m.b.d) ∧ w'.cell? ⟨W.heap.size + 1, 0, none⟩ = some (.int .i64 p.x.n) ∧ w'.cell? ⟨W.heap.size + 1, 1, none⟩ = some (.int .i64 p.x.d) ∧ w'.cell? ⟨W.heap.size, 6, none⟩ = some (.int .i64 m.d.n) ∧ w'.cell? ⟨W.heap.size, 7, none⟩ = some (.int .i64 m.d.d) ∧ w'.cell? ⟨W.heap.size + 1, 2, none⟩ = some (.int .i64 p.y.n) ∧ w'.cell? ⟨W.heap.size + 1, 3, none⟩ = some (.int .i64 p.y.d)) A) : (fun w' => w'.cell? ⟨W.heap.size, 2, none⟩ = some (.int .i64 m.b.n) ∧ w'.cell? ⟨W.heap.size, 3, none⟩ = some (.int .i64 m.b.d) ∧ w'.cell? ⟨W.heap.size + 1, 0, none⟩ = some (.int .i64 p.x.n) ∧ w'.cell? ⟨W.heap.size + 1, 1, none⟩ = some (.int .i64 p.x.d) ∧ w'.cell? ⟨W.heap.size, 6, none⟩ = some (.int .i64 m.d.n) ∧ w'.cell? ⟨W.heap.size, 7, none⟩ = some (.int .i64 m.d.d) ∧ w'.cell? ⟨W.heap.size + 1, 2, none⟩ = some (.int .i64 p.y.n) ∧ w'.cell? ⟨W.heap.size + 1, 3, none⟩ = some (.int .i64 p.y.d)) B := by
  obtain ⟨k0, k1, k2, k3, k4, k5, k6, k7⟩ := h
  exact ⟨hu.cell k0 h1, hu.cell k1 h1, hu.cell k2 h2, hu.cell k3 h2, hu.cell k4 h1, hu.cell k5 h1, hu.cell k6 h2, hu.cell k7 h2⟩

theorem keepa1 {W A : World} {m : Mv} {p : Pt} {o : Obj} (h : (fun w' => w'.cell? ⟨W.heap.size, 0, none⟩ = some (.int .i64 m.a.n) ∧ w'.cell? ⟨W.heap.size, 1, none⟩ = some (.int .i64 m.a.d) ∧ w'.cell? ⟨W.heap.size + 1, 0, none⟩ = some (.int .i64 p.x.n) ∧ w'.cell? ⟨W.heap.size + 1, 1, none⟩ = some (.int .i64 p.x.d) ∧ w'.cell? ⟨W.heap.size, 4, none⟩ = some (.int .i64 m.c.n) ∧ w'.cell? ⟨W.heap.size, 5, none⟩ = some (.int .i64 m.c.d) ∧ w'.cell? ⟨W.heap.size + 1, 2, none⟩ = some (.int .i64 p.y.n) ∧ w'.cell? ⟨W.heap.size + 1, 3, none⟩ = some (.int .i64 p.y.d)) A) : (fun w' => w'.cell? ⟨W.heap.size, 0, none⟩ = some (.int .i64 m.a.n) ∧ w'.cell? ⟨W.heap.size, 1, none⟩ = some (.int .i64 m.a.d) ∧ w'.cell? ⟨W.heap.size + 1, 0, none⟩ = some (.int .i64 p.x.n) ∧ w'.cell? ⟨W.heap.size + 1, 1, none⟩ = some (.int .i64 p.x.d) ∧ w'.cell? ⟨W.heap.size, 4, none⟩ = some (.int .i64 m.c.n) ∧ w'.cell? ⟨W.heap.size, 5, none⟩ = some (.int .i64 m.c.d) ∧ w'.cell? ⟨W.heap.size + 1, 2, none⟩ = some (.int .i64 p.y.n) ∧ w'.cell? ⟨W.heap.size + 1, 3, none⟩ = some (.int .i64 p.y.d)) (A.alloc o) := by
  obtain ⟨k0, k1, k2, k3, k4, k5, k6, k7⟩ := h
  exact ⟨cell_al _ k0, cell_al _ k1, cell_al _ k2, cell_al _ k3, cell_al _ k4, cell_al _ k5, cell_al _ k6, cell_al _ k7⟩
theorem keepa1d {W A : World} {m : Mv} {p : Pt} {o : Obj} (h : (fun w' => w'.cell? ⟨W.heap.size, 0, none⟩ = some (.int .i64 m.a.n) ∧ w'.cell? ⟨W.heap.size, 1, none⟩ = some (.int .i64 m.a.d) ∧ w'.cell? ⟨W.heap.size + 1, 0, none⟩ = some (.int .i64 p.x.n) ∧ w'.cell? ⟨W.heap.size + 1, 1, none⟩ = some (.int .i64 p.x.d) ∧ w'.cell? ⟨W.heap.size, 4, none⟩ = some (.int .i64 m.c.n) ∧ w'.cell? ⟨W.heap.size, 5, none⟩ = some (.int .i64 m.c.d) ∧ w'.cell? ⟨W.heap.size + 1, 2, none⟩ = some (.int .i64 p.y.n) ∧ w'.cell? ⟨W.heap.size + 1, 3, none⟩ = some (.int .i64 p.y.d)) A.drew) : (fun w' => w'.cell? ⟨W.heap.size, 0, none⟩ = some (.int .i64 m.a.n) ∧ w'.cell? ⟨W.heap.size, 1, none⟩ = some (.int .i64 m.a.d) ∧ w'.cell? ⟨W.heap.size + 1, 0, none⟩ = some (.int .i64 p.x.n) ∧ w'.cell? ⟨W.heap.size + 1, 1, none⟩ = some (.int .i64 p.x.d) ∧ w'.cell? ⟨W.heap.size, 4, none⟩ = some (.int .i64 m.c.n) ∧ w'.cell? ⟨W.heap.size, 5, none⟩ = some (.int .i64 m.c.d) ∧ w'.cell? ⟨W.heap.size + 1, 2, none⟩ = some (.int .i64 p.y.n) ∧ w'.cell? ⟨W.heap.size + 1, 3, none⟩ = some (.int .i64 p.y.d)) (A.alloc o).drew := keepa1 (A := A) h

theorem keepa2 {W A : World} {m : Mv} {p : Pt} {o : Obj} (h : (fun w' => w'.cell? ⟨W.heap.size, 2, none⟩ = some (.int .i64 m.b.n) ∧ w'.cell? ⟨W.heap.size, 3, none⟩ = some (.int .i64 m.b.d) ∧ w'.cell? ⟨W.heap.size + 1, 0, none⟩ = some (.int .i64 p.x.n) ∧ w'.cell? ⟨W.heap.size + 1, 1, none⟩ = some (.int .i64 p.x.d) ∧ w'.cell? ⟨W.heap.size, 6, none⟩ = some (.int .i64 m.d.n) ∧ w'.cell? ⟨W.heap.size, 7, none⟩ = some (.int .i64 m.d.d) ∧ w'.cell? ⟨W.heap.size + 1, 2, none⟩ = some (.int .i64 p.y.n) ∧ w'.cell? ⟨W.heap.size + 1, 3, none⟩ = some (.int .i64 p.y.d)) A) : (fun w' => w'.cell? ⟨W.heap.size, 2, none⟩ = some (.int .i64 m.b.n) ∧ w'.cell? ⟨W.heap.size, 3, none⟩ = some (.int .i64 m.b.d) ∧ w'.cell? ⟨W.heap.size + 1, 0, none⟩ = some (.int .i64 p.x.n) ∧ w'.cell? ⟨W.heap.size + 1, 1, none⟩ = some (.int .i64 p.x.d) ∧ w'.cell? ⟨W.heap.size, 6, none⟩ = some (.int .i64 m.d.n) ∧ w'.cell? ⟨W.heap.size, 7, none⟩ = some (.int .i64 m.d.d) ∧ w'.cell? ⟨W.heap.size + 1, 2, none⟩ = some (.int .i64 p.y.n) ∧ w'.cell? ⟨W.heap.size + 1, 3, none⟩ = some (.int .i64 p.y.d)) (A.alloc o) := by
  obtain ⟨k0, k1, k2, k3, k4, k5, k6, k7⟩ := h
  exact ⟨cell_al _ k0, cell_al _ k1, cell_al _ k2, cell_al _ k3, cell_al _ k4, cell_al _ k5, cell_al _ k6, cell_al _ k7⟩
theorem keepa2d {W A : World} {m : Mv} {p : Pt} {o : Obj} (h : (fun w' => w'.cell? ⟨W.heap.size, 2, none⟩ = some (.int .i64 m.b.n) ∧ w'.cell? ⟨W.heap.size, 3, none⟩ = some (.int .i64 m.b.d) ∧ w'.cell? ⟨W.heap.size + 1, 0, none⟩ = some (.int .i64 p.x.n) ∧ w'.cell? ⟨W.heap.size + 1, 1, none⟩ = some (.int .i64 p.x.d) ∧ w'.cell? ⟨W.heap.size, 6, none⟩ = some (.int .i64 m.d.n) ∧ w'.cell? ⟨W.heap.size, 7, none⟩ = some (.int .i64 m.d.d) ∧ w'.cell? ⟨W.heap.size + 1, 2, none⟩ = some (.int .i64 p.y.n) ∧ w'.cell? ⟨W.heap.size + 1, 3, none⟩ = some (.int .i64 p.y.d)) A.drew) : (fun w' => w'.cell? ⟨W.heap.size, 2, none⟩ = some (.int .i64 m.b.n) ∧ w'.cell? ⟨W.heap.size, 3, none⟩ = some (.int .i64 m.b.d) ∧ w'.cell? ⟨W.heap.size + 1, 0, none⟩ = some (.int .i64 p.x.n) ∧ w'.cell? ⟨W.heap.size + 1, 1, none⟩ = some (.int .i64 p.x.d) ∧ w'.cell? ⟨W.heap.size, 6, none⟩ = some (.int .i64 m.d.n) ∧ w'.cell? ⟨W.heap.size, 7, none⟩ = some (.int .i64 m.d.d) ∧ w'.cell? ⟨W.heap.size + 1, 2, none⟩ = some (.int .i64 p.y.n) ∧ w'.cell? ⟨W.heap.size + 1, 3, none⟩ = some (.int .i64 p.y.d)) (A.alloc o).drew := keepa2 (A := A) h

theorem held1 {W V : World} {m : Mv} {p : Pt} (h : Head W m p V) : (fun w' => w'.cell? ⟨W.heap.size, 0, none⟩ = some (.int .i64 m.a.n) ∧ w'.cell? ⟨W.heap.size, 1, none⟩ = some (.int .i64 m.a.d) ∧ w'.cell? ⟨W.heap.size + 1, 0, none⟩ = some (.int .i64 p.x.n) ∧ w'.cell? ⟨W.heap.size + 1, 1, none⟩ = some (.int .i64 p.x.d) ∧ w'.cell? ⟨W.heap.size, 4, none⟩ = some (.int .i64 m.c.n) ∧ w'.cell? ⟨W.heap.size, 5, none⟩ = some (.int .i64 m.c.d) ∧ w'.cell? ⟨W.heap.size + 1, 2, none⟩ = some (.int .i64 p.y.n) ∧ w'.cell? ⟨W.heap.size + 1, 3, none⟩ = some (.int .i64 p.y.d)) (V.drewN 1) := ⟨h.c0, h.c1, h.c12, h.c13, h.c4, h.c5, h.c14, h.c15⟩

theorem held2 {W V : World} {m : Mv} {p : Pt} (h : Head W m p V) : (fun w' => w'.cell? ⟨W.heap.size, 2, none⟩ = some (.int .i64 m.b.n) ∧ w'.cell? ⟨W.heap.size, 3, none⟩ = some (.int .i64 m.b.d) ∧ w'.cell? ⟨W.heap.size + 1, 0, none⟩ = some (.int .i64 p.x.n) ∧ w'.cell? ⟨W.heap.size + 1, 1, none⟩ = some (.int .i64 p.x.d) ∧ w'.cell? ⟨W.heap.size, 6, none⟩ = some (.int .i64 m.d.n) ∧ w'.cell? ⟨W.heap.size, 7, none⟩ = some (.int .i64 m.d.d) ∧ w'.cell? ⟨W.heap.size + 1, 2, none⟩ = some (.int .i64 p.y.n) ∧ w'.cell? ⟨W.heap.size + 1, 3, none⟩ = some (.int .i64 p.y.d)) (V.drewN 1) := ⟨h.c2, h.c3, h.c12, h.c13, h.c6, h.c7, h.c14, h.c15⟩

end Go.Proofs.YtdjeblcmpegmpaaDoor

/-
  Package move's moved, walked over turned and the steps of the work.
-/
import Derived.Test.YtdjeblcmpegmpaaDoorMove5
namespace Go.Proofs.YtdjeblcmpegmpaaDoor
open Go.RowKit

theorem keepm {b Q : Nat} {W A B : World} {m : Mv} {q : Pt} (hu : Upto b A B) (h1 : W.heap.size ≠ b) (h3 : Q ≠ b) (h : (fun w' => w'.cell? ⟨W.heap.size, 8, none⟩ = some (.int .i64 m.e.n) ∧ w'.cell? ⟨W.heap.size, 9, none⟩ = some (.int .i64 m.e.d) ∧ w'.cell? ⟨W.heap.size, 10, none⟩ = some (.int .i64 m.f.n) ∧ w'.cell? ⟨W.heap.size, 11, none⟩ = some (.int .i64 m.f.d) ∧ w'.cell? ⟨Q, 0, none⟩ = some (.int .i64 q.x.n) ∧ w'.cell? ⟨Q, 1, none⟩ = some (.int .i64 q.x.d) ∧ w'.cell? ⟨Q, 2, none⟩ = some (.int .i64 q.y.n) ∧ w'.cell? ⟨Q, 3, none⟩ = some (.int .i64 q.y.d)) A) : (fun w' => w'.cell? ⟨W.heap.size, 8, none⟩ = some (.int .i64 m.e.n) ∧ w'.cell? ⟨W.heap.size, 9, none⟩ = some (.int .i64 m.e.d) ∧ w'.cell? ⟨W.heap.size, 10, none⟩ = some (.int .i64 m.f.n) ∧ w'.cell? ⟨W.heap.size, 11, none⟩ = some (.int .i64 m.f.d) ∧ w'.cell? ⟨Q, 0, none⟩ = some (.int .i64 q.x.n) ∧ w'.cell? ⟨Q, 1, none⟩ = some (.int .i64 q.x.d) ∧ w'.cell? ⟨Q, 2, none⟩ = some (.int .i64 q.y.n) ∧ w'.cell? ⟨Q, 3, none⟩ = some (.int .i64 q.y.d)) B := by
  obtain ⟨k0, k1, k2, k3, k4, k5, k6, k7⟩ := h
  exact ⟨hu.cell k0 h1, hu.cell k1 h1, hu.cell k2 h1, hu.cell k3 h1, hu.cell k4 h3, hu.cell k5 h3, hu.cell k6 h3, hu.cell k7 h3⟩
theorem keepms {Q R : Nat} {W w : World} {m : Mv} {q : Pt} {v1 v2 v3 v4 : Value} (h : (fun w' => w'.cell? ⟨W.heap.size, 8, none⟩ = some (.int .i64 m.e.n) ∧ w'.cell? ⟨W.heap.size, 9, none⟩ = some (.int .i64 m.e.d) ∧ w'.cell? ⟨W.heap.size, 10, none⟩ = some (.int .i64 m.f.n) ∧ w'.cell? ⟨W.heap.size, 11, none⟩ = some (.int .i64 m.f.d) ∧ w'.cell? ⟨Q, 0, none⟩ = some (.int .i64 q.x.n) ∧ w'.cell? ⟨Q, 1, none⟩ = some (.int .i64 q.x.d) ∧ w'.cell? ⟨Q, 2, none⟩ = some (.int .i64 q.y.n) ∧ w'.cell? ⟨Q, 3, none⟩ = some (.int .i64 q.y.d)) w) (h1 : R ≠ W.heap.size) (h3 : R ≠ Q) : (fun w' => w'.cell? ⟨W.heap.size, 8, none⟩ = some (.int .i64 m.e.n) ∧ w'.cell? ⟨W.heap.size, 9, none⟩ = some (.int .i64 m.e.d) ∧ w'.cell? ⟨W.heap.size, 10, none⟩ = some (.int .i64 m.f.n) ∧ w'.cell? ⟨W.heap.size, 11, none⟩ = some (.int .i64 m.f.d) ∧ w'.cell? ⟨Q, 0, none⟩ = some (.int .i64 q.x.n) ∧ w'.cell? ⟨Q, 1, none⟩ = some (.int .i64 q.x.d) ∧ w'.cell? ⟨Q, 2, none⟩ = some (.int .i64 q.y.n) ∧ w'.cell? ⟨Q, 3, none⟩ = some (.int .i64 q.y.d)) ((((w.setCell ⟨R, 0, none⟩ v1).setCell ⟨R, 1, none⟩ v2).setCell ⟨R, 2, none⟩ v3).setCell ⟨R, 3, none⟩ v4) := by
  obtain ⟨k0, k1, k2, k3, k4, k5, k6, k7⟩ := h
  exact ⟨(World.cell?_setCell_far _ _ _ _ h1).trans ((World.cell?_setCell_far _ _ _ _ h1).trans ((World.cell?_setCell_far _ _ _ _ h1).trans ((World.cell?_setCell_far _ _ _ _ h1).trans k0))), (World.cell?_setCell_far _ _ _ _ h1).trans ((World.cell?_setCell_far _ _ _ _ h1).trans ((World.cell?_setCell_far _ _ _ _ h1).trans ((World.cell?_setCell_far _ _ _ _ h1).trans k1))), (World.cell?_setCell_far _ _ _ _ h1).trans ((World.cell?_setCell_far _ _ _ _ h1).trans ((World.cell?_setCell_far _ _ _ _ h1).trans ((World.cell?_setCell_far _ _ _ _ h1).trans k2))), (World.cell?_setCell_far _ _ _ _ h1).trans ((World.cell?_setCell_far _ _ _ _ h1).trans ((World.cell?_setCell_far _ _ _ _ h1).trans ((World.cell?_setCell_far _ _ _ _ h1).trans k3))), (World.cell?_setCell_far _ _ _ _ h3).trans ((World.cell?_setCell_far _ _ _ _ h3).trans ((World.cell?_setCell_far _ _ _ _ h3).trans ((World.cell?_setCell_far _ _ _ _ h3).trans k4))), (World.cell?_setCell_far _ _ _ _ h3).trans ((World.cell?_setCell_far _ _ _ _ h3).trans ((World.cell?_setCell_far _ _ _ _ h3).trans ((World.cell?_setCell_far _ _ _ _ h3).trans k5))), (World.cell?_setCell_far _ _ _ _ h3).trans ((World.cell?_setCell_far _ _ _ _ h3).trans ((World.cell?_setCell_far _ _ _ _ h3).trans ((World.cell?_setCell_far _ _ _ _ h3).trans k6))), (World.cell?_setCell_far _ _ _ _ h3).trans ((World.cell?_setCell_far _ _ _ _ h3).trans ((World.cell?_setCell_far _ _ _ _ h3).trans ((World.cell?_setCell_far _ _ _ _ h3).trans k7)))⟩

set_option maxHeartbeats 8000000 in
theorem moved_abs (aB aS aZ : Addr) (w0 : World) (b : Nat) (m : Mv) (p q : Pt) (r1 r2 : Fr) (c c6 c7 c8 : Nat) (W : World) (h : Wk aB aS aZ w0 b c W)
    (HT : ∀ W, Wk aB aS aZ w0 b c W → Calls Tryd.prog 36 #[.pointer (some ⟨b, 0, none⟩), mv m, pv p] W fun e w' => e = .returned (.agg #[.int .i64 q.x.n, .int .i64 q.x.d, .int .i64 q.y.n, .int .i64 q.y.d]) ∧ Wk aB aS aZ w0 b c6 w' ∧ Upto b W w')
    (D7 : DoC aB aS aZ w0 b 39 c6 q.x m.e r1 c7) (D8 : DoC aB aS aZ w0 b 39 c7 q.y m.f r2 c8) :
    Calls Tryd.prog 27 #[.pointer (some ⟨b, 0, none⟩), mv m, pv p] W fun e w' => e = .returned (.agg #[.int .i64 r1.n, .int .i64 r1.d, .int .i64 r2.n, .int .i64 r2.d]) ∧ Wk aB aS aZ w0 b c8 w' ∧ Upto b W w' := by
  have hlt := cell_lt h.cell
  simp only at hlt
  have nb0 : W.heap.size ≠ b := by omega
  have hw0 := h.hb.size
  have hF : ∃ V, (((W.alloc (.cells #[.int .i64 m.a.n, .int .i64 m.a.d, .int .i64 m.b.n, .int .i64 m.b.d, .int .i64 m.c.n, .int .i64 m.c.d, .int .i64 m.d.n, .int .i64 m.d.d, .int .i64 m.e.n, .int .i64 m.e.d, .int .i64 m.f.n, .int .i64 m.f.d] 37)).alloc (.cells #[.int .i64 p.x.n, .int .i64 p.x.d, .int .i64 p.y.n, .int .i64 p.y.d] 26)).alloc (.cells #[.int .i64 0, .int .i64 0, .int .i64 0, .int .i64 0] 26)) = V ∧ Head W m p V ∧ Wk aB aS aZ w0 b c V ∧ Upto b W V := ⟨_, rfl, Head.new W m p, ((h.alloc _).alloc _).alloc _, (((Upto.refl b W).alloc _).alloc _).alloc _⟩
  go_enter Tryd.func27, Tryd.ntmps27
  go_wp2_with (go_at_call 36; obtain ⟨V, hV, hH, HK, HU⟩ := hF; refine (HT _ (hV ▸ HK)).mono ?_; rw [hV]; rintro e wt ⟨rfl, hk, hu⟩)
  have H0 := (hH.upto hu hlt).upto ((Upto.refl b wt).alloc (.cells #[.int .i64 q.x.n, .int .i64 q.x.d, .int .i64 q.y.n, .int .i64 q.y.d] 26)) hlt |>.upto (Upto.drew b _ 1) hlt
  have hj0 := (hk.alloc (.cells #[.int .i64 q.x.n, .int .i64 q.x.d, .int .i64 q.y.n, .int .i64 q.y.d] 26)).drew 1
  have nbq := hk.ne
  have U0 := ((HU.trans hu).alloc (.cells #[.int .i64 q.x.n, .int .i64 q.x.d, .int .i64 q.y.n, .int .i64 q.y.d] 26)).trans (Upto.drew b _ 1)
  have hsz := (hH.upto hu hlt).sz
  have hS : (fun w' => w'.cell? ⟨W.heap.size, 8, none⟩ = some (.int .i64 m.e.n) ∧ w'.cell? ⟨W.heap.size, 9, none⟩ = some (.int .i64 m.e.d) ∧ w'.cell? ⟨W.heap.size, 10, none⟩ = some (.int .i64 m.f.n) ∧ w'.cell? ⟨W.heap.size, 11, none⟩ = some (.int .i64 m.f.d) ∧ w'.cell? ⟨wt.heap.size, 0, none⟩ = some (.int .i64 q.x.n) ∧ w'.cell? ⟨wt.heap.size, 1, none⟩ = some (.int .i64 q.x.d) ∧ w'.cell? ⟨wt.heap.size, 2, none⟩ = some (.int .i64 q.y.n) ∧ w'.cell? ⟨wt.heap.size, 3, none⟩ = some (.int .i64 q.y.d)) ((wt.alloc (.cells #[.int .i64 q.x.n, .int .i64 q.x.d, .int .i64 q.y.n, .int .i64 q.y.d] 26)).drewN 1) := ⟨H0.c8, H0.c9, H0.c10, H0.c11, cell_at rfl rfl, cell_at rfl rfl, cell_at rfl rfl, cell_at rfl rfl⟩
  have nr1 : W.heap.size + 1 + 1 ≠ W.heap.size := by omega
  have nr2 : W.heap.size + 1 + 1 ≠ wt.heap.size := by omega
  go_region_held3 (fun w' => w'.cell? ⟨W.heap.size, 8, none⟩ = some (.int .i64 m.e.n) ∧ w'.cell? ⟨W.heap.size, 9, none⟩ = some (.int .i64 m.e.d) ∧ w'.cell? ⟨W.heap.size, 10, none⟩ = some (.int .i64 m.f.n) ∧ w'.cell? ⟨W.heap.size, 11, none⟩ = some (.int .i64 m.f.d) ∧ w'.cell? ⟨wt.heap.size, 0, none⟩ = some (.int .i64 q.x.n) ∧ w'.cell? ⟨wt.heap.size, 1, none⟩ = some (.int .i64 q.x.d) ∧ w'.cell? ⟨wt.heap.size, 2, none⟩ = some (.int .i64 q.y.n) ∧ w'.cell? ⟨wt.heap.size, 3, none⟩ = some (.int .i64 q.y.d)) (first | assumption | exact keepms (by assumption) nr1 nr2 | go_keep) (first | (go_at_call_of 31 (Value.int IntKind.i64 m.f.n); refine (D8 _ hj1).mono ?_; rintro e w2 ⟨rfl, hj2, hu2⟩; have hs2 := keepm hu2 nb0 nbq (by assumption); have U2 := U1.trans hu2; have H2 := H1.upto hu2 hlt; obtain ⟨e0, e1, e2, e3⟩ := And.intro H2.r0 (And.intro H2.r1 (And.intro H2.r2 H2.r3)); obtain ⟨f0, f1, f2, f3⟩ := And.intro H2.f0 (And.intro H2.f1 (And.intro H2.f2 H2.f3))) | (go_at_call_of 31 (Value.int IntKind.i64 m.e.n); refine (D7 _ hj0).mono ?_; rintro e w1 ⟨rfl, hj1, hu1⟩; have hs1 := keepm hu1 nb0 nbq (by assumption); have U1 := U0.trans hu1; have H1 := H0.upto hu1 hlt; skip))
  go_wp2
  refine bodyPost_ret (v := .agg #[.int .i64 r1.n, .int .i64 r1.d, .int .i64 r2.n, .int .i64 r2.d]) (by simp [results, Tryd.results27, go_sem, e0, e1, e2, e3]) rfl ⟨rfl, ?_, ?_⟩
  · have hq : w0.heap.size ≤ W.heap.size + 1 + 1 := by omega
    have hn : W.heap.size + 1 + 1 ≠ b := by omega
    exact (((hj2.store hq hn _ _).store hq hn _ _).store hq hn _ _).store hq hn _ _
  · have hq : W.heap.size ≤ W.heap.size + 1 + 1 := by omega
    exact (((U2.store hq _ _).store hq _ _).store hq _ _).store hq _ _

end Go.Proofs.YtdjeblcmpegmpaaDoor

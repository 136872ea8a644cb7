/-
  Package move's turned, walked over the steps of the work: whatever order Go leaves open, one answer.
-/
import Derived.Test.YtdjeblcmpegmpaaDoorMove5
namespace Go.Proofs.YtdjeblcmpegmpaaDoor
open Go.RowKit

set_option maxHeartbeats 8000000 in
theorem turned_abs (aB aS aZ : Addr) (w0 : World) (b : Nat) (m : Mv) (p : Pt) (x1 x2 x3 y1 y2 y3 : Fr) (c c1 c2 c3 c4 c5 c6 : Nat) (W : World) (h : Wk aB aS aZ w0 b c W)
    (D1 : DoC aB aS aZ w0 b 33 c m.a p.x x1 c1) (D2 : DoC aB aS aZ w0 b 33 c1 m.c p.y x2 c2) (D3 : DoC aB aS aZ w0 b 39 c2 x1 x2 x3 c3)
    (D4 : DoC aB aS aZ w0 b 33 c3 m.b p.x y1 c4) (D5 : DoC aB aS aZ w0 b 33 c4 m.d p.y y2 c5) (D6 : DoC aB aS aZ w0 b 39 c5 y1 y2 y3 c6) :
    Calls Tryd.prog 36 #[.pointer (some ⟨b, 0, none⟩), mv m, pv p] W fun e w' => e = .returned (.agg #[.int .i64 x3.n, .int .i64 x3.d, .int .i64 y3.n, .int .i64 y3.d]) ∧ Wk aB aS aZ w0 b c6 w' ∧ Upto b W w' := by
  have hlt := cell_lt h.cell
  simp only at hlt
  have nb0 : W.heap.size ≠ b := by omega
  have nb1 : W.heap.size + 1 ≠ b := by omega
  have hF : ∃ V, (((W.alloc (.cells #[.int .i64 m.a.n, .int .i64 m.a.d, .int .i64 m.b.n, .int .i64 m.b.d, .int .i64 m.c.n, .int .i64 m.c.d, .int .i64 m.d.n, .int .i64 m.d.d, .int .i64 m.e.n, .int .i64 m.e.d, .int .i64 m.f.n, .int .i64 m.f.d] 37)).alloc (.cells #[.int .i64 p.x.n, .int .i64 p.x.d, .int .i64 p.y.n, .int .i64 p.y.d] 26)).alloc (.cells #[.int .i64 0, .int .i64 0, .int .i64 0, .int .i64 0] 26)) = V ∧ Head W m p V ∧ Wk aB aS aZ w0 b c V ∧ Upto b W V := ⟨_, rfl, Head.new W m p, ((h.alloc _).alloc _).alloc _, (((Upto.refl b W).alloc _).alloc _).alloc _⟩
  go_enter Tryd.func36, Tryd.ntmps36
  go_upto_region 1 with fail
  obtain ⟨V, hV, hH, HK, HU⟩ := hF
  rw [hV]
  have hw0 := h.hb.size
  clear hV h
  go_upto_region 1 with fail
  go_cut [7] (fun s wx => ∃ R, s = .pointer (some ⟨R, 0, none⟩) ∧ Own2 V.heap.size b wx R (.int .i64 x3.n) (.int .i64 x3.d) ∧ Wk aB aS aZ w0 b c3 wx ∧ Upto b V wx)
  case first =>
    have hS := held1 hH
    have hk0 := HK.drew 1
    have z0 : V.heap.size ≤ (V.drewN 1).heap.size := Nat.le_refl _
    have U0 : Upto b V (V.drewN 1) := Upto.drew b _ 1
    go_region_held3 (fun w' => w'.cell? ⟨W.heap.size, 0, none⟩ = some (.int .i64 m.a.n) ∧ w'.cell? ⟨W.heap.size, 1, none⟩ = some (.int .i64 m.a.d) ∧ w'.cell? ⟨W.heap.size + 1, 0, none⟩ = some (.int .i64 p.x.n) ∧ w'.cell? ⟨W.heap.size + 1, 1, none⟩ = some (.int .i64 p.x.d) ∧ w'.cell? ⟨W.heap.size, 4, none⟩ = some (.int .i64 m.c.n) ∧ w'.cell? ⟨W.heap.size, 5, none⟩ = some (.int .i64 m.c.d) ∧ w'.cell? ⟨W.heap.size + 1, 2, none⟩ = some (.int .i64 p.y.n) ∧ w'.cell? ⟨W.heap.size + 1, 3, none⟩ = some (.int .i64 p.y.d)) (first | assumption | exact keeps1 (by assumption) q6 q7 | exact keepa1 (by assumption) | exact keepa1d (by assumption) | go_keep) (first | (go_at_call_of 31 (Value.int IntKind.i64 x1.n); refine (D3 _ ?_).mono ?_; (first | exact hk2 | exact hk2.alloc _ | exact HK.al_drew _); rintro e w3 ⟨rfl, hk3, hu3⟩; have hs3 := keep1 hu3 nb0 nb1 (by assumption); have z3 : V.heap.size ≤ w3.heap.size := (by first | exact hu3.lo z2 | exact hu3.lo (lo_alloc z2) | exact hu3.lo (lo_al_drew (Nat.le_refl _))); have U3 : Upto b V w3 := (by first | exact U2.trans hu3 | exact (U2.alloc _).trans hu3 | exact ((Upto.refl b V).al_drew _).trans hu3); (try have hT := Own2.new hk2 z2 hu3); (try have hT := Own2.upto hT hu3); (try (obtain ⟨⟨q0, q1, q2, q3⟩, q4, q5⟩ := hT; obtain ⟨q6, q7⟩ := ne_lo1 hH q5))) | (go_at_call_of 31 (Value.int IntKind.i64 m.c.n); refine (D2 _ ?_).mono ?_; (first | exact hk1 | exact hk1.alloc _ | exact HK.al_drew _); rintro e w2 ⟨rfl, hk2, hu2⟩; have hs2 := keep1 hu2 nb0 nb1 (by assumption); have z2 : V.heap.size ≤ w2.heap.size := (by first | exact hu2.lo z1 | exact hu2.lo (lo_alloc z1) | exact hu2.lo (lo_al_drew (Nat.le_refl _))); have U2 : Upto b V w2 := (by first | exact U1.trans hu2 | exact (U1.alloc _).trans hu2 | exact ((Upto.refl b V).al_drew _).trans hu2); (try have hT := Own2.new hk1 z1 hu2); (try have hT := Own2.upto hT hu2)) | (go_at_call_of 31 (Value.int IntKind.i64 m.a.n); refine (D1 _ ?_).mono ?_; (first | exact hk0 | exact hk0.alloc _ | exact HK.al_drew _); rintro e w1 ⟨rfl, hk1, hu1⟩; have hs1 := keep1 hu1 nb0 nb1 (by assumption); have z1 : V.heap.size ≤ w1.heap.size := (by first | exact hu1.lo z0 | exact hu1.lo (lo_alloc z0) | exact hu1.lo (lo_al_drew (Nat.le_refl _))); have U1 : Upto b V w1 := (by first | exact U0.trans hu1 | exact (U0.alloc _).trans hu1 | exact ((Upto.refl b V).al_drew _).trans hu1); (try have hT := Own2.new hk0 z0 hu1); (try have hT := Own2.newd HK (Nat.le_refl _) hu1)))
    all_goals (go_wp2_with fail; go_meet; first | exact ⟨_, rfl, Own2.last hk3 z3, hk3.alloc _, U3.alloc _⟩ | exact ⟨_, rfl, (Own2.mk (Two.mk q0 q1 q2 q3) q4 q5).store _ _, (hk3.store (Nat.le_trans HK.hb.size q5) q4 _ _).store (Nat.le_trans HK.hb.size q5) q4 _ _, (U3.store q5 _ _).store q5 _ _⟩)
  case rest =>
    obtain ⟨R, rfl, hR, HK2, HU2⟩ := hcut
    replace hH := hH.upto HU2 hlt
    replace HU := HU.trans HU2
    clear HK HU2
    have HK := HK2
    clear HK2
    go_upto_region 2 with fail
    go_cut [8] (fun s wx => ∃ R, s = .pointer (some ⟨R, 0, none⟩) ∧ Own2 wc.heap.size b wx R (.int .i64 y3.n) (.int .i64 y3.d) ∧ Wk aB aS aZ w0 b c6 wx ∧ Upto b wc wx)
    case first =>
      have hS := held2 hH
      have hk0 := HK.drew 1
      have z0 : wc.heap.size ≤ (wc.drewN 1).heap.size := Nat.le_refl _
      have U0 : Upto b wc (wc.drewN 1) := Upto.drew b _ 1
      go_region_held3 (fun w' => w'.cell? ⟨W.heap.size, 2, none⟩ = some (.int .i64 m.b.n) ∧ w'.cell? ⟨W.heap.size, 3, none⟩ = some (.int .i64 m.b.d) ∧ w'.cell? ⟨W.heap.size + 1, 0, none⟩ = some (.int .i64 p.x.n) ∧ w'.cell? ⟨W.heap.size + 1, 1, none⟩ = some (.int .i64 p.x.d) ∧ w'.cell? ⟨W.heap.size, 6, none⟩ = some (.int .i64 m.d.n) ∧ w'.cell? ⟨W.heap.size, 7, none⟩ = some (.int .i64 m.d.d) ∧ w'.cell? ⟨W.heap.size + 1, 2, none⟩ = some (.int .i64 p.y.n) ∧ w'.cell? ⟨W.heap.size + 1, 3, none⟩ = some (.int .i64 p.y.d)) (first | assumption | exact keeps2 (by assumption) q6 q7 | exact keepa2 (by assumption) | exact keepa2d (by assumption) | go_keep) (first | (go_at_call_of 31 (Value.int IntKind.i64 y1.n); refine (D6 _ ?_).mono ?_; (first | exact hk2 | exact hk2.alloc _ | exact HK.al_drew _); rintro e w3 ⟨rfl, hk3, hu3⟩; have hs3 := keep2 hu3 nb0 nb1 (by assumption); have z3 : wc.heap.size ≤ w3.heap.size := (by first | exact hu3.lo z2 | exact hu3.lo (lo_alloc z2) | exact hu3.lo (lo_al_drew (Nat.le_refl _))); have U3 : Upto b wc w3 := (by first | exact U2.trans hu3 | exact (U2.alloc _).trans hu3 | exact ((Upto.refl b wc).al_drew _).trans hu3); (try have hT := Own2.new hk2 z2 hu3); (try have hT := Own2.upto hT hu3); (try (obtain ⟨⟨q0, q1, q2, q3⟩, q4, q5⟩ := hT; obtain ⟨q6, q7⟩ := ne_lo1 hH q5))) | (go_at_call_of 31 (Value.int IntKind.i64 m.d.n); refine (D5 _ ?_).mono ?_; (first | exact hk1 | exact hk1.alloc _ | exact HK.al_drew _); rintro e w2 ⟨rfl, hk2, hu2⟩; have hs2 := keep2 hu2 nb0 nb1 (by assumption); have z2 : wc.heap.size ≤ w2.heap.size := (by first | exact hu2.lo z1 | exact hu2.lo (lo_alloc z1) | exact hu2.lo (lo_al_drew (Nat.le_refl _))); have U2 : Upto b wc w2 := (by first | exact U1.trans hu2 | exact (U1.alloc _).trans hu2 | exact ((Upto.refl b wc).al_drew _).trans hu2); (try have hT := Own2.new hk1 z1 hu2); (try have hT := Own2.upto hT hu2)) | (go_at_call_of 31 (Value.int IntKind.i64 m.b.n); refine (D4 _ ?_).mono ?_; (first | exact hk0 | exact hk0.alloc _ | exact HK.al_drew _); rintro e w1 ⟨rfl, hk1, hu1⟩; have hs1 := keep2 hu1 nb0 nb1 (by assumption); have z1 : wc.heap.size ≤ w1.heap.size := (by first | exact hu1.lo z0 | exact hu1.lo (lo_alloc z0) | exact hu1.lo (lo_al_drew (Nat.le_refl _))); have U1 : Upto b wc w1 := (by first | exact U0.trans hu1 | exact (U0.alloc _).trans hu1 | exact ((Upto.refl b wc).al_drew _).trans hu1); (try have hT := Own2.new hk0 z0 hu1); (try have hT := Own2.newd HK (Nat.le_refl _) hu1)))
      all_goals (go_wp2_with fail; go_meet; first | exact ⟨_, rfl, Own2.last hk3 z3, hk3.alloc _, U3.alloc _⟩ | exact ⟨_, rfl, (Own2.mk (Two.mk q0 q1 q2 q3) q4 q5).store _ _, (hk3.store (Nat.le_trans HK.hb.size q5) q4 _ _).store (Nat.le_trans HK.hb.size q5) q4 _ _, (U3.store q5 _ _).store q5 _ _⟩)
    case rest =>
      obtain ⟨R2, rfl, hR2, HK2, HU2⟩ := hcut
      have hH2 := hH.upto HU2 hlt
      have HU3 := HU.trans HU2
      have hT1 := hR.t.upto HU2 hR.ne
      obtain ⟨a0, a1, a2, a3⟩ := hT1
      obtain ⟨d0, d1, d2, d3⟩ := hR2.t
      obtain ⟨e0, e1, e2, e3⟩ := And.intro hH2.r0 (And.intro hH2.r1 (And.intro hH2.r2 hH2.r3))
      obtain ⟨f0, f1, f2, f3⟩ := And.intro hH2.f0 (And.intro hH2.f1 (And.intro hH2.f2 hH2.f3))
      go_wp2
      refine bodyPost_ret (v := .agg #[.int .i64 x3.n, .int .i64 x3.d, .int .i64 y3.n, .int .i64 y3.d]) (by simp [results, Tryd.results36, go_sem, e0, e1, e2, e3]) rfl ⟨rfl, ?_, ?_⟩
      · have hq : w0.heap.size ≤ W.heap.size + 1 + 1 := by omega
        have hn : W.heap.size + 1 + 1 ≠ b := by omega
        exact (((HK2.store hq hn _ _).store hq hn _ _).store hq hn _ _).store hq hn _ _
      · have hq : W.heap.size ≤ W.heap.size + 1 + 1 := by omega
        exact (((HU3.store hq _ _).store hq _ _).store hq _ _).store hq _ _

end Go.Proofs.YtdjeblcmpegmpaaDoor

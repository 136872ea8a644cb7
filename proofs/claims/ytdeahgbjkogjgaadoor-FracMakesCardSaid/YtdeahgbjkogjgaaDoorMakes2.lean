/-
  The walk of the law FracMakes, over what the calls answer.
-/
import Derived.Test.YtdeahgbjkogjgaaDoorMakes1
namespace Go.Proofs.YtdeahgbjkogjgaaDoor
open Go.RowKit

theorem M4.ofK2 {E : Nat → Addr} {w0 : World} {a0 a1 b0 b1 : Value} {bX bY : Nat} {x0 x1 y0 y1 : Value} {w : World} (g : GG E w0) (h : K2 E w0 a0 a1 b0 b1 w) (hx : Two w bX x0 x1) (hy : Two w bY y0 y1) (h1 : w0.heap.size + 1 < bX) (h2 : bX < bY) : M4 E w0 a0 a1 b0 b1 bX bY x0 x1 y0 y1 w :=
  ⟨g, h.a, h.b, hx, hy, h.hw, h1, h2⟩

set_option maxHeartbeats 4000000 in
theorem makes_000 (E : Nat → Addr) (num den an ad bn bd xn xd qn qd e1 nn : Int) (s tb : ByteArray) (v1 v2 v3 : Value) (w : World) (h : GG E w) (hs : s.size ≤ 60)
    (cHH : ∀ W, GG E W → Calls Tryd.prog 12 #[] W fun e w' => e = .returned (.bool true) ∧ Below W.heap.size W w')
    (cHM : ∀ W, GG E W → Calls Tryd.prog 13 #[.int .i64 num, .int .i64 den] W fun e w' => e = .returned (.tuple #[.agg #[.int .i64 xn, .int .i64 xd], v1]) ∧ Below W.heap.size W w')
    (cHN : ∀ W, GG E W → Calls Tryd.prog 14 #[.int .i64 num, .int .i64 den] W fun e w' => e = .returned (.tuple #[.agg #[.int .i64 xn, .int .i64 xd], .int .i64 e1]) ∧ Below W.heap.size W w')
    (cHK1 : ∀ W, GG E W → Calls Tryd.prog 10 #[v1, .int .i64 e1] W fun e w' => e = .returned (.bool true) ∧ Below W.heap.size W w')
    (cHC : ∀ W, GG E W → Calls Tryd.prog 15 #[.agg #[.int .i64 an, .int .i64 ad]] W fun e w' => e = .returned (v2) ∧ Below W.heap.size W w')
    (cHE : ∀ W, GG E W → Calls Tryd.prog 16 #[.agg #[.int .i64 an, .int .i64 ad]] W fun e w' => e = .returned (.int .i64 0) ∧ Below W.heap.size W w')
    (cHK2 : ∀ W, GG E W → Calls Tryd.prog 10 #[v2, .int .i64 0] W fun e w' => e = .returned (.bool true) ∧ Below W.heap.size W w')
    (cHT : ∀ W, GG E W → Calls Tryd.prog 17 #[.agg #[.int .i64 an, .int .i64 ad]] W fun e w' => e = .returned (.string tb) ∧ Below W.heap.size W w')
    (cHU : ∀ W, GG E W → Calls Tryd.prog 18 #[.agg #[.int .i64 an, .int .i64 ad]] W fun e w' => e = .returned (.string tb) ∧ Below W.heap.size W w')
    (cHR : ∀ W, GG E W → Calls Tryd.prog 19 #[.string s] W fun e w' => e = .returned (.tuple #[.agg #[.int .i64 qn, .int .i64 qd], v3]) ∧ Below W.heap.size W w')
    (cHO : ∀ W, GG E W → Calls Tryd.prog 20 #[.string s] W fun e w' => e = .returned (.tuple #[.agg #[.int .i64 qn, .int .i64 qd], .int .i64 0]) ∧ Below W.heap.size W w')
    (cHK3 : ∀ W, GG E W → Calls Tryd.prog 10 #[v3, .int .i64 0] W fun e w' => e = .returned (.bool true) ∧ Below W.heap.size W w')
    (cHX : ∀ W, GG E W → Calls Tryd.prog 17 #[.agg #[.int .i64 qn, .int .i64 qd]] W fun e w' => e = .returned (.string s) ∧ Below W.heap.size W w')
    (cHP : ∀ W, GG E W → Calls Tryd.prog 21 #[.agg #[.int .i64 an, .int .i64 ad], .agg #[.int .i64 bn, .int .i64 bd]] W fun e w' => e = .returned (.tuple #[.int .i64 nn, Value.nilIface]) ∧ Below W.heap.size W w')
    (cHB : ∀ W, GG E W → Calls Tryd.prog 16 #[.agg #[.int .i64 bn, .int .i64 bd]] W fun e w' => e = .returned (.int .i64 0) ∧ Below W.heap.size W w')
    (cHQ : ∀ W, GG E W → Calls Tryd.prog 22 #[.agg #[.int .i64 an, .int .i64 ad], .agg #[.int .i64 bn, .int .i64 bd]] W fun e w' => e = .returned (.int .i64 nn) ∧ Below W.heap.size W w') :
    Calls Tryd.prog 4 #[.int .i64 num, .int .i64 den, .agg #[.int .i64 an, .int .i64 ad], .agg #[.int .i64 bn, .int .i64 bd], .string s] w fun e w' => e = .returned (.bool true) ∧ Below w.heap.size w w' := by
  have HH : Hid (∀ W, GG E W → Calls Tryd.prog 12 #[] W fun e w' => e = .returned (.bool true) ∧ Below W.heap.size W w') := cHH
  clear cHH
  have HM : Hid (∀ W, GG E W → Calls Tryd.prog 13 #[.int .i64 num, .int .i64 den] W fun e w' => e = .returned (.tuple #[.agg #[.int .i64 xn, .int .i64 xd], v1]) ∧ Below W.heap.size W w') := cHM
  clear cHM
  have HN : Hid (∀ W, GG E W → Calls Tryd.prog 14 #[.int .i64 num, .int .i64 den] W fun e w' => e = .returned (.tuple #[.agg #[.int .i64 xn, .int .i64 xd], .int .i64 e1]) ∧ Below W.heap.size W w') := cHN
  clear cHN
  have HK1 : Hid (∀ W, GG E W → Calls Tryd.prog 10 #[v1, .int .i64 e1] W fun e w' => e = .returned (.bool true) ∧ Below W.heap.size W w') := cHK1
  clear cHK1
  have HC : Hid (∀ W, GG E W → Calls Tryd.prog 15 #[.agg #[.int .i64 an, .int .i64 ad]] W fun e w' => e = .returned (v2) ∧ Below W.heap.size W w') := cHC
  clear cHC
  have HE : Hid (∀ W, GG E W → Calls Tryd.prog 16 #[.agg #[.int .i64 an, .int .i64 ad]] W fun e w' => e = .returned (.int .i64 0) ∧ Below W.heap.size W w') := cHE
  clear cHE
  have HK2 : Hid (∀ W, GG E W → Calls Tryd.prog 10 #[v2, .int .i64 0] W fun e w' => e = .returned (.bool true) ∧ Below W.heap.size W w') := cHK2
  clear cHK2
  have HT : Hid (∀ W, GG E W → Calls Tryd.prog 17 #[.agg #[.int .i64 an, .int .i64 ad]] W fun e w' => e = .returned (.string tb) ∧ Below W.heap.size W w') := cHT
  clear cHT
  have HU : Hid (∀ W, GG E W → Calls Tryd.prog 18 #[.agg #[.int .i64 an, .int .i64 ad]] W fun e w' => e = .returned (.string tb) ∧ Below W.heap.size W w') := cHU
  clear cHU
  have HR : Hid (∀ W, GG E W → Calls Tryd.prog 19 #[.string s] W fun e w' => e = .returned (.tuple #[.agg #[.int .i64 qn, .int .i64 qd], v3]) ∧ Below W.heap.size W w') := cHR
  clear cHR
  have HO : Hid (∀ W, GG E W → Calls Tryd.prog 20 #[.string s] W fun e w' => e = .returned (.tuple #[.agg #[.int .i64 qn, .int .i64 qd], .int .i64 0]) ∧ Below W.heap.size W w') := cHO
  clear cHO
  have HK3 : Hid (∀ W, GG E W → Calls Tryd.prog 10 #[v3, .int .i64 0] W fun e w' => e = .returned (.bool true) ∧ Below W.heap.size W w') := cHK3
  clear cHK3
  have HX : Hid (∀ W, GG E W → Calls Tryd.prog 17 #[.agg #[.int .i64 qn, .int .i64 qd]] W fun e w' => e = .returned (.string s) ∧ Below W.heap.size W w') := cHX
  clear cHX
  have HP : Hid (∀ W, GG E W → Calls Tryd.prog 21 #[.agg #[.int .i64 an, .int .i64 ad], .agg #[.int .i64 bn, .int .i64 bd]] W fun e w' => e = .returned (.tuple #[.int .i64 nn, Value.nilIface]) ∧ Below W.heap.size W w') := cHP
  clear cHP
  have HB : Hid (∀ W, GG E W → Calls Tryd.prog 16 #[.agg #[.int .i64 bn, .int .i64 bd]] W fun e w' => e = .returned (.int .i64 0) ∧ Below W.heap.size W w') := cHB
  clear cHB
  have HQ : Hid (∀ W, GG E W → Calls Tryd.prog 22 #[.agg #[.int .i64 an, .int .i64 ad], .agg #[.int .i64 bn, .int .i64 bd]] W fun e w' => e = .returned (.int .i64 nn) ∧ Below W.heap.size W w') := cHQ
  clear cHQ
  have hs' : (s.size : Int) ≤ 60 := by omega
  go_enter Tryd.func4, Tryd.ntmps4
  go_wp2_with (first | (go_at_call 14; refine (HN.out _ (H2.alloc _).g).mono ?_; rintro e w3 ⟨rfl, hb3⟩; have H3 := (H2.alloc _).below hb3; have B3 := (Two.new w2 _ _ _).below hb3 (Nat.le_refl _); have z3 := hb3.size; simp only [World.size_alloc] at z3; clear k1 k2 k3 k4; obtain ⟨k1, k2, k3, k4⟩ := H3.cellsA; obtain ⟨k5, k6⟩ := B3.cellsA) | (go_at_call 13; refine (HM.out _ H1.g).mono ?_; rintro e w2 ⟨rfl, hb2⟩; have H2 := H1.below hb2; clear k1 k2 k3 k4; obtain ⟨k1, k2, k3, k4⟩ := H2.cellsA) | (go_at_call 12; refine (HH.out _ (K2.new h).g).mono ?_; rintro e w1 ⟨rfl, hb1⟩; have H1 := (K2.new h).below hb1; obtain ⟨k1, k2, k3, k4⟩ := H1.cells))
  clear k1 k2 k3 k4 k5 k6
  have H4 := M4.ofK2 h (H3.alloc (.cells #[.int .i64 xn, .int .i64 xd] 36)) (B3.alloc _) (Two.new w3 _ _ _) (cell_lt H2.b.c0) z3
  generalize w3.alloc (.cells #[.int .i64 xn, .int .i64 xd] 36) = W4 at H4 ⊢
  clear hb1 H1 hb2 hb3 H3 B3
  have qHK1 : ∀ d os, Calls Tryd.prog 10 #[v1, .int .i64 e1] (Go.Sort.grow (redrawn W4 d) os) fun e w'' => e = .returned (.bool true) ∧ ∃ p : Regrown, w'' = Go.Sort.grow (redrawn W4 p.d) p.os := fun d os => Calls.regrown_of (HK1.out _ (H4.g.below (below_regrown W4 d os) (Nat.le_refl _)))
  have qHC : ∀ d os, Calls Tryd.prog 15 #[.agg #[.int .i64 an, .int .i64 ad]] (Go.Sort.grow (redrawn W4 d) os) fun e w'' => e = .returned (v2) ∧ ∃ p : Regrown, w'' = Go.Sort.grow (redrawn W4 p.d) p.os := fun d os => Calls.regrown_of (HC.out _ (H4.g.below (below_regrown W4 d os) (Nat.le_refl _)))
  have qHE : ∀ d os, Calls Tryd.prog 16 #[.agg #[.int .i64 an, .int .i64 ad]] (Go.Sort.grow (redrawn W4 d) os) fun e w'' => e = .returned (.int .i64 0) ∧ ∃ p : Regrown, w'' = Go.Sort.grow (redrawn W4 p.d) p.os := fun d os => Calls.regrown_of (HE.out _ (H4.g.below (below_regrown W4 d os) (Nat.le_refl _)))
  have qHK2 : ∀ d os, Calls Tryd.prog 10 #[v2, .int .i64 0] (Go.Sort.grow (redrawn W4 d) os) fun e w'' => e = .returned (.bool true) ∧ ∃ p : Regrown, w'' = Go.Sort.grow (redrawn W4 p.d) p.os := fun d os => Calls.regrown_of (HK2.out _ (H4.g.below (below_regrown W4 d os) (Nat.le_refl _)))
  obtain ⟨k1, k2, k3, k4, k5, k6, k7, k8, -⟩ := H4.cells
  have r1 := cell_regrown k1
  have r2 := cell_regrown k2
  have r3 := cell_regrown k3
  have r4 := cell_regrown k4
  have r5 := cell_regrown k5
  have r6 := cell_regrown k6
  have r7 := cell_regrown k7
  have r8 := cell_regrown k8
  refine wp_region_quiet_below (by kernel_rfl) (by kernel_rfl) ?_
  repeat (quiet_step (first | (go_at_call_of 10 v1; exact qHK1 _ _) | (go_at_call 15; exact qHC _ _) | (go_at_call_of 16 (Value.agg #[Value.int IntKind.i64 an, Value.int IntKind.i64 ad]); exact qHE _ _) | (go_at_call_of 10 v2; exact qHK2 _ _)))
  refine wpQuiet_nil ?_
  intro _ hw'
  obtain ⟨p, hw''⟩ := hw'
  subst hw''
  clear r1 r2 r3 r4 r5 r6 r7 r8 k1 k2 k3 k4 k5 k6 k7 k8 qHK1 qHC qHE qHK2
  have H5 := H4.below (below_regrown W4 p.d p.os)
  generalize Go.Sort.grow (redrawn W4 p.d) p.os = W5 at H5 ⊢
  clear H4
  go_wp2
  have qHE : ∀ d os, Calls Tryd.prog 16 #[.agg #[.int .i64 an, .int .i64 ad]] (Go.Sort.grow (redrawn W5 d) os) fun e w'' => e = .returned (.int .i64 0) ∧ ∃ p : Regrown, w'' = Go.Sort.grow (redrawn W5 p.d) p.os := fun d os => Calls.regrown_of (HE.out _ (H5.g.below (below_regrown W5 d os) (Nat.le_refl _)))
  have qHT : ∀ d os, Calls Tryd.prog 17 #[.agg #[.int .i64 an, .int .i64 ad]] (Go.Sort.grow (redrawn W5 d) os) fun e w'' => e = .returned (.string tb) ∧ ∃ p : Regrown, w'' = Go.Sort.grow (redrawn W5 p.d) p.os := fun d os => Calls.regrown_of (HT.out _ (H5.g.below (below_regrown W5 d os) (Nat.le_refl _)))
  have qHU : ∀ d os, Calls Tryd.prog 18 #[.agg #[.int .i64 an, .int .i64 ad]] (Go.Sort.grow (redrawn W5 d) os) fun e w'' => e = .returned (.string tb) ∧ ∃ p : Regrown, w'' = Go.Sort.grow (redrawn W5 p.d) p.os := fun d os => Calls.regrown_of (HU.out _ (H5.g.below (below_regrown W5 d os) (Nat.le_refl _)))
  obtain ⟨k1, k2, k3, k4, k5, k6, k7, k8, -⟩ := H5.cells
  have r1 := cell_regrown k1
  have r2 := cell_regrown k2
  have r3 := cell_regrown k3
  have r4 := cell_regrown k4
  have r5 := cell_regrown k5
  have r6 := cell_regrown k6
  have r7 := cell_regrown k7
  have r8 := cell_regrown k8
  refine wp_region_quiet_below (by kernel_rfl) (by kernel_rfl) ?_
  repeat (quiet_step (first | (go_at_call_of 16 (Value.agg #[Value.int IntKind.i64 an, Value.int IntKind.i64 ad]); exact qHE _ _) | (go_at_call 17; exact qHT _ _) | (go_at_call 18; exact qHU _ _)))
  refine wpQuiet_nil ?_
  intro _ hw'
  obtain ⟨p, hw''⟩ := hw'
  subst hw''
  clear r1 r2 r3 r4 r5 r6 r7 r8 k1 k2 k3 k4 k5 k6 k7 k8 qHE qHT qHU
  have H6 := H5.below (below_regrown W5 p.d p.os)
  generalize Go.Sort.grow (redrawn W5 p.d) p.os = W6 at H6 ⊢
  clear H5
  obtain ⟨k1, k2, k3, k4, k5, k6, k7, k8, k9, k10, k11, k12⟩ := H6.cells
  go_wp2_with (first | (go_at_call 22; refine (HQ.out _ H13.g).mono ?_; rintro e w14 ⟨rfl, hb14⟩; have H14 := H13.below hb14; clear k1 k2 k3 k4 k5 k6 k7 k8 k9 k10 k11 k12; obtain ⟨k1, k2, k3, k4, k5, k6, k7, k8, k9, k10, k11, k12⟩ := H14.cells) | (go_at_call_of 16 (Value.agg #[Value.int IntKind.i64 bn, Value.int IntKind.i64 bd]); refine (HB.out _ H12.g).mono ?_; rintro e w13 ⟨rfl, hb13⟩; have H13 := H12.below hb13; clear k1 k2 k3 k4 k5 k6 k7 k8 k9 k10 k11 k12; obtain ⟨k1, k2, k3, k4, k5, k6, k7, k8, k9, k10, k11, k12⟩ := H13.cells) | (go_at_call_of 16 (Value.agg #[Value.int IntKind.i64 an, Value.int IntKind.i64 ad]); refine (HE.out _ H11.g).mono ?_; rintro e w12 ⟨rfl, hb12⟩; have H12 := H11.below hb12; clear k1 k2 k3 k4 k5 k6 k7 k8 k9 k10 k11 k12; obtain ⟨k1, k2, k3, k4, k5, k6, k7, k8, k9, k10, k11, k12⟩ := H12.cells) | (go_at_call 21; refine (HP.out _ H10.g).mono ?_; rintro e w11 ⟨rfl, hb11⟩; have H11 := H10.below hb11; clear k1 k2 k3 k4 k5 k6 k7 k8 k9 k10 k11 k12; obtain ⟨k1, k2, k3, k4, k5, k6, k7, k8, k9, k10, k11, k12⟩ := H11.cells) | (go_at_call_of 17 (Value.agg #[Value.int IntKind.i64 qn, Value.int IntKind.i64 qd]); refine (HX.out _ H9.g).mono ?_; rintro e w10 ⟨rfl, hb10⟩; have H10 := H9.below hb10; clear k1 k2 k3 k4 k5 k6 k7 k8 k9 k10 k11 k12; obtain ⟨k1, k2, k3, k4, k5, k6, k7, k8, k9, k10, k11, k12⟩ := H10.cells) | (go_at_call_of 10 v3; refine (HK3.out _ (H8.setY (.int .i64 qn) (.int .i64 qd)).g).mono ?_; rintro e w9 ⟨rfl, hb9⟩; have H9 := (H8.setY (.int .i64 qn) (.int .i64 qd)).below hb9; clear k1 k2 k3 k4 k5 k6 k7 k8 k9 k10 k11 k12; obtain ⟨k1, k2, k3, k4, k5, k6, k7, k8, k9, k10, k11, k12⟩ := H9.cells) | (go_at_call 20; refine (HO.out _ (H7.setX (.int .i64 qn) (.int .i64 qd)).g).mono ?_; rintro e w8 ⟨rfl, hb8⟩; have H8 := (H7.setX (.int .i64 qn) (.int .i64 qd)).below hb8; clear k1 k2 k3 k4 k5 k6 k7 k8 k9 k10 k11 k12; obtain ⟨k1, k2, k3, k4, k5, k6, k7, k8, k9, k10, k11, k12⟩ := H8.cells) | (go_at_call 19; refine (HR.out _ H6.g).mono ?_; rintro e w7 ⟨rfl, hb7⟩; have H7 := H6.below hb7; clear k1 k2 k3 k4 k5 k6 k7 k8 k9 k10 k11 k12; obtain ⟨k1, k2, k3, k4, k5, k6, k7, k8, k9, k10, k11, k12⟩ := H7.cells))
  go_ret
  exact ⟨rfl, H14.hw⟩

set_option maxHeartbeats 4000000 in
theorem makes_001 (E : Nat → Addr) (num den an ad bn bd xn xd qn qd e1 nn eq : Int) (s tb : ByteArray) (v1 v2 v3 : Value) (w : World) (h : GG E w) (hs : s.size ≤ 60) (heq : (eq == 0) = false)
    (cHH : ∀ W, GG E W → Calls Tryd.prog 12 #[] W fun e w' => e = .returned (.bool true) ∧ Below W.heap.size W w')
    (cHM : ∀ W, GG E W → Calls Tryd.prog 13 #[.int .i64 num, .int .i64 den] W fun e w' => e = .returned (.tuple #[.agg #[.int .i64 xn, .int .i64 xd], v1]) ∧ Below W.heap.size W w')
    (cHN : ∀ W, GG E W → Calls Tryd.prog 14 #[.int .i64 num, .int .i64 den] W fun e w' => e = .returned (.tuple #[.agg #[.int .i64 xn, .int .i64 xd], .int .i64 e1]) ∧ Below W.heap.size W w')
    (cHK1 : ∀ W, GG E W → Calls Tryd.prog 10 #[v1, .int .i64 e1] W fun e w' => e = .returned (.bool true) ∧ Below W.heap.size W w')
    (cHC : ∀ W, GG E W → Calls Tryd.prog 15 #[.agg #[.int .i64 an, .int .i64 ad]] W fun e w' => e = .returned (v2) ∧ Below W.heap.size W w')
    (cHE : ∀ W, GG E W → Calls Tryd.prog 16 #[.agg #[.int .i64 an, .int .i64 ad]] W fun e w' => e = .returned (.int .i64 0) ∧ Below W.heap.size W w')
    (cHK2 : ∀ W, GG E W → Calls Tryd.prog 10 #[v2, .int .i64 0] W fun e w' => e = .returned (.bool true) ∧ Below W.heap.size W w')
    (cHT : ∀ W, GG E W → Calls Tryd.prog 17 #[.agg #[.int .i64 an, .int .i64 ad]] W fun e w' => e = .returned (.string tb) ∧ Below W.heap.size W w')
    (cHU : ∀ W, GG E W → Calls Tryd.prog 18 #[.agg #[.int .i64 an, .int .i64 ad]] W fun e w' => e = .returned (.string tb) ∧ Below W.heap.size W w')
    (cHR : ∀ W, GG E W → Calls Tryd.prog 19 #[.string s] W fun e w' => e = .returned (.tuple #[.agg #[.int .i64 qn, .int .i64 qd], v3]) ∧ Below W.heap.size W w')
    (cHO : ∀ W, GG E W → Calls Tryd.prog 20 #[.string s] W fun e w' => e = .returned (.tuple #[.agg #[.int .i64 qn, .int .i64 qd], .int .i64 eq]) ∧ Below W.heap.size W w')
    (cHK3 : ∀ W, GG E W → Calls Tryd.prog 10 #[v3, .int .i64 eq] W fun e w' => e = .returned (.bool true) ∧ Below W.heap.size W w')
    (cHP : ∀ W, GG E W → Calls Tryd.prog 21 #[.agg #[.int .i64 an, .int .i64 ad], .agg #[.int .i64 bn, .int .i64 bd]] W fun e w' => e = .returned (.tuple #[.int .i64 nn, Value.nilIface]) ∧ Below W.heap.size W w')
    (cHB : ∀ W, GG E W → Calls Tryd.prog 16 #[.agg #[.int .i64 bn, .int .i64 bd]] W fun e w' => e = .returned (.int .i64 0) ∧ Below W.heap.size W w')
    (cHQ : ∀ W, GG E W → Calls Tryd.prog 22 #[.agg #[.int .i64 an, .int .i64 ad], .agg #[.int .i64 bn, .int .i64 bd]] W fun e w' => e = .returned (.int .i64 nn) ∧ Below W.heap.size W w') :
    Calls Tryd.prog 4 #[.int .i64 num, .int .i64 den, .agg #[.int .i64 an, .int .i64 ad], .agg #[.int .i64 bn, .int .i64 bd], .string s] w fun e w' => e = .returned (.bool true) ∧ Below w.heap.size w w' := by
  have HH : Hid (∀ W, GG E W → Calls Tryd.prog 12 #[] W fun e w' => e = .returned (.bool true) ∧ Below W.heap.size W w') := cHH
  clear cHH
  have HM : Hid (∀ W, GG E W → Calls Tryd.prog 13 #[.int .i64 num, .int .i64 den] W fun e w' => e = .returned (.tuple #[.agg #[.int .i64 xn, .int .i64 xd], v1]) ∧ Below W.heap.size W w') := cHM
  clear cHM
  have HN : Hid (∀ W, GG E W → Calls Tryd.prog 14 #[.int .i64 num, .int .i64 den] W fun e w' => e = .returned (.tuple #[.agg #[.int .i64 xn, .int .i64 xd], .int .i64 e1]) ∧ Below W.heap.size W w') := cHN
  clear cHN
  have HK1 : Hid (∀ W, GG E W → Calls Tryd.prog 10 #[v1, .int .i64 e1] W fun e w' => e = .returned (.bool true) ∧ Below W.heap.size W w') := cHK1
  clear cHK1
  have HC : Hid (∀ W, GG E W → Calls Tryd.prog 15 #[.agg #[.int .i64 an, .int .i64 ad]] W fun e w' => e = .returned (v2) ∧ Below W.heap.size W w') := cHC
  clear cHC
  have HE : Hid (∀ W, GG E W → Calls Tryd.prog 16 #[.agg #[.int .i64 an, .int .i64 ad]] W fun e w' => e = .returned (.int .i64 0) ∧ Below W.heap.size W w') := cHE
  clear cHE
  have HK2 : Hid (∀ W, GG E W → Calls Tryd.prog 10 #[v2, .int .i64 0] W fun e w' => e = .returned (.bool true) ∧ Below W.heap.size W w') := cHK2
  clear cHK2
  have HT : Hid (∀ W, GG E W → Calls Tryd.prog 17 #[.agg #[.int .i64 an, .int .i64 ad]] W fun e w' => e = .returned (.string tb) ∧ Below W.heap.size W w') := cHT
  clear cHT
  have HU : Hid (∀ W, GG E W → Calls Tryd.prog 18 #[.agg #[.int .i64 an, .int .i64 ad]] W fun e w' => e = .returned (.string tb) ∧ Below W.heap.size W w') := cHU
  clear cHU
  have HR : Hid (∀ W, GG E W → Calls Tryd.prog 19 #[.string s] W fun e w' => e = .returned (.tuple #[.agg #[.int .i64 qn, .int .i64 qd], v3]) ∧ Below W.heap.size W w') := cHR
  clear cHR
  have HO : Hid (∀ W, GG E W → Calls Tryd.prog 20 #[.string s] W fun e w' => e = .returned (.tuple #[.agg #[.int .i64 qn, .int .i64 qd], .int .i64 eq]) ∧ Below W.heap.size W w') := cHO
  clear cHO
  have HK3 : Hid (∀ W, GG E W → Calls Tryd.prog 10 #[v3, .int .i64 eq] W fun e w' => e = .returned (.bool true) ∧ Below W.heap.size W w') := cHK3
  clear cHK3
  have HP : Hid (∀ W, GG E W → Calls Tryd.prog 21 #[.agg #[.int .i64 an, .int .i64 ad], .agg #[.int .i64 bn, .int .i64 bd]] W fun e w' => e = .returned (.tuple #[.int .i64 nn, Value.nilIface]) ∧ Below W.heap.size W w') := cHP
  clear cHP
  have HB : Hid (∀ W, GG E W → Calls Tryd.prog 16 #[.agg #[.int .i64 bn, .int .i64 bd]] W fun e w' => e = .returned (.int .i64 0) ∧ Below W.heap.size W w') := cHB
  clear cHB
  have HQ : Hid (∀ W, GG E W → Calls Tryd.prog 22 #[.agg #[.int .i64 an, .int .i64 ad], .agg #[.int .i64 bn, .int .i64 bd]] W fun e w' => e = .returned (.int .i64 nn) ∧ Below W.heap.size W w') := cHQ
  clear cHQ
  have hs' : (s.size : Int) ≤ 60 := by omega
  go_enter Tryd.func4, Tryd.ntmps4
  go_wp2_with (first | (go_at_call 14; refine (HN.out _ (H2.alloc _).g).mono ?_; rintro e w3 ⟨rfl, hb3⟩; have H3 := (H2.alloc _).below hb3; have B3 := (Two.new w2 _ _ _).below hb3 (Nat.le_refl _); have z3 := hb3.size; simp only [World.size_alloc] at z3; clear k1 k2 k3 k4; obtain ⟨k1, k2, k3, k4⟩ := H3.cellsA; obtain ⟨k5, k6⟩ := B3.cellsA) | (go_at_call 13; refine (HM.out _ H1.g).mono ?_; rintro e w2 ⟨rfl, hb2⟩; have H2 := H1.below hb2; clear k1 k2 k3 k4; obtain ⟨k1, k2, k3, k4⟩ := H2.cellsA) | (go_at_call 12; refine (HH.out _ (K2.new h).g).mono ?_; rintro e w1 ⟨rfl, hb1⟩; have H1 := (K2.new h).below hb1; obtain ⟨k1, k2, k3, k4⟩ := H1.cells))
  clear k1 k2 k3 k4 k5 k6
  have H4 := M4.ofK2 h (H3.alloc (.cells #[.int .i64 xn, .int .i64 xd] 36)) (B3.alloc _) (Two.new w3 _ _ _) (cell_lt H2.b.c0) z3
  generalize w3.alloc (.cells #[.int .i64 xn, .int .i64 xd] 36) = W4 at H4 ⊢
  clear hb1 H1 hb2 hb3 H3 B3
  have qHK1 : ∀ d os, Calls Tryd.prog 10 #[v1, .int .i64 e1] (Go.Sort.grow (redrawn W4 d) os) fun e w'' => e = .returned (.bool true) ∧ ∃ p : Regrown, w'' = Go.Sort.grow (redrawn W4 p.d) p.os := fun d os => Calls.regrown_of (HK1.out _ (H4.g.below (below_regrown W4 d os) (Nat.le_refl _)))
  have qHC : ∀ d os, Calls Tryd.prog 15 #[.agg #[.int .i64 an, .int .i64 ad]] (Go.Sort.grow (redrawn W4 d) os) fun e w'' => e = .returned (v2) ∧ ∃ p : Regrown, w'' = Go.Sort.grow (redrawn W4 p.d) p.os := fun d os => Calls.regrown_of (HC.out _ (H4.g.below (below_regrown W4 d os) (Nat.le_refl _)))
  have qHE : ∀ d os, Calls Tryd.prog 16 #[.agg #[.int .i64 an, .int .i64 ad]] (Go.Sort.grow (redrawn W4 d) os) fun e w'' => e = .returned (.int .i64 0) ∧ ∃ p : Regrown, w'' = Go.Sort.grow (redrawn W4 p.d) p.os := fun d os => Calls.regrown_of (HE.out _ (H4.g.below (below_regrown W4 d os) (Nat.le_refl _)))
  have qHK2 : ∀ d os, Calls Tryd.prog 10 #[v2, .int .i64 0] (Go.Sort.grow (redrawn W4 d) os) fun e w'' => e = .returned (.bool true) ∧ ∃ p : Regrown, w'' = Go.Sort.grow (redrawn W4 p.d) p.os := fun d os => Calls.regrown_of (HK2.out _ (H4.g.below (below_regrown W4 d os) (Nat.le_refl _)))
  obtain ⟨k1, k2, k3, k4, k5, k6, k7, k8, -⟩ := H4.cells
  have r1 := cell_regrown k1
  have r2 := cell_regrown k2
  have r3 := cell_regrown k3
  have r4 := cell_regrown k4
  have r5 := cell_regrown k5
  have r6 := cell_regrown k6
  have r7 := cell_regrown k7
  have r8 := cell_regrown k8
  refine wp_region_quiet_below (by kernel_rfl) (by kernel_rfl) ?_
  repeat (quiet_step (first | (go_at_call_of 10 v1; exact qHK1 _ _) | (go_at_call 15; exact qHC _ _) | (go_at_call_of 16 (Value.agg #[Value.int IntKind.i64 an, Value.int IntKind.i64 ad]); exact qHE _ _) | (go_at_call_of 10 v2; exact qHK2 _ _)))
  refine wpQuiet_nil ?_
  intro _ hw'
  obtain ⟨p, hw''⟩ := hw'
  subst hw''
  clear r1 r2 r3 r4 r5 r6 r7 r8 k1 k2 k3 k4 k5 k6 k7 k8 qHK1 qHC qHE qHK2
  have H5 := H4.below (below_regrown W4 p.d p.os)
  generalize Go.Sort.grow (redrawn W4 p.d) p.os = W5 at H5 ⊢
  clear H4
  go_wp2
  have qHE : ∀ d os, Calls Tryd.prog 16 #[.agg #[.int .i64 an, .int .i64 ad]] (Go.Sort.grow (redrawn W5 d) os) fun e w'' => e = .returned (.int .i64 0) ∧ ∃ p : Regrown, w'' = Go.Sort.grow (redrawn W5 p.d) p.os := fun d os => Calls.regrown_of (HE.out _ (H5.g.below (below_regrown W5 d os) (Nat.le_refl _)))
  have qHT : ∀ d os, Calls Tryd.prog 17 #[.agg #[.int .i64 an, .int .i64 ad]] (Go.Sort.grow (redrawn W5 d) os) fun e w'' => e = .returned (.string tb) ∧ ∃ p : Regrown, w'' = Go.Sort.grow (redrawn W5 p.d) p.os := fun d os => Calls.regrown_of (HT.out _ (H5.g.below (below_regrown W5 d os) (Nat.le_refl _)))
  have qHU : ∀ d os, Calls Tryd.prog 18 #[.agg #[.int .i64 an, .int .i64 ad]] (Go.Sort.grow (redrawn W5 d) os) fun e w'' => e = .returned (.string tb) ∧ ∃ p : Regrown, w'' = Go.Sort.grow (redrawn W5 p.d) p.os := fun d os => Calls.regrown_of (HU.out _ (H5.g.below (below_regrown W5 d os) (Nat.le_refl _)))
  obtain ⟨k1, k2, k3, k4, k5, k6, k7, k8, -⟩ := H5.cells
  have r1 := cell_regrown k1
  have r2 := cell_regrown k2
  have r3 := cell_regrown k3
  have r4 := cell_regrown k4
  have r5 := cell_regrown k5
  have r6 := cell_regrown k6
  have r7 := cell_regrown k7
  have r8 := cell_regrown k8
  refine wp_region_quiet_below (by kernel_rfl) (by kernel_rfl) ?_
  repeat (quiet_step (first | (go_at_call_of 16 (Value.agg #[Value.int IntKind.i64 an, Value.int IntKind.i64 ad]); exact qHE _ _) | (go_at_call 17; exact qHT _ _) | (go_at_call 18; exact qHU _ _)))
  refine wpQuiet_nil ?_
  intro _ hw'
  obtain ⟨p, hw''⟩ := hw'
  subst hw''
  clear r1 r2 r3 r4 r5 r6 r7 r8 k1 k2 k3 k4 k5 k6 k7 k8 qHE qHT qHU
  have H6 := H5.below (below_regrown W5 p.d p.os)
  generalize Go.Sort.grow (redrawn W5 p.d) p.os = W6 at H6 ⊢
  clear H5
  obtain ⟨k1, k2, k3, k4, k5, k6, k7, k8, k9, k10, k11, k12⟩ := H6.cells
  go_wp2_with (first | (go_at_call 22; refine (HQ.out _ H12.g).mono ?_; rintro e w13 ⟨rfl, hb13⟩; have H13 := H12.below hb13; clear k1 k2 k3 k4 k5 k6 k7 k8 k9 k10 k11 k12; obtain ⟨k1, k2, k3, k4, k5, k6, k7, k8, k9, k10, k11, k12⟩ := H13.cells) | (go_at_call_of 16 (Value.agg #[Value.int IntKind.i64 bn, Value.int IntKind.i64 bd]); refine (HB.out _ H11.g).mono ?_; rintro e w12 ⟨rfl, hb12⟩; have H12 := H11.below hb12; clear k1 k2 k3 k4 k5 k6 k7 k8 k9 k10 k11 k12; obtain ⟨k1, k2, k3, k4, k5, k6, k7, k8, k9, k10, k11, k12⟩ := H12.cells) | (go_at_call_of 16 (Value.agg #[Value.int IntKind.i64 an, Value.int IntKind.i64 ad]); refine (HE.out _ H10.g).mono ?_; rintro e w11 ⟨rfl, hb11⟩; have H11 := H10.below hb11; clear k1 k2 k3 k4 k5 k6 k7 k8 k9 k10 k11 k12; obtain ⟨k1, k2, k3, k4, k5, k6, k7, k8, k9, k10, k11, k12⟩ := H11.cells) | (go_at_call 21; refine (HP.out _ H9.g).mono ?_; rintro e w10 ⟨rfl, hb10⟩; have H10 := H9.below hb10; clear k1 k2 k3 k4 k5 k6 k7 k8 k9 k10 k11 k12; obtain ⟨k1, k2, k3, k4, k5, k6, k7, k8, k9, k10, k11, k12⟩ := H10.cells) | (go_at_call_of 10 v3; refine (HK3.out _ (H8.setY (.int .i64 qn) (.int .i64 qd)).g).mono ?_; rintro e w9 ⟨rfl, hb9⟩; have H9 := (H8.setY (.int .i64 qn) (.int .i64 qd)).below hb9; clear k1 k2 k3 k4 k5 k6 k7 k8 k9 k10 k11 k12; obtain ⟨k1, k2, k3, k4, k5, k6, k7, k8, k9, k10, k11, k12⟩ := H9.cells) | (go_at_call 20; refine (HO.out _ (H7.setX (.int .i64 qn) (.int .i64 qd)).g).mono ?_; rintro e w8 ⟨rfl, hb8⟩; have H8 := (H7.setX (.int .i64 qn) (.int .i64 qd)).below hb8; clear k1 k2 k3 k4 k5 k6 k7 k8 k9 k10 k11 k12; obtain ⟨k1, k2, k3, k4, k5, k6, k7, k8, k9, k10, k11, k12⟩ := H8.cells) | (go_at_call 19; refine (HR.out _ H6.g).mono ?_; rintro e w7 ⟨rfl, hb7⟩; have H7 := H6.below hb7; clear k1 k2 k3 k4 k5 k6 k7 k8 k9 k10 k11 k12; obtain ⟨k1, k2, k3, k4, k5, k6, k7, k8, k9, k10, k11, k12⟩ := H7.cells))
  go_ret
  exact ⟨rfl, H13.hw⟩
end Go.Proofs.YtdeahgbjkogjgaaDoor

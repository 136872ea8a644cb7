/-
  slices.Backward over a list of moves that are all the same one.
-/
import Derived.Test.YtlnnpileegoglabGreatDoorMove16
import Derived.Test.YtlnnpileegoglabGreatDoorJ4
import Derived.Test.YtlnnpileegoglabGreatDoorJ8
namespace Go.Proofs.YtlnnpileegoglabGreatDoor
open Go.RowKit Go.Shelf

attribute [local go_sem] Oper.semAt_some

/-- j, j - 1, .., 0. -/
def downTo : Nat → List Nat
  | 0 => [0]
  | j + 1 => (j + 1) :: downTo j
/-- What has come when the numbers from j on downwards are still to come: n - 1, .., j + 1. -/
def camePre (n j : Nat) : List Nat := (List.range (n - 1 - j)).map (fun k => n - 1 - k)
theorem camePre_succ {n j : Nat} (h : j < n) : camePre n j ++ [j] = (List.range (n - j)).map (fun k => n - 1 - k) := by
  unfold camePre
  rw [show n - j = n - 1 - j + 1 by omega, List.range_succ, List.map_append]
  simp; omega
theorem camePre_len (n j : Nat) : (camePre n j).length = n - 1 - j := by simp [camePre]
def cameAll (n : Nat) : List Nat := (List.range n).map (fun k => n - 1 - k)
theorem camePre_next {n j : Nat} (h : j + 1 < n) : camePre n (j + 1) ++ [j + 1] = camePre n j := by
  rw [camePre_succ h, camePre, show n - (j + 1) = n - 1 - j by omega]
theorem camePre_last {n : Nat} (h : 0 < n) : camePre n 0 ++ [0] = cameAll n := by rw [camePre_succ h, cameAll]; rfl
theorem camePre_prefix {n j : Nat} (h : j < n) : camePre n j ++ [j] <+: cameAll n := by
  rw [camePre_succ h, cameAll]
  refine List.IsPrefix.map _ ?_
  refine ⟨(List.range j).map (fun k => (n - j) + k), ?_⟩
  rw [show List.range n = List.range ((n - j) + j) by congr 1; omega, List.range_add]

abbrev itemM (m : Mv) (j : Nat) : Array Value := #[.int .i64 j, .agg #[.int .i64 m.a.n, .int .i64 m.a.d, .int .i64 m.b.n, .int .i64 m.b.d, .int .i64 m.c.n, .int .i64 m.c.d, .int .i64 m.d.n, .int .i64 m.d.d, .int .i64 m.e.n, .int .i64 m.e.d, .int .i64 m.f.n, .int .i64 m.f.d]]

set_option maxRecDepth 100000 in
set_option maxHeartbeats 4000000 in
theorem back1_in (F : Fence) (n : Nat) (hf : F.fn 61) (hro : F.round = none) (hn : 1 ≤ n) (l Bl g len cap : Nat) (m : Mv) (hlen : 0 < len) (hlen' : len ≤ 1000) (Kp : World → World → Prop) (hKr : ∀ A, Kp A A) (hKt : ∀ A B C, Kp A B → Kp B C → Kp A C) (hKl : ∀ A B, Kp A B → B.cell? ⟨Bl, 0, none⟩ = A.cell? ⟨Bl, 0, none⟩) (hKg : ∀ A B, Kp A B → ∀ o, B.cell? ⟨g, o, none⟩ = A.cell? ⟨g, o, none⟩) (J Jx : List Nat → World → Prop)
    (hY : ∀ pre x W, J pre W → pre.length < len → YieldAt F (n - 1) Tryz.prog l #[.int .i64 (x : Nat), .agg #[.int .i64 m.a.n, .int .i64 m.a.d, .int .i64 m.b.n, .int .i64 m.b.d, .int .i64 m.c.n, .int .i64 m.c.d, .int .i64 m.d.n, .int .i64 m.d.d, .int .i64 m.e.n, .int .i64 m.e.d, .int .i64 m.f.n, .int .i64 m.f.d]] W fun e W' =>
      (e = .returned (.bool true) ∧ J (pre ++ [x]) W' ∧ Kp W W') ∨ (e = .returned (.bool false) ∧ Jx (pre ++ [x]) W'))
    (W : World) (hBl : W.cell? ⟨Bl, 0, none⟩ = some (.slice (some ⟨g, 0, none⟩) len cap))
    (hc : ∀ j, j < len → ∀ i u, [.int .i64 m.a.n, .int .i64 m.a.d, .int .i64 m.b.n, .int .i64 m.b.d, .int .i64 m.c.n, .int .i64 m.c.d, .int .i64 m.d.n, .int .i64 m.d.d, .int .i64 m.e.n, .int .i64 m.e.d, .int .i64 m.f.n, .int .i64 m.f.d][i]? = some u → W.cell? ⟨g, j * 12 + i, none⟩ = some u) (h0 : J [] W) :
    CallsIn F n Tryz.prog 61 #[.func (.yield l) #[] #[], .pointer (some ⟨Bl, 0, none⟩)] W fun e W' => (∃ v, e = .returned v) ∧
      ((∃ ys, ys = cameAll len ∧ J ys W') ∨ (∃ pre, pre <+: cameAll len ∧ Jx pre W')) := by
  refine callsIn_of_wp Tryz.func61 rfl hf ?_ hro
  simp only [Tryz.ntmps61, List.size_toArray, List.length_cons, List.length_nil, Nat.reduceAdd, Nat.reduceSub, Array.replicate_succ, Array.replicate_zero, List.push_toArray, List.append_toArray, List.nil_append, List.cons_append]
  have hl1 : IntKind.i64.wrap ((len : Int) - 1) = ((len - 1 : Nat) : Int) := by rw [i64_in (by omega) (by omega)]; omega
  gi_wp2
  gi_loopw [3] (fun i wr => ((∃ j : Nat, j < len ∧ i = .int .i64 j ∧ J (camePre len j) wr) ∨ (i = .int .i64 (-1) ∧ J (cameAll len) wr)) ∧ Kp W wr)
    (fun i _ => (intOf i + 1).toNat)
  case atStart =>
    refine ⟨.inl ⟨len - 1, by omega, ?_, ?_⟩, hKr _⟩
    · congr 1
    · rw [show camePre len (len - 1) = [] by simp [camePre]]; exact h0
  case round =>
    obtain ⟨hcase, hnx⟩ := hrel
    rcases hcase with ⟨j, hj, rfl, hJs⟩ | ⟨rfl, hJs⟩
    · have cl := (hKl _ _ hnx).trans hBl
      have hcj := fun i u h => (hKg _ _ hnx (j * 12 + i)).trans (hc j hj i u h)
      obtain ⟨m0, m1, m2, m3, m4, m5, m6, m7, m8, m9, m10, m11⟩ := And.intro (hcj 0 _ rfl) (And.intro (hcj 1 _ rfl) (And.intro (hcj 2 _ rfl) (And.intro (hcj 3 _ rfl) (And.intro (hcj 4 _ rfl) (And.intro (hcj 5 _ rfl) (And.intro (hcj 6 _ rfl) (And.intro (hcj 7 _ rfl) (And.intro (hcj 8 _ rfl) (And.intro (hcj 9 _ rfl) (And.intro (hcj 10 _ rfl) (hcj 11 _ rfl)))))))))))
      clear hcj
      simp only [Nat.add_zero] at m0
      obtain ⟨fn, tmps, assign, body, hy, hR⟩ := hY _ j wr hJs (by rw [camePre_len]; omega)
      gi_wp2
      refine hR.mono ?_
      rintro e W3 (⟨rfl, hJ3, hk3⟩ | ⟨rfl, hJx3⟩)
      · gi_wp2
        go_roundw
        case rel =>
          refine ⟨?_, hKt _ _ _ hnx hk3⟩
          cases j with
          | zero => exact .inr ⟨by simp, by rw [← camePre_last hlen]; exact hJ3⟩
          | succ j => exact .inl ⟨j, by omega, by simp, by rw [← camePre_next hj]; exact hJ3⟩
        case measure => simp [intOf]
      · gi_wp2
        refine bodyPost_ret (results_none rfl _ _ _) rfl ?_
        exact ⟨⟨_, rfl⟩, .inr ⟨_, camePre_prefix hj, hJx3⟩⟩
    · gi_wp2
      go_end0
      exact ⟨⟨_, rfl⟩, .inl ⟨_, rfl, hJs⟩⟩

theorem backward_any (v : Value) (a : Option Addr) (n c : Nat) (hv : v = .slice a n c) (W : World) : Calls Tryz.prog 42 #[v] W fun e w' => e = .returned (.func (.func 61) #[] #[.pointer (some ⟨W.heap.size, 0, none⟩)]) ∧ w' = W.alloc (.cells #[v] 79) := by
  subst hv
  have hmf : ∀ (fn : Fn) (first cap : Array Value) (w : World), (Instr.makeFunc fn first cap).run Tryz.prog w = .ok (.func fn first cap) w := fun _ _ _ _ => rfl
  go_enter Tryz.func42, Tryz.ntmps42
  go_wp2
  go_ret
  exact ⟨rfl, rfl⟩

end Go.Proofs.YtlnnpileegoglabGreatDoor

namespace Go.Proofs.YtlnnpileegoglabGreatDoor
open Go.RowKit Go.Shelf

attribute [local go_sem] Oper.semAt_some

/-- Two blocks aside, all that was there is as it was. -/
structure KeepX (E A n₀ : Nat) (W W' : World) : Prop where
  block : ∀ k, k < n₀ → k ≠ E → k ≠ A → W'.heap[k]? = W.heap[k]?
theorem KeepX.refl (E A n₀ : Nat) (W : World) : KeepX E A n₀ W W := ⟨fun _ _ _ _ => rfl⟩
theorem KeepX.trans {E A n₀ : Nat} {X Y Z : World} (h : KeepX E A n₀ X Y) (k : KeepX E A n₀ Y Z) : KeepX E A n₀ X Z := ⟨fun i h1 h2 h3 => (k.block i h1 h2 h3).trans (h.block i h1 h2 h3)⟩
theorem KeepX.of_below {E A n₀ : Nat} {X Y : World} (h : Below X.heap.size X Y) (hn : n₀ ≤ X.heap.size) : KeepX E A n₀ X Y := ⟨fun i h1 _ _ => h.block i (by omega)⟩
theorem KeepX.setE {E A n₀ : Nat} {X Y : World} (h : KeepX E A n₀ X Y) (o : Nat) (v : Value) : KeepX E A n₀ X (Y.setCell ⟨E, o, none⟩ v) := ⟨fun i h1 h2 h3 => (Below.heap_setCell _ _ _ i h2).trans (h.block i h1 h2 h3)⟩
theorem KeepX.putA {E A n₀ : Nat} {X : World} : ∀ (vs : List Value) (o : Nat) {Y : World}, KeepX E A n₀ X Y → KeepX E A n₀ X (put Y A o vs)
  | [], _, _, h => h
  | _ :: vs, o, _, h => KeepX.putA vs (o + 1) ⟨fun i h1 h2 h3 => (Below.heap_setCell _ _ _ i h3).trans (h.block i h1 h2 h3)⟩
theorem KeepX.put {E A n₀ : Nat} (W : World) (l : Nat) (o' : Obj) (hl : n₀ ≤ l) : KeepX E A n₀ W (W.putObj l o') := ⟨fun i h1 _ _ => World.putObj_heap_other (by omega)⟩
theorem isSome_of {α : Type} {o : Option α} {v : α} (h : o = some v) : o.isSome = true := by rw [h]; rfl
theorem put_keeps : ∀ (vs : List Value) (o R : Nat) (W : World), KeepsOthers W (put W R o vs)
  | [], _, _, W => KeepsOthers.refl W
  | _ :: vs, o, R, W => (KeepsOthers.setCell W _ _).trans (put_keeps vs (o + 1) R _)
/-- A block of twelve cells that is open to stores. -/
def Open12 (W : World) (R : Nat) (vs : List Value) : Prop := vs.length = 12 ∧ (∀ i u, vs[i]? = some u → W.cell? ⟨R, i, none⟩ = some u) ∧ (∀ i, i < 12 → W.frozen? ⟨R, i, none⟩ = false)
theorem Open12.of_blk {W : World} {R : Nat} {vs : List Value} {t : TypeId} (h : Blk W R vs.toArray t) (hl : vs.length = 12) : Open12 W R vs :=
  ⟨hl, fun i u hu => h.cell i u (by simpa using hu), fun i hi => h.froz i vs[i] (by simp [hl ▸ hi])⟩
theorem frozen_put {p : Addr} : ∀ (vs : List Value) (o R : Nat) (W : World), (put W R o vs).frozen? p = W.frozen? p
  | [], _, _, _ => rfl
  | _ :: vs, o, R, _ => (frozen_put vs (o + 1) R _).trans (World.frozen?_setCell _ _ _ _)
theorem Open12.put {W : World} {R : Nat} {vs us : List Value} (h : Open12 W R vs) (hl : us.length = 12) : Open12 (put W R 0 us) R us := by
  refine ⟨hl, fun i u hu => ?_, fun i hi => (frozen_put us 0 R W).trans (h.2.2 i hi)⟩
  have := put_at (R := R) us 0 W (fun i hi => by rw [Nat.zero_add, h.2.1 i (vs[i]'(by rw [h.1]; omega)) (by simp)]; rfl) i u hu
  rwa [Nat.zero_add] at this
theorem Open12.set_other {W : World} {R E o : Nat} {vs : List Value} {v : Value} (h : Open12 W R vs) (hE : R ≠ E) : Open12 (W.setCell ⟨E, o, none⟩ v) R vs :=
  ⟨h.1, fun i u hu => (World.cell?_setCell_far _ _ _ _ (fun e => hE e.symm)).trans (h.2.1 i u hu), fun i hi => (World.frozen?_setCell _ _ _ _).trans (h.2.2 i hi)⟩
theorem Open12.put_other {W : World} {R R' : Nat} {vs us : List Value} (h : Open12 W R vs) (hE : R ≠ R') : Open12 (Go.Proofs.YtlnnpileegoglabGreatDoor.put W R' 0 us) R vs :=
  ⟨h.1, fun i u hu => (put_cell (p := ⟨R, i, none⟩) hE us 0 W).trans (h.2.1 i u hu), fun i hi => (frozen_put us 0 R' W).trans (h.2.2 i hi)⟩
theorem Open12.kept {W W' : World} {R : Nat} {vs : List Value} {row : Option Nat} (h : Open12 W R vs) (hg : W.grownBy W' row) (hr : ∀ r, row = some r → ∃ o : Obj, W.heap[r]? = some o ∧ o.isCells = false) : Open12 W' R vs :=
  ⟨h.1, fun i u hu => cell_kept (h.2.1 i u hu) hg hr, fun i hi => by
    have := h.2.1 i (vs[i]'(by rw [h.1]; omega)) (by simp)
    exact (frozen_kept this hg hr).trans (h.2.2 i hi)⟩
theorem Open12.below {W W' : World} {R : Nat} {vs : List Value} (h : Open12 W R vs) (hb : Below W.heap.size W W') : Open12 W' R vs :=
  ⟨h.1, fun i u hu => (hb.cell (cell_lt (h.2.1 i u hu))).trans (h.2.1 i u hu), fun i hi => by
    have := h.2.1 i (vs[i]'(by rw [h.1]; omega)) (by simp)
    exact (hb.frozen (p := ⟨R, i, none⟩) (cell_lt this)).trans (h.2.2 i hi)⟩

set_option maxRecDepth 100000 in
set_option maxHeartbeats 8000000 in
theorem Read_in (s : ByteArray) (m : Mv) (n : Nat) (acc : Nat → Mv) (W : World) (hn : 0 < n) (hn' : n ≤ 1000) (ha : acc 0 = .one)
    (HL : ∀ V, Below W.heap.size W V → Calls Tryz.prog 41 #[.string s] V fun e w' => (∃ g cap, e = .returned (.tuple #[.slice (some ⟨g, 0, none⟩) n cap, .nilIface]) ∧ g < w'.heap.size ∧ ∀ j, j < n → ∀ i u, [.int .i64 m.a.n, .int .i64 m.a.d, .int .i64 m.b.n, .int .i64 m.b.d, .int .i64 m.c.n, .int .i64 m.c.d, .int .i64 m.d.n, .int .i64 m.d.d, .int .i64 m.e.n, .int .i64 m.e.d, .int .i64 m.f.n, .int .i64 m.f.d][i]? = some u → w'.cell? ⟨g, j * 12 + i, none⟩ = some u) ∧ Below V.heap.size V w')
    (HT : ∀ k, k < n → ∀ V, Below W.heap.size W V → Calls Tryz.prog 12 #[mv (acc k), mv m] V fun e w' => e = .returned (.tuple #[mv (acc (k + 1)), .nilIface]) ∧ Below V.heap.size V w') :
    CallsIn Fence.wide 9 Tryz.prog 20 #[.string s] W fun e w' => e = .returned (.tuple #[mv (acc n), .nilIface]) ∧ Below W.heap.size W w' := by
  have HO := One_any
  have HB := backward_any
  have L0 := ((Below.refl W.heap.size W).alloc (Nat.le_refl _) (.cells #[.int .i64 0, .int .i64 0, .int .i64 0, .int .i64 0, .int .i64 0, .int .i64 0, .int .i64 0, .int .i64 0, .int .i64 0, .int .i64 0, .int .i64 0, .int .i64 0] 30)).alloc (by simp) (.cells #[.nilIface] 33)
  have R0 : Blk ((W.alloc (.cells #[.int .i64 0, .int .i64 0, .int .i64 0, .int .i64 0, .int .i64 0, .int .i64 0, .int .i64 0, .int .i64 0, .int .i64 0, .int .i64 0, .int .i64 0, .int .i64 0] 30)).alloc (.cells #[.nilIface] 33)) W.heap.size #[.int .i64 0, .int .i64 0, .int .i64 0, .int .i64 0, .int .i64 0, .int .i64 0, .int .i64 0, .int .i64 0, .int .i64 0, .int .i64 0, .int .i64 0, .int .i64 0] 30 := (Blk.new W _ _).alloc _
  have Q0 := Blk.new (W.alloc (.cells #[.int .i64 0, .int .i64 0, .int .i64 0, .int .i64 0, .int .i64 0, .int .i64 0, .int .i64 0, .int .i64 0, .int .i64 0, .int .i64 0, .int .i64 0, .int .i64 0] 30)) #[.nilIface] 33
  rw [World.size_alloc] at Q0
  refine callsIn_of_wp_marks Tryz.func20 rfl trivial ?_ rfl
  simp only [Tryz.ntmps20, List.size_toArray, List.length_cons, List.length_nil, Nat.reduceAdd, Nat.reduceSub, Array.replicate_succ, Array.replicate_zero, List.push_toArray, List.append_toArray, List.nil_append, List.cons_append]
  gi_wp2_with (first | (refine ⟨trivial, ?_⟩; gi_at_call 42; refine (callsIn_wide.2 (HB _ _ _ _ rfl _)).mono ?_; rintro e w' ⟨rfl, rfl⟩) | (refine ⟨trivial, ?_⟩; gi_at_call 13; refine (callsIn_wide.2 (HO _)).mono ?_; rintro e w2 ⟨rfl, hb2⟩; dsimp only [Mv.one, Fr.whole]) | (refine ⟨trivial, ?_⟩; gi_at_call 41; refine (callsIn_wide.2 (HL _ L0)).mono ?_; rintro e w1 ⟨⟨g, cap, rfl, hg, hcells⟩, hb1⟩))
  have sz1 := hb1.size
  simp only [World.size_alloc] at sz1
  have sz2 := hb2.size
  simp only [World.size_alloc] at sz2
  have e1 : (w1.alloc (.cells #[.nilIface] 33)).heap.size = w1.heap.size + 1 := by simp
  have E2 := (Blk.new w1 #[.nilIface] 33).below hb2 (Nat.le_refl _)
  have R2 := ((R0.below hb1 (Nat.le_refl _)).alloc (.cells #[.nilIface] 33)).below hb2 (Nat.le_refl _)
  have Q2 := ((Q0.below hb1 (Nat.le_refl _)).alloc (.cells #[.nilIface] 33)).below hb2 (Nat.le_refl _)
  have L2 := ((L0.trans (hb1.mono (by simp; omega))).alloc (by omega) (.cells #[.nilIface] 33)).trans (hb2.mono (by simp; omega))
  have hc2 : ∀ j, j < n → ∀ i u, [.int .i64 m.a.n, .int .i64 m.a.d, .int .i64 m.b.n, .int .i64 m.b.d, .int .i64 m.c.n, .int .i64 m.c.d, .int .i64 m.d.n, .int .i64 m.d.d, .int .i64 m.e.n, .int .i64 m.e.d, .int .i64 m.f.n, .int .i64 m.f.d][i]? = some u → w2.cell? ⟨g, j * 12 + i, none⟩ = some u := fun j hj i u hu => (hb2.cell (p := ⟨g, j * 12 + i, none⟩) (by simp; omega)).trans (cell_al _ (hcells j hj i u hu))
  obtain ⟨U, hU⟩ : ∃ U, (w2.alloc (.cells #[.int .i64 1, .int .i64 1, .int .i64 0, .int .i64 1, .int .i64 0, .int .i64 1, .int .i64 1, .int .i64 1, .int .i64 0, .int .i64 1, .int .i64 0, .int .i64 1] 30)).alloc (.cells #[.slice (some ⟨g, 0, none⟩) n cap] 79) = U := ⟨_, rfl⟩
  have szU : U.heap.size = w2.heap.size + 2 := by rw [← hU]; simp
  have A3 : Blk U w2.heap.size #[.int .i64 1, .int .i64 1, .int .i64 0, .int .i64 1, .int .i64 0, .int .i64 1, .int .i64 1, .int .i64 1, .int .i64 0, .int .i64 1, .int .i64 0, .int .i64 1] 30 := by rw [← hU]; exact (Blk.new w2 _ _).alloc _
  have C3 : U.cell? ⟨w2.heap.size + 1, 0, none⟩ = some (.slice (some ⟨g, 0, none⟩) n cap) := by rw [← hU]; exact cell_at (by simp) rfl
  have E3 : Blk U w1.heap.size #[.nilIface] 33 := by rw [← hU]; exact (E2.alloc _).alloc _
  have R3 : Blk U W.heap.size #[.int .i64 0, .int .i64 0, .int .i64 0, .int .i64 0, .int .i64 0, .int .i64 0, .int .i64 0, .int .i64 0, .int .i64 0, .int .i64 0, .int .i64 0, .int .i64 0] 30 := by rw [← hU]; exact (R2.alloc _).alloc _
  have Q3 : Blk U (W.heap.size + 1) #[.nilIface] 33 := by rw [← hU]; exact (Q2.alloc _).alloc _
  have L3 : Below W.heap.size W U := by rw [← hU]; exact (L2.alloc (by omega) _).alloc (by simp; omega) _
  have hc3 : ∀ j, j < n → ∀ i u, [.int .i64 m.a.n, .int .i64 m.a.d, .int .i64 m.b.n, .int .i64 m.b.d, .int .i64 m.c.n, .int .i64 m.c.d, .int .i64 m.d.n, .int .i64 m.d.d, .int .i64 m.e.n, .int .i64 m.e.d, .int .i64 m.f.n, .int .i64 m.f.d][i]? = some u → U.cell? ⟨g, j * 12 + i, none⟩ = some u := fun j hj i u hu => by rw [← hU]; exact cell_al _ (cell_al _ (hc2 j hj i u hu))
  rw [hU]
  clear hU L2 hc2 hcells R0 Q0 E2 R2 Q2
  refine wpIn_rangeFunc_ownH rfl (by omega) (gf := 61) (lb := #[.pointer (some ⟨w2.heap.size + 1, 0, none⟩)]) rfl trivial (enters_of Tryz.func61 (by kernel_rfl) rfl)
    (encs := fun x : Nat => itemM m x) (Kp := KeepX w1.heap.size w2.heap.size U.heap.size) (S := fun ys => ys = cameAll n) (Sp := fun pre => pre <+: cameAll n) (N := n) (w0 := U)
    (fun l J Jx X hX _ _ hY h0 => back1_in Fence.wide _ trivial rfl (by omega) l (w2.heap.size + 1) g n cap m hn hn' _ (KeepX.refl _ _ _) (fun _ _ _ => KeepX.trans)
      (fun A B h => World.cell?_of_block (h.block (w2.heap.size + 1) (by omega) (by omega) (by omega))) (fun A B h o => World.cell?_of_block (h.block g (by omega) (by omega) (by omega))) J Jx hY X ((hX.cell (p := ⟨w2.heap.size + 1, 0, none⟩) (by simp only; omega)).trans C3) (fun j hj i u hu => (hX.cell (p := ⟨g, j * 12 + i, none⟩) (by simp only; omega)).trans (hc3 j hj i u hu)) h0)
    KeepX.trans (fun X l o o' hl _ _ _ => KeepX.put X l o' hl) (Below.refl _ _) (fun _ => rfl)
    (fun pre X => (Open12 X w2.heap.size [.int .i64 (acc pre.length).a.n, .int .i64 (acc pre.length).a.d, .int .i64 (acc pre.length).b.n, .int .i64 (acc pre.length).b.d, .int .i64 (acc pre.length).c.n, .int .i64 (acc pre.length).c.d, .int .i64 (acc pre.length).d.n, .int .i64 (acc pre.length).d.d, .int .i64 (acc pre.length).e.n, .int .i64 (acc pre.length).e.d, .int .i64 (acc pre.length).f.n, .int .i64 (acc pre.length).f.d] ∧ (X.cell? ⟨w1.heap.size, 0, none⟩ = some .nilIface ∧ X.frozen? ⟨w1.heap.size, 0, none⟩ = false) ∧ Open12 X W.heap.size [.int .i64 0, .int .i64 0, .int .i64 0, .int .i64 0, .int .i64 0, .int .i64 0, .int .i64 0, .int .i64 0, .int .i64 0, .int .i64 0, .int .i64 0, .int .i64 0] ∧ (X.cell? ⟨W.heap.size + 1, 0, none⟩ = some .nilIface ∧ X.frozen? ⟨W.heap.size + 1, 0, none⟩ = false) ∧ U.heap.size ≤ X.heap.size) ∧ Below W.heap.size W X)
    (fun _ _ _ => False)
    (OwnFrom.and (Own.from (fun pre A B row hs hg hr => ⟨hs.1.kept hg hr, ⟨cell_kept hs.2.1.1 hg hr, (frozen_kept hs.2.1.1 hg hr).trans hs.2.1.2⟩, hs.2.2.1.kept hg hr, ⟨cell_kept hs.2.2.2.1.1 hg hr, (frozen_kept hs.2.2.2.1.1 hg hr).trans hs.2.2.2.1.2⟩, Nat.le_trans hs.2.2.2.2 hg.size⟩) _) (ownFrom_below (Nat.le_refl _) (by omega)))
    (fun _ _ _ _ _ h _ _ => h)
    ⟨⟨by simp only [List.length_nil, ha]; exact Open12.of_blk (vs := [.int .i64 1, .int .i64 1, .int .i64 0, .int .i64 1, .int .i64 0, .int .i64 1, .int .i64 1, .int .i64 1, .int .i64 0, .int .i64 1, .int .i64 0, .int .i64 1]) A3 rfl, ⟨E3.cell 0 _ rfl, E3.froz 0 _ rfl⟩, Open12.of_blk (vs := [.int .i64 0, .int .i64 0, .int .i64 0, .int .i64 0, .int .i64 0, .int .i64 0, .int .i64 0, .int .i64 0, .int .i64 0, .int .i64 0, .int .i64 0, .int .i64 0]) R3 rfl, ⟨Q3.cell 0 _ rfl, Q3.froz 0 _ rfl⟩, Nat.le_refl _⟩, L3⟩
    (fun x a' X => ∃ Bx, U.heap.size ≤ Bx ∧ Open12 X Bx [.int .i64 m.a.n, .int .i64 m.a.d, .int .i64 m.b.n, .int .i64 m.b.d, .int .i64 m.c.n, .int .i64 m.c.d, .int .i64 m.d.n, .int .i64 m.d.d, .int .i64 m.e.n, .int .i64 m.e.d, .int .i64 m.f.n, .int .i64 m.f.d] ∧ a' = { tmps := #[.string s, undef, .pointer (some ⟨W.heap.size, 0, none⟩), .pointer (some ⟨W.heap.size + 1, 0, none⟩), .slice (some ⟨g, 0, none⟩) n cap, .pointer (some ⟨w1.heap.size, 0, none⟩), .pointer (some ⟨w2.heap.size, 0, none⟩), undef, .pointer (some ⟨Bx, 0, none⟩), .tuple #[.slice (some ⟨g, 0, none⟩) n cap, .nilIface], .string s, .tuple #[.slice (some ⟨g, 0, none⟩) n cap, .nilIface], .slice (some ⟨g, 0, none⟩) n cap, .nilIface, .nilIface, .bool false, undef, undef, .agg #[.int .i64 1, .int .i64 1, .int .i64 0, .int .i64 1, .int .i64 0, .int .i64 1, .int .i64 1, .int .i64 1, .int .i64 0, .int .i64 1, .int .i64 0, .int .i64 1], .slice (some ⟨g, 0, none⟩) n cap, .func (.func 61) #[] #[.pointer (some ⟨w2.heap.size + 1, 0, none⟩)], .int .i64 (x : Nat), .agg #[.int .i64 m.a.n, .int .i64 m.a.d, .int .i64 m.b.n, .int .i64 m.b.d, .int .i64 m.c.n, .int .i64 m.c.d, .int .i64 m.d.n, .int .i64 m.d.d, .int .i64 m.e.n, .int .i64 m.e.d, .int .i64 m.f.n, .int .i64 m.f.d], undef, undef, undef, undef, undef, undef, undef, undef, undef, undef, undef], defers := [] })
    (fun x a' s A B row hs hg hr => by obtain ⟨Bx, h1, h2, h3⟩ := hs; exact ⟨Bx, h1, h2.kept hg (fun r e => (hr r e).2), h3⟩)
    ?assign ?body ?done ?stop
  case assign =>
    rintro l pre x X K ⟨⟨h1, ⟨h2, h2f⟩, h3, ⟨h4, h4f⟩, hU⟩, hB⟩ hK
    gi_wp2
    have hs := hB.size
    have hal := (Below.refl X.heap.size X).alloc (Nat.le_refl _) (.cells #[.int .i64 m.a.n, .int .i64 m.a.d, .int .i64 m.b.n, .int .i64 m.b.d, .int .i64 m.c.n, .int .i64 m.c.d, .int .i64 m.d.n, .int .i64 m.d.d, .int .i64 m.e.n, .int .i64 m.e.d, .int .i64 m.f.n, .int .i64 m.f.d] 30)
    exact hK _ _ ((KeepsOthers.alloc _ _).from _) (KeepX.of_below hal hU) ⟨⟨h1.below hal, ⟨cell_al _ h2, froz_al _ h2 h2f⟩, h3.below hal, ⟨cell_al _ h4, froz_al _ h4 h4f⟩, Nat.le_trans hU hal.size⟩, hB.alloc hs _⟩ ⟨X.heap.size, hU, Open12.of_blk (vs := [.int .i64 m.a.n, .int .i64 m.a.d, .int .i64 m.b.n, .int .i64 m.b.d, .int .i64 m.c.n, .int .i64 m.c.d, .int .i64 m.d.n, .int .i64 m.d.d, .int .i64 m.e.n, .int .i64 m.e.d, .int .i64 m.f.n, .int .i64 m.f.d]) (Blk.new X _ _) rfl, rfl⟩
  case body =>
    rintro l pre x a' X hl hr ⟨⟨h1, ⟨h2, h2f⟩, h3, ⟨h4, h4f⟩, hU⟩, hB⟩ ⟨Bx, hBx, hM, rfl⟩ hlen
    have HK := HT pre.length hlen X hB
    have ac0 := h1.2.1 0 _ rfl
    have mc0 := hM.2.1 0 _ rfl
    have ac1 := h1.2.1 1 _ rfl
    have mc1 := hM.2.1 1 _ rfl
    have ac2 := h1.2.1 2 _ rfl
    have mc2 := hM.2.1 2 _ rfl
    have ac3 := h1.2.1 3 _ rfl
    have mc3 := hM.2.1 3 _ rfl
    have ac4 := h1.2.1 4 _ rfl
    have mc4 := hM.2.1 4 _ rfl
    have ac5 := h1.2.1 5 _ rfl
    have mc5 := hM.2.1 5 _ rfl
    have ac6 := h1.2.1 6 _ rfl
    have mc6 := hM.2.1 6 _ rfl
    have ac7 := h1.2.1 7 _ rfl
    have mc7 := hM.2.1 7 _ rfl
    have ac8 := h1.2.1 8 _ rfl
    have mc8 := hM.2.1 8 _ rfl
    have ac9 := h1.2.1 9 _ rfl
    have mc9 := hM.2.1 9 _ rfl
    have ac10 := h1.2.1 10 _ rfl
    have mc10 := hM.2.1 10 _ rfl
    have ac11 := h1.2.1 11 _ rfl
    have mc11 := hM.2.1 11 _ rfl
    have ne1 : ¬ w1.heap.size = w2.heap.size := by omega
    have ne2 : ¬ w2.heap.size = w1.heap.size := by omega
    gi_wp2_with ((refine ⟨trivial, ?_⟩; gi_at_call 12; refine (CallsIn.inRound l (callsIn_wide.2 HK)).mono ?_; rintro e w' ⟨rfl, hb'⟩; have h1' := h1.below hb'; have hz' := hb'.size; have bc0 := h1'.2.1 0 _ rfl; have bf0 := h1'.2.2 0 (by omega); have bc1 := h1'.2.1 1 _ rfl; have bf1 := h1'.2.2 1 (by omega); have bc2 := h1'.2.1 2 _ rfl; have bf2 := h1'.2.2 2 (by omega); have bc3 := h1'.2.1 3 _ rfl; have bf3 := h1'.2.2 3 (by omega); have bc4 := h1'.2.1 4 _ rfl; have bf4 := h1'.2.2 4 (by omega); have bc5 := h1'.2.1 5 _ rfl; have bf5 := h1'.2.2 5 (by omega); have bc6 := h1'.2.1 6 _ rfl; have bf6 := h1'.2.2 6 (by omega); have bc7 := h1'.2.1 7 _ rfl; have bf7 := h1'.2.2 7 (by omega); have bc8 := h1'.2.1 8 _ rfl; have bf8 := h1'.2.2 8 (by omega); have bc9 := h1'.2.1 9 _ rfl; have bf9 := h1'.2.2 9 (by omega); have bc10 := h1'.2.1 10 _ rfl; have bf10 := h1'.2.2 10 (by omega); have bc11 := h1'.2.1 11 _ rfl; have bf11 := h1'.2.2 11 (by omega); have ec := (hb'.cell (p := ⟨w1.heap.size, 0, none⟩) (cell_lt h2)).trans h2; have ef := (hb'.frozen (p := ⟨w1.heap.size, 0, none⟩) (cell_lt h2)).trans h2f))
    have h3' := h3.below hb'
    have c4 := (hb'.cell (p := ⟨W.heap.size + 1, 0, none⟩) (cell_lt h4)).trans h4
    have f4 := (hb'.frozen (p := ⟨W.heap.size + 1, 0, none⟩) (cell_lt h4)).trans h4f
    have hlenp : (pre ++ [x]).length = pre.length + 1 := by simp
    refine ⟨(((below_others hb').trans (put_keeps [.int .i64 (acc (pre.length + 1)).a.n, .int .i64 (acc (pre.length + 1)).a.d, .int .i64 (acc (pre.length + 1)).b.n, .int .i64 (acc (pre.length + 1)).b.d, .int .i64 (acc (pre.length + 1)).c.n, .int .i64 (acc (pre.length + 1)).c.d, .int .i64 (acc (pre.length + 1)).d.n, .int .i64 (acc (pre.length + 1)).d.d, .int .i64 (acc (pre.length + 1)).e.n, .int .i64 (acc (pre.length + 1)).e.d, .int .i64 (acc (pre.length + 1)).f.n, .int .i64 (acc (pre.length + 1)).f.d] 0 w2.heap.size w')).trans (KeepsOthers.setCell _ _ _)).from _, ((KeepX.of_below hb' hU).putA [.int .i64 (acc (pre.length + 1)).a.n, .int .i64 (acc (pre.length + 1)).a.d, .int .i64 (acc (pre.length + 1)).b.n, .int .i64 (acc (pre.length + 1)).b.d, .int .i64 (acc (pre.length + 1)).c.n, .int .i64 (acc (pre.length + 1)).c.d, .int .i64 (acc (pre.length + 1)).d.n, .int .i64 (acc (pre.length + 1)).d.d, .int .i64 (acc (pre.length + 1)).e.n, .int .i64 (acc (pre.length + 1)).e.d, .int .i64 (acc (pre.length + 1)).f.n, .int .i64 (acc (pre.length + 1)).f.d] 0).setE 0 .nilIface, ⟨?_, ⟨?_, ?_⟩, ?_, ⟨?_, ?_⟩, ?_⟩, ?_⟩
    · rw [hlenp]; exact (h1'.put (us := [.int .i64 (acc (pre.length + 1)).a.n, .int .i64 (acc (pre.length + 1)).a.d, .int .i64 (acc (pre.length + 1)).b.n, .int .i64 (acc (pre.length + 1)).b.d, .int .i64 (acc (pre.length + 1)).c.n, .int .i64 (acc (pre.length + 1)).c.d, .int .i64 (acc (pre.length + 1)).d.n, .int .i64 (acc (pre.length + 1)).d.d, .int .i64 (acc (pre.length + 1)).e.n, .int .i64 (acc (pre.length + 1)).e.d, .int .i64 (acc (pre.length + 1)).f.n, .int .i64 (acc (pre.length + 1)).f.d]) rfl).set_other ne2
    · exact World.cell?_setCell_same' _ _ _ (isSome_of ((put_cell (p := ⟨w1.heap.size, 0, none⟩) (R := w2.heap.size) ne1 [.int .i64 (acc (pre.length + 1)).a.n, .int .i64 (acc (pre.length + 1)).a.d, .int .i64 (acc (pre.length + 1)).b.n, .int .i64 (acc (pre.length + 1)).b.d, .int .i64 (acc (pre.length + 1)).c.n, .int .i64 (acc (pre.length + 1)).c.d, .int .i64 (acc (pre.length + 1)).d.n, .int .i64 (acc (pre.length + 1)).d.d, .int .i64 (acc (pre.length + 1)).e.n, .int .i64 (acc (pre.length + 1)).e.d, .int .i64 (acc (pre.length + 1)).f.n, .int .i64 (acc (pre.length + 1)).f.d] 0 w').trans ec))
    · exact (World.frozen?_setCell _ _ _ _).trans ((frozen_put [.int .i64 (acc (pre.length + 1)).a.n, .int .i64 (acc (pre.length + 1)).a.d, .int .i64 (acc (pre.length + 1)).b.n, .int .i64 (acc (pre.length + 1)).b.d, .int .i64 (acc (pre.length + 1)).c.n, .int .i64 (acc (pre.length + 1)).c.d, .int .i64 (acc (pre.length + 1)).d.n, .int .i64 (acc (pre.length + 1)).d.d, .int .i64 (acc (pre.length + 1)).e.n, .int .i64 (acc (pre.length + 1)).e.d, .int .i64 (acc (pre.length + 1)).f.n, .int .i64 (acc (pre.length + 1)).f.d] 0 w2.heap.size w').trans ef)
    · exact (h3'.put_other (us := [.int .i64 (acc (pre.length + 1)).a.n, .int .i64 (acc (pre.length + 1)).a.d, .int .i64 (acc (pre.length + 1)).b.n, .int .i64 (acc (pre.length + 1)).b.d, .int .i64 (acc (pre.length + 1)).c.n, .int .i64 (acc (pre.length + 1)).c.d, .int .i64 (acc (pre.length + 1)).d.n, .int .i64 (acc (pre.length + 1)).d.d, .int .i64 (acc (pre.length + 1)).e.n, .int .i64 (acc (pre.length + 1)).e.d, .int .i64 (acc (pre.length + 1)).f.n, .int .i64 (acc (pre.length + 1)).f.d]) (R' := w2.heap.size) (by omega)).set_other (by omega)
    · exact (World.cell?_setCell_far _ _ _ _ (by simp only; omega)).trans ((put_cell (p := ⟨W.heap.size + 1, 0, none⟩) (R := w2.heap.size) (by simp only; omega) [.int .i64 (acc (pre.length + 1)).a.n, .int .i64 (acc (pre.length + 1)).a.d, .int .i64 (acc (pre.length + 1)).b.n, .int .i64 (acc (pre.length + 1)).b.d, .int .i64 (acc (pre.length + 1)).c.n, .int .i64 (acc (pre.length + 1)).c.d, .int .i64 (acc (pre.length + 1)).d.n, .int .i64 (acc (pre.length + 1)).d.d, .int .i64 (acc (pre.length + 1)).e.n, .int .i64 (acc (pre.length + 1)).e.d, .int .i64 (acc (pre.length + 1)).f.n, .int .i64 (acc (pre.length + 1)).f.d] 0 w').trans c4)
    · exact (World.frozen?_setCell _ _ _ _).trans ((frozen_put [.int .i64 (acc (pre.length + 1)).a.n, .int .i64 (acc (pre.length + 1)).a.d, .int .i64 (acc (pre.length + 1)).b.n, .int .i64 (acc (pre.length + 1)).b.d, .int .i64 (acc (pre.length + 1)).c.n, .int .i64 (acc (pre.length + 1)).c.d, .int .i64 (acc (pre.length + 1)).d.n, .int .i64 (acc (pre.length + 1)).d.d, .int .i64 (acc (pre.length + 1)).e.n, .int .i64 (acc (pre.length + 1)).e.d, .int .i64 (acc (pre.length + 1)).f.n, .int .i64 (acc (pre.length + 1)).f.d] 0 w2.heap.size w').trans f4)
    · have := (put_below (B := 0) (A := w') (R := w2.heap.size) (Nat.zero_le _) [.int .i64 (acc (pre.length + 1)).a.n, .int .i64 (acc (pre.length + 1)).a.d, .int .i64 (acc (pre.length + 1)).b.n, .int .i64 (acc (pre.length + 1)).b.d, .int .i64 (acc (pre.length + 1)).c.n, .int .i64 (acc (pre.length + 1)).c.d, .int .i64 (acc (pre.length + 1)).d.n, .int .i64 (acc (pre.length + 1)).d.d, .int .i64 (acc (pre.length + 1)).e.n, .int .i64 (acc (pre.length + 1)).e.d, .int .i64 (acc (pre.length + 1)).f.n, .int .i64 (acc (pre.length + 1)).f.d] 0 (Below.refl 0 w')).size
      simp only [World.size_setCell] at *
      omega
    · exact (put_below (R := w2.heap.size) (by omega) [.int .i64 (acc (pre.length + 1)).a.n, .int .i64 (acc (pre.length + 1)).a.d, .int .i64 (acc (pre.length + 1)).b.n, .int .i64 (acc (pre.length + 1)).b.d, .int .i64 (acc (pre.length + 1)).c.n, .int .i64 (acc (pre.length + 1)).c.d, .int .i64 (acc (pre.length + 1)).d.n, .int .i64 (acc (pre.length + 1)).d.d, .int .i64 (acc (pre.length + 1)).e.n, .int .i64 (acc (pre.length + 1)).e.d, .int .i64 (acc (pre.length + 1)).f.n, .int .i64 (acc (pre.length + 1)).f.d] 0 (hB.trans (hb'.mono hB.size))).setCell (p := ⟨w1.heap.size, 0, none⟩) (by simp only; omega) _
  case done =>
    rintro D ys X hD rfl ⟨⟨h1, ⟨h2, h2f⟩, h3, ⟨h4, h4f⟩, hU⟩, hB⟩ hK
    have hcl : (cameAll n).length = n := by simp [cameAll]
    rw [hcl] at h1
    have ac0 := h1.2.1 0 _ rfl
    have rc0 := h3.2.1 0 _ rfl
    have rf0 := h3.2.2 0 (by omega)
    have ac1 := h1.2.1 1 _ rfl
    have rc1 := h3.2.1 1 _ rfl
    have rf1 := h3.2.2 1 (by omega)
    have ac2 := h1.2.1 2 _ rfl
    have rc2 := h3.2.1 2 _ rfl
    have rf2 := h3.2.2 2 (by omega)
    have ac3 := h1.2.1 3 _ rfl
    have rc3 := h3.2.1 3 _ rfl
    have rf3 := h3.2.2 3 (by omega)
    have ac4 := h1.2.1 4 _ rfl
    have rc4 := h3.2.1 4 _ rfl
    have rf4 := h3.2.2 4 (by omega)
    have ac5 := h1.2.1 5 _ rfl
    have rc5 := h3.2.1 5 _ rfl
    have rf5 := h3.2.2 5 (by omega)
    have ac6 := h1.2.1 6 _ rfl
    have rc6 := h3.2.1 6 _ rfl
    have rf6 := h3.2.2 6 (by omega)
    have ac7 := h1.2.1 7 _ rfl
    have rc7 := h3.2.1 7 _ rfl
    have rf7 := h3.2.2 7 (by omega)
    have ac8 := h1.2.1 8 _ rfl
    have rc8 := h3.2.1 8 _ rfl
    have rf8 := h3.2.2 8 (by omega)
    have ac9 := h1.2.1 9 _ rfl
    have rc9 := h3.2.1 9 _ rfl
    have rf9 := h3.2.2 9 (by omega)
    have ac10 := h1.2.1 10 _ rfl
    have rc10 := h3.2.1 10 _ rfl
    have rf10 := h3.2.2 10 (by omega)
    have ac11 := h1.2.1 11 _ rfl
    have rc11 := h3.2.1 11 _ rfl
    have rf11 := h3.2.2 11 (by omega)
    have ne3 : ¬ W.heap.size = w2.heap.size := by omega
    have ne4 : ¬ w2.heap.size = W.heap.size := by omega
    have ne5 : ¬ W.heap.size + 1 = W.heap.size := by omega
    have ne6 : ¬ W.heap.size = W.heap.size + 1 := by omega
    gi_wp2
    have hK' := ((put_keeps [.int .i64 (acc n).a.n, .int .i64 (acc n).a.d, .int .i64 (acc n).b.n, .int .i64 (acc n).b.d, .int .i64 (acc n).c.n, .int .i64 (acc n).c.d, .int .i64 (acc n).d.n, .int .i64 (acc n).d.d, .int .i64 (acc n).e.n, .int .i64 (acc n).e.d, .int .i64 (acc n).f.n, .int .i64 (acc n).f.d] 0 W.heap.size X).trans (KeepsOthers.setCell _ ⟨W.heap.size + 1, 0, none⟩ .nilIface)).same D _ hK rfl
    refine ⟨by simp, .inl ⟨_, _, rfl, run_takeDeferred hK', ?_⟩⟩
    have hO : Open12 ((((((((((((((X.setCell ⟨W.heap.size, 0, none⟩ (.int .i64 (acc n).a.n)).setCell ⟨W.heap.size, 1, none⟩ (.int .i64 (acc n).a.d)).setCell ⟨W.heap.size, 2, none⟩ (.int .i64 (acc n).b.n)).setCell ⟨W.heap.size, 3, none⟩ (.int .i64 (acc n).b.d)).setCell ⟨W.heap.size, 4, none⟩ (.int .i64 (acc n).c.n)).setCell ⟨W.heap.size, 5, none⟩ (.int .i64 (acc n).c.d)).setCell ⟨W.heap.size, 6, none⟩ (.int .i64 (acc n).d.n)).setCell ⟨W.heap.size, 7, none⟩ (.int .i64 (acc n).d.d)).setCell ⟨W.heap.size, 8, none⟩ (.int .i64 (acc n).e.n)).setCell ⟨W.heap.size, 9, none⟩ (.int .i64 (acc n).e.d)).setCell ⟨W.heap.size, 10, none⟩ (.int .i64 (acc n).f.n)).setCell ⟨W.heap.size, 11, none⟩ (.int .i64 (acc n).f.d)).setCell ⟨W.heap.size + 1, 0, none⟩ .nilIface).putObj D (.deferred none)) W.heap.size [.int .i64 (acc n).a.n, .int .i64 (acc n).a.d, .int .i64 (acc n).b.n, .int .i64 (acc n).b.d, .int .i64 (acc n).c.n, .int .i64 (acc n).c.d, .int .i64 (acc n).d.n, .int .i64 (acc n).d.d, .int .i64 (acc n).e.n, .int .i64 (acc n).e.d, .int .i64 (acc n).f.n, .int .i64 (acc n).f.d] := ((h3.put (us := [.int .i64 (acc n).a.n, .int .i64 (acc n).a.d, .int .i64 (acc n).b.n, .int .i64 (acc n).b.d, .int .i64 (acc n).c.n, .int .i64 (acc n).c.d, .int .i64 (acc n).d.n, .int .i64 (acc n).d.d, .int .i64 (acc n).e.n, .int .i64 (acc n).e.d, .int .i64 (acc n).f.n, .int .i64 (acc n).f.d]) rfl).set_other (o := 0) (v := .nilIface) ne6).kept (grownBy_putObj' _ D (.deferred none)) (fun r e => by cases e; exact ⟨_, hK', rfl⟩)
    have hQ : ((((((((((((((X.setCell ⟨W.heap.size, 0, none⟩ (.int .i64 (acc n).a.n)).setCell ⟨W.heap.size, 1, none⟩ (.int .i64 (acc n).a.d)).setCell ⟨W.heap.size, 2, none⟩ (.int .i64 (acc n).b.n)).setCell ⟨W.heap.size, 3, none⟩ (.int .i64 (acc n).b.d)).setCell ⟨W.heap.size, 4, none⟩ (.int .i64 (acc n).c.n)).setCell ⟨W.heap.size, 5, none⟩ (.int .i64 (acc n).c.d)).setCell ⟨W.heap.size, 6, none⟩ (.int .i64 (acc n).d.n)).setCell ⟨W.heap.size, 7, none⟩ (.int .i64 (acc n).d.d)).setCell ⟨W.heap.size, 8, none⟩ (.int .i64 (acc n).e.n)).setCell ⟨W.heap.size, 9, none⟩ (.int .i64 (acc n).e.d)).setCell ⟨W.heap.size, 10, none⟩ (.int .i64 (acc n).f.n)).setCell ⟨W.heap.size, 11, none⟩ (.int .i64 (acc n).f.d)).setCell ⟨W.heap.size + 1, 0, none⟩ .nilIface).putObj D (.deferred none)).cell? ⟨W.heap.size + 1, 0, none⟩ = some .nilIface := cell_kept (World.cell?_setCell_same' _ _ .nilIface (isSome_of ((put_cell (p := ⟨W.heap.size + 1, 0, none⟩) (R := W.heap.size) ne5 [.int .i64 (acc n).a.n, .int .i64 (acc n).a.d, .int .i64 (acc n).b.n, .int .i64 (acc n).b.d, .int .i64 (acc n).c.n, .int .i64 (acc n).c.d, .int .i64 (acc n).d.n, .int .i64 (acc n).d.d, .int .i64 (acc n).e.n, .int .i64 (acc n).e.d, .int .i64 (acc n).f.n, .int .i64 (acc n).f.d] 0 X).trans h4))) (grownBy_putObj' _ D (.deferred none)) (fun r e => by cases e; exact ⟨_, hK', rfl⟩)
    have oc0 := hO.2.1 0 _ rfl
    have oc1 := hO.2.1 1 _ rfl
    have oc2 := hO.2.1 2 _ rfl
    have oc3 := hO.2.1 3 _ rfl
    have oc4 := hO.2.1 4 _ rfl
    have oc5 := hO.2.1 5 _ rfl
    have oc6 := hO.2.1 6 _ rfl
    have oc7 := hO.2.1 7 _ rfl
    have oc8 := hO.2.1 8 _ rfl
    have oc9 := hO.2.1 9 _ rfl
    have oc10 := hO.2.1 10 _ rfl
    have oc11 := hO.2.1 11 _ rfl
    clear hO
    have hL := (put_below (R := W.heap.size) (Nat.le_refl _) [.int .i64 (acc n).a.n, .int .i64 (acc n).a.d, .int .i64 (acc n).b.n, .int .i64 (acc n).b.d, .int .i64 (acc n).c.n, .int .i64 (acc n).c.d, .int .i64 (acc n).d.n, .int .i64 (acc n).d.d, .int .i64 (acc n).e.n, .int .i64 (acc n).e.d, .int .i64 (acc n).f.n, .int .i64 (acc n).f.d] 0 hB).setCell (p := ⟨W.heap.size + 1, 0, none⟩) (by simp only; omega) .nilIface
    refine ⟨.tuple #[mv (acc n), .nilIface], ?_, rfl, hL.trans (belowK_b (w := W) (Nat.le_refl _) _ D _ _ (by omega) hK' rfl rfl)⟩
    simp [results, Tryz.results20, go_sem, hQ, oc0, oc1, oc2, oc3, oc4, oc5, oc6, oc7, oc8, oc9, oc10, oc11]
  case stop =>
    rintro D c pre X _ _ h _
    exact h.elim

end Go.Proofs.YtlnnpileegoglabGreatDoor

namespace Go.Proofs.YtlnnpileegoglabGreatDoor
open Go.RowKit

/-- The three errors that reading and moving name. -/
structure E4 (aT aB aS : Addr) (w : World) : Prop where
  e3 : E3 aB aS aB w
  t : w.cell? ⟨1, 0, none⟩ = some (.iface 180 (.pointer (some aT)))
theorem E4.below {aT aB aS : Addr} {w w' : World} {B : Nat} (h : E4 aT aB aS w) (hb : Below B w w') (hB : w.heap.size ≤ B) : E4 aT aB aS w' := ⟨h.e3.below hb hB, (hb.cell (Nat.lt_of_lt_of_le (cell_lt h.t) hB)).trans h.t⟩
theorem E4.alloc {aT aB aS : Addr} {w : World} (h : E4 aT aB aS w) (o : Obj) : E4 aT aB aS (w.alloc o) := h.below ((Below.refl w.heap.size w).alloc (Nat.le_refl _) o) (Nat.le_refl _)

theorem read_ok {aT aB aS : Addr} (s : ByteArray) (x : Fr) (hs : s.size ≤ 100) (hr : rd s.data.toList = ⟨x.n, x.d, 0⟩) (V : World) (h : E4 aT aB aS V) :
    Calls Tryz.prog 86 #[.string s] V fun e w' => e = .returned (.tuple #[.agg #[.int .i64 x.n, .int .i64 x.d], .nilIface]) ∧ Below V.heap.size V w' := by
  have := Read_any aT aB aS aB s V h.e3 h.t (by omega)
  rw [hr] at this
  exact this

abbrev bOneTwo : ByteArray := ⟨#[109, 111, 118, 101, 32, 49, 32, 50]⟩
theorem rd_1 : rd [49] = ⟨1, 1, 0⟩ := by kernel_rfl
theorem rd_2 : rd [50] = ⟨2, 1, 0⟩ := by kernel_rfl
theorem count_12 : Lib.countB bOneTwo ⟨#[32]⟩ = 2 := by decide +kernel
theorem split_12 : Lib.splitB ⟨#[32]⟩ 0 2 bOneTwo = [bMove, ⟨#[49]⟩, ⟨#[50]⟩] := by decide +kernel

theorem list_12 {aT aB aS : Addr} (W : World) (h : E4 aT aB aS W) :
    Calls Tryz.prog 41 #[.string bOneTwo] W fun e w' => (∃ g cap, e = .returned (.tuple #[.slice (some ⟨g, 0, none⟩) 1 cap, .nilIface]) ∧ w'.ownsRow W.heap.size 30 12 (.slice (some ⟨g, 0, none⟩) 1 cap) 1 [.int .i64 1, .int .i64 1, .int .i64 0, .int .i64 1, .int .i64 0, .int .i64 1, .int .i64 1, .int .i64 1, .int .i64 1, .int .i64 1, .int .i64 2, .int .i64 1]) ∧ Below W.heap.size W w' :=
  readList_frac2 bOneTwo bMove ⟨#[49]⟩ ⟨#[50]⟩ (Mv.shift (.whole 1) (.whole 2)) 76 W (by decide) (by decide +kernel) count_12 split_12 kindOf_move
    (fun V b B hV hB h1 h2 => shift2 b 1 2 B ⟨#[49]⟩ ⟨#[50]⟩ (.whole 1) (.whole 2) _ V hB h1 h2
      (fun U hU => read_ok _ _ (by decide) rd_1 U ((h.below hV (Nat.le_refl _)).below hU (Nat.le_refl _))) (fun U hU => read_ok _ _ (by decide) rd_2 U ((h.below hV (Nat.le_refl _)).below hU (Nat.le_refl _)))
      (fun U g c hU k0 k1 k2 k3 => shift_any g c (.whole 1) (.whole 2) U k0 k1 k2 k3))

theorem ok_all {m : Mv} (h : m.ok) : m.i64 := ⟨ok_i64 h.1, ok_i64 h.2.1, ok_i64 h.2.2.1, ok_i64 h.2.2.2.1, ok_i64 h.2.2.2.2.1, ok_i64 h.2.2.2.2.2⟩
theorem shift_ok : (Mv.shift (.whole 1) (.whole 2)).ok := ⟨whole_ok (by decide), whole_ok (by decide), whole_ok (by decide), whole_ok (by decide), whole_ok (by decide), whole_ok (by decide)⟩

theorem Read_12 {aT aB aS : Addr} (W : World) (h : E4 aT aB aS W) :
    Calls Tryz.prog 20 #[.string bOneTwo] W fun e w' => e = .returned (.tuple #[mv (Mv.shift (.whole 1) (.whole 2)), .nilIface]) ∧ Below W.heap.size W w' := by
  have := Read_in bOneTwo (Mv.shift (.whole 1) (.whole 2)) 1 (fun k => if k = 0 then .one else Mv.shift (.whole 1) (.whole 2)) W (by decide) (by decide) rfl
    (fun V hV => (list_12 V (h.below hV (Nat.le_refl _))).mono fun e w' ⟨⟨g, cap, he, ho⟩, hb⟩ => by
      obtain ⟨g', c', h1, _, h3, _, _, h6⟩ := ownsRow_pos ho
      obtain rfl : g = g' := by cases h1; rfl
      exact ⟨⟨g, cap, he, h3, fun j hj i u hu => by obtain rfl : j = 0 := by omega
                                                    rw [Nat.zero_mul, Nat.zero_add]; exact h6 i u hu⟩, hb⟩)
    (fun k hk V hV => by
      obtain rfl : k = 0 := by omega
      exact Then_ok (ok_all one_ok) (ok_all shift_ok) (one_thenR shift_ok) V (h.below hV (Nat.le_refl _)).e3)
  exact callsIn_wide.1 this

theorem At_12 {aT aB aS : Addr} (W : World) (h : E4 aT aB aS W) :
    Calls Tryz.prog 14 #[mv (Mv.shift (.whole 1) (.whole 2)), pv ⟨.whole 0, .whole 0⟩] W fun e w' => e = .returned (.tuple #[pv ⟨.whole 1, .whole 2⟩, .nilIface]) ∧ Below W.heap.size W w' :=
  At_ok (ok_all shift_ok) ⟨ok_i64 z_ok, ok_i64 z_ok⟩ (atR_ok shift_ok ⟨z_ok, z_ok⟩ (moved_0 shift_ok)) W h.e3

set_option maxHeartbeats 2000000 in
theorem moved_true {aT aB aS : Addr} (W : World) (h : E4 aT aB aS W) :
    Calls Tryz.prog 5 #[] W fun e w' => e = .returned (.bool true) ∧ Below W.heap.size W w' := by
  have HR := Read_12 W h
  have HA := fun V hV => At_12 (aT := aT) (aB := aB) (aS := aS) V hV
  dsimp only [Mv.shift, Fr.whole, mv, pv] at HR HA
  go_enter Tryz.func5, Tryz.ntmps5
  go_wp2_with (first | (go_at_call 14; refine (HA _ ((h.below hb1 (Nat.le_refl _)).alloc _)).mono ?_; rintro e w2 ⟨rfl, hb2⟩) | (go_at_call 20; refine HR.mono ?_; rintro e w1 ⟨rfl, hb1⟩))
  go_ret
  exact ⟨rfl, ((hb1.alloc hb1.size _).trans (hb2.mono (by have := hb1.size; simp; omega))).alloc (by have := hb1.size; have := hb2.size; simp at *; omega) _⟩

end Go.Proofs.YtlnnpileegoglabGreatDoor

namespace Go.Proofs.YtlnnpileegoglabGreatDoor

/-- The kinds of moves in a text. -/
inductive Kd where
  | move
  | scale
  | turn
  | skew
def Kd.n : Kd → Nat
  | .move => 2
  | .scale => 2
  | .turn => 1
  | .skew => 1
def kdOf (b : ByteArray) : Option Kd := if b = bMove then some .move else if b = bScale then some .scale else if b = bTurn then some .turn else if b = bSkew then some .skew else none

def rdF (a : ByteArray) : Fr := ⟨(rd a.data.toList).n, (rd a.data.toList).d⟩
def rdC (a : ByteArray) : Nat := (rd a.data.toList).c
def rd2 (mk : Fr → Fr → Mv) (a b : ByteArray) : Mv × Nat := if rdC a ≠ 0 then (.zero, rdC a) else if rdC b ≠ 0 then (.zero, rdC b) else (mk (rdF a) (rdF b), 0)
def rd1 (mk : Fr → Mv) (a : ByteArray) : Mv × Nat := if rdC a ≠ 0 then (.zero, rdC a) else (mk (rdF a), 0)
def turnR (a : ByteArray) : Mv × Nat :=
  if a = ⟨#[48]⟩ then (.turn 1 0, 0) else if a = ⟨#[49]⟩ then (.turn 0 1, 0) else if a = ⟨#[50]⟩ then (.turn (-1) 0, 0) else if a = ⟨#[51]⟩ then (.turn 0 (-1), 0) else (.zero, 1)
/-- A kind's words, read. -/
def kdR : Kd → List ByteArray → Mv × Nat
  | .move, a :: b :: _ => rd2 Mv.shift a b
  | .scale, a :: b :: _ => rd2 Mv.scale a b
  | .turn, a :: _ => turnR a
  | .skew, a :: _ => rd1 Mv.skew a
  | _, _ => (.zero, 1)

/-- The list of moves in words, behind those that have been read; or an error's number. -/
def readL : Nat → List ByteArray → List Mv → List Mv × Nat
  | _, [], acc => (acc, 0)
  | 0, _ :: _, _ => ([], 1)
  | f + 1, k :: ws, acc => match kdOf k with
    | none => ([], 1)
    | some kd => if ws.length < kd.n then ([], 1) else if (kdR kd ws).2 = 0 then readL f (ws.drop kd.n) (acc ++ [(kdR kd ws).1]) else ([], (kdR kd ws).2)

/-- Moves, one behind the other: what they are together, or an error's number. -/
def foldR : Mv → List Mv → Mv × Nat
  | m, [] => (m, 0)
  | m, n :: l => if (thenS m n).2 = 0 then foldR (thenS m n).1 l else (.zero, 2)

def words (s : ByteArray) : List ByteArray := Lib.splitB ⟨#[32]⟩ 0 (Lib.countB s ⟨#[32]⟩) s
def listR (s : ByteArray) : List Mv × Nat := if s.size = 0 then ([], 0) else readL (words s).length (words s) []
/-- What Read answers. -/
def readR (s : ByteArray) : Mv × Nat := if (listR s).2 = 0 then foldR .one (listR s).1.reverse else (.zero, (listR s).2)

theorem rd_ok {l : List UInt8} (h : (rd l).c = 0) : chk (rd l).n (rd l).d = 0 := by
  unfold rd at h ⊢
  cases hn : numTxt (ahead 47 l) with
  | none => rw [hn] at h; cases h
  | some n =>
    rw [hn] at h; simp only at h ⊢
    cases hb : behind 47 l with
    | none =>
      rw [hb] at h; simp only [ck] at h ⊢
      split at h
      · rename_i hc; simp [hc]
      · rename_i hc; exact (hc h).elim
    | some b =>
      rw [hb] at h; simp only at h ⊢
      split at h
      · rename_i hd
        simp only [ck] at h ⊢
        split at h
        · rename_i hc; simp [hd, hc]
        · rename_i hc; exact (hc h).elim
      · cases h
theorem rdF_ok {a : ByteArray} (h : rdC a = 0) : (rdF a).ok := rd_ok h
theorem shift_ok' {x y : Fr} (hx : x.ok) (hy : y.ok) : (Mv.shift x y).ok := ⟨whole_ok (by decide), whole_ok (by decide), whole_ok (by decide), whole_ok (by decide), hx, hy⟩
theorem scale_ok' {x y : Fr} (hx : x.ok) (hy : y.ok) : (Mv.scale x y).ok := ⟨hx, whole_ok (by decide), whole_ok (by decide), hy, whole_ok (by decide), whole_ok (by decide)⟩
theorem skew_ok' {x : Fr} (hx : x.ok) : (Mv.skew x).ok := ⟨whole_ok (by decide), whole_ok (by decide), hx, whole_ok (by decide), whole_ok (by decide), whole_ok (by decide)⟩
theorem turn_ok' {c s : Int} (hc : c.natAbs ≤ 1) (hs : s.natAbs ≤ 1) : (Mv.turn c s).ok := ⟨whole_ok (by omega), whole_ok (by omega), whole_ok (by omega), whole_ok (by omega), whole_ok (by decide), whole_ok (by decide)⟩
theorem rd2_ok {mk : Fr → Fr → Mv} (hm : ∀ x y, x.ok → y.ok → (mk x y).ok) {a b : ByteArray} (h : (rd2 mk a b).2 = 0) : (rd2 mk a b).1.ok := by
  unfold rd2 at h ⊢
  by_cases h1 : rdC a = 0
  · rw [if_neg (by simp [h1])] at h ⊢
    by_cases h2 : rdC b = 0
    · rw [if_neg (by simp [h2])]; exact hm _ _ (rdF_ok h1) (rdF_ok h2)
    · rw [if_pos h2] at h; exact (h2 h).elim
  · rw [if_pos h1] at h; exact (h1 h).elim
theorem kdR_ok {kd : Kd} {ws : List ByteArray} (h : (kdR kd ws).2 = 0) : (kdR kd ws).1.ok := by
  unfold kdR at h ⊢
  split
  · exact rd2_ok (fun _ _ => shift_ok') h
  · exact rd2_ok (fun _ _ => scale_ok') h
  · simp only [turnR] at h ⊢
    repeat' split
    all_goals first | exact turn_ok' (by decide) (by decide) | skip
    rename_i h1 h2 h3 h4
    simp [h1, h2, h3, h4] at h
  · simp only [rd1] at h ⊢
    split
    · rename_i h1; rw [if_pos h1] at h; exact (h1 h).elim
    · rename_i h1; exact skew_ok' (rdF_ok (by simpa using h1))
  · rename_i h1 h2 h3 h4
    exfalso
    revert h
    split
    · exact (h1 _ _ _ rfl rfl).elim
    · exact (h2 _ _ _ rfl rfl).elim
    · exact (h3 _ _ rfl rfl).elim
    · exact (h4 _ _ rfl rfl).elim
    · intro h; cases h
theorem readL_ok : ∀ (f : Nat) (ws : List ByteArray) (acc : List Mv), (∀ m ∈ acc, m.ok) → (readL f ws acc).2 = 0 → ∀ m ∈ (readL f ws acc).1, m.ok
  | _, [], acc, h, _ => by simpa [readL] using h
  | 0, _ :: _, _, _, h => by simp [readL] at h
  | f + 1, k :: ws, acc, ha, h => by
    unfold readL at h ⊢
    cases hk : kdOf k with
    | none => rw [hk] at h; simp at h
    | some kd =>
      rw [hk] at h
      simp only at h ⊢
      by_cases hl : ws.length < kd.n
      · rw [if_pos hl] at h; simp at h
      · rw [if_neg hl] at h ⊢
        by_cases hc : (kdR kd ws).2 = 0
        · rw [if_pos hc] at h ⊢
          exact readL_ok f _ _ (fun m hm => by rcases List.mem_append.1 hm with h | h; exact ha m h; simp at h; subst h; exact kdR_ok hc) h
        · rw [if_neg hc] at h; exact (hc h).elim

end Go.Proofs.YtlnnpileegoglabGreatDoor

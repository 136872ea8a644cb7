/-
  Package move's Read, where the list that is read has one move again and again.
-/
import Derived.Test.YtdilieoobkldhabDoorMove17
namespace Go.Proofs.YtdilieoobkldhabDoor
open Go.RowKit Go.Shelf

attribute [local go_sem] Oper.semAt_some

/-- Two blocks aside, all that was there is as it was. -/
structure KeepX (E A n₀ : Nat) (W W' : World) : Prop where
  block : ∀ k, k < n₀ → k ≠ E → k ≠ A → W'.heap[k]? = W.heap[k]?
theorem KeepX.refl (E A n₀ : Nat) (W : World) : KeepX E A n₀ W W := ⟨fun _ _ _ _ => rfl⟩
theorem KeepX.trans {E A n₀ : Nat} {X Y Z : World} (h : KeepX E A n₀ X Y) (k : KeepX E A n₀ Y Z) : KeepX E A n₀ X Z := ⟨fun i h1 h2 h3 => (k.block i h1 h2 h3).trans (h.block i h1 h2 h3)⟩
theorem KeepX.of_below {E A n₀ : Nat} {X Y : World} (h : Below X.heap.size X Y) (hn : n₀ ≤ X.heap.size) : KeepX E A n₀ X Y := ⟨fun i h1 _ _ => h.block i (by omega)⟩
theorem KeepX.setE {E A n₀ : Nat} {X Y : World} (h : KeepX E A n₀ X Y) (o : Nat) (v : Value) : KeepX E A n₀ X (Y.setCell ⟨E, o, none⟩ v) := ⟨fun i h1 h2 h3 => (Below.heap_setCell _ _ _ i h2).trans (h.block i h1 h2 h3)⟩
theorem KeepX.putA {E A n₀ : Nat} {X : World} : ∀ (vs : List Value) (o : Nat) {Y : World}, KeepX E A n₀ X Y → KeepX E A n₀ X (put Y A o vs)
  | [], _, _, h => h
  | _ :: vs, o, _, h => KeepX.putA vs (o + 1) ⟨fun i h1 h2 h3 => (Below.heap_setCell _ _ _ i h3).trans (h.block i h1 h2 h3)⟩
theorem KeepX.put {E A n₀ : Nat} (W : World) (l : Nat) (o' : Obj) (hl : n₀ ≤ l) : KeepX E A n₀ W (W.putObj l o') := ⟨fun i h1 _ _ => World.putObj_heap_other (by omega)⟩
theorem isSome_of {α : Type} {o : Option α} {v : α} (h : o = some v) : o.isSome = true := by rw [h]; rfl
theorem put_keeps : ∀ (vs : List Value) (o R : Nat) (W : World), KeepsOthers W (put W R o vs)
  | [], _, _, W => KeepsOthers.refl W
  | _ :: vs, o, R, W => (KeepsOthers.setCell W _ _).trans (put_keeps vs (o + 1) R _)
/-- A block of twelve cells that is open to stores. -/
def Open12 (W : World) (R : Nat) (vs : List Value) : Prop := vs.length = 12 ∧ (∀ i u, vs[i]? = some u → W.cell? ⟨R, i, none⟩ = some u) ∧ (∀ i, i < 12 → W.frozen? ⟨R, i, none⟩ = false)
theorem Open12.of_blk {W : World} {R : Nat} {vs : List Value} {t : TypeId} (h : Blk W R vs.toArray t) (hl : vs.length = 12) : Open12 W R vs :=
  ⟨hl, fun i u hu => h.cell i u (by simpa using hu), fun i hi => h.froz i vs[i] (by simp [hl ▸ hi])⟩
theorem frozen_put {p : Addr} : ∀ (vs : List Value) (o R : Nat) (W : World), (put W R o vs).frozen? p = W.frozen? p
  | [], _, _, _ => rfl
  | _ :: vs, o, R, _ => (frozen_put vs (o + 1) R _).trans (World.frozen?_setCell _ _ _ _)
theorem Open12.put {W : World} {R : Nat} {vs us : List Value} (h : Open12 W R vs) (hl : us.length = 12) : Open12 (put W R 0 us) R us := by
  refine ⟨hl, fun i u hu => ?_, fun i hi => (frozen_put us 0 R W).trans (h.2.2 i hi)⟩
  have := put_at (R := R) us 0 W (fun i hi => by rw [Nat.zero_add, h.2.1 i (vs[i]'(by rw [h.1]; omega)) (by simp)]; rfl) i u hu
  rwa [Nat.zero_add] at this
theorem Open12.set_other {W : World} {R E o : Nat} {vs : List Value} {v : Value} (h : Open12 W R vs) (hE : R ≠ E) : Open12 (W.setCell ⟨E, o, none⟩ v) R vs :=
  ⟨h.1, fun i u hu => (World.cell?_setCell_far _ _ _ _ (fun e => hE e.symm)).trans (h.2.1 i u hu), fun i hi => (World.frozen?_setCell _ _ _ _).trans (h.2.2 i hi)⟩
theorem Open12.put_other {W : World} {R R' : Nat} {vs us : List Value} (h : Open12 W R vs) (hE : R ≠ R') : Open12 (Go.Proofs.YtdilieoobkldhabDoor.put W R' 0 us) R vs :=
  ⟨h.1, fun i u hu => (put_cell (p := ⟨R, i, none⟩) hE us 0 W).trans (h.2.1 i u hu), fun i hi => (frozen_put us 0 R' W).trans (h.2.2 i hi)⟩
theorem Open12.kept {W W' : World} {R : Nat} {vs : List Value} {row : Option Nat} (h : Open12 W R vs) (hg : W.grownBy W' row) (hr : ∀ r, row = some r → ∃ o : Obj, W.heap[r]? = some o ∧ o.isCells = false) : Open12 W' R vs :=
  ⟨h.1, fun i u hu => cell_kept (h.2.1 i u hu) hg hr, fun i hi => by
    have := h.2.1 i (vs[i]'(by rw [h.1]; omega)) (by simp)
    exact (frozen_kept this hg hr).trans (h.2.2 i hi)⟩
theorem Open12.below {W W' : World} {R : Nat} {vs : List Value} (h : Open12 W R vs) (hb : Below W.heap.size W W') : Open12 W' R vs :=
  ⟨h.1, fun i u hu => (hb.cell (cell_lt (h.2.1 i u hu))).trans (h.2.1 i u hu), fun i hi => by
    have := h.2.1 i (vs[i]'(by rw [h.1]; omega)) (by simp)
    exact (hb.frozen (p := ⟨R, i, none⟩) (cell_lt this)).trans (h.2.2 i hi)⟩

set_option maxRecDepth 100000 in
set_option maxHeartbeats 8000000 in
theorem Read_in (s : ByteArray) (m : Mv) (n : Nat) (acc : Nat → Mv) (W : World) (hn : 0 < n) (hn' : n ≤ 1000) (ha : acc 0 = .one)
    (HL : ∀ V, Below W.heap.size W V → Calls Tryd.prog 22 #[.string s] V fun e w' => (∃ g cap, e = .returned (.tuple #[.slice (some ⟨g, 0, none⟩) n cap, .nilIface]) ∧ g < w'.heap.size ∧ ∀ j, j < n → ∀ i u, [.int .i64 m.a.n, .int .i64 m.a.d, .int .i64 m.b.n, .int .i64 m.b.d, .int .i64 m.c.n, .int .i64 m.c.d, .int .i64 m.d.n, .int .i64 m.d.d, .int .i64 m.e.n, .int .i64 m.e.d, .int .i64 m.f.n, .int .i64 m.f.d][i]? = some u → w'.cell? ⟨g, j * 12 + i, none⟩ = some u) ∧ Below V.heap.size V w')
    (HT : ∀ k, k < n → ∀ V, Below W.heap.size W V → Calls Tryd.prog 24 #[mv (acc k), mv m] V fun e w' => e = .returned (.tuple #[mv (acc (k + 1)), .nilIface]) ∧ Below V.heap.size V w') :
    CallsIn Fence.wide 9 Tryd.prog 8 #[.string s] W fun e w' => e = .returned (.tuple #[mv (acc n), .nilIface]) ∧ Below W.heap.size W w' := by
  have HO := One_any
  have HB := backward_any
  have L0 := ((Below.refl W.heap.size W).alloc (Nat.le_refl _) (.cells #[.int .i64 0, .int .i64 0, .int .i64 0, .int .i64 0, .int .i64 0, .int .i64 0, .int .i64 0, .int .i64 0, .int .i64 0, .int .i64 0, .int .i64 0, .int .i64 0] 28)).alloc (by simp) (.cells #[.nilIface] 30)
  have R0 : Blk ((W.alloc (.cells #[.int .i64 0, .int .i64 0, .int .i64 0, .int .i64 0, .int .i64 0, .int .i64 0, .int .i64 0, .int .i64 0, .int .i64 0, .int .i64 0, .int .i64 0, .int .i64 0] 28)).alloc (.cells #[.nilIface] 30)) W.heap.size #[.int .i64 0, .int .i64 0, .int .i64 0, .int .i64 0, .int .i64 0, .int .i64 0, .int .i64 0, .int .i64 0, .int .i64 0, .int .i64 0, .int .i64 0, .int .i64 0] 28 := (Blk.new W _ _).alloc _
  have Q0 := Blk.new (W.alloc (.cells #[.int .i64 0, .int .i64 0, .int .i64 0, .int .i64 0, .int .i64 0, .int .i64 0, .int .i64 0, .int .i64 0, .int .i64 0, .int .i64 0, .int .i64 0, .int .i64 0] 28)) #[.nilIface] 30
  rw [World.size_alloc] at Q0
  refine callsIn_of_wp_marks Tryd.func8 rfl trivial ?_ rfl
  simp only [Tryd.ntmps8, List.size_toArray, List.length_cons, List.length_nil, Nat.reduceAdd, Nat.reduceSub, Array.replicate_succ, Array.replicate_zero, List.push_toArray, List.append_toArray, List.nil_append, List.cons_append]
  gi_wp2_with (first | (refine ⟨trivial, ?_⟩; gi_at_call 23; refine (callsIn_wide.2 (HB _ _ _ _ rfl _)).mono ?_; rintro e w' ⟨rfl, rfl⟩) | (refine ⟨trivial, ?_⟩; gi_at_call 9; refine (callsIn_wide.2 (HO _)).mono ?_; rintro e w2 ⟨rfl, hb2⟩; dsimp only [Mv.one, Fr.whole]) | (refine ⟨trivial, ?_⟩; gi_at_call 22; refine (callsIn_wide.2 (HL _ L0)).mono ?_; rintro e w1 ⟨⟨g, cap, rfl, hg, hcells⟩, hb1⟩))
  have sz1 := hb1.size
  simp only [World.size_alloc] at sz1
  have sz2 := hb2.size
  simp only [World.size_alloc] at sz2
  have e1 : (w1.alloc (.cells #[.nilIface] 30)).heap.size = w1.heap.size + 1 := by simp
  have E2 := (Blk.new w1 #[.nilIface] 30).below hb2 (Nat.le_refl _)
  have R2 := ((R0.below hb1 (Nat.le_refl _)).alloc (.cells #[.nilIface] 30)).below hb2 (Nat.le_refl _)
  have Q2 := ((Q0.below hb1 (Nat.le_refl _)).alloc (.cells #[.nilIface] 30)).below hb2 (Nat.le_refl _)
  have L2 := ((L0.trans (hb1.mono (by simp; omega))).alloc (by omega) (.cells #[.nilIface] 30)).trans (hb2.mono (by simp; omega))
  have hc2 : ∀ j, j < n → ∀ i u, [.int .i64 m.a.n, .int .i64 m.a.d, .int .i64 m.b.n, .int .i64 m.b.d, .int .i64 m.c.n, .int .i64 m.c.d, .int .i64 m.d.n, .int .i64 m.d.d, .int .i64 m.e.n, .int .i64 m.e.d, .int .i64 m.f.n, .int .i64 m.f.d][i]? = some u → w2.cell? ⟨g, j * 12 + i, none⟩ = some u := fun j hj i u hu => (hb2.cell (p := ⟨g, j * 12 + i, none⟩) (by simp; omega)).trans (cell_al _ (hcells j hj i u hu))
  obtain ⟨U, hU⟩ : ∃ U, (w2.alloc (.cells #[.int .i64 1, .int .i64 1, .int .i64 0, .int .i64 1, .int .i64 0, .int .i64 1, .int .i64 1, .int .i64 1, .int .i64 0, .int .i64 1, .int .i64 0, .int .i64 1] 28)).alloc (.cells #[.slice (some ⟨g, 0, none⟩) n cap] 60) = U := ⟨_, rfl⟩
  have szU : U.heap.size = w2.heap.size + 2 := by rw [← hU]; simp
  have A3 : Blk U w2.heap.size #[.int .i64 1, .int .i64 1, .int .i64 0, .int .i64 1, .int .i64 0, .int .i64 1, .int .i64 1, .int .i64 1, .int .i64 0, .int .i64 1, .int .i64 0, .int .i64 1] 28 := by rw [← hU]; exact (Blk.new w2 _ _).alloc _
  have C3 : U.cell? ⟨w2.heap.size + 1, 0, none⟩ = some (.slice (some ⟨g, 0, none⟩) n cap) := by rw [← hU]; exact cell_at (by simp) rfl
  have E3 : Blk U w1.heap.size #[.nilIface] 30 := by rw [← hU]; exact (E2.alloc _).alloc _
  have R3 : Blk U W.heap.size #[.int .i64 0, .int .i64 0, .int .i64 0, .int .i64 0, .int .i64 0, .int .i64 0, .int .i64 0, .int .i64 0, .int .i64 0, .int .i64 0, .int .i64 0, .int .i64 0] 28 := by rw [← hU]; exact (R2.alloc _).alloc _
  have Q3 : Blk U (W.heap.size + 1) #[.nilIface] 30 := by rw [← hU]; exact (Q2.alloc _).alloc _
  have L3 : Below W.heap.size W U := by rw [← hU]; exact (L2.alloc (by omega) _).alloc (by simp; omega) _
  have hc3 : ∀ j, j < n → ∀ i u, [.int .i64 m.a.n, .int .i64 m.a.d, .int .i64 m.b.n, .int .i64 m.b.d, .int .i64 m.c.n, .int .i64 m.c.d, .int .i64 m.d.n, .int .i64 m.d.d, .int .i64 m.e.n, .int .i64 m.e.d, .int .i64 m.f.n, .int .i64 m.f.d][i]? = some u → U.cell? ⟨g, j * 12 + i, none⟩ = some u := fun j hj i u hu => by rw [← hU]; exact cell_al _ (cell_al _ (hc2 j hj i u hu))
  rw [hU]
  clear hU L2 hc2 hcells R0 Q0 E2 R2 Q2
  refine wpIn_rangeFunc_ownH rfl (by omega) (gf := 48) (lb := #[.pointer (some ⟨w2.heap.size + 1, 0, none⟩)]) rfl trivial (enters_of Tryd.func48 (by kernel_rfl) rfl)
    (encs := fun x : Nat => itemM m x) (Kp := KeepX w1.heap.size w2.heap.size U.heap.size) (S := fun ys => ys = cameAll n) (Sp := fun pre => pre <+: cameAll n) (N := n) (w0 := U)
    (fun l J Jx X hX _ _ hY h0 => back1_in Fence.wide _ trivial rfl (by omega) l (w2.heap.size + 1) g n cap m hn hn' _ (KeepX.refl _ _ _) (fun _ _ _ => KeepX.trans)
      (fun A B h => World.cell?_of_block (h.block (w2.heap.size + 1) (by omega) (by omega) (by omega))) (fun A B h o => World.cell?_of_block (h.block g (by omega) (by omega) (by omega))) J Jx hY X ((hX.cell (p := ⟨w2.heap.size + 1, 0, none⟩) (by simp only; omega)).trans C3) (fun j hj i u hu => (hX.cell (p := ⟨g, j * 12 + i, none⟩) (by simp only; omega)).trans (hc3 j hj i u hu)) h0)
    KeepX.trans (fun X l o o' hl _ _ _ => KeepX.put X l o' hl) (Below.refl _ _) (fun _ => rfl)
    (fun pre X => (Open12 X w2.heap.size [.int .i64 (acc pre.length).a.n, .int .i64 (acc pre.length).a.d, .int .i64 (acc pre.length).b.n, .int .i64 (acc pre.length).b.d, .int .i64 (acc pre.length).c.n, .int .i64 (acc pre.length).c.d, .int .i64 (acc pre.length).d.n, .int .i64 (acc pre.length).d.d, .int .i64 (acc pre.length).e.n, .int .i64 (acc pre.length).e.d, .int .i64 (acc pre.length).f.n, .int .i64 (acc pre.length).f.d] ∧ (X.cell? ⟨w1.heap.size, 0, none⟩ = some .nilIface ∧ X.frozen? ⟨w1.heap.size, 0, none⟩ = false) ∧ Open12 X W.heap.size [.int .i64 0, .int .i64 0, .int .i64 0, .int .i64 0, .int .i64 0, .int .i64 0, .int .i64 0, .int .i64 0, .int .i64 0, .int .i64 0, .int .i64 0, .int .i64 0] ∧ (X.cell? ⟨W.heap.size + 1, 0, none⟩ = some .nilIface ∧ X.frozen? ⟨W.heap.size + 1, 0, none⟩ = false) ∧ U.heap.size ≤ X.heap.size) ∧ Below W.heap.size W X)
    (fun _ _ _ => False)
    (OwnFrom.and (Own.from (fun pre A B row hs hg hr => ⟨hs.1.kept hg hr, ⟨cell_kept hs.2.1.1 hg hr, (frozen_kept hs.2.1.1 hg hr).trans hs.2.1.2⟩, hs.2.2.1.kept hg hr, ⟨cell_kept hs.2.2.2.1.1 hg hr, (frozen_kept hs.2.2.2.1.1 hg hr).trans hs.2.2.2.1.2⟩, Nat.le_trans hs.2.2.2.2 hg.size⟩) _) (ownFrom_below (Nat.le_refl _) (by omega)))
    (fun _ _ _ _ _ h _ _ => h)
    ⟨⟨by simp only [List.length_nil, ha]; exact Open12.of_blk (vs := [.int .i64 1, .int .i64 1, .int .i64 0, .int .i64 1, .int .i64 0, .int .i64 1, .int .i64 1, .int .i64 1, .int .i64 0, .int .i64 1, .int .i64 0, .int .i64 1]) A3 rfl, ⟨E3.cell 0 _ rfl, E3.froz 0 _ rfl⟩, Open12.of_blk (vs := [.int .i64 0, .int .i64 0, .int .i64 0, .int .i64 0, .int .i64 0, .int .i64 0, .int .i64 0, .int .i64 0, .int .i64 0, .int .i64 0, .int .i64 0, .int .i64 0]) R3 rfl, ⟨Q3.cell 0 _ rfl, Q3.froz 0 _ rfl⟩, Nat.le_refl _⟩, L3⟩
    (fun x a' X => ∃ Bx, U.heap.size ≤ Bx ∧ Open12 X Bx [.int .i64 m.a.n, .int .i64 m.a.d, .int .i64 m.b.n, .int .i64 m.b.d, .int .i64 m.c.n, .int .i64 m.c.d, .int .i64 m.d.n, .int .i64 m.d.d, .int .i64 m.e.n, .int .i64 m.e.d, .int .i64 m.f.n, .int .i64 m.f.d] ∧ a' = { tmps := #[.string s, undef, .pointer (some ⟨W.heap.size, 0, none⟩), .pointer (some ⟨W.heap.size + 1, 0, none⟩), .slice (some ⟨g, 0, none⟩) n cap, .pointer (some ⟨w1.heap.size, 0, none⟩), .pointer (some ⟨w2.heap.size, 0, none⟩), undef, .pointer (some ⟨Bx, 0, none⟩), .tuple #[.slice (some ⟨g, 0, none⟩) n cap, .nilIface], .string s, .tuple #[.slice (some ⟨g, 0, none⟩) n cap, .nilIface], .slice (some ⟨g, 0, none⟩) n cap, .nilIface, .nilIface, .bool false, undef, undef, .agg #[.int .i64 1, .int .i64 1, .int .i64 0, .int .i64 1, .int .i64 0, .int .i64 1, .int .i64 1, .int .i64 1, .int .i64 0, .int .i64 1, .int .i64 0, .int .i64 1], .slice (some ⟨g, 0, none⟩) n cap, .func (.func 48) #[] #[.pointer (some ⟨w2.heap.size + 1, 0, none⟩)], .int .i64 (x : Nat), .agg #[.int .i64 m.a.n, .int .i64 m.a.d, .int .i64 m.b.n, .int .i64 m.b.d, .int .i64 m.c.n, .int .i64 m.c.d, .int .i64 m.d.n, .int .i64 m.d.d, .int .i64 m.e.n, .int .i64 m.e.d, .int .i64 m.f.n, .int .i64 m.f.d], undef, undef, undef, undef, undef, undef, undef, undef, undef, undef, undef], defers := [] })
    (fun x a' s A B row hs hg hr => by obtain ⟨Bx, h1, h2, h3⟩ := hs; exact ⟨Bx, h1, h2.kept hg (fun r e => (hr r e).2), h3⟩)
    ?assign ?body ?done ?stop
  case assign =>
    rintro l pre x X K ⟨⟨h1, ⟨h2, h2f⟩, h3, ⟨h4, h4f⟩, hU⟩, hB⟩ hK
    gi_wp2
    have hs := hB.size
    have hal := (Below.refl X.heap.size X).alloc (Nat.le_refl _) (.cells #[.int .i64 m.a.n, .int .i64 m.a.d, .int .i64 m.b.n, .int .i64 m.b.d, .int .i64 m.c.n, .int .i64 m.c.d, .int .i64 m.d.n, .int .i64 m.d.d, .int .i64 m.e.n, .int .i64 m.e.d, .int .i64 m.f.n, .int .i64 m.f.d] 28)
    exact hK _ _ ((KeepsOthers.alloc _ _).from _) (KeepX.of_below hal hU) ⟨⟨h1.below hal, ⟨cell_al _ h2, froz_al _ h2 h2f⟩, h3.below hal, ⟨cell_al _ h4, froz_al _ h4 h4f⟩, Nat.le_trans hU hal.size⟩, hB.alloc hs _⟩ ⟨X.heap.size, hU, Open12.of_blk (vs := [.int .i64 m.a.n, .int .i64 m.a.d, .int .i64 m.b.n, .int .i64 m.b.d, .int .i64 m.c.n, .int .i64 m.c.d, .int .i64 m.d.n, .int .i64 m.d.d, .int .i64 m.e.n, .int .i64 m.e.d, .int .i64 m.f.n, .int .i64 m.f.d]) (Blk.new X _ _) rfl, rfl⟩
  case body =>
    rintro l pre x a' X hl hr ⟨⟨h1, ⟨h2, h2f⟩, h3, ⟨h4, h4f⟩, hU⟩, hB⟩ ⟨Bx, hBx, hM, rfl⟩ hlen
    have HK := HT pre.length hlen X hB
    have ac0 := h1.2.1 0 _ rfl
    have mc0 := hM.2.1 0 _ rfl
    have ac1 := h1.2.1 1 _ rfl
    have mc1 := hM.2.1 1 _ rfl
    have ac2 := h1.2.1 2 _ rfl
    have mc2 := hM.2.1 2 _ rfl
    have ac3 := h1.2.1 3 _ rfl
    have mc3 := hM.2.1 3 _ rfl
    have ac4 := h1.2.1 4 _ rfl
    have mc4 := hM.2.1 4 _ rfl
    have ac5 := h1.2.1 5 _ rfl
    have mc5 := hM.2.1 5 _ rfl
    have ac6 := h1.2.1 6 _ rfl
    have mc6 := hM.2.1 6 _ rfl
    have ac7 := h1.2.1 7 _ rfl
    have mc7 := hM.2.1 7 _ rfl
    have ac8 := h1.2.1 8 _ rfl
    have mc8 := hM.2.1 8 _ rfl
    have ac9 := h1.2.1 9 _ rfl
    have mc9 := hM.2.1 9 _ rfl
    have ac10 := h1.2.1 10 _ rfl
    have mc10 := hM.2.1 10 _ rfl
    have ac11 := h1.2.1 11 _ rfl
    have mc11 := hM.2.1 11 _ rfl
    have ne1 : ¬ w1.heap.size = w2.heap.size := by omega
    have ne2 : ¬ w2.heap.size = w1.heap.size := by omega
    gi_wp2_with ((refine ⟨trivial, ?_⟩; gi_at_call 24; refine (CallsIn.inRound l (callsIn_wide.2 HK)).mono ?_; rintro e w' ⟨rfl, hb'⟩; have h1' := h1.below hb'; have hz' := hb'.size; have bc0 := h1'.2.1 0 _ rfl; have bf0 := h1'.2.2 0 (by omega); have bc1 := h1'.2.1 1 _ rfl; have bf1 := h1'.2.2 1 (by omega); have bc2 := h1'.2.1 2 _ rfl; have bf2 := h1'.2.2 2 (by omega); have bc3 := h1'.2.1 3 _ rfl; have bf3 := h1'.2.2 3 (by omega); have bc4 := h1'.2.1 4 _ rfl; have bf4 := h1'.2.2 4 (by omega); have bc5 := h1'.2.1 5 _ rfl; have bf5 := h1'.2.2 5 (by omega); have bc6 := h1'.2.1 6 _ rfl; have bf6 := h1'.2.2 6 (by omega); have bc7 := h1'.2.1 7 _ rfl; have bf7 := h1'.2.2 7 (by omega); have bc8 := h1'.2.1 8 _ rfl; have bf8 := h1'.2.2 8 (by omega); have bc9 := h1'.2.1 9 _ rfl; have bf9 := h1'.2.2 9 (by omega); have bc10 := h1'.2.1 10 _ rfl; have bf10 := h1'.2.2 10 (by omega); have bc11 := h1'.2.1 11 _ rfl; have bf11 := h1'.2.2 11 (by omega); have ec := (hb'.cell (p := ⟨w1.heap.size, 0, none⟩) (cell_lt h2)).trans h2; have ef := (hb'.frozen (p := ⟨w1.heap.size, 0, none⟩) (cell_lt h2)).trans h2f))
    have h3' := h3.below hb'
    have c4 := (hb'.cell (p := ⟨W.heap.size + 1, 0, none⟩) (cell_lt h4)).trans h4
    have f4 := (hb'.frozen (p := ⟨W.heap.size + 1, 0, none⟩) (cell_lt h4)).trans h4f
    have hlenp : (pre ++ [x]).length = pre.length + 1 := by simp
    refine ⟨(((below_others hb').trans (put_keeps [.int .i64 (acc (pre.length + 1)).a.n, .int .i64 (acc (pre.length + 1)).a.d, .int .i64 (acc (pre.length + 1)).b.n, .int .i64 (acc (pre.length + 1)).b.d, .int .i64 (acc (pre.length + 1)).c.n, .int .i64 (acc (pre.length + 1)).c.d, .int .i64 (acc (pre.length + 1)).d.n, .int .i64 (acc (pre.length + 1)).d.d, .int .i64 (acc (pre.length + 1)).e.n, .int .i64 (acc (pre.length + 1)).e.d, .int .i64 (acc (pre.length + 1)).f.n, .int .i64 (acc (pre.length + 1)).f.d] 0 w2.heap.size w')).trans (KeepsOthers.setCell _ _ _)).from _, ((KeepX.of_below hb' hU).putA [.int .i64 (acc (pre.length + 1)).a.n, .int .i64 (acc (pre.length + 1)).a.d, .int .i64 (acc (pre.length + 1)).b.n, .int .i64 (acc (pre.length + 1)).b.d, .int .i64 (acc (pre.length + 1)).c.n, .int .i64 (acc (pre.length + 1)).c.d, .int .i64 (acc (pre.length + 1)).d.n, .int .i64 (acc (pre.length + 1)).d.d, .int .i64 (acc (pre.length + 1)).e.n, .int .i64 (acc (pre.length + 1)).e.d, .int .i64 (acc (pre.length + 1)).f.n, .int .i64 (acc (pre.length + 1)).f.d] 0).setE 0 .nilIface, ⟨?_, ⟨?_, ?_⟩, ?_, ⟨?_, ?_⟩, ?_⟩, ?_⟩
    · rw [hlenp]; exact (h1'.put (us := [.int .i64 (acc (pre.length + 1)).a.n, .int .i64 (acc (pre.length + 1)).a.d, .int .i64 (acc (pre.length + 1)).b.n, .int .i64 (acc (pre.length + 1)).b.d, .int .i64 (acc (pre.length + 1)).c.n, .int .i64 (acc (pre.length + 1)).c.d, .int .i64 (acc (pre.length + 1)).d.n, .int .i64 (acc (pre.length + 1)).d.d, .int .i64 (acc (pre.length + 1)).e.n, .int .i64 (acc (pre.length + 1)).e.d, .int .i64 (acc (pre.length + 1)).f.n, .int .i64 (acc (pre.length + 1)).f.d]) rfl).set_other ne2
    · exact World.cell?_setCell_same' _ _ _ (isSome_of ((put_cell (p := ⟨w1.heap.size, 0, none⟩) (R := w2.heap.size) ne1 [.int .i64 (acc (pre.length + 1)).a.n, .int .i64 (acc (pre.length + 1)).a.d, .int .i64 (acc (pre.length + 1)).b.n, .int .i64 (acc (pre.length + 1)).b.d, .int .i64 (acc (pre.length + 1)).c.n, .int .i64 (acc (pre.length + 1)).c.d, .int .i64 (acc (pre.length + 1)).d.n, .int .i64 (acc (pre.length + 1)).d.d, .int .i64 (acc (pre.length + 1)).e.n, .int .i64 (acc (pre.length + 1)).e.d, .int .i64 (acc (pre.length + 1)).f.n, .int .i64 (acc (pre.length + 1)).f.d] 0 w').trans ec))
    · exact (World.frozen?_setCell _ _ _ _).trans ((frozen_put [.int .i64 (acc (pre.length + 1)).a.n, .int .i64 (acc (pre.length + 1)).a.d, .int .i64 (acc (pre.length + 1)).b.n, .int .i64 (acc (pre.length + 1)).b.d, .int .i64 (acc (pre.length + 1)).c.n, .int .i64 (acc (pre.length + 1)).c.d, .int .i64 (acc (pre.length + 1)).d.n, .int .i64 (acc (pre.length + 1)).d.d, .int .i64 (acc (pre.length + 1)).e.n, .int .i64 (acc (pre.length + 1)).e.d, .int .i64 (acc (pre.length + 1)).f.n, .int .i64 (acc (pre.length + 1)).f.d] 0 w2.heap.size w').trans ef)
    · exact (h3'.put_other (us := [.int .i64 (acc (pre.length + 1)).a.n, .int .i64 (acc (pre.length + 1)).a.d, .int .i64 (acc (pre.length + 1)).b.n, .int .i64 (acc (pre.length + 1)).b.d, .int .i64 (acc (pre.length + 1)).c.n, .int .i64 (acc (pre.length + 1)).c.d, .int .i64 (acc (pre.length + 1)).d.n, .int .i64 (acc (pre.length + 1)).d.d, .int .i64 (acc (pre.length + 1)).e.n, .int .i64 (acc (pre.length + 1)).e.d, .int .i64 (acc (pre.length + 1)).f.n, .int .i64 (acc (pre.length + 1)).f.d]) (R' := w2.heap.size) (by omega)).set_other (by omega)
    · exact (World.cell?_setCell_far _ _ _ _ (by simp only; omega)).trans ((put_cell (p := ⟨W.heap.size + 1, 0, none⟩) (R := w2.heap.size) (by simp only; omega) [.int .i64 (acc (pre.length + 1)).a.n, .int .i64 (acc (pre.length + 1)).a.d, .int .i64 (acc (pre.length + 1)).b.n, .int .i64 (acc (pre.length + 1)).b.d, .int .i64 (acc (pre.length + 1)).c.n, .int .i64 (acc (pre.length + 1)).c.d, .int .i64 (acc (pre.length + 1)).d.n, .int .i64 (acc (pre.length + 1)).d.d, .int .i64 (acc (pre.length + 1)).e.n, .int .i64 (acc (pre.length + 1)).e.d, .int .i64 (acc (pre.length + 1)).f.n, .int .i64 (acc (pre.length + 1)).f.d] 0 w').trans c4)
    · exact (World.frozen?_setCell _ _ _ _).trans ((frozen_put [.int .i64 (acc (pre.length + 1)).a.n, .int .i64 (acc (pre.length + 1)).a.d, .int .i64 (acc (pre.length + 1)).b.n, .int .i64 (acc (pre.length + 1)).b.d, .int .i64 (acc (pre.length + 1)).c.n, .int .i64 (acc (pre.length + 1)).c.d, .int .i64 (acc (pre.length + 1)).d.n, .int .i64 (acc (pre.length + 1)).d.d, .int .i64 (acc (pre.length + 1)).e.n, .int .i64 (acc (pre.length + 1)).e.d, .int .i64 (acc (pre.length + 1)).f.n, .int .i64 (acc (pre.length + 1)).f.d] 0 w2.heap.size w').trans f4)
    · have := (put_below (B := 0) (A := w') (R := w2.heap.size) (Nat.zero_le _) [.int .i64 (acc (pre.length + 1)).a.n, .int .i64 (acc (pre.length + 1)).a.d, .int .i64 (acc (pre.length + 1)).b.n, .int .i64 (acc (pre.length + 1)).b.d, .int .i64 (acc (pre.length + 1)).c.n, .int .i64 (acc (pre.length + 1)).c.d, .int .i64 (acc (pre.length + 1)).d.n, .int .i64 (acc (pre.length + 1)).d.d, .int .i64 (acc (pre.length + 1)).e.n, .int .i64 (acc (pre.length + 1)).e.d, .int .i64 (acc (pre.length + 1)).f.n, .int .i64 (acc (pre.length + 1)).f.d] 0 (Below.refl 0 w')).size
      simp only [World.size_setCell] at *
      omega
    · exact (put_below (R := w2.heap.size) (by omega) [.int .i64 (acc (pre.length + 1)).a.n, .int .i64 (acc (pre.length + 1)).a.d, .int .i64 (acc (pre.length + 1)).b.n, .int .i64 (acc (pre.length + 1)).b.d, .int .i64 (acc (pre.length + 1)).c.n, .int .i64 (acc (pre.length + 1)).c.d, .int .i64 (acc (pre.length + 1)).d.n, .int .i64 (acc (pre.length + 1)).d.d, .int .i64 (acc (pre.length + 1)).e.n, .int .i64 (acc (pre.length + 1)).e.d, .int .i64 (acc (pre.length + 1)).f.n, .int .i64 (acc (pre.length + 1)).f.d] 0 (hB.trans (hb'.mono hB.size))).setCell (p := ⟨w1.heap.size, 0, none⟩) (by simp only; omega) _
  case done =>
    rintro D ys X hD rfl ⟨⟨h1, ⟨h2, h2f⟩, h3, ⟨h4, h4f⟩, hU⟩, hB⟩ hK
    have hcl : (cameAll n).length = n := by simp [cameAll]
    rw [hcl] at h1
    have ac0 := h1.2.1 0 _ rfl
    have rc0 := h3.2.1 0 _ rfl
    have rf0 := h3.2.2 0 (by omega)
    have ac1 := h1.2.1 1 _ rfl
    have rc1 := h3.2.1 1 _ rfl
    have rf1 := h3.2.2 1 (by omega)
    have ac2 := h1.2.1 2 _ rfl
    have rc2 := h3.2.1 2 _ rfl
    have rf2 := h3.2.2 2 (by omega)
    have ac3 := h1.2.1 3 _ rfl
    have rc3 := h3.2.1 3 _ rfl
    have rf3 := h3.2.2 3 (by omega)
    have ac4 := h1.2.1 4 _ rfl
    have rc4 := h3.2.1 4 _ rfl
    have rf4 := h3.2.2 4 (by omega)
    have ac5 := h1.2.1 5 _ rfl
    have rc5 := h3.2.1 5 _ rfl
    have rf5 := h3.2.2 5 (by omega)
    have ac6 := h1.2.1 6 _ rfl
    have rc6 := h3.2.1 6 _ rfl
    have rf6 := h3.2.2 6 (by omega)
    have ac7 := h1.2.1 7 _ rfl
    have rc7 := h3.2.1 7 _ rfl
    have rf7 := h3.2.2 7 (by omega)
    have ac8 := h1.2.1 8 _ rfl
    have rc8 := h3.2.1 8 _ rfl
    have rf8 := h3.2.2 8 (by omega)
    have ac9 := h1.2.1 9 _ rfl
    have rc9 := h3.2.1 9 _ rfl
    have rf9 := h3.2.2 9 (by omega)
    have ac10 := h1.2.1 10 _ rfl
    have rc10 := h3.2.1 10 _ rfl
    have rf10 := h3.2.2 10 (by omega)
    have ac11 := h1.2.1 11 _ rfl
    have rc11 := h3.2.1 11 _ rfl
    have rf11 := h3.2.2 11 (by omega)
    have ne3 : ¬ W.heap.size = w2.heap.size := by omega
    have ne4 : ¬ w2.heap.size = W.heap.size := by omega
    have ne5 : ¬ W.heap.size + 1 = W.heap.size := by omega
    have ne6 : ¬ W.heap.size = W.heap.size + 1 := by omega
    gi_wp2
    have hK' := ((put_keeps [.int .i64 (acc n).a.n, .int .i64 (acc n).a.d, .int .i64 (acc n).b.n, .int .i64 (acc n).b.d, .int .i64 (acc n).c.n, .int .i64 (acc n).c.d, .int .i64 (acc n).d.n, .int .i64 (acc n).d.d, .int .i64 (acc n).e.n, .int .i64 (acc n).e.d, .int .i64 (acc n).f.n, .int .i64 (acc n).f.d] 0 W.heap.size X).trans (KeepsOthers.setCell _ ⟨W.heap.size + 1, 0, none⟩ .nilIface)).same D _ hK rfl
    refine ⟨by simp, .inl ⟨_, _, rfl, run_takeDeferred hK', ?_⟩⟩
    have hO : Open12 ((((((((((((((X.setCell ⟨W.heap.size, 0, none⟩ (.int .i64 (acc n).a.n)).setCell ⟨W.heap.size, 1, none⟩ (.int .i64 (acc n).a.d)).setCell ⟨W.heap.size, 2, none⟩ (.int .i64 (acc n).b.n)).setCell ⟨W.heap.size, 3, none⟩ (.int .i64 (acc n).b.d)).setCell ⟨W.heap.size, 4, none⟩ (.int .i64 (acc n).c.n)).setCell ⟨W.heap.size, 5, none⟩ (.int .i64 (acc n).c.d)).setCell ⟨W.heap.size, 6, none⟩ (.int .i64 (acc n).d.n)).setCell ⟨W.heap.size, 7, none⟩ (.int .i64 (acc n).d.d)).setCell ⟨W.heap.size, 8, none⟩ (.int .i64 (acc n).e.n)).setCell ⟨W.heap.size, 9, none⟩ (.int .i64 (acc n).e.d)).setCell ⟨W.heap.size, 10, none⟩ (.int .i64 (acc n).f.n)).setCell ⟨W.heap.size, 11, none⟩ (.int .i64 (acc n).f.d)).setCell ⟨W.heap.size + 1, 0, none⟩ .nilIface).putObj D (.deferred none)) W.heap.size [.int .i64 (acc n).a.n, .int .i64 (acc n).a.d, .int .i64 (acc n).b.n, .int .i64 (acc n).b.d, .int .i64 (acc n).c.n, .int .i64 (acc n).c.d, .int .i64 (acc n).d.n, .int .i64 (acc n).d.d, .int .i64 (acc n).e.n, .int .i64 (acc n).e.d, .int .i64 (acc n).f.n, .int .i64 (acc n).f.d] := ((h3.put (us := [.int .i64 (acc n).a.n, .int .i64 (acc n).a.d, .int .i64 (acc n).b.n, .int .i64 (acc n).b.d, .int .i64 (acc n).c.n, .int .i64 (acc n).c.d, .int .i64 (acc n).d.n, .int .i64 (acc n).d.d, .int .i64 (acc n).e.n, .int .i64 (acc n).e.d, .int .i64 (acc n).f.n, .int .i64 (acc n).f.d]) rfl).set_other (o := 0) (v := .nilIface) ne6).kept (grownBy_putObj' _ D (.deferred none)) (fun r e => by cases e; exact ⟨_, hK', rfl⟩)
    have hQ : ((((((((((((((X.setCell ⟨W.heap.size, 0, none⟩ (.int .i64 (acc n).a.n)).setCell ⟨W.heap.size, 1, none⟩ (.int .i64 (acc n).a.d)).setCell ⟨W.heap.size, 2, none⟩ (.int .i64 (acc n).b.n)).setCell ⟨W.heap.size, 3, none⟩ (.int .i64 (acc n).b.d)).setCell ⟨W.heap.size, 4, none⟩ (.int .i64 (acc n).c.n)).setCell ⟨W.heap.size, 5, none⟩ (.int .i64 (acc n).c.d)).setCell ⟨W.heap.size, 6, none⟩ (.int .i64 (acc n).d.n)).setCell ⟨W.heap.size, 7, none⟩ (.int .i64 (acc n).d.d)).setCell ⟨W.heap.size, 8, none⟩ (.int .i64 (acc n).e.n)).setCell ⟨W.heap.size, 9, none⟩ (.int .i64 (acc n).e.d)).setCell ⟨W.heap.size, 10, none⟩ (.int .i64 (acc n).f.n)).setCell ⟨W.heap.size, 11, none⟩ (.int .i64 (acc n).f.d)).setCell ⟨W.heap.size + 1, 0, none⟩ .nilIface).putObj D (.deferred none)).cell? ⟨W.heap.size + 1, 0, none⟩ = some .nilIface := cell_kept (World.cell?_setCell_same' _ _ .nilIface (isSome_of ((put_cell (p := ⟨W.heap.size + 1, 0, none⟩) (R := W.heap.size) ne5 [.int .i64 (acc n).a.n, .int .i64 (acc n).a.d, .int .i64 (acc n).b.n, .int .i64 (acc n).b.d, .int .i64 (acc n).c.n, .int .i64 (acc n).c.d, .int .i64 (acc n).d.n, .int .i64 (acc n).d.d, .int .i64 (acc n).e.n, .int .i64 (acc n).e.d, .int .i64 (acc n).f.n, .int .i64 (acc n).f.d] 0 X).trans h4))) (grownBy_putObj' _ D (.deferred none)) (fun r e => by cases e; exact ⟨_, hK', rfl⟩)
    have oc0 := hO.2.1 0 _ rfl
    have oc1 := hO.2.1 1 _ rfl
    have oc2 := hO.2.1 2 _ rfl
    have oc3 := hO.2.1 3 _ rfl
    have oc4 := hO.2.1 4 _ rfl
    have oc5 := hO.2.1 5 _ rfl
    have oc6 := hO.2.1 6 _ rfl
    have oc7 := hO.2.1 7 _ rfl
    have oc8 := hO.2.1 8 _ rfl
    have oc9 := hO.2.1 9 _ rfl
    have oc10 := hO.2.1 10 _ rfl
    have oc11 := hO.2.1 11 _ rfl
    clear hO
    have hL := (put_below (R := W.heap.size) (Nat.le_refl _) [.int .i64 (acc n).a.n, .int .i64 (acc n).a.d, .int .i64 (acc n).b.n, .int .i64 (acc n).b.d, .int .i64 (acc n).c.n, .int .i64 (acc n).c.d, .int .i64 (acc n).d.n, .int .i64 (acc n).d.d, .int .i64 (acc n).e.n, .int .i64 (acc n).e.d, .int .i64 (acc n).f.n, .int .i64 (acc n).f.d] 0 hB).setCell (p := ⟨W.heap.size + 1, 0, none⟩) (by simp only; omega) .nilIface
    refine ⟨.tuple #[mv (acc n), .nilIface], ?_, rfl, hL.trans (belowK_b (w := W) (Nat.le_refl _) _ D _ _ (by omega) hK' rfl rfl)⟩
    simp [results, Tryd.results8, go_sem, hQ, oc0, oc1, oc2, oc3, oc4, oc5, oc6, oc7, oc8, oc9, oc10, oc11]
  case stop =>
    rintro D c pre X _ _ h _
    exact h.elim

end Go.Proofs.YtdilieoobkldhabDoor


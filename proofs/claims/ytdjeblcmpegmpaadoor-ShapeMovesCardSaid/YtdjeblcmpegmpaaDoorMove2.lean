/-
  The contract of package move's checkAll over its own iterator: the first fraction that is not right is told, with its number; nothing else in memory changes.
-/
import Derived.Test.YtdjeblcmpegmpaaDoorMove1
import Derived.Deep.RegionHeld3
namespace Go.Proofs.YtdjeblcmpegmpaaDoor
open Go.RowKit Go.Shelf

attribute [local go_sem] Oper.semAt_some

theorem below_others {W W' : World} (h : Below W.heap.size W W') : KeepsOthers W W' :=
  ⟨h.size, fun k _ hk _ => (h.block k (Array.getElem?_eq_some_iff.1 hk).1).trans hk⟩

theorem cell_one (W : World) (v : Value) (t : TypeId) : (W.alloc (.cells #[v] t)).cell? ⟨W.heap.size, 0, none⟩ = some v ∧ (W.alloc (.cells #[v] t)).frozen? ⟨W.heap.size, 0, none⟩ = false := ⟨by simp, by simp⟩
theorem cell_al {W : World} {a : Addr} {v : Value} (o : Obj) (h : W.cell? a = some v) : (W.alloc o).cell? a = some v := cell_kept h (World.grownBy_alloc W o none) (fun r e => by cases e)
theorem froz_al {W : World} {a : Addr} {v : Value} (o : Obj) (h : W.cell? a = some v) (hf : W.frozen? a = false) : (W.alloc o).frozen? a = false := (frozen_kept h (World.grownBy_alloc W o none) (fun r e => by cases e)).trans hf

/-- Where an iterator over numbered fractions reads. -/
structure Rows6 (W : World) (n₀ Bl Bf b cap fr : Nat) (xs : List Item) : Prop where
  lb : Bl < n₀
  lf : Bf < n₀
  ls : b < n₀
  l : W.cell? ⟨Bl, 0, none⟩ = some (.slice (some ⟨b, 0, none⟩) xs.length cap)
  f : W.cell? ⟨Bf, 0, none⟩ = some (.int .i64 fr)
  c0 : ∀ j (h : j < xs.length), W.cell? ⟨b, j * 2, none⟩ = some (.int .i64 xs[j].x.n)
  c1 : ∀ j (h : j < xs.length), W.cell? ⟨b, j * 2 + 1, none⟩ = some (.int .i64 xs[j].x.d)
  i : ∀ j (h : j < xs.length), xs[j].i = fr + j
  len : xs.length ≤ 1000
  fr : fr ≤ 1000

theorem Rows6.below {W W' : World} {n₀ Bl Bf b cap fr : Nat} {xs : List Item} (h : Rows6 W n₀ Bl Bf b cap fr xs) (hb : Below n₀ W W') : Rows6 W' n₀ Bl Bf b cap fr xs :=
  ⟨h.lb, h.lf, h.ls, (hb.cell (p := ⟨Bl, 0, none⟩) h.lb).trans h.l, (hb.cell (p := ⟨Bf, 0, none⟩) h.lf).trans h.f, fun j hj => (hb.cell (p := ⟨b, j * 2, none⟩) h.ls).trans (h.c0 j hj), fun j hj => (hb.cell (p := ⟨b, j * 2 + 1, none⟩) h.ls).trans (h.c1 j hj), h.i, h.len, h.fr⟩

theorem numbered_stops (F : Fence) (n : Nat) (hf : F.fn 48) (hro : F.round = none) (hn : 1 ≤ n) (Bl Bf n₀ b cap fr : Nat) (xs : List Item) (w : World) (hn₀ : n₀ ≤ w.heap.size) (h : Rows6 w n₀ Bl Bf b cap fr xs) :
    SeqStopsK F n Tryd.prog 48 #[.pointer (some ⟨Bl, 0, none⟩), .pointer (some ⟨Bf, 0, none⟩)] itemV (Below n₀) (fun ys => ys = xs) (fun pre => pre <+: xs) xs.length w := fun l J Jx W hW hJ _ hY h0 => by
  have h' := h.below (hW.mono hn₀)
  exact numbered1_in F n hf hro hn l Bl Bf n₀ b xs.length cap fr xs rfl h.len h.fr h.ls h.lf J Jx (fun s A B hs hg => hJ s A B none hs hg (fun r e => by cases e)) hY W (Nat.le_trans hn₀ hW.size) h'.l h'.f h'.c0 h'.c1 h'.i h0

theorem two_own {β : Type} (B : Nat) (x y : Value) : Own (fun (_ : β) W => Two W B x y) := fun _ _ _ _ hs hg hr =>
  ⟨cell_kept hs.c0 hg hr, cell_kept hs.c1 hg hr, (frozen_kept hs.c0 hg hr).trans hs.f0, (frozen_kept hs.c1 hg hr).trans hs.f1⟩

/-- What checkAll answers. -/
def FaultAt (aB aS aZ : Addr) (w : World) (xs : List Item) (e : Ending) (W : World) : Prop :=
  ((∀ y ∈ xs, chk y.x.n y.x.d = 0) ∧ e = .returned .nilIface) ∨
  (∃ q x r pb, xs = q ++ x :: r ∧ (∀ y ∈ q, chk y.x.n y.x.d = 0) ∧ chk x.x.n x.x.d ≠ 0 ∧ w.heap.size ≤ pb ∧ e = .returned (.iface 59 (.pointer (some ⟨pb, 0, none⟩))) ∧ W.cell? ⟨pb, 0, none⟩ = some (.int .i64 x.i) ∧ W.cell? ⟨pb, 1, none⟩ = some (er aB aS aZ (chk x.x.n x.x.d)))

set_option maxRecDepth 100000 in
set_option maxHeartbeats 4000000 in
theorem checkAll_in (aB aS aZ : Addr) (Bl Bf b cap fr : Nat) (xs : List Item) (w : World) (h : Rows6 w w.heap.size Bl Bf b cap fr xs) (hE : E3 aB aS aZ w) :
    CallsIn Fence.wide 9 Tryd.prog 25 #[.func (.func 48) #[] #[.pointer (some ⟨Bl, 0, none⟩), .pointer (some ⟨Bf, 0, none⟩)]] w fun e W => FaultAt aB aS aZ w xs e W ∧ Below w.heap.size w W := by
  refine callsIn_of_wp_marks Tryd.func25 rfl trivial ?_ rfl
  simp only [Tryd.ntmps25, List.size_toArray, List.length_cons, List.length_nil, Nat.reduceAdd, Nat.reduceSub, Array.replicate_succ, Array.replicate_zero, List.push_toArray, List.append_toArray, List.nil_append, List.cons_append]
  gi_wp2
  have c0 := cell_one w .nilIface 32
  have hB0 : Below w.heap.size w (w.alloc (.cells #[.nilIface] 32)) := (Below.refl _ w).alloc (Nat.le_refl _) _
  refine wpIn_rangeFunc_ownH rfl (by omega) (gf := 48) (lb := #[.pointer (some ⟨Bl, 0, none⟩), .pointer (some ⟨Bf, 0, none⟩)]) rfl trivial (enters_of Tryd.func48 (by kernel_rfl) rfl)
    (numbered_stops Fence.wide _ trivial rfl (by omega) Bl Bf w.heap.size b cap fr xs _ (by simp) (h.below hB0)) belowK_t (belowK_b (by simp)) (Below.refl _ _) (fun _ => rfl)
    (fun pre W => ((∀ y ∈ pre, chk y.x.n y.x.d = 0) ∧ W.cell? ⟨w.heap.size, 0, none⟩ = some .nilIface ∧ W.frozen? ⟨w.heap.size, 0, none⟩ = false) ∧ Below w.heap.size w W)
    (fun c pre W => (c = .ret ∧ ∃ q x pb, pre = q ++ [x] ∧ (∀ y ∈ q, chk y.x.n y.x.d = 0) ∧ chk x.x.n x.x.d ≠ 0 ∧ w.heap.size ≤ pb ∧ W.cell? ⟨w.heap.size, 0, none⟩ = some (.iface 59 (.pointer (some ⟨pb, 0, none⟩))) ∧ W.cell? ⟨pb, 0, none⟩ = some (.int .i64 x.i) ∧ W.cell? ⟨pb, 1, none⟩ = some (er aB aS aZ (chk x.x.n x.x.d))) ∧ Below w.heap.size w W)
    (OwnFrom.and (Own.from (fun s A B row hs hg hr => ⟨hs.1, cell_kept hs.2.1 hg hr, (frozen_kept hs.2.1 hg hr).trans hs.2.2⟩) _) (ownFrom_below (Nat.le_refl _) (by simp)))
    (fun c => OwnFrom.and (Own.from (fun s A B row hs hg hr => by obtain ⟨h1, q, x, pb, h2, h3, h4, h5, h6, h7, h8⟩ := hs; exact ⟨h1, q, x, pb, h2, h3, h4, h5, cell_kept h6 hg hr, cell_kept h7 hg hr, cell_kept h8 hg hr⟩) _) (ownFrom_below (Nat.le_refl _) (by simp)))
    ⟨⟨by simp, c0.1, c0.2⟩, hB0⟩
    (fun x a' W => ∃ Bx, w.heap.size < Bx ∧ Two W Bx (.int .i64 x.x.n) (.int .i64 x.x.d) ∧ a' = { tmps := #[.func (.func 48) #[] #[.pointer (some ⟨Bl, 0, none⟩), .pointer (some ⟨Bf, 0, none⟩)], undef, .pointer (some ⟨w.heap.size, 0, none⟩), .int .i64 x.i, .pointer (some ⟨Bx, 0, none⟩), undef, .func (.func 48) #[] #[.pointer (some ⟨Bl, 0, none⟩), .pointer (some ⟨Bf, 0, none⟩)], .int .i64 x.i, .agg #[.int .i64 x.x.n, .int .i64 x.x.d], undef, undef, undef, undef, undef, undef, undef, undef, undef], defers := [] })
    (fun x a' s A B row hs hg hr => by obtain ⟨Bx, h1, h2, h3⟩ := hs; exact ⟨Bx, h1, (two_own Bx _ _) () A B row h2 hg (fun r e => (hr r e).2), h3⟩)
    ?assign ?body ?done ?stop
  case assign =>
    rintro l pre x W K ⟨⟨hp, hc, hf⟩, hB⟩ hK
    gi_wp2
    have hs := hB.size
    have hlt := cell_lt hc
    exact hK _ _ ((KeepsOthers.alloc _ _).from _) ((Below.refl _ W).alloc hs _) ⟨⟨hp, cell_al _ hc, froz_al _ hc hf⟩, hB.alloc hs _⟩ ⟨W.heap.size, hlt, Two.new W _ _ _, rfl⟩
  case body =>
    rintro l pre x a' W hl hr ⟨⟨hp, hc, hf⟩, hB⟩ ⟨Bx, hBx, ⟨k1, k2, k3, k4⟩, rfl⟩ hlt
    have hlt := cell_lt hc
    have hEW := hE.below hB (Nat.le_refl _)
    have HK := Check_any aB aS aZ x.x.n x.x.d W x.h1 x.h2 hEW
    by_cases hx : chk x.x.n x.x.d = 0
    · rw [hx] at HK
      gi_wp2_with (refine ⟨trivial, ?_⟩; gi_at_call 38; refine (CallsIn.inRound l (callsIn_wide.2 HK)).mono ?_; rintro e w' ⟨rfl, hb⟩; simp only [er_0])
      exact ⟨(below_others hb).from _, hb.mono hB.size, ⟨fun y hy => (List.mem_append.1 hy).elim (hp y) (fun e => by simp at e; subst e; exact hx), (hb.cell (p := ⟨w.heap.size, 0, none⟩) hlt).trans hc, (hb.frozen (p := ⟨w.heap.size, 0, none⟩) hlt).trans hf⟩, hB.trans (hb.mono hB.size)⟩
    · obtain ⟨a, ha⟩ := er_cases aB aS aZ (show chk x.x.n x.x.d = 2 ∨ chk x.x.n x.x.d = 3 by have := chk_cases x.x.n x.x.d; omega)
      have HC : Hid (er aB aS aZ (chk x.x.n x.x.d) = .iface 108 (.pointer (some a))) := ha
      have HX : Hid (¬ chk x.x.n x.x.d = 0) := hx
      rw [ha] at HK
      clear ha hx
      gi_wp2_with (refine ⟨trivial, ?_⟩; gi_at_call 38; refine (CallsIn.inRound l (callsIn_wide.2 HK)).mono ?_; rintro e w' ⟨rfl, hb⟩; have hz := hb.size; have hc2 := (hb.cell (p := ⟨w.heap.size, 0, none⟩) hlt).trans hc; have hf2 := (hb.frozen (p := ⟨w.heap.size, 0, none⟩) hlt).trans hf; have hc3 := fun o => cell_al o hc2; have hf3 := fun o => froz_al o hc2 hf2)
      have hne : w'.heap.size ≠ w.heap.size := by omega
      refine ⟨((below_others hb).trans ((KeepsOthers.alloc _ _).trans (KeepsOthers.setCell _ _ _))).from _, ⟨rfl, pre, x, w'.heap.size, rfl, hp, HX.out, by have := hB.size; omega, World.cell?_setCell_same' _ _ _ (by rw [hc3]; rfl), ?_, ?_⟩, ?_⟩
      · rw [World.cell?_setCell_far _ _ _ _ (fun e => hne e.symm)]; simp
      · rw [HC.out, World.cell?_setCell_far _ _ _ _ (fun e => hne e.symm)]; simp
      · exact (hB.trans (hb.mono hB.size)).alloc (by have := hB.size; omega) _ |>.setCell (by simp) _
  case done =>
    rintro D ys W hD rfl ⟨⟨hp, hcr, hfr⟩, hB⟩ hK
    gi_wp2
    have hK' := (KeepsOthers.setCell W ⟨w.heap.size, 0, none⟩ .nilIface).same D _ hK rfl
    refine ⟨by simp, .inl ⟨_, _, rfl, run_takeDeferred hK', ?_⟩⟩
    have hc5 := cell_kept (World.cell?_setCell_same' W ⟨w.heap.size, 0, none⟩ .nilIface (by rw [hcr]; rfl)) (grownBy_putObj' _ D (.deferred none)) (fun r e => by cases e; exact ⟨_, hK', rfl⟩)
    refine ⟨.nilIface, ?_, .inl ⟨hp, rfl⟩, (hB.setCell (p := ⟨w.heap.size, 0, none⟩) (by simp) _).trans (belowK_b (w := w) (Nat.le_refl _) _ D _ _ (by simp at hD; omega) hK' rfl rfl)⟩
    simp [results, Tryd.results25, go_sem, hc5]
  case stop =>
    rintro D c pre W hD hpre ⟨⟨rfl, q, x, pb, rfl, h3, h4, h5, h6, h7, h8⟩, hB⟩ hK
    gi_wp2
    refine ⟨by simp, .inl ⟨_, _, rfl, run_takeDeferred hK, ?_⟩⟩
    have hr : ∀ r, some D = some r → ∃ o : Obj, W.heap[r]? = some o ∧ o.isCells = false := fun r e => by cases e; exact ⟨_, hK, rfl⟩
    have hg := grownBy_putObj' W D (.deferred none)
    have hc5 := cell_kept h6 hg hr
    obtain ⟨r, hr'⟩ := hpre
    refine ⟨_, ?_, .inr ⟨q, x, r, pb, by rw [← hr']; simp, h3, h4, h5, rfl, cell_kept h7 hg hr, cell_kept h8 hg hr⟩, hB.trans (belowK_b (w := w) (Nat.le_refl _) W D _ _ (by simp at hD; omega) hK rfl rfl)⟩
    simp [results, Tryd.results25, go_sem, hc5]

end Go.Proofs.YtdjeblcmpegmpaaDoor

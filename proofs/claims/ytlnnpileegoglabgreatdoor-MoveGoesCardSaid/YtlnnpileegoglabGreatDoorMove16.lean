/-
  Package move's readList: the words of a text, and the list of moves that they make.
-/
import Derived.Test.YtlnnpileegoglabGreatDoorJ8
import Derived.Deep.AppendLies
import Derived.RangeFuncOwn
namespace Go.Proofs.YtlnnpileegoglabGreatDoor
open Go.RowKit

attribute [local go_sem] run_store_func'

set_option maxHeartbeats 1000000 in
/-- strings.Split at one blank. -/
theorem split_any (s : ByteArray) (hs : s.size < 4294967281) (W : World) :
    Calls Tryz.prog 59 #[.string s, .string ⟨#[32]⟩] W fun e w' => e = .returned (.slice (some ⟨W.heap.size, 0, none⟩) (Lib.countB s ⟨#[32]⟩ + 1) (Lib.countB s ⟨#[32]⟩ + 1)) ∧ w' = W.alloc (.cells ((Lib.splitB ⟨#[32]⟩ 0 (Lib.countB s ⟨#[32]⟩) s).map Value.string).toArray 9) := by
  have h1 : 1 ≤ (⟨#[32]⟩ : ByteArray).size := by decide
  have hle := Lib.countB_le ⟨#[32]⟩ h1 s.size s (Nat.le_refl _)
  have hlen := Lib.splitB_all ⟨#[32]⟩ h1 0 _ s rfl
  have c := Any.strings_genSplit_core Tryz.lays221 (by kernel_rfl) s ⟨#[32]⟩ 0 (-1) (Lib.countB s ⟨#[32]⟩ + 1) W hs h1 (Nat.zero_le _)
    (fun x c _ => (Any.strings_Index_one Tryz.lays143 x 32 _).mono fun e w' ⟨he, hw⟩ => ⟨by rw [he, ← Lib.index_one], hw⟩)
    ((Any.strings_Count_one Tryz.lays138 s 32 W).mono fun e w' ⟨he, hw⟩ => ⟨by rw [he]; show _ = Ending.returned (Value.int .i64 ((Lib.count s.data.toList [32] : Nat) : Int)); rw [Lib.count_one]; rfl, hw⟩)
    (by decide) (by decide) (by rw [if_pos (by decide)]; omega)
  rw [Nat.add_sub_cancel, hlen] at c
  have e2 : Lib.cellsOf (Lib.splitB ⟨#[32]⟩ 0 (Lib.countB s ⟨#[32]⟩) s) (Lib.countB s ⟨#[32]⟩ + 1) = ((Lib.splitB ⟨#[32]⟩ 0 (Lib.countB s ⟨#[32]⟩) s).map Value.string).toArray := by rw [← hlen]; exact Lib.cellsOf_full _
  rw [e2] at c
  go_enter Tryz.func59, Tryz.ntmps59
  go_wp2_with (go_at_call 74; refine c.mono ?_; rintro e w' ⟨rfl, hw⟩; rw [hw])
  go_ret
  exact ⟨rfl, rfl⟩

theorem put_low {R : Nat} : ∀ (vs : List Value) (o : Nat) (w : World) (j : Nat), j < o → (put w R o vs).cell? ⟨R, j, none⟩ = w.cell? ⟨R, j, none⟩
  | [], _, _, _, _ => rfl
  | v :: vs, o, w, j, h => (put_low vs (o + 1) _ j (by omega)).trans (World.cell?_setCell_other _ _ _ _ (by intro e; have := congrArg Addr.off e; simp only at this; omega))
theorem put_at {R : Nat} : ∀ (vs : List Value) (o : Nat) (w : World), (∀ i, i < vs.length → (w.cell? ⟨R, o + i, none⟩).isSome = true) → ∀ j u, vs[j]? = some u → (put w R o vs).cell? ⟨R, o + j, none⟩ = some u
  | [], _, _, _, j, u, h => by simp at h
  | v :: vs, o, w, hw, 0, u, h => by
    simp at h; subst h
    exact (put_low vs (o + 1) _ o (by omega)).trans (World.cell?_setCell_same' _ _ _ (hw 0 (by simp)))
  | v :: vs, o, w, hw, j + 1, u, h => by
    have := put_at vs (o + 1) (w.setCell ⟨R, o, none⟩ v) (fun i hi => by
      rw [World.cell?_setCell_other _ _ _ _ (by intro e; have := congrArg Addr.off e; simp only at this; omega)]
      have := hw (i + 1) (by simp; omega)
      rwa [show o + (i + 1) = o + 1 + i by omega] at this) j u (by simpa using h)
    rw [show o + (j + 1) = o + 1 + j by omega]
    exact this
theorem undrew {B : Nat} {w u : World} (h : Below B w.drew u) : Below B w u := ⟨h.os, h.tape, h.output, h.size, h.block⟩
theorem gr_cell {w u : World} (hg : w.grownBy u none) {p : Addr} {v : Value} (h : w.cell? p = some v) : u.cell? p = some v := cell_kept h hg (fun r e => by cases e)
theorem list_at {cs : List Value} {w : World} {t : TypeId} : ∀ j u, cs[j]? = some u → (w.alloc (.cells cs.toArray t)).cell? ⟨w.heap.size, j, none⟩ = some u := fun j u h => cell_at rfl (by simpa using h)
theorem blk_some {w : World} {R : Nat} {cs : Array Value} {t : TypeId} (h : Blk w R cs t) : ∀ i, i < cs.size → (w.cell? ⟨R, 0 + i, none⟩).isSome = true := fun i hi => by
  rw [h.cell (0 + i) cs[i] (by simp [hi])]; rfl

theorem keepk {w : World} {Q R : Nat} {a b : Value} {v0 v1 v2 v3 v4 v5 v6 v7 v8 v9 v10 v11 : Value} (h : w.cell? ⟨Q, 0, none⟩ = some a ∧ w.cell? ⟨Q, 1, none⟩ = some b) (hR : Q ≠ R) : ((((((((((((w.setCell ⟨R, 0, none⟩ v0).setCell ⟨R, 1, none⟩ v1).setCell ⟨R, 2, none⟩ v2).setCell ⟨R, 3, none⟩ v3).setCell ⟨R, 4, none⟩ v4).setCell ⟨R, 5, none⟩ v5).setCell ⟨R, 6, none⟩ v6).setCell ⟨R, 7, none⟩ v7).setCell ⟨R, 8, none⟩ v8).setCell ⟨R, 9, none⟩ v9).setCell ⟨R, 10, none⟩ v10).setCell ⟨R, 11, none⟩ v11).cell? ⟨Q, 0, none⟩ = some a ∧ ((((((((((((w.setCell ⟨R, 0, none⟩ v0).setCell ⟨R, 1, none⟩ v1).setCell ⟨R, 2, none⟩ v2).setCell ⟨R, 3, none⟩ v3).setCell ⟨R, 4, none⟩ v4).setCell ⟨R, 5, none⟩ v5).setCell ⟨R, 6, none⟩ v6).setCell ⟨R, 7, none⟩ v7).setCell ⟨R, 8, none⟩ v8).setCell ⟨R, 9, none⟩ v9).setCell ⟨R, 10, none⟩ v10).setCell ⟨R, 11, none⟩ v11).cell? ⟨Q, 1, none⟩ = some b :=
  ⟨(put_cell (p := ⟨Q, 0, none⟩) (R := R) hR [v0, v1, v2, v3, v4, v5, v6, v7, v8, v9, v10, v11] 0 w).trans h.1, (put_cell (p := ⟨Q, 1, none⟩) (R := R) hR [v0, v1, v2, v3, v4, v5, v6, v7, v8, v9, v10, v11] 0 w).trans h.2⟩
theorem keepka {w : World} {Q : Nat} {a b : Value} {o : Obj} (h : w.cell? ⟨Q, 0, none⟩ = some a ∧ w.cell? ⟨Q, 1, none⟩ = some b) : (w.alloc o).cell? ⟨Q, 0, none⟩ = some a ∧ (w.alloc o).cell? ⟨Q, 1, none⟩ = some b := ⟨cell_al o h.1, cell_al o h.2⟩
theorem keep_b {w u : World} {Q : Nat} {a b : Value} (hb : Below w.heap.size w u) (h : w.cell? ⟨Q, 0, none⟩ = some a ∧ w.cell? ⟨Q, 1, none⟩ = some b) : u.cell? ⟨Q, 0, none⟩ = some a ∧ u.cell? ⟨Q, 1, none⟩ = some b := ⟨(hb.cell (p := ⟨Q, 0, none⟩) (cell_lt h.1)).trans h.1, (hb.cell (p := ⟨Q, 1, none⟩) (cell_lt h.2)).trans h.2⟩
theorem blk_after {w u : World} {cs : Array Value} {t : TypeId} (hb : Below (w.alloc (.cells cs t)).drew.heap.size (w.alloc (.cells cs t)).drew u) : Blk u w.heap.size cs t := Blk.below (w := (w.alloc (.cells cs t)).drew) ⟨(Blk.new w cs t).h⟩ hb (Nat.le_refl _)
theorem keepkd {w : World} {Q : Nat} {a b : Value} {o : Obj} (h : w.drew.cell? ⟨Q, 0, none⟩ = some a ∧ w.drew.cell? ⟨Q, 1, none⟩ = some b) : (w.alloc o).drew.cell? ⟨Q, 0, none⟩ = some a ∧ (w.alloc o).drew.cell? ⟨Q, 1, none⟩ = some b := keepka (w := w) h

theorem infoMove : (Tryz.prog.info? 30).map (fun i => (i.zero, i.size, i.bytes)) = some (some (.agg #[.int .i64 0, .int .i64 0, .int .i64 0, .int .i64 0, .int .i64 0, .int .i64 0, .int .i64 0, .int .i64 0, .int .i64 0, .int .i64 0, .int .i64 0, .int .i64 0]), 12, 96) := by kernel_rfl
theorem one12 {m : Mv} : ∀ u ∈ [Value.int .i64 m.a.n, .int .i64 m.a.d, .int .i64 m.b.n, .int .i64 m.b.d, .int .i64 m.c.n, .int .i64 m.c.d, .int .i64 m.d.n, .int .i64 m.d.d, .int .i64 m.e.n, .int .i64 m.e.d, .int .i64 m.f.n, .int .i64 m.f.d], u.oneCell' = true := fun u hu => by
  simp at hu; rcases hu with rfl | rfl | rfl | rfl | rfl | rfl | rfl | rfl | rfl | rfl | rfl | rfl <;> rfl

set_option maxRecDepth 20000 in
set_option maxHeartbeats 8000000 in
theorem readList_frac2 (s k a1 a2 : ByteArray) (m : Mv) (f : Nat) (W : World) (hs : s.size < 4294967281) (hne : s.toList.isEmpty = false) (hc : Lib.countB s ⟨#[32]⟩ = 2) (hw : Lib.splitB ⟨#[32]⟩ 0 2 s = [k, a1, a2])
    (KD : ∀ V, Calls Tryz.prog 60 #[.string k] V fun e w' => (∃ B, V.heap.size ≤ B ∧ e = .returned (.tuple #[.agg #[.int .i64 2, .func (.func 85) #[] #[.pointer (some ⟨B, 0, none⟩)]], .bool true]) ∧ w'.cell? ⟨B, 0, none⟩ = some (.func (.func f) #[] #[])) ∧ Below V.heap.size V w')
    (RD : ∀ V b B, Below W.heap.size W V → V.cell? ⟨B, 0, none⟩ = some (.func (.func f) #[] #[]) → V.cell? ⟨b, 1, none⟩ = some (.string a1) → V.cell? ⟨b, 2, none⟩ = some (.string a2) → Calls Tryz.prog 85 #[.slice (some ⟨b, 1, none⟩) 2 2, .pointer (some ⟨B, 0, none⟩)] V fun e w' => e = .returned (.tuple #[mv m, .nilIface]) ∧ Below V.heap.size V w') :
    Calls Tryz.prog 41 #[.string s] W fun e w' => (∃ g cap, e = .returned (.tuple #[.slice (some ⟨g, 0, none⟩) 1 cap, .nilIface]) ∧ w'.ownsRow W.heap.size 30 12 (.slice (some ⟨g, 0, none⟩) 1 cap) 1 [.int .i64 m.a.n, .int .i64 m.a.d, .int .i64 m.b.n, .int .i64 m.b.d, .int .i64 m.c.n, .int .i64 m.c.d, .int .i64 m.d.n, .int .i64 m.d.d, .int .i64 m.e.n, .int .i64 m.e.d, .int .i64 m.f.n, .int .i64 m.f.d]) ∧ Below W.heap.size W w' := by
  have HS := split_any s hs W
  rw [hc, hw] at HS
  simp only [List.map_cons, List.map_nil] at HS
  clear hs hc hw
  have L0 := (Below.refl W.heap.size W).alloc (Nat.le_refl _) (.cells #[.string k, .string a1, .string a2] 9)
  have B0 := Blk.new W #[.string k, .string a1, .string a2] 9
  obtain ⟨i0, hi, hz0, hz1, hz2⟩ := info_parts infoMove
  go_enter Tryz.func41, Tryz.ntmps41
  go_wp2_with (go_at_call 59; refine HS.mono ?_; rintro e w' ⟨rfl, rfl⟩)
  refine wp_loop_rounds 2 ?_
  rw [rounds_succ]
  go_wp2_with (go_at_call 60; refine (KD _).mono ?_; rintro e w1 ⟨⟨B, hB, rfl, hBc⟩, hb1⟩; have L1 := L0.trans (hb1.mono (by simp)); have B1 := B0.below hb1 (Nat.le_refl _))
  have K2 := Blk.new w1 #[.int .i64 2, .func (.func 85) #[] #[.pointer (some ⟨B, 0, none⟩)]] 115
  have L2 := L1.alloc (by have := hb1.size; simp at this; omega) (.cells #[.int .i64 2, .func (.func 85) #[] #[.pointer (some ⟨B, 0, none⟩)]] 115)
  have B2 := B1.alloc (.cells #[.int .i64 2, .func (.func 85) #[] #[.pointer (some ⟨B, 0, none⟩)]] 115)
  have C2 := cell_al (.cells #[.int .i64 2, .func (.func 85) #[] #[.pointer (some ⟨B, 0, none⟩)]] 115) hBc
  have q1 := hb1.size
  rw [World.size_alloc] at q1
  obtain ⟨V, hV⟩ : ∃ V, w1.alloc (.cells #[.int .i64 2, .func (.func 85) #[] #[.pointer (some ⟨B, 0, none⟩)]] 115) = V := ⟨_, rfl⟩
  have hVs : w1.heap.size < V.heap.size := by rw [← hV]; simp
  rw [hV] at K2 L2 B2 C2 ⊢
  clear hV L1 B1 hBc hb1 L0 B0 HS KD
  go_cut [8, 9] (fun p v wx => v = .nilIface ∧ ∃ R, p = .pointer (some ⟨R, 0, none⟩) ∧ V.heap.size ≤ R ∧ (∀ j u, [.int .i64 m.a.n, .int .i64 m.a.d, .int .i64 m.b.n, .int .i64 m.b.d, .int .i64 m.c.n, .int .i64 m.c.d, .int .i64 m.d.n, .int .i64 m.d.d, .int .i64 m.e.n, .int .i64 m.e.d, .int .i64 m.f.n, .int .i64 m.f.d][j]? = some u → wx.cell? ⟨R, j, none⟩ = some u) ∧ Below V.heap.size V wx)
  case first =>
    have L3 := L2.alloc (by omega) (.cells #[.int .i64 0, .int .i64 0, .int .i64 0, .int .i64 0, .int .i64 0, .int .i64 0, .int .i64 0, .int .i64 0, .int .i64 0, .int .i64 0, .int .i64 0, .int .i64 0] 30)
    have c1 := B2.cell 1 _ rfl
    have c2 := B2.cell 2 _ rfl
    have L2d : Below W.heap.size W V.drew := below_drewN L2 1
    have L3d : Below W.heap.size W (V.alloc (.cells #[.int .i64 0, .int .i64 0, .int .i64 0, .int .i64 0, .int .i64 0, .int .i64 0, .int .i64 0, .int .i64 0, .int .i64 0, .int .i64 0, .int .i64 0, .int .i64 0] 30)).drew := below_drewN L3 1
    have C2d : V.drew.cell? ⟨B, 0, none⟩ = some (.func (.func f) #[] #[]) := C2
    have C3d : (V.alloc (.cells #[.int .i64 0, .int .i64 0, .int .i64 0, .int .i64 0, .int .i64 0, .int .i64 0, .int .i64 0, .int .i64 0, .int .i64 0, .int .i64 0, .int .i64 0, .int .i64 0] 30)).drew.cell? ⟨B, 0, none⟩ = some (.func (.func f) #[] #[]) := cell_al _ C2
    have c1d : V.drew.cell? ⟨W.heap.size, 1, none⟩ = some (.string a1) := c1
    have c1e : (V.alloc (.cells #[.int .i64 0, .int .i64 0, .int .i64 0, .int .i64 0, .int .i64 0, .int .i64 0, .int .i64 0, .int .i64 0, .int .i64 0, .int .i64 0, .int .i64 0, .int .i64 0] 30)).drew.cell? ⟨W.heap.size, 1, none⟩ = some (.string a1) := cell_al _ c1
    have c2d : V.drew.cell? ⟨W.heap.size, 2, none⟩ = some (.string a2) := c2
    have c2e : (V.alloc (.cells #[.int .i64 0, .int .i64 0, .int .i64 0, .int .i64 0, .int .i64 0, .int .i64 0, .int .i64 0, .int .i64 0, .int .i64 0, .int .i64 0, .int .i64 0, .int .i64 0] 30)).drew.cell? ⟨W.heap.size, 2, none⟩ = some (.string a2) := cell_al _ c2
    have HZ : ∀ u, Below (V.alloc (.cells #[.int .i64 0, .int .i64 0, .int .i64 0, .int .i64 0, .int .i64 0, .int .i64 0, .int .i64 0, .int .i64 0, .int .i64 0, .int .i64 0, .int .i64 0, .int .i64 0] 30)).drew.heap.size (V.alloc (.cells #[.int .i64 0, .int .i64 0, .int .i64 0, .int .i64 0, .int .i64 0, .int .i64 0, .int .i64 0, .int .i64 0, .int .i64 0, .int .i64 0, .int .i64 0, .int .i64 0] 30)).drew u → Blk u V.heap.size #[.int .i64 0, .int .i64 0, .int .i64 0, .int .i64 0, .int .i64 0, .int .i64 0, .int .i64 0, .int .i64 0, .int .i64 0, .int .i64 0, .int .i64 0, .int .i64 0] 30 := fun u h => blk_after h
    have k0 := K2.cell 0 _ rfl
    have k1 := K2.cell 1 _ rfl
    have k0d : V.drew.cell? ⟨w1.heap.size, 0, none⟩ = some (.int .i64 2) := k0
    have k1d : V.drew.cell? ⟨w1.heap.size, 1, none⟩ = some (.func (.func 85) #[] #[.pointer (some ⟨B, 0, none⟩)]) := k1
    have k0e : (V.alloc (.cells #[.int .i64 0, .int .i64 0, .int .i64 0, .int .i64 0, .int .i64 0, .int .i64 0, .int .i64 0, .int .i64 0, .int .i64 0, .int .i64 0, .int .i64 0, .int .i64 0] 30)).drew.cell? ⟨w1.heap.size, 0, none⟩ = some (.int .i64 2) := cell_al _ k0
    have k1e : (V.alloc (.cells #[.int .i64 0, .int .i64 0, .int .i64 0, .int .i64 0, .int .i64 0, .int .i64 0, .int .i64 0, .int .i64 0, .int .i64 0, .int .i64 0, .int .i64 0, .int .i64 0] 30)).drew.cell? ⟨w1.heap.size, 1, none⟩ = some (.func (.func 85) #[] #[.pointer (some ⟨B, 0, none⟩)]) := cell_al _ k1
    have hlt := K2.lt
    have nv : w1.heap.size ≠ V.heap.size := by omega
    have nv' : ¬ V.heap.size = w1.heap.size := by omega
    go_region_held3 (fun w' => w'.cell? ⟨w1.heap.size, 0, none⟩ = some (.int .i64 2) ∧ w'.cell? ⟨w1.heap.size, 1, none⟩ = some (.func (.func 85) #[] #[.pointer (some ⟨B, 0, none⟩)])) (refine ⟨?_, ?_⟩ <;> (repeat rw [World.cell?_setCell_far _ _ _ _ nv']) <;> assumption) ((go_at_call 85; refine (RD _ W.heap.size B ?_ ?_ ?_ ?_).mono ?_; (first | exact L2d | exact L3d); (first | exact C2d | exact C3d); (first | exact c1d | exact c1e); (first | exact c2d | exact c2e); rintro e w3 ⟨rfl, hb3⟩; have hz3 := hb3.size; have hs3 := keep_b hb3 (by assumption); obtain ⟨j0, j1⟩ := hs3; have y0 := fun o => cell_al o j0; have y1 := fun o => cell_al o j1; have y2 := cell_al (.cells #[.int .i64 m.a.n, .int .i64 m.a.d, .int .i64 m.b.n, .int .i64 m.b.d, .int .i64 m.c.n, .int .i64 m.c.d, .int .i64 m.d.n, .int .i64 m.d.d, .int .i64 m.e.n, .int .i64 m.e.d, .int .i64 m.f.n, .int .i64 m.f.d] 30) j0; have y3 := cell_al (.cells #[.int .i64 m.a.n, .int .i64 m.a.d, .int .i64 m.b.n, .int .i64 m.b.d, .int .i64 m.c.n, .int .i64 m.c.d, .int .i64 m.d.n, .int .i64 m.d.d, .int .i64 m.e.n, .int .i64 m.e.d, .int .i64 m.f.n, .int .i64 m.f.d] 30) j1; have y4 := cell_al (.cells #[.int .i64 0, .int .i64 0, .int .i64 0, .int .i64 0, .int .i64 0, .int .i64 0, .int .i64 0, .int .i64 0, .int .i64 0, .int .i64 0, .int .i64 0, .int .i64 0] 30) j0; have y5 := cell_al (.cells #[.int .i64 0, .int .i64 0, .int .i64 0, .int .i64 0, .int .i64 0, .int .i64 0, .int .i64 0, .int .i64 0, .int .i64 0, .int .i64 0, .int .i64 0, .int .i64 0] 30) j1; (first | (have BZ := HZ _ hb3; have zc0 := BZ.cell 0 _ rfl; have zf0 := BZ.froz 0 _ rfl; have zc1 := BZ.cell 1 _ rfl; have zf1 := BZ.froz 1 _ rfl; have zc2 := BZ.cell 2 _ rfl; have zf2 := BZ.froz 2 _ rfl; have zc3 := BZ.cell 3 _ rfl; have zf3 := BZ.froz 3 _ rfl; have zc4 := BZ.cell 4 _ rfl; have zf4 := BZ.froz 4 _ rfl; have zc5 := BZ.cell 5 _ rfl; have zf5 := BZ.froz 5 _ rfl; have zc6 := BZ.cell 6 _ rfl; have zf6 := BZ.froz 6 _ rfl; have zc7 := BZ.cell 7 _ rfl; have zf7 := BZ.froz 7 _ rfl; have zc8 := BZ.cell 8 _ rfl; have zf8 := BZ.froz 8 _ rfl; have zc9 := BZ.cell 9 _ rfl; have zf9 := BZ.froz 9 _ rfl; have zc10 := BZ.cell 10 _ rfl; have zf10 := BZ.froz 10 _ rfl; have zc11 := BZ.cell 11 _ rfl; have zf11 := BZ.froz 11 _ rfl) | skip)))
    · go_wp2_with fail
      go_meet
      exact ⟨rfl, w3.heap.size, rfl, hz3, list_at (cs := [.int .i64 m.a.n, .int .i64 m.a.d, .int .i64 m.b.n, .int .i64 m.b.d, .int .i64 m.c.n, .int .i64 m.c.d, .int .i64 m.d.n, .int .i64 m.d.d, .int .i64 m.e.n, .int .i64 m.e.d, .int .i64 m.f.n, .int .i64 m.f.d]), (undrew hb3).alloc hz3 _⟩
    · go_wp2_with fail
      go_meet
      have hb4 : Below V.heap.size V w3 := ((Below.refl V.heap.size V).alloc (Nat.le_refl _) (.cells #[.int .i64 0, .int .i64 0, .int .i64 0, .int .i64 0, .int .i64 0, .int .i64 0, .int .i64 0, .int .i64 0, .int .i64 0, .int .i64 0, .int .i64 0, .int .i64 0] 30)).trans ((undrew hb3).mono (by simp))
      have hat := put_at (R := V.heap.size) [.int .i64 m.a.n, .int .i64 m.a.d, .int .i64 m.b.n, .int .i64 m.b.d, .int .i64 m.c.n, .int .i64 m.c.d, .int .i64 m.d.n, .int .i64 m.d.d, .int .i64 m.e.n, .int .i64 m.e.d, .int .i64 m.f.n, .int .i64 m.f.d] 0 w3 (fun i hi => blk_some BZ i hi)
      simp only [Nat.zero_add] at hat
      exact ⟨rfl, V.heap.size, rfl, Nat.le_refl _, hat, put_below (R := V.heap.size) (Nat.le_refl _) [.int .i64 m.a.n, .int .i64 m.a.d, .int .i64 m.b.n, .int .i64 m.b.d, .int .i64 m.c.n, .int .i64 m.c.d, .int .i64 m.d.n, .int .i64 m.d.d, .int .i64 m.e.n, .int .i64 m.e.d, .int .i64 m.f.n, .int .i64 m.f.d] 0 hb4⟩
  case rest =>
    obtain ⟨rfl, R, rfl, hR, hcells, hbV⟩ := hcut
    have KC := K2.below hbV (Nat.le_refl _)
    have kk := KC.cell 0 _ rfl
    have LC := L2.trans (hbV.mono (by omega))
    obtain ⟨m0, m1, m2, m3, m4, m5, m6, m7, m8, m9, m10, m11⟩ := And.intro (hcells 0 _ rfl) (And.intro (hcells 1 _ rfl) (And.intro (hcells 2 _ rfl) (And.intro (hcells 3 _ rfl) (And.intro (hcells 4 _ rfl) (And.intro (hcells 5 _ rfl) (And.intro (hcells 6 _ rfl) (And.intro (hcells 7 _ rfl) (And.intro (hcells 8 _ rfl) (And.intro (hcells 9 _ rfl) (And.intro (hcells 10 _ rfl) (hcells 11 _ rfl)))))))))))
    have szC := hbV.size
    clear hcells RD
    have H0 := World.alloc_heap_new wc (.cells #[.int .i64 m.a.n, .int .i64 m.a.d, .int .i64 m.b.n, .int .i64 m.b.d, .int .i64 m.c.n, .int .i64 m.c.d, .int .i64 m.d.n, .int .i64 m.d.d, .int .i64 m.e.n, .int .i64 m.e.d, .int .i64 m.f.n, .int .i64 m.f.d] 30)
    go_wp2_with fail
    go_region_held3 (fun w' => w'.cell? ⟨R, 0, none⟩ = some (.int .i64 m.a.n) ∧ w'.cell? ⟨R, 1, none⟩ = some (.int .i64 m.a.d) ∧ w'.cell? ⟨R, 2, none⟩ = some (.int .i64 m.b.n) ∧ w'.cell? ⟨R, 3, none⟩ = some (.int .i64 m.b.d) ∧ w'.cell? ⟨R, 4, none⟩ = some (.int .i64 m.c.n) ∧ w'.cell? ⟨R, 5, none⟩ = some (.int .i64 m.c.d) ∧ w'.cell? ⟨R, 6, none⟩ = some (.int .i64 m.d.n) ∧ w'.cell? ⟨R, 7, none⟩ = some (.int .i64 m.d.d) ∧ w'.cell? ⟨R, 8, none⟩ = some (.int .i64 m.e.n) ∧ w'.cell? ⟨R, 9, none⟩ = some (.int .i64 m.e.d) ∧ w'.cell? ⟨R, 10, none⟩ = some (.int .i64 m.f.n) ∧ w'.cell? ⟨R, 11, none⟩ = some (.int .i64 m.f.d) ∧ w'.cell? ⟨w1.heap.size, 0, none⟩ = some (.int .i64 2)) (refine ⟨?_, ?_, ?_, ?_, ?_, ?_, ?_, ?_, ?_, ?_, ?_, ?_, ?_⟩ <;> first | assumption | exact cell_al _ (by assumption) | exact hA _ _ (by assumption)) ((refine step_append_lies _ rfl (.tmp 49) (.tmp 51) 79 rfl W.heap.size 30 i0 (.agg #[.int .i64 0, .int .i64 0, .int .i64 0, .int .i64 0, .int .i64 0, .int .i64 0, .int .i64 0, .int .i64 0, .int .i64 0, .int .i64 0, .int .i64 0, .int .i64 0]) 12 96 Tryz.underlying79 hi hz0 hz1 hz2 rfl (by decide) (.slice none 0 0) 0 [] rfl (World.ownsRow_nil _ _ _ _) ⟨wc.heap.size, 0, none⟩ 1 1 [.int .i64 m.a.n, .int .i64 m.a.d, .int .i64 m.b.n, .int .i64 m.b.d, .int .i64 m.c.n, .int .i64 m.c.d, .int .i64 m.d.n, .int .i64 m.d.d, .int .i64 m.e.n, .int .i64 m.e.d, .int .i64 m.f.n, .int .i64 m.f.d] rfl rfl (World.news_of_block (w := (wc.alloc (.cells #[.int .i64 m.a.n, .int .i64 m.a.d, .int .i64 m.b.n, .int .i64 m.b.d, .int .i64 m.c.n, .int .i64 m.c.d, .int .i64 m.d.n, .int .i64 m.d.d, .int .i64 m.e.n, .int .i64 m.e.d, .int .i64 m.f.n, .int .i64 m.f.d] 30)).drew) (cs := #[.int .i64 m.a.n, .int .i64 m.a.d, .int .i64 m.b.n, .int .i64 m.b.d, .int .i64 m.c.n, .int .i64 m.c.d, .int .i64 m.d.n, .int .i64 m.d.d, .int .i64 m.e.n, .int .i64 m.e.d, .int .i64 m.f.n, .int .i64 m.f.d]) H0) one12 (by decide) (by decide) (by decide) (Nat.le_trans LC.size (by simp)) _ rfl ?_; intro g cap w5 hown hgrow hat hlt; have hgr : World.grownBy (wc.alloc (.cells #[.int .i64 m.a.n, .int .i64 m.a.d, .int .i64 m.b.n, .int .i64 m.b.d, .int .i64 m.c.n, .int .i64 m.c.d, .int .i64 m.d.n, .int .i64 m.d.d, .int .i64 m.e.n, .int .i64 m.e.d, .int .i64 m.f.n, .int .i64 m.f.d] 30)).drew w5 none := hgrow; have hA : ∀ p v, wc.cell? p = some v → w5.cell? p = some v := (fun p v h => gr_cell hgr (cell_al (W := wc) _ h))))
    go_wp2_with fail
    rw [rounds_succ]
    go_wp2_with fail
    go_ret2
    have hz5 := hgr.size
    refine ⟨⟨g, cap, rfl, hown⟩, ?_⟩
    exact (below_drewN (LC.alloc LC.size (.cells #[.int .i64 m.a.n, .int .i64 m.a.d, .int .i64 m.b.n, .int .i64 m.b.d, .int .i64 m.c.n, .int .i64 m.c.d, .int .i64 m.d.n, .int .i64 m.d.d, .int .i64 m.e.n, .int .i64 m.e.d, .int .i64 m.f.n, .int .i64 m.f.d] 30)) 1).grown hgr (by simp; have := LC.size; omega) (fun k e => by cases e)

end Go.Proofs.YtlnnpileegoglabGreatDoor

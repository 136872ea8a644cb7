/-
  Package move's reading of fractions behind a kind's name.
-/
import Derived.Test.YtdilieoobkldhabDoorMove13
import Derived.Test.YtdilieoobkldhabDoorRead3
import Derived.LoopN
import Derived.OwnWalk
import Derived.Maps.AppendAt
namespace Go.Proofs.YtdilieoobkldhabDoor
open Go.RowKit

theorem ownsRow_below {w w' : World} {base : Nat} {e : TypeId} {size n : Nat} {v : Value} {xs : List Value} (h : w.ownsRow base e size v n xs) (hb : Below w.heap.size w w') : w'.ownsRow base e size v n xs := by
  obtain ⟨h1, h2⟩ := h
  refine ⟨h1, ?_⟩
  rcases h2 with h2 | ⟨g, cap, cur, h3, h4, h5, h6⟩
  · exact .inl h2
  · exact .inr ⟨g, cap, cur, h3, h4, (hb.block g (Array.getElem?_eq_some_iff.1 h5).1).trans h5, h6⟩
theorem ownsRow_pos {w : World} {base : Nat} {e : TypeId} {size n : Nat} {v : Value} {xs : List Value} (h : w.ownsRow base e size v (n + 1) xs) : ∃ g cap, v = .slice (some ⟨g, 0, none⟩) (n + 1) cap ∧ base ≤ g ∧ g < w.heap.size ∧ n + 1 ≤ cap ∧ cap ≤ maxLen ∧ ∀ j u, xs[j]? = some u → w.cell? ⟨g, j, none⟩ = some u := by
  obtain ⟨h1, h2⟩ := h
  rcases h2 with ⟨_, h2⟩ | ⟨g, cap, cur, h3, h4, h5, h6, h7, h8, h9⟩
  · omega
  · refine ⟨g, cap, h3, h4, (Array.getElem?_eq_some_iff.1 h5).1, h6, h7, fun j u hj => ?_⟩
    rw [← h9] at hj
    have hc : cur[j]? = some u := by
      rw [List.getElem?_take] at hj
      split at hj
      · simpa using hj
      · cases hj
    simp [World.cell?, h5, hc]
theorem Blk.grown {w w' : World} {R : Nat} {cs : Array Value} {t : TypeId} {row : Option Nat} (h : Blk w R cs t) (hg : w.grownBy w' row) (hr : row ≠ some R) : Blk w' R cs t := ⟨(hg.block R h.lt (fun e => hr e.symm)).trans h.h⟩
theorem own_lo {w : World} {base : Nat} {e : TypeId} {size n : Nat} {v : Value} {xs : List Value} (h : w.ownsRow base e size v n xs) : ∀ k, v.ownBlock = some k → base ≤ k := by
  obtain ⟨_, h2⟩ := h
  rcases h2 with ⟨rfl, _⟩ | ⟨g, cap, cur, rfl, h4, _⟩
  · intro k hk; cases hk
  · intro k hk; simp only [Value.ownBlock] at hk; cases hk; exact h4

theorem infoFrac : (Tryd.prog.info? 23).map (fun i => (i.zero, i.size, i.bytes)) = some (some (.agg #[.int .i64 0, .int .i64 0]), 2, 16) := by kernel_rfl

theorem one2 {x y : Int} : ∀ u ∈ [Value.int .i64 x, .int .i64 y], u.oneCell' = true := fun u hu => by
  simp at hu; rcases hu with rfl | rfl <;> rfl
theorem cells2 {w : World} {x y : Value} {t : TypeId} {B : Nat} (hB : B = w.heap.size) : ∀ (j : Nat) (u : Value), [x, y][j]? = some u → (w.alloc (.cells #[x, y] t)).cell? ((⟨B, 0, none⟩ : Addr).add j) = some u := fun j u hj => by
  match j, hj with
  | 0, hj => simp at hj; subst hj; exact cell_at hB rfl
  | 1, hj => simp at hj; subst hj; exact cell_at hB rfl
  | j + 2, hj => simp at hj

set_option maxHeartbeats 8000000 in
theorem shift2 (b o cap B : Nat) (s1 s2 : ByteArray) (x1 x2 : Fr) (r : Mv) (W : World) (hB : W.cell? ⟨B, 0, none⟩ = some (.func (.func 69) #[] #[])) (h1 : W.cell? ⟨b, o, none⟩ = some (.string s1)) (h2 : W.cell? ⟨b, o + 1, none⟩ = some (.string s2))
    (R1 : ∀ V, Below W.heap.size W V → Calls Tryd.prog 100 #[.string s1] V fun e w' => e = .returned (.tuple #[.agg #[.int .i64 x1.n, .int .i64 x1.d], .nilIface]) ∧ Below V.heap.size V w')
    (R2 : ∀ V, Below W.heap.size W V → Calls Tryd.prog 100 #[.string s2] V fun e w' => e = .returned (.tuple #[.agg #[.int .i64 x2.n, .int .i64 x2.d], .nilIface]) ∧ Below V.heap.size V w')
    (HOW : ∀ V g c, Below W.heap.size W V → V.cell? ⟨g, 0, none⟩ = some (.int .i64 x1.n) → V.cell? ⟨g, 1, none⟩ = some (.int .i64 x1.d) → V.cell? ⟨g, 2, none⟩ = some (.int .i64 x2.n) → V.cell? ⟨g, 3, none⟩ = some (.int .i64 x2.d) → Calls Tryd.prog 69 #[.slice (some ⟨g, 0, none⟩) 2 c] V fun e w' => e = .returned (mv r) ∧ Below V.heap.size V w') :
    Calls Tryd.prog 99 #[.slice (some ⟨b, o, none⟩) 2 cap, .pointer (some ⟨B, 0, none⟩)] W fun e w' => e = .returned (.tuple #[mv r, .nilIface]) ∧ Below W.heap.size W w' := by
  have L0 := (Below.refl W.heap.size W).alloc (Nat.le_refl _) (.cells #[.int .i64 0, .int .i64 0, .int .i64 0, .int .i64 0, .int .i64 0, .int .i64 0, .int .i64 0, .int .i64 0, .int .i64 0, .int .i64 0, .int .i64 0, .int .i64 0] 28)
  have B0 := Blk.new W #[.int .i64 0, .int .i64 0, .int .i64 0, .int .i64 0, .int .i64 0, .int .i64 0, .int .i64 0, .int .i64 0, .int .i64 0, .int .i64 0, .int .i64 0, .int .i64 0] 28
  have g1 := fun o => cell_al o h1
  obtain ⟨i0, hi, hz0, hz1, hz2⟩ := info_parts infoFrac
  go_enter Tryd.func99, Tryd.ntmps99
  go_wp2
  refine wp_loop_rounds 3 ?_
  rw [rounds_succ]
  go_wp2_with (first | (at_builtin; refine wpList_append_own_at _ rfl _ _ 117 rfl (W.heap.size + 1) 23 i0 (.agg #[.int .i64 0, .int .i64 0]) 2 16 Tryd.underlying117 hi hz0 hz1 hz2 rfl (by decide) (.slice none 0 0) 0 [] rfl O1 ⟨w1.heap.size + 1, 0, none⟩ 1 1 [.int .i64 x1.n, .int .i64 x1.d] rfl rfl (cells2 (by simp)) one2 (by unfold maxLen; omega) (by omega) (by simp; omega) ?_; intro v1 V1 hown1 hgrow1 _ hloc1; have L2 := ((L1.alloc (by omega) _).alloc (by simp; omega) _).grown hgrow1 (by simp; omega) (fun k e => by simp [Value.ownBlock] at e); have B2 := ((B1.alloc _).alloc _).grown hgrow1 (by simp [Value.ownBlock]); have z1 := hgrow1.size; simp only [World.size_alloc] at z1; have g2 := (L2.cell (p := ⟨b, o + 1, none⟩) (cell_lt h2)).trans h2) | (go_at_call_of 100 s1; refine (R1 _ L0).mono ?_; rintro e w1 ⟨rfl, hb1⟩; have sz1 := hb1.size; simp only [World.size_alloc] at sz1; have L1 := (L0.trans (hb1.mono (by simp)))  ; have B1 := B0.below hb1 (Nat.le_refl _); have O1 : ((w1.alloc (.cells #[.int .i64 x1.n, .int .i64 x1.d] 23)).alloc (.cells #[.int .i64 x1.n, .int .i64 x1.d] 23)).ownsRow (W.heap.size + 1) 23 2 (.slice none 0 0) 0 [] := World.ownsRow_nil _ _ _ _))
  rw [rounds_succ]
  go_wp2_with (first | (at_builtin; refine wpList_append_own_at _ rfl _ _ 117 rfl (W.heap.size + 1) 23 i0 (.agg #[.int .i64 0, .int .i64 0]) 2 16 Tryd.underlying117 hi hz0 hz1 hz2 rfl (by decide) v1 1 _ rfl O2 ⟨w2.heap.size + 1, 0, none⟩ 1 1 [.int .i64 x2.n, .int .i64 x2.d] rfl rfl (cells2 (by simp)) one2 (by unfold maxLen; omega) (by omega) (by simp; omega) ?_; intro v2 V2 hown2 hgrow2 _ hloc2; have lo2 := own_lo O2; have L4 := ((L3.alloc (by omega) _).alloc (by simp; omega) _).grown hgrow2 (by simp; omega) (fun k e => by have := lo2 k e; omega); have B4 := ((B3.alloc _).alloc _).grown hgrow2 (fun e => by have := lo2 _ e; omega); obtain ⟨g, c2, rfl, hg1, hg2, hg3, hg4, hg5⟩ := ownsRow_pos hown2; have gB := (L4.cell (p := ⟨B, 0, none⟩) (cell_lt hB)).trans hB) | (go_at_call_of 100 s2; refine (R2 _ L2).mono ?_; rintro e w2 ⟨rfl, hb2⟩; have sz2 := hb2.size; have L3 := L2.trans (hb2.mono (by omega)); have B3 := B2.below hb2 (Nat.le_refl _); have O2 := ((ownsRow_below hown1 hb2).alloc (.cells #[.int .i64 x2.n, .int .i64 x2.d] 23)).alloc (.cells #[.int .i64 x2.n, .int .i64 x2.d] 23)))
  rw [rounds_succ]
  go_wp2_with ((go_at_call 69; refine (HOW _ g c2 L4 (hg5 0 _ rfl) (hg5 1 _ rfl) (hg5 2 _ rfl) (hg5 3 _ rfl)).mono ?_; rintro e w5 ⟨rfl, hb5⟩; have sz5 := hb5.size; have B5 := B4.below hb5 (Nat.le_refl _); have zc0 := B5.cell 0 _ rfl; have zf0 := B5.froz 0 _ rfl; have zc1 := B5.cell 1 _ rfl; have zf1 := B5.froz 1 _ rfl; have zc2 := B5.cell 2 _ rfl; have zf2 := B5.froz 2 _ rfl; have zc3 := B5.cell 3 _ rfl; have zf3 := B5.froz 3 _ rfl; have zc4 := B5.cell 4 _ rfl; have zf4 := B5.froz 4 _ rfl; have zc5 := B5.cell 5 _ rfl; have zf5 := B5.froz 5 _ rfl; have zc6 := B5.cell 6 _ rfl; have zf6 := B5.froz 6 _ rfl; have zc7 := B5.cell 7 _ rfl; have zf7 := B5.froz 7 _ rfl; have zc8 := B5.cell 8 _ rfl; have zf8 := B5.froz 8 _ rfl; have zc9 := B5.cell 9 _ rfl; have zf9 := B5.froz 9 _ rfl; have zc10 := B5.cell 10 _ rfl; have zf10 := B5.froz 10 _ rfl; have zc11 := B5.cell 11 _ rfl; have zf11 := B5.froz 11 _ rfl))
  refine bodyPost_ret (v := .tuple #[mv r, .nilIface]) (by simp [results, Tryd.results99, go_sem, zc0, zc1, zc2, zc3, zc4, zc5, zc6, zc7, zc8, zc9, zc10, zc11]) rfl ⟨rfl, ?_⟩
  exact put_below (R := W.heap.size) (Nat.le_refl _) [.int .i64 r.a.n, .int .i64 r.a.d, .int .i64 r.b.n, .int .i64 r.b.d, .int .i64 r.c.n, .int .i64 r.c.d, .int .i64 r.d.n, .int .i64 r.d.d, .int .i64 r.e.n, .int .i64 r.e.d, .int .i64 r.f.n, .int .i64 r.f.d] 0 (L4.trans (hb5.mono (by omega)))

end Go.Proofs.YtdilieoobkldhabDoor

/-
  Package move's reading of fractions behind a kind's name.
-/
import Derived.Test.YtlnnpileegoglabGreatDoorJ6
import Derived.Test.YtlnnpileegoglabGreatDoorJ7
import Derived.LoopN
import Derived.OwnWalk
import Derived.Maps.AppendAt
import Derived.Shelf.Small.Wraps
import Derived.Shelf.Strings.Search1
import Derived.Shelf.Strings.Search2
import Derived.Shelf.Strings.Search3
import Derived.Shelf.Strings.Cut
import Derived.Shelf.Strings.Count
import Derived.Shelf.LaysM
import Derived.Shelf.Strings.Shaped
import Derived.Shelf.Strings.Prefix
import Derived.Shelf.Strings.Split
import Derived.Shelf.Bits.Mul64
import Derived.Shelf.Unicode.DecodeSlow
import Derived.Test.YtlnnpileegoglabGreatDoorProg
namespace Go.Proofs.YtlnnpileegoglabGreatDoor
open Go.RowKit

theorem ownsRow_below {w w' : World} {base : Nat} {e : TypeId} {size n : Nat} {v : Value} {xs : List Value} (h : w.ownsRow base e size v n xs) (hb : Below w.heap.size w w') : w'.ownsRow base e size v n xs := by
  obtain ⟨h1, h2⟩ := h
  refine ⟨h1, ?_⟩
  rcases h2 with h2 | ⟨g, cap, cur, h3, h4, h5, h6⟩
  · exact .inl h2
  · exact .inr ⟨g, cap, cur, h3, h4, (hb.block g (Array.getElem?_eq_some_iff.1 h5).1).trans h5, h6⟩
theorem ownsRow_pos {w : World} {base : Nat} {e : TypeId} {size n : Nat} {v : Value} {xs : List Value} (h : w.ownsRow base e size v (n + 1) xs) : ∃ g cap, v = .slice (some ⟨g, 0, none⟩) (n + 1) cap ∧ base ≤ g ∧ g < w.heap.size ∧ n + 1 ≤ cap ∧ cap ≤ maxLen ∧ ∀ j u, xs[j]? = some u → w.cell? ⟨g, j, none⟩ = some u := by
  obtain ⟨h1, h2⟩ := h
  rcases h2 with ⟨_, h2⟩ | ⟨g, cap, cur, h3, h4, h5, h6, h7, h8, h9⟩
  · omega
  · refine ⟨g, cap, h3, h4, (Array.getElem?_eq_some_iff.1 h5).1, h6, h7, fun j u hj => ?_⟩
    rw [← h9] at hj
    have hc : cur[j]? = some u := by
      rw [List.getElem?_take] at hj
      split at hj
      · simpa using hj
      · cases hj
    simp [World.cell?, h5, hc]
theorem Blk.grown {w w' : World} {R : Nat} {cs : Array Value} {t : TypeId} {row : Option Nat} (h : Blk w R cs t) (hg : w.grownBy w' row) (hr : row ≠ some R) : Blk w' R cs t := ⟨(hg.block R h.lt (fun e => hr e.symm)).trans h.h⟩
theorem own_lo {w : World} {base : Nat} {e : TypeId} {size n : Nat} {v : Value} {xs : List Value} (h : w.ownsRow base e size v n xs) : ∀ k, v.ownBlock = some k → base ≤ k := by
  obtain ⟨_, h2⟩ := h
  rcases h2 with ⟨rfl, _⟩ | ⟨g, cap, cur, rfl, h4, _⟩
  · intro k hk; cases hk
  · intro k hk; simp only [Value.ownBlock] at hk; cases hk; exact h4

theorem infoFrac : (Tryz.prog.info? 23).map (fun i => (i.zero, i.size, i.bytes)) = some (some (.agg #[.int .i64 0, .int .i64 0]), 2, 16) := by kernel_rfl

theorem one2 {x y : Int} : ∀ u ∈ [Value.int .i64 x, .int .i64 y], u.oneCell' = true := fun u hu => by
  simp at hu; rcases hu with rfl | rfl <;> rfl
theorem cells2 {w : World} {x y : Value} {t : TypeId} {B : Nat} (hB : B = w.heap.size) : ∀ (j : Nat) (u : Value), [x, y][j]? = some u → (w.alloc (.cells #[x, y] t)).cell? ((⟨B, 0, none⟩ : Addr).add j) = some u := fun j u hj => by
  match j, hj with
  | 0, hj => simp at hj; subst hj; exact cell_at hB rfl
  | 1, hj => simp at hj; subst hj; exact cell_at hB rfl
  | j + 2, hj => simp at hj

set_option maxHeartbeats 8000000 in
theorem shift2 (b o cap B : Nat) (s1 s2 : ByteArray) (x1 x2 : Fr) (r : Mv) (W : World) (hB : W.cell? ⟨B, 0, none⟩ = some (.func (.func 76) #[] #[])) (h1 : W.cell? ⟨b, o, none⟩ = some (.string s1)) (h2 : W.cell? ⟨b, o + 1, none⟩ = some (.string s2))
    (R1 : ∀ V, Below W.heap.size W V → Calls Tryz.prog 86 #[.string s1] V fun e w' => e = .returned (.tuple #[.agg #[.int .i64 x1.n, .int .i64 x1.d], .nilIface]) ∧ Below V.heap.size V w')
    (R2 : ∀ V, Below W.heap.size W V → Calls Tryz.prog 86 #[.string s2] V fun e w' => e = .returned (.tuple #[.agg #[.int .i64 x2.n, .int .i64 x2.d], .nilIface]) ∧ Below V.heap.size V w')
    (HOW : ∀ V g c, Below W.heap.size W V → V.cell? ⟨g, 0, none⟩ = some (.int .i64 x1.n) → V.cell? ⟨g, 1, none⟩ = some (.int .i64 x1.d) → V.cell? ⟨g, 2, none⟩ = some (.int .i64 x2.n) → V.cell? ⟨g, 3, none⟩ = some (.int .i64 x2.d) → Calls Tryz.prog 76 #[.slice (some ⟨g, 0, none⟩) 2 c] V fun e w' => e = .returned (mv r) ∧ Below V.heap.size V w') :
    Calls Tryz.prog 85 #[.slice (some ⟨b, o, none⟩) 2 cap, .pointer (some ⟨B, 0, none⟩)] W fun e w' => e = .returned (.tuple #[mv r, .nilIface]) ∧ Below W.heap.size W w' := by
  have L0 := (Below.refl W.heap.size W).alloc (Nat.le_refl _) (.cells #[.int .i64 0, .int .i64 0, .int .i64 0, .int .i64 0, .int .i64 0, .int .i64 0, .int .i64 0, .int .i64 0, .int .i64 0, .int .i64 0, .int .i64 0, .int .i64 0] 30)
  have B0 := Blk.new W #[.int .i64 0, .int .i64 0, .int .i64 0, .int .i64 0, .int .i64 0, .int .i64 0, .int .i64 0, .int .i64 0, .int .i64 0, .int .i64 0, .int .i64 0, .int .i64 0] 30
  have g1 := fun o => cell_al o h1
  obtain ⟨i0, hi, hz0, hz1, hz2⟩ := info_parts infoFrac
  go_enter Tryz.func85, Tryz.ntmps85
  go_wp2
  refine wp_loop_rounds 3 ?_
  rw [rounds_succ]
  go_wp2_with (first | (at_builtin; refine wpList_append_own_at _ rfl _ _ 110 rfl (W.heap.size + 1) 23 i0 (.agg #[.int .i64 0, .int .i64 0]) 2 16 Tryz.underlying110 hi hz0 hz1 hz2 rfl (by decide) (.slice none 0 0) 0 [] rfl O1 ⟨w1.heap.size + 1, 0, none⟩ 1 1 [.int .i64 x1.n, .int .i64 x1.d] rfl rfl (cells2 (by simp)) one2 (by unfold maxLen; omega) (by omega) (by simp; omega) ?_; intro v1 V1 hown1 hgrow1 _ hloc1; have L2 := ((L1.alloc (by omega) _).alloc (by simp; omega) _).grown hgrow1 (by simp; omega) (fun k e => by simp [Value.ownBlock] at e); have B2 := ((B1.alloc _).alloc _).grown hgrow1 (by simp [Value.ownBlock]); have z1 := hgrow1.size; simp only [World.size_alloc] at z1; have g2 := (L2.cell (p := ⟨b, o + 1, none⟩) (cell_lt h2)).trans h2) | (go_at_call_of 86 s1; refine (R1 _ L0).mono ?_; rintro e w1 ⟨rfl, hb1⟩; have sz1 := hb1.size; simp only [World.size_alloc] at sz1; have L1 := (L0.trans (hb1.mono (by simp)))  ; have B1 := B0.below hb1 (Nat.le_refl _); have O1 : ((w1.alloc (.cells #[.int .i64 x1.n, .int .i64 x1.d] 23)).alloc (.cells #[.int .i64 x1.n, .int .i64 x1.d] 23)).ownsRow (W.heap.size + 1) 23 2 (.slice none 0 0) 0 [] := World.ownsRow_nil _ _ _ _))
  rw [rounds_succ]
  go_wp2_with (first | (at_builtin; refine wpList_append_own_at _ rfl _ _ 110 rfl (W.heap.size + 1) 23 i0 (.agg #[.int .i64 0, .int .i64 0]) 2 16 Tryz.underlying110 hi hz0 hz1 hz2 rfl (by decide) v1 1 _ rfl O2 ⟨w2.heap.size + 1, 0, none⟩ 1 1 [.int .i64 x2.n, .int .i64 x2.d] rfl rfl (cells2 (by simp)) one2 (by unfold maxLen; omega) (by omega) (by simp; omega) ?_; intro v2 V2 hown2 hgrow2 _ hloc2; have lo2 := own_lo O2; have L4 := ((L3.alloc (by omega) _).alloc (by simp; omega) _).grown hgrow2 (by simp; omega) (fun k e => by have := lo2 k e; omega); have B4 := ((B3.alloc _).alloc _).grown hgrow2 (fun e => by have := lo2 _ e; omega); obtain ⟨g, c2, rfl, hg1, hg2, hg3, hg4, hg5⟩ := ownsRow_pos hown2; have gB := (L4.cell (p := ⟨B, 0, none⟩) (cell_lt hB)).trans hB) | (go_at_call_of 86 s2; refine (R2 _ L2).mono ?_; rintro e w2 ⟨rfl, hb2⟩; have sz2 := hb2.size; have L3 := L2.trans (hb2.mono (by omega)); have B3 := B2.below hb2 (Nat.le_refl _); have O2 := ((ownsRow_below hown1 hb2).alloc (.cells #[.int .i64 x2.n, .int .i64 x2.d] 23)).alloc (.cells #[.int .i64 x2.n, .int .i64 x2.d] 23)))
  rw [rounds_succ]
  go_wp2_with ((go_at_call 76; refine (HOW _ g c2 L4 (hg5 0 _ rfl) (hg5 1 _ rfl) (hg5 2 _ rfl) (hg5 3 _ rfl)).mono ?_; rintro e w5 ⟨rfl, hb5⟩; have sz5 := hb5.size; have B5 := B4.below hb5 (Nat.le_refl _); have zc0 := B5.cell 0 _ rfl; have zf0 := B5.froz 0 _ rfl; have zc1 := B5.cell 1 _ rfl; have zf1 := B5.froz 1 _ rfl; have zc2 := B5.cell 2 _ rfl; have zf2 := B5.froz 2 _ rfl; have zc3 := B5.cell 3 _ rfl; have zf3 := B5.froz 3 _ rfl; have zc4 := B5.cell 4 _ rfl; have zf4 := B5.froz 4 _ rfl; have zc5 := B5.cell 5 _ rfl; have zf5 := B5.froz 5 _ rfl; have zc6 := B5.cell 6 _ rfl; have zf6 := B5.froz 6 _ rfl; have zc7 := B5.cell 7 _ rfl; have zf7 := B5.froz 7 _ rfl; have zc8 := B5.cell 8 _ rfl; have zf8 := B5.froz 8 _ rfl; have zc9 := B5.cell 9 _ rfl; have zf9 := B5.froz 9 _ rfl; have zc10 := B5.cell 10 _ rfl; have zf10 := B5.froz 10 _ rfl; have zc11 := B5.cell 11 _ rfl; have zf11 := B5.froz 11 _ rfl))
  refine bodyPost_ret (v := .tuple #[mv r, .nilIface]) (by simp [results, Tryz.results85, go_sem, zc0, zc1, zc2, zc3, zc4, zc5, zc6, zc7, zc8, zc9, zc10, zc11]) rfl ⟨rfl, ?_⟩
  exact put_below (R := W.heap.size) (Nat.le_refl _) [.int .i64 r.a.n, .int .i64 r.a.d, .int .i64 r.b.n, .int .i64 r.b.d, .int .i64 r.c.n, .int .i64 r.c.d, .int .i64 r.d.n, .int .i64 r.d.d, .int .i64 r.e.n, .int .i64 r.e.d, .int .i64 r.f.n, .int .i64 r.f.d] 0 (L4.trans (hb5.mono (by omega)))

end Go.Proofs.YtlnnpileegoglabGreatDoor

namespace Go.Proofs.YtlnnpileegoglabGreatDoor
open Go.RowKit

def Mv.shift (x y : Fr) : Mv := ⟨.whole 1, .whole 0, .whole 0, .whole 1, x, y⟩
def Mv.scale (x y : Fr) : Mv := ⟨x, .whole 0, .whole 0, y, .whole 0, .whole 0⟩
def Mv.skew (x : Fr) : Mv := ⟨.whole 1, .whole 0, x, .whole 1, .whole 0, .whole 0⟩
def Mv.turn (c s : Int) : Mv := ⟨.whole c, .whole s, .whole (-s), .whole c, .whole 0, .whole 0⟩

set_option maxHeartbeats 1000000 in
theorem shift_any (g c : Nat) (x1 x2 : Fr) (W : World) (k0 : W.cell? ⟨g, 0, none⟩ = some (.int .i64 x1.n)) (k1 : W.cell? ⟨g, 1, none⟩ = some (.int .i64 x1.d)) (k2 : W.cell? ⟨g, 2, none⟩ = some (.int .i64 x2.n)) (k3 : W.cell? ⟨g, 3, none⟩ = some (.int .i64 x2.d)) :
    Calls Tryz.prog 76 #[.slice (some ⟨g, 0, none⟩) 2 c] W fun e w' => e = .returned (mv (Mv.shift x1 x2)) ∧ Below W.heap.size W w' := by
  have HO := One_any
  have lt := cell_lt k0
  simp only at lt
  have L0 := (Below.refl W.heap.size W).alloc (Nat.le_refl _) (.cells #[.int .i64 0, .int .i64 0, .int .i64 0, .int .i64 0, .int .i64 0, .int .i64 0, .int .i64 0, .int .i64 0, .int .i64 0, .int .i64 0, .int .i64 0, .int .i64 0] 30)
  have B0 := Blk.new W #[.int .i64 0, .int .i64 0, .int .i64 0, .int .i64 0, .int .i64 0, .int .i64 0, .int .i64 0, .int .i64 0, .int .i64 0, .int .i64 0, .int .i64 0, .int .i64 0] 30
  go_enter Tryz.func76, Tryz.ntmps76
  go_wp2_with (go_at_call 13; refine (HO _).mono ?_; rintro e w1 ⟨rfl, hb1⟩; have LO := L0.trans (hb1.mono (by simp)); have sz := hb1.size; simp only [World.size_alloc] at sz; have B1 := B0.below hb1 (Nat.le_refl _); have n1 : ¬ w1.heap.size = W.heap.size := (by omega); have n2 : ¬ W.heap.size = w1.heap.size := (by omega); have n3 : ¬ g = w1.heap.size := (by omega); have n4 : ¬ w1.heap.size = g := (by omega); dsimp only [Mv.one, Fr.whole]; have g0 := fun o => cell_al o ((LO.cell (p := ⟨g, 0, none⟩) (cell_lt k0)).trans k0); have g1 := fun o => cell_al o ((LO.cell (p := ⟨g, 1, none⟩) (cell_lt k1)).trans k1); have g2 := fun o => cell_al o ((LO.cell (p := ⟨g, 2, none⟩) (cell_lt k2)).trans k2); have g3 := fun o => cell_al o ((LO.cell (p := ⟨g, 3, none⟩) (cell_lt k3)).trans k3); have zc0 := fun o => cell_al o (B1.cell 0 _ rfl); have zf0 := fun o => froz_al o (B1.cell 0 _ rfl) (B1.froz 0 _ rfl); have zc1 := fun o => cell_al o (B1.cell 1 _ rfl); have zf1 := fun o => froz_al o (B1.cell 1 _ rfl) (B1.froz 1 _ rfl); have zc2 := fun o => cell_al o (B1.cell 2 _ rfl); have zf2 := fun o => froz_al o (B1.cell 2 _ rfl) (B1.froz 2 _ rfl); have zc3 := fun o => cell_al o (B1.cell 3 _ rfl); have zf3 := fun o => froz_al o (B1.cell 3 _ rfl) (B1.froz 3 _ rfl); have zc4 := fun o => cell_al o (B1.cell 4 _ rfl); have zf4 := fun o => froz_al o (B1.cell 4 _ rfl) (B1.froz 4 _ rfl); have zc5 := fun o => cell_al o (B1.cell 5 _ rfl); have zf5 := fun o => froz_al o (B1.cell 5 _ rfl) (B1.froz 5 _ rfl); have zc6 := fun o => cell_al o (B1.cell 6 _ rfl); have zf6 := fun o => froz_al o (B1.cell 6 _ rfl) (B1.froz 6 _ rfl); have zc7 := fun o => cell_al o (B1.cell 7 _ rfl); have zf7 := fun o => froz_al o (B1.cell 7 _ rfl) (B1.froz 7 _ rfl); have zc8 := fun o => cell_al o (B1.cell 8 _ rfl); have zf8 := fun o => froz_al o (B1.cell 8 _ rfl) (B1.froz 8 _ rfl); have zc9 := fun o => cell_al o (B1.cell 9 _ rfl); have zf9 := fun o => froz_al o (B1.cell 9 _ rfl) (B1.froz 9 _ rfl); have zc10 := fun o => cell_al o (B1.cell 10 _ rfl); have zf10 := fun o => froz_al o (B1.cell 10 _ rfl) (B1.froz 10 _ rfl); have zc11 := fun o => cell_al o (B1.cell 11 _ rfl); have zf11 := fun o => froz_al o (B1.cell 11 _ rfl) (B1.froz 11 _ rfl))
  go_region
  go_wp2
  refine bodyPost_ret (v := mv (Mv.shift x1 x2)) (by simp [results, Tryz.results76, go_sem, Mv.shift, Fr.whole, zc0, zc1, zc2, zc3, zc4, zc5, zc6, zc7, zc8, zc9, zc10, zc11]) rfl ⟨rfl, ?_⟩
  exact below_drewN (put_below (R := W.heap.size) (Nat.le_refl _) [.int .i64 1, .int .i64 1, .int .i64 0, .int .i64 1, .int .i64 0, .int .i64 1, .int .i64 1, .int .i64 1, .int .i64 x1.n, .int .i64 x1.d, .int .i64 x2.n, .int .i64 x2.d] 0 (LO.alloc (by omega) (.cells #[.int .i64 1, .int .i64 1, .int .i64 0, .int .i64 1, .int .i64 0, .int .i64 1, .int .i64 1, .int .i64 1, .int .i64 x1.n, .int .i64 x1.d, .int .i64 x2.n, .int .i64 x2.d] 30))) 1

set_option maxHeartbeats 1000000 in
theorem scale_any (g c : Nat) (x1 x2 : Fr) (W : World) (k0 : W.cell? ⟨g, 0, none⟩ = some (.int .i64 x1.n)) (k1 : W.cell? ⟨g, 1, none⟩ = some (.int .i64 x1.d)) (k2 : W.cell? ⟨g, 2, none⟩ = some (.int .i64 x2.n)) (k3 : W.cell? ⟨g, 3, none⟩ = some (.int .i64 x2.d)) :
    Calls Tryz.prog 77 #[.slice (some ⟨g, 0, none⟩) 2 c] W fun e w' => e = .returned (mv (Mv.scale x1 x2)) ∧ Below W.heap.size W w' := by
  have HO := One_any
  have lt := cell_lt k0
  simp only at lt
  have L0 := (Below.refl W.heap.size W).alloc (Nat.le_refl _) (.cells #[.int .i64 0, .int .i64 0, .int .i64 0, .int .i64 0, .int .i64 0, .int .i64 0, .int .i64 0, .int .i64 0, .int .i64 0, .int .i64 0, .int .i64 0, .int .i64 0] 30)
  have B0 := Blk.new W #[.int .i64 0, .int .i64 0, .int .i64 0, .int .i64 0, .int .i64 0, .int .i64 0, .int .i64 0, .int .i64 0, .int .i64 0, .int .i64 0, .int .i64 0, .int .i64 0] 30
  go_enter Tryz.func77, Tryz.ntmps77
  go_wp2_with (go_at_call 13; refine (HO _).mono ?_; rintro e w1 ⟨rfl, hb1⟩; have LO := L0.trans (hb1.mono (by simp)); have sz := hb1.size; simp only [World.size_alloc] at sz; have B1 := B0.below hb1 (Nat.le_refl _); have n1 : ¬ w1.heap.size = W.heap.size := (by omega); have n2 : ¬ W.heap.size = w1.heap.size := (by omega); have n3 : ¬ g = w1.heap.size := (by omega); have n4 : ¬ w1.heap.size = g := (by omega); dsimp only [Mv.one, Fr.whole]; have g0 := fun o => cell_al o ((LO.cell (p := ⟨g, 0, none⟩) (cell_lt k0)).trans k0); have g1 := fun o => cell_al o ((LO.cell (p := ⟨g, 1, none⟩) (cell_lt k1)).trans k1); have g2 := fun o => cell_al o ((LO.cell (p := ⟨g, 2, none⟩) (cell_lt k2)).trans k2); have g3 := fun o => cell_al o ((LO.cell (p := ⟨g, 3, none⟩) (cell_lt k3)).trans k3); have zc0 := fun o => cell_al o (B1.cell 0 _ rfl); have zf0 := fun o => froz_al o (B1.cell 0 _ rfl) (B1.froz 0 _ rfl); have zc1 := fun o => cell_al o (B1.cell 1 _ rfl); have zf1 := fun o => froz_al o (B1.cell 1 _ rfl) (B1.froz 1 _ rfl); have zc2 := fun o => cell_al o (B1.cell 2 _ rfl); have zf2 := fun o => froz_al o (B1.cell 2 _ rfl) (B1.froz 2 _ rfl); have zc3 := fun o => cell_al o (B1.cell 3 _ rfl); have zf3 := fun o => froz_al o (B1.cell 3 _ rfl) (B1.froz 3 _ rfl); have zc4 := fun o => cell_al o (B1.cell 4 _ rfl); have zf4 := fun o => froz_al o (B1.cell 4 _ rfl) (B1.froz 4 _ rfl); have zc5 := fun o => cell_al o (B1.cell 5 _ rfl); have zf5 := fun o => froz_al o (B1.cell 5 _ rfl) (B1.froz 5 _ rfl); have zc6 := fun o => cell_al o (B1.cell 6 _ rfl); have zf6 := fun o => froz_al o (B1.cell 6 _ rfl) (B1.froz 6 _ rfl); have zc7 := fun o => cell_al o (B1.cell 7 _ rfl); have zf7 := fun o => froz_al o (B1.cell 7 _ rfl) (B1.froz 7 _ rfl); have zc8 := fun o => cell_al o (B1.cell 8 _ rfl); have zf8 := fun o => froz_al o (B1.cell 8 _ rfl) (B1.froz 8 _ rfl); have zc9 := fun o => cell_al o (B1.cell 9 _ rfl); have zf9 := fun o => froz_al o (B1.cell 9 _ rfl) (B1.froz 9 _ rfl); have zc10 := fun o => cell_al o (B1.cell 10 _ rfl); have zf10 := fun o => froz_al o (B1.cell 10 _ rfl) (B1.froz 10 _ rfl); have zc11 := fun o => cell_al o (B1.cell 11 _ rfl); have zf11 := fun o => froz_al o (B1.cell 11 _ rfl) (B1.froz 11 _ rfl))
  go_region
  go_wp2
  refine bodyPost_ret (v := mv (Mv.scale x1 x2)) (by simp [results, Tryz.results77, go_sem, Mv.scale, Fr.whole, zc0, zc1, zc2, zc3, zc4, zc5, zc6, zc7, zc8, zc9, zc10, zc11]) rfl ⟨rfl, ?_⟩
  exact below_drewN (put_below (R := W.heap.size) (Nat.le_refl _) [.int .i64 x1.n, .int .i64 x1.d, .int .i64 0, .int .i64 1, .int .i64 0, .int .i64 1, .int .i64 x2.n, .int .i64 x2.d, .int .i64 0, .int .i64 1, .int .i64 0, .int .i64 1] 0 (LO.alloc (by omega) (.cells #[.int .i64 x1.n, .int .i64 x1.d, .int .i64 0, .int .i64 1, .int .i64 0, .int .i64 1, .int .i64 x2.n, .int .i64 x2.d, .int .i64 0, .int .i64 1, .int .i64 0, .int .i64 1] 30))) 1

end Go.Proofs.YtlnnpileegoglabGreatDoor

namespace Go.Proofs
open Go.Shelf
def Tryz.lays143_ren : Go.Shelf.Ren := ⟨fun | 143 => 84 | 219 => 90 | 217 => 95 | 225 => 96 | 224 => 97 | 267 => 98 | 266 => 101 | 314 => 102 | n => n, fun | 9 => 9 | 3 => 3 | 4 => 4 | 5 => 5 | 46 => 143 | 146 => 177 | 51 => 176 | n => n, fun | 1 => 12 | n => n⟩
theorem Tryz.lays143 : Go.Proofs.Lays.n143 Tryz.prog Tryz.lays143_ren := {
  mixed := by kernel_rfl
  f143 := Tryz.func84.trans (congrArg some (by kernel_rfl))
  f217 := Tryz.func95.trans (congrArg some (by kernel_rfl))
  f219 := Tryz.func90.trans (congrArg some (by kernel_rfl))
  f224 := Tryz.func97.trans (congrArg some (by kernel_rfl))
  f225 := Tryz.func96.trans (congrArg some (by kernel_rfl))
  f266 := Tryz.func101.trans (congrArg some (by kernel_rfl))
  f267 := Tryz.func98.trans (congrArg some (by kernel_rfl))
  f314 := Tryz.func102.trans (congrArg some (by kernel_rfl))
  t3 := Tryz.underlying3
  a3 := Tryz.isAgg3
  z3 := Tryz.sizeOf3
  v3 := Tryz.zeroValue3
  t4 := Tryz.underlying4
  a4 := Tryz.isAgg4
  z4 := Tryz.sizeOf4
  v4 := Tryz.zeroValue4
  t5 := Tryz.underlying5
  a5 := Tryz.isAgg5
  z5 := Tryz.sizeOf5
  v5 := Tryz.zeroValue5
  t9 := Tryz.underlying9
  a9 := Tryz.isAgg9
  z9 := Tryz.sizeOf9
  v9 := Tryz.zeroValue9
  t46 := Tryz.underlying143
  a46 := Tryz.isAgg143
  z46 := Tryz.sizeOf143
  v46 := Tryz.zeroValue143
  t51 := Tryz.underlying176
  a51 := Tryz.isAgg176
  z51 := Tryz.sizeOf176
  v51 := Tryz.zeroValue176
  t146 := Tryz.underlying177
  a146 := Tryz.isAgg177
  z146 := Tryz.sizeOf177
  v146 := Tryz.zeroValue177
  g1 := by kernel_rfl }
open Go.RowKit Go.Lib in
theorem Tryz.strings_Index_one (s : ByteArray) (c : UInt8) (w : World) :
    Calls Tryz.prog 84 #[.string s, .string ⟨#[c]⟩] w fun e w' => e = .returned (.int .i64 (Lib.indexByte s.data.toList c)) ∧ w' = w := Any.strings_Index_one Tryz.lays143 s c w
def Tryz.lays138_ren : Go.Shelf.Ren := ⟨fun | 138 => 83 | 195 => 87 | 218 => 89 | 143 => 84 | 219 => 90 | 217 => 95 | 225 => 96 | 224 => 97 | 267 => 98 | 266 => 101 | 314 => 102 | n => n, fun | 9 => 9 | 3 => 3 | 4 => 4 | 5 => 5 | 0 => 0 | 46 => 143 | 146 => 177 | 51 => 176 | n => n, fun | 1 => 12 | n => n⟩
theorem Tryz.lays138 : Go.Proofs.Lays.n138 Tryz.prog Tryz.lays138_ren := {
  mixed := by kernel_rfl
  f138 := Tryz.func83.trans (congrArg some (by kernel_rfl))
  f143 := Tryz.func84.trans (congrArg some (by kernel_rfl))
  f195 := Tryz.func87.trans (congrArg some (by kernel_rfl))
  f217 := Tryz.func95.trans (congrArg some (by kernel_rfl))
  f218 := Tryz.func89.trans (congrArg some (by kernel_rfl))
  f219 := Tryz.func90.trans (congrArg some (by kernel_rfl))
  f224 := Tryz.func97.trans (congrArg some (by kernel_rfl))
  f225 := Tryz.func96.trans (congrArg some (by kernel_rfl))
  f266 := Tryz.func101.trans (congrArg some (by kernel_rfl))
  f267 := Tryz.func98.trans (congrArg some (by kernel_rfl))
  f314 := Tryz.func102.trans (congrArg some (by kernel_rfl))
  t0 := Tryz.underlying0
  a0 := Tryz.isAgg0
  z0 := Tryz.sizeOf0
  v0 := Tryz.zeroValue0
  t3 := Tryz.underlying3
  a3 := Tryz.isAgg3
  z3 := Tryz.sizeOf3
  v3 := Tryz.zeroValue3
  t4 := Tryz.underlying4
  a4 := Tryz.isAgg4
  z4 := Tryz.sizeOf4
  v4 := Tryz.zeroValue4
  t5 := Tryz.underlying5
  a5 := Tryz.isAgg5
  z5 := Tryz.sizeOf5
  v5 := Tryz.zeroValue5
  t9 := Tryz.underlying9
  a9 := Tryz.isAgg9
  z9 := Tryz.sizeOf9
  v9 := Tryz.zeroValue9
  t46 := Tryz.underlying143
  a46 := Tryz.isAgg143
  z46 := Tryz.sizeOf143
  v46 := Tryz.zeroValue143
  t51 := Tryz.underlying176
  a51 := Tryz.isAgg176
  z51 := Tryz.sizeOf176
  v51 := Tryz.zeroValue176
  t146 := Tryz.underlying177
  a146 := Tryz.isAgg177
  z146 := Tryz.sizeOf177
  v146 := Tryz.zeroValue177
  g1 := by kernel_rfl }
open Go.RowKit Go.Lib in
theorem Tryz.strings_Count_one (s : ByteArray) (c : UInt8) (w : World) :
    Calls Tryz.prog 83 #[.string s, .string ⟨#[c]⟩] w fun e w' => e = .returned (.int .i64 (Lib.countByte s.data.toList c)) ∧ w' = w := Any.strings_Count_one Tryz.lays138 s c w
def Tryz.lays221_ren : Go.Shelf.Ren := ⟨fun | 221 => 74 | 268 => 82 | 138 => 83 | 143 => 84 | 195 => 87 | 197 => 88 | 218 => 89 | 219 => 90 | 260 => 94 | 217 => 95 | 225 => 96 | 224 => 97 | 267 => 98 | 266 => 101 | 314 => 102 | n => n, fun | 9 => 9 | 3 => 3 | 31 => 86 | 4 => 4 | 0 => 0 | 105 => 162 | 21 => 21 | 5 => 5 | 46 => 143 | 119 => 172 | 139 => 175 | 138 => 174 | 146 => 177 | 51 => 176 | n => n, fun | 1 => 12 | 3 => 13 | 4 => 14 | n => n⟩
theorem Tryz.lays221 : Go.Proofs.Lays.n221 Tryz.prog Tryz.lays221_ren := {
  mixed := by kernel_rfl
  f138 := Tryz.func83.trans (congrArg some (by kernel_rfl))
  f143 := Tryz.func84.trans (congrArg some (by kernel_rfl))
  f195 := Tryz.func87.trans (congrArg some (by kernel_rfl))
  f197 := Tryz.func88.trans (congrArg some (by kernel_rfl))
  f217 := Tryz.func95.trans (congrArg some (by kernel_rfl))
  f218 := Tryz.func89.trans (congrArg some (by kernel_rfl))
  f219 := Tryz.func90.trans (congrArg some (by kernel_rfl))
  f221 := Tryz.func74.trans (congrArg some (by kernel_rfl))
  f224 := Tryz.func97.trans (congrArg some (by kernel_rfl))
  f225 := Tryz.func96.trans (congrArg some (by kernel_rfl))
  f260 := Tryz.func94.trans (congrArg some (by kernel_rfl))
  f266 := Tryz.func101.trans (congrArg some (by kernel_rfl))
  f267 := Tryz.func98.trans (congrArg some (by kernel_rfl))
  f268 := Tryz.func82.trans (congrArg some (by kernel_rfl))
  f314 := Tryz.func102.trans (congrArg some (by kernel_rfl))
  t0 := Tryz.underlying0
  a0 := Tryz.isAgg0
  z0 := Tryz.sizeOf0
  v0 := Tryz.zeroValue0
  t3 := Tryz.underlying3
  a3 := Tryz.isAgg3
  z3 := Tryz.sizeOf3
  v3 := Tryz.zeroValue3
  t4 := Tryz.underlying4
  a4 := Tryz.isAgg4
  z4 := Tryz.sizeOf4
  v4 := Tryz.zeroValue4
  t5 := Tryz.underlying5
  a5 := Tryz.isAgg5
  z5 := Tryz.sizeOf5
  v5 := Tryz.zeroValue5
  t9 := Tryz.underlying9
  a9 := Tryz.isAgg9
  z9 := Tryz.sizeOf9
  v9 := Tryz.zeroValue9
  t21 := Tryz.underlying21
  a21 := Tryz.isAgg21
  z21 := Tryz.sizeOf21
  v21 := Tryz.zeroValue21
  t31 := Tryz.underlying86
  a31 := Tryz.isAgg86
  z31 := Tryz.sizeOf86
  v31 := Tryz.zeroValue86
  t46 := Tryz.underlying143
  a46 := Tryz.isAgg143
  z46 := Tryz.sizeOf143
  v46 := Tryz.zeroValue143
  t51 := Tryz.underlying176
  a51 := Tryz.isAgg176
  z51 := Tryz.sizeOf176
  v51 := Tryz.zeroValue176
  t105 := Tryz.underlying162
  a105 := Tryz.isAgg162
  z105 := Tryz.sizeOf162
  v105 := Tryz.zeroValue162
  t119 := Tryz.underlying172
  a119 := Tryz.isAgg172
  z119 := Tryz.sizeOf172
  t138 := Tryz.underlying174
  a138 := Tryz.isAgg174
  z138 := Tryz.sizeOf174
  v138 := Tryz.zeroValue174
  t139 := Tryz.underlying175
  a139 := Tryz.isAgg175
  z139 := Tryz.sizeOf175
  v139 := Tryz.zeroValue175
  t146 := Tryz.underlying177
  a146 := Tryz.isAgg177
  z146 := Tryz.sizeOf177
  v146 := Tryz.zeroValue177
  g1 := by kernel_rfl
  g3 := by kernel_rfl
  g4 := by kernel_rfl }
open Go.RowKit Go.Lib in
theorem Tryz.strings_genSplit (s sep : ByteArray) (sv : Nat) (n : Int) (N : Nat) (m : Int) (w : World) (hs : s.size < 4294967281) (hm : w.cell? ⟨12, 0, none⟩ = some (.int .i64 m)) (h1 : 1 ≤ sep.size) (hsv : sv ≤ sep.size) (hn0 : n ≠ 0) (hn63 : n ≤ 9223372036854775807) (hN : (N : Int) = min (if n < 0 then (Lib.countB s sep : Int) + 1 else n) ((s.size : Int) + 1)) :
    Calls Tryz.prog 74 #[.string s, .string sep, .int .i64 sv, .int .i64 n] w fun e w' =>
      e = .returned (.slice (some ⟨w.heap.size, 0, none⟩) (Lib.splitB sep sv (N - 1) s).length N) ∧ w' = w.alloc (.cells (Lib.cellsOf (Lib.splitB sep sv (N - 1) s) N) 9) := Any.strings_genSplit Tryz.lays221 (by kernel_rfl) s sep sv n N m w hs hm h1 hsv hn0 hn63 hN
end Go.Proofs

/-
  The contract of package move's iterator over numbered fractions: for every loop body that keeps what lay ahead of the loop, each comes with its number, in order, until the body says 'no more'.
-/
import Derived.RangeFuncNested
import Derived.RangeFuncBound
import Derived.RangeFuncCalls
import Derived.RangeFuncLeaves
import Derived.Shelf.Abstract
import Derived.Shelf.RegionOpen
import Derived.WalkKit
import Derived.OwnWalkIn
import Derived.TacticsInMore
import Derived.LoopNIn
import Derived.LoopIn
import Derived.Test.YtdjeblcmpegmpaaDoorFrac2
import Derived.Test.YtdjeblcmpegmpaaDoorMoveM
namespace Go.Proofs.YtdjeblcmpegmpaaDoor
open Go.RowKit Go.Shelf

attribute [local go_sem] Oper.semAt_some

/-- A fraction with its number, of parts that an int holds. -/
structure Item where
  i : Int
  x : Fr
  h1 : I64 x.n
  h2 : I64 x.d

abbrev fv (x : Fr) : Value := .agg #[.int .i64 x.n, .int .i64 x.d]
abbrev itemV (x : Item) : Array Value := #[.int .i64 x.i, .agg #[.int .i64 x.x.n, .int .i64 x.x.d]]

theorem take_succ' {α : Type} (xs : List α) (k : Nat) (h : k < xs.length) : xs.take (k + 1) = xs.take k ++ [xs[k]] := by
  rw [List.take_add_one, List.getElem?_eq_getElem h]; rfl

set_option maxRecDepth 100000 in
set_option maxHeartbeats 2000000 in
theorem numbered1_in (F : Fence) (n : Nat) (hf : F.fn 48) (hro : F.round = none) (hn : 1 ≤ n) (l Bl Bf n₀ b len cap : Nat) (fr : Nat) (xs : List Item) (hx : xs.length = len) (hlen : len ≤ 1000) (hfr : fr ≤ 1000) (hb : b < n₀) (hBf0 : Bf < n₀) (J Jx : List Item → World → Prop)
    (hJ : ∀ s W W', J s W → W.grownBy W' none → J s W')
    (hY : ∀ pre x W, J pre W → pre.length < len → YieldAt F (n - 1) Tryd.prog l #[.int .i64 x.i, .agg #[.int .i64 x.x.n, .int .i64 x.x.d]] W fun e W' =>
      (e = .returned (.bool true) ∧ J (pre ++ [x]) W' ∧ Below n₀ W W') ∨ (e = .returned (.bool false) ∧ Jx (pre ++ [x]) W'))
    (W : World) (hn₀ : n₀ ≤ W.heap.size) (hBl : W.cell? ⟨Bl, 0, none⟩ = some (.slice (some ⟨b, 0, none⟩) len cap)) (hBf : W.cell? ⟨Bf, 0, none⟩ = some (.int .i64 fr))
    (hc0 : ∀ j (h : j < xs.length), W.cell? ⟨b, j * 2, none⟩ = some (.int .i64 xs[j].x.n)) (hc1 : ∀ j (h : j < xs.length), W.cell? ⟨b, j * 2 + 1, none⟩ = some (.int .i64 xs[j].x.d))
    (hi : ∀ j (h : j < xs.length), xs[j].i = fr + j) (h0 : J [] W) :
    CallsIn F n Tryd.prog 48 #[.func (.yield l) #[] #[], .pointer (some ⟨Bl, 0, none⟩), .pointer (some ⟨Bf, 0, none⟩)] W fun e W' => (∃ v, e = .returned v) ∧
      ((∃ ys, ys = xs ∧ J ys W') ∨ (∃ pre, pre <+: xs ∧ Jx pre W')) := by
  refine callsIn_of_wp Tryd.func48 rfl hf ?_ hro
  simp only [Tryd.ntmps48, List.size_toArray, List.length_cons, List.length_nil, Nat.reduceAdd, Nat.reduceSub, Array.replicate_succ, Array.replicate_zero, List.push_toArray, List.append_toArray, List.nil_append, List.cons_append]
  gi_wp2
  gi_loopw [8] (fun i wr => ∃ k : Nat, k ≤ len ∧ i = .int .i64 k ∧ J (xs.take k) wr ∧ Below n₀ W wr)
    (fun i _ => len - (intOf i).toNat)
  case atStart => exact ⟨0, Nat.zero_le _, rfl, h0, Below.refl _ _⟩
  case round =>
    obtain ⟨k, hk, rfl, hJs, hnx⟩ := hrel
    by_cases hlt : k < len
    · have hkx : k < xs.length := by omega
      have c0 := (hnx.cell (p := ⟨b, k * 2, none⟩) hb).trans (hc0 k hkx)
      have c1 := (hnx.cell (p := ⟨b, k * 2 + 1, none⟩) hb).trans (hc1 k hkx)
      have cf := (hnx.cell (p := ⟨Bf, 0, none⟩) hBf0).trans hBf
      have hii := hi k hkx
      have hts := take_succ' xs k hkx
      generalize xs[k] = x at c0 c1 hii hts
      have hg : wr.grownBy (wr.alloc (.cells #[.int .i64 x.x.n, .int .i64 x.x.d] 24)) none := World.grownBy_alloc wr _ none
      have hal := (Below.refl n₀ wr).alloc (Nat.le_trans hn₀ hnx.size) (.cells #[.int .i64 x.x.n, .int .i64 x.x.d] 24)
      have cfa := (hal.cell (p := ⟨Bf, 0, none⟩) hBf0).trans cf
      obtain ⟨fn, tmps, assign, body, hy, hR⟩ := hY (xs.take k) x (wr.alloc (.cells #[.int .i64 x.x.n, .int .i64 x.x.d] 24)) (hJ _ _ _ hJs hg) (by rw [List.length_take]; omega)
      rw [hii] at hy
      gi_wp2
      refine hR.mono ?_
      rintro e W3 (⟨rfl, hJ3, hk3⟩ | ⟨rfl, hJx3⟩)
      · gi_wp2
        go_roundw
        case rel => exact ⟨k + 1, by omega, by simp, by rw [hts]; exact hJ3, hnx.trans (hal.trans hk3)⟩
        case measure => simp [intOf]; omega
      · gi_wp2
        refine bodyPost_ret (results_none rfl _ _ _) rfl ?_
        exact ⟨⟨_, rfl⟩, .inr ⟨_, by rw [← hts]; exact List.take_prefix _ _, hJx3⟩⟩
    · obtain rfl : k = len := by omega
      gi_wp2
      go_end0
      exact ⟨⟨_, rfl⟩, .inl ⟨_, by rw [List.take_of_length_le (by omega)], hJs⟩⟩

end Go.Proofs.YtdjeblcmpegmpaaDoor

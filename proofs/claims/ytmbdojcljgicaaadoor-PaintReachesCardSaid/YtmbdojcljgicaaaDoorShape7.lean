/-
  The edges of a shape, as a function that is ranged over.
-/
import Derived.Test.YtmbdojcljgicaaaDoorShape6
import Derived.RangeFuncNested
import Derived.RangeFuncBound
import Derived.RangeFuncCalls
import Derived.RangeFuncLeaves
import Derived.Shelf.Abstract
import Derived.Shelf.RegionOpen
import Derived.WalkKit
import Derived.OwnWalkIn
import Derived.TacticsInMore
import Derived.LoopNIn
import Derived.LoopIn
import Derived.RegionIn
namespace Go.Proofs.YtmbdojcljgicaaaDoor
open Go.RowKit Go.Shelf

attribute [local go_sem] Oper.semAt_some

/-- An edge of bounded points. -/
structure Eg where
  a : Qt
  b : Qt
  ha : PB a
  hb : PB b
abbrev egV (x : Eg) : Array Value := #[qtV x.a, qtV x.b]
/-- These blocks are as they were. -/
def KpS (T : Nat → Prop) (A C : World) : Prop := ∀ k, T k → C.heap[k]? = A.heap[k]?
theorem KpS.refl {T : Nat → Prop} (X : World) : KpS T X X := fun _ _ => rfl
theorem KpS.trans {T : Nat → Prop} {X Y Z : World} (h : KpS T X Y) (k : KpS T Y Z) : KpS T X Z := fun j hj => (k j hj).trans (h j hj)
theorem KpS.of_below {T : Nat → Prop} {A C : World} {n : Nat} (h : Below n A C) (hT : ∀ k, T k → k < n) : KpS T A C := fun j hj => h.block j (hT j hj)
theorem KpS.put {T : Nat → Prop} {w : World} (hT : ∀ k, T k → k < w.heap.size) (W : World) (l : Nat) (o o' : Obj) (hl : w.heap.size ≤ l) (_ : W.heap[l]? = some o) (_ : o.isCells = false) (_ : o.isWalk = false) : KpS T W (W.putObj l o') := fun j hj => World.putObj_heap_other (by have := hT j hj; omega)
theorem grown_of {A C : World} (h : Below A.heap.size A C) : A.grownBy C none := ⟨h.os, h.tape, h.output, h.size, fun k hk _ => h.block k hk⟩
theorem cell_of_heap {A C : World} {p : Addr} (h : C.heap[p.block]? = A.heap[p.block]?) : C.cell? p = A.cell? p := World.cell?_of_block h
/-- The blocks that the edges are read from. -/
def edT (Bs : Nat) (o : Option Addr) (l : List Qt) (k : Nat) : Prop := k = Bs ∨ (l ≠ [] ∧ ∃ off, o = some ⟨k, off, none⟩)
theorem PtsAt.kept {w w' : World} {o : Option Addr} {l : List Qt} {Bs : Nat} (h : PtsAt w o l) (hk : KpS (edT Bs o l) w w') : PtsAt w' o l := fun i a ha => by
  obtain ⟨b, off, h1, c0, c1, c2, c3, hpi⟩ := h i a ha
  have hb := hk b (.inr ⟨by rintro rfl; simp at ha, off, h1⟩)
  exact ⟨b, off, h1, (cell_of_heap (p := ⟨b, _, none⟩) hb).trans c0, (cell_of_heap (p := ⟨b, _, none⟩) hb).trans c1, (cell_of_heap (p := ⟨b, _, none⟩) hb).trans c2, (cell_of_heap (p := ⟨b, _, none⟩) hb).trans c3, hpi⟩
theorem yield_bool {J Jx : List Eg → World → Prop} {T : Nat → Prop} {pre : List Eg} {x : Eg} {W1 W' : World} {e : Ending} (h : (e = .returned (.bool true) ∧ J (pre ++ [x]) W' ∧ KpS T W1 W') ∨ (e = .returned (.bool false) ∧ Jx (pre ++ [x]) W')) :
    ∃ b, e = .returned (.bool b) ∧ ((b = true ∧ J (pre ++ [x]) W' ∧ KpS T W1 W') ∨ (b = false ∧ Jx (pre ++ [x]) W')) := by
  rcases h with ⟨rfl, h1, h2⟩ | ⟨rfl, h1⟩
  · exact ⟨true, rfl, .inl ⟨rfl, h1, h2⟩⟩
  · exact ⟨false, rfl, .inr ⟨rfl, h1⟩⟩
theorem take_suc {α : Type} (xs : List α) (k : Nat) (h : k < xs.length) : xs.take (k + 1) = xs.take k ++ [xs[k]] := by
  rw [List.take_add_one, List.getElem?_eq_getElem h]; rfl
theorem mod_next {k n : Nat} : ((k : Int) + 1).tmod (n : Int) = (((k + 1) % n : Nat) : Int) := by
  rw [Int.tmod_eq_emod_of_nonneg (by omega)]
  rfl

set_option maxRecDepth 100000 in
set_option maxHeartbeats 8000000 in
theorem edges_seq (l : List Qt) (xs : List Eg) (hxs : xs.map (fun e => (e.a, e.b)) = edges l) (hl : l.length ≤ 1000) (o : Option Addr) (cap n Bs : Nat) (w0 : World) (hB : w0.heap[Bs]? = some (.cells #[.slice o l.length cap] 40)) (hP : PtsAt w0 o l) :
    SeqStopsK Fence.wide n Tryd.prog 56 #[.pointer (some ⟨Bs, 0, none⟩)] egV (KpS (edT Bs o l)) (fun ys => ys = xs) (fun p => p <+: xs) xs.length w0 := by
  intro L J Jx W hW hJ hJx hY h0
  have hBl : Bs < w0.heap.size := (Array.getElem?_eq_some_iff.1 hB).1
  have hBW : W.heap[Bs]? = some (.cells #[.slice o l.length cap] 40) := (hW.block Bs hBl).trans hB
  have c0 : W.cell? ⟨Bs, 0, none⟩ = some (.slice o l.length cap) := by simp [World.cell?, hBW]
  have hJb : ∀ p A C, J p A → Below A.heap.size A C → J p C := fun p A C h hb => hJ p A C none h (grown_of hb) (fun r e => by cases e)
  have hlen : xs.length = l.length := by rw [← edges_len l, ← hxs, List.length_map]
  have hPW := hP.below hW (Nat.le_refl _)
  refine callsIn_of_wp Tryd.func56 rfl trivial ?_ rfl
  simp only [Tryd.ntmps56, List.size_toArray, List.length_cons, List.length_nil, Nat.reduceAdd, Nat.reduceSub, Array.replicate_succ, Array.replicate_zero, List.push_toArray, List.append_toArray, List.nil_append, List.cons_append]
  gi_wp2
  gi_loopw [8] (fun i wr => ∃ k : Nat, k ≤ l.length ∧ i = .int .i64 k ∧ J (xs.take k) wr ∧ KpS (edT Bs o l) W wr) (fun i _ => l.length - (intOf i).toNat)
  case atStart => exact ⟨0, Nat.zero_le _, rfl, h0, KpS.refl _⟩
  case round =>
    obtain ⟨k, hk, rfl, hJs, hnx⟩ := hrel
    by_cases hlt : k < l.length
    · have hlt' : (k : Int) < (l.length : Int) := by omega
      have hkx : k < xs.length := by omega
      obtain ⟨a, b, ea, eb, eab⟩ := edges_get hlt
      have hx : (xs[k].a, xs[k].b) = (a, b) := by
        have h1 : (xs.map (fun e => (e.a, e.b)))[k]? = some (a, b) := by rw [hxs]; exact eab
        rw [List.getElem?_map, List.getElem?_eq_getElem hkx] at h1
        simpa using h1
      have hts := take_suc xs k hkx
      have hpl : (xs.take k).length < xs.length := by rw [List.length_take]; omega
      obtain ⟨x, hxk⟩ : ∃ x, xs[k] = x := ⟨_, rfl⟩
      rw [hxk] at hx hts
      obtain ⟨rfl, rfl⟩ := Prod.mk.inj hx
      obtain ⟨bb, off, ho, q0, q1, q2, q3, -⟩ := hPW.kept hnx k x.a ea
      obtain ⟨bb', off', ho', r0, r1, r2, r3, -⟩ := hPW.kept hnx _ x.b eb
      subst ho
      cases ho'
      have cB := (cell_of_heap (p := ⟨Bs, 0, none⟩) (hnx Bs (.inl rfl))).trans c0
      obtain ⟨K, hK⟩ : ∃ K, (k + 1) % l.length = K := ⟨_, rfl⟩
      have hKl : K < l.length := by rw [← hK]; exact Nat.mod_lt _ (by omega)
      have hmod : ((k : Int) + 1).tmod (l.length : Int) = (K : Int) := by rw [mod_next, hK]
      rw [hK] at r0 r1 r2 r3
      have hKl' : (K : Int) < (l.length : Int) := by omega
      have hw1 : IntKind.i64.wrap ((k : Int) + 1) = (k : Int) + 1 := IntWalk.i64_in _ (by omega)
      have hw2 : IntKind.i64.wrap (K : Int) = (K : Int) := IntWalk.i64_in _ (by omega)
      have hK0 : ¬ (K : Int) < 0 := by omega
      have hne : ¬ (l.length : Int) = 0 := by omega
      have hneb : ((l.length : Int) == 0) = false := by rw [beq_eq_false_iff_ne]; omega
      have hnen : ¬ l.length = 0 := by omega
      have hnel : ¬ l = [] := by intro h; subst h; simp at hlt
      have HTS : Hid (xs.take (k + 1) = xs.take k ++ [x]) := hts
      have HPL : Hid ((xs.take k).length < xs.length) := hpl
      clear hts hpl hxk hx hK eab ea eb
      have hal := mbelow wr (.cells #[.int .i64 x.a.xn, .int .i64 x.a.xd, .int .i64 x.a.yn, .int .i64 x.a.yd] 54)
      have FN := Four.new wr (.int .i64 x.a.xn) (.int .i64 x.a.xd) (.int .i64 x.a.yn) (.int .i64 x.a.yd) 54
      have r0 := (hal.cell (cell_lt r0)).trans r0
      have r1 := (hal.cell (cell_lt r1)).trans r1
      have r2 := (hal.cell (cell_lt r2)).trans r2
      have r3 := (hal.cell (cell_lt r3)).trans r3
      have cV := (hal.cell (cell_lt cB)).trans cB
      gi_wp2
      obtain ⟨V, hV⟩ : ∃ V, wr.alloc (.cells #[.int .i64 x.a.xn, .int .i64 x.a.xd, .int .i64 x.a.yn, .int .i64 x.a.yd] 54) = V := ⟨_, rfl⟩
      rw [hV] at hal FN r0 r1 r2 r3 cV ⊢
      have HKV : Hid (KpS (edT Bs (some ⟨bb, off, none⟩) l) wr V) := KpS.of_below hal (fun j hj => by
        rcases hj with rfl | ⟨-, off2, h2⟩
        · exact cell_lt cB
        · cases h2
          exact cell_lt q0)
      clear hV q0 q1 q2 q3 cB
      obtain ⟨f0, f1, f2, f3⟩ := FN
      obtain ⟨fn, tmps, assign, body, hy, hR⟩ := hY (xs.take k) x V.drew (hJb _ _ _ hJs hal.drew) HPL.out
      gi_region_with ((refine ⟨(fun h => by cases h), hR.mono ?_⟩; rintro e W3 h3; obtain ⟨bo, rfl, hb3⟩ := yield_bool h3))
      all_goals (rcases hb3 with ⟨rfl, hJ3, hk3⟩ | ⟨rfl, hJx3⟩; ((gi_wp2; go_roundw); (case rel => exact ⟨k + 1, by omega, by simp, by rw [HTS.out]; exact hJ3, (hnx.trans HKV.out).trans hk3⟩); (case measure => simp [intOf]; omega)); (gi_wp2; refine bodyPost_ret (results_none rfl _ _ _) rfl ?_; exact ⟨⟨_, rfl⟩, .inr ⟨_, by rw [← HTS.out]; exact List.take_prefix _ _, hJx3⟩⟩))
    · obtain rfl : k = l.length := by omega
      gi_wp2
      go_end0
      exact ⟨⟨_, rfl⟩, .inl ⟨_, by rw [List.take_of_length_le (by omega)], hJs⟩⟩
end Go.Proofs.YtmbdojcljgicaaaDoor

/-
  The law's closed fact 'moved': it is true in every world that holds the errors' variables.
-/
import Derived.Test.YtdilieoobkldhabDoorMove18
import Derived.Test.YtdilieoobkldhabDoorMoveM2
namespace Go.Proofs.YtdilieoobkldhabDoor
open Go.RowKit

/-- The three errors that reading and moving name. -/
structure E4 (aT aB aS : Addr) (w : World) : Prop where
  e3 : E3 aB aS aB w
  t : w.cell? ⟨1, 0, none⟩ = some (.iface 209 (.pointer (some aT)))
theorem E4.below {aT aB aS : Addr} {w w' : World} {B : Nat} (h : E4 aT aB aS w) (hb : Below B w w') (hB : w.heap.size ≤ B) : E4 aT aB aS w' := ⟨h.e3.below hb hB, (hb.cell (Nat.lt_of_lt_of_le (cell_lt h.t) hB)).trans h.t⟩
theorem E4.alloc {aT aB aS : Addr} {w : World} (h : E4 aT aB aS w) (o : Obj) : E4 aT aB aS (w.alloc o) := h.below ((Below.refl w.heap.size w).alloc (Nat.le_refl _) o) (Nat.le_refl _)

theorem read_ok {aT aB aS : Addr} (s : ByteArray) (x : Fr) (hs : s.size ≤ 100) (hr : rd s.data.toList = ⟨x.n, x.d, 0⟩) (V : World) (h : E4 aT aB aS V) :
    Calls Tryd.prog 100 #[.string s] V fun e w' => e = .returned (.tuple #[.agg #[.int .i64 x.n, .int .i64 x.d], .nilIface]) ∧ Below V.heap.size V w' := by
  have := Read_any aT aB aS aB s V h.e3 h.t (by omega)
  rw [hr] at this
  exact this

abbrev bOneTwo : ByteArray := ⟨#[109, 111, 118, 101, 32, 49, 32, 50]⟩
theorem rd_1 : rd [49] = ⟨1, 1, 0⟩ := by kernel_rfl
theorem rd_2 : rd [50] = ⟨2, 1, 0⟩ := by kernel_rfl
theorem count_12 : Lib.countB bOneTwo ⟨#[32]⟩ = 2 := by decide +kernel
theorem split_12 : Lib.splitB ⟨#[32]⟩ 0 2 bOneTwo = [bMove, ⟨#[49]⟩, ⟨#[50]⟩] := by decide +kernel

theorem list_12 {aT aB aS : Addr} (W : World) (h : E4 aT aB aS W) :
    Calls Tryd.prog 22 #[.string bOneTwo] W fun e w' => (∃ g cap, e = .returned (.tuple #[.slice (some ⟨g, 0, none⟩) 1 cap, .nilIface]) ∧ w'.ownsRow W.heap.size 28 12 (.slice (some ⟨g, 0, none⟩) 1 cap) 1 [.int .i64 1, .int .i64 1, .int .i64 0, .int .i64 1, .int .i64 0, .int .i64 1, .int .i64 1, .int .i64 1, .int .i64 1, .int .i64 1, .int .i64 2, .int .i64 1]) ∧ Below W.heap.size W w' :=
  readList_frac2 bOneTwo bMove ⟨#[49]⟩ ⟨#[50]⟩ (Mv.shift (.whole 1) (.whole 2)) 69 W (by decide) (by decide +kernel) count_12 split_12 kindOf_move
    (fun V b B hV hB h1 h2 => shift2 b 1 2 B ⟨#[49]⟩ ⟨#[50]⟩ (.whole 1) (.whole 2) _ V hB h1 h2
      (fun U hU => read_ok _ _ (by decide) rd_1 U ((h.below hV (Nat.le_refl _)).below hU (Nat.le_refl _))) (fun U hU => read_ok _ _ (by decide) rd_2 U ((h.below hV (Nat.le_refl _)).below hU (Nat.le_refl _)))
      (fun U g c hU k0 k1 k2 k3 => shift_any g c (.whole 1) (.whole 2) U k0 k1 k2 k3))

theorem ok_all {m : Mv} (h : m.ok) : m.i64 := ⟨ok_i64 h.1, ok_i64 h.2.1, ok_i64 h.2.2.1, ok_i64 h.2.2.2.1, ok_i64 h.2.2.2.2.1, ok_i64 h.2.2.2.2.2⟩
theorem shift_ok : (Mv.shift (.whole 1) (.whole 2)).ok := ⟨whole_ok (by decide), whole_ok (by decide), whole_ok (by decide), whole_ok (by decide), whole_ok (by decide), whole_ok (by decide)⟩

theorem Read_12 {aT aB aS : Addr} (W : World) (h : E4 aT aB aS W) :
    Calls Tryd.prog 8 #[.string bOneTwo] W fun e w' => e = .returned (.tuple #[mv (Mv.shift (.whole 1) (.whole 2)), .nilIface]) ∧ Below W.heap.size W w' := by
  have := Read_in bOneTwo (Mv.shift (.whole 1) (.whole 2)) 1 (fun k => if k = 0 then .one else Mv.shift (.whole 1) (.whole 2)) W (by decide) (by decide) rfl
    (fun V hV => (list_12 V (h.below hV (Nat.le_refl _))).mono fun e w' ⟨⟨g, cap, he, ho⟩, hb⟩ => by
      obtain ⟨g', c', h1, _, h3, _, _, h6⟩ := ownsRow_pos ho
      obtain rfl : g = g' := by cases h1; rfl
      exact ⟨⟨g, cap, he, h3, fun j hj i u hu => by obtain rfl : j = 0 := by omega
                                                    rw [Nat.zero_mul, Nat.zero_add]; exact h6 i u hu⟩, hb⟩)
    (fun k hk V hV => by
      obtain rfl : k = 0 := by omega
      exact Then_ok (ok_all one_ok) (ok_all shift_ok) (one_thenR shift_ok) V (h.below hV (Nat.le_refl _)).e3)
  exact callsIn_wide.1 this

theorem At_12 {aT aB aS : Addr} (W : World) (h : E4 aT aB aS W) :
    Calls Tryd.prog 10 #[mv (Mv.shift (.whole 1) (.whole 2)), pv ⟨.whole 0, .whole 0⟩] W fun e w' => e = .returned (.tuple #[pv ⟨.whole 1, .whole 2⟩, .nilIface]) ∧ Below W.heap.size W w' :=
  At_ok (ok_all shift_ok) ⟨ok_i64 z_ok, ok_i64 z_ok⟩ (atR_ok shift_ok ⟨z_ok, z_ok⟩ (moved_0 shift_ok)) W h.e3

set_option maxHeartbeats 2000000 in
theorem moved_true {aT aB aS : Addr} (W : World) (h : E4 aT aB aS W) :
    Calls Tryd.prog 7 #[] W fun e w' => e = .returned (.bool true) ∧ Below W.heap.size W w' := by
  have HR := Read_12 W h
  have HA := fun V hV => At_12 (aT := aT) (aB := aB) (aS := aS) V hV
  dsimp only [Mv.shift, Fr.whole, mv, pv] at HR HA
  go_enter Tryd.func7, Tryd.ntmps7
  go_wp2_with (first | (go_at_call 10; refine (HA _ ((h.below hb1 (Nat.le_refl _)).alloc _)).mono ?_; rintro e w2 ⟨rfl, hb2⟩) | (go_at_call 8; refine HR.mono ?_; rintro e w1 ⟨rfl, hb1⟩))
  go_ret
  exact ⟨rfl, ((hb1.alloc hb1.size _).trans (hb2.mono (by have := hb1.size; simp; omega))).alloc (by have := hb1.size; have := hb2.size; simp at *; omega) _⟩

end Go.Proofs.YtdilieoobkldhabDoor

/-
  The law's closed fact 'halved': it is true, in every world that holds the errors and the table.
-/
import Derived.Test.YtdeahgbjkogjgaaDoorFrac6
namespace Go.Proofs.YtdeahgbjkogjgaaDoor
open Go.RowKit

theorem mk_half : mk 2 (-4) = ⟨-1, 2, 0⟩ := by
  unfold mk
  rw [if_neg (by decide), if_neg (by decide)]
  exact (low_some (by decide)).2 ⟨chk_zero.2 ⟨by decide, by decide, by decide, by decide⟩, by decide⟩
theorem txt_half : (⟨(txt (-1) 2).toArray⟩ : ByteArray) = ⟨#[45, 49, 47, 50]⟩ := by
  have e : txt (-1) 2 = [45, 49, 47, 50] := by
    unfold txt Lib.itoa
    rw [if_neg (by decide), if_pos (by decide), if_neg (by decide)]
    unfold Lib.decDigits
    simp
  rw [e]

theorem half_make (aB aS aZ : Addr) (w : World) (h : E3 aB aS aZ w) :
    Calls Tryd.prog 13 #[.int .i64 2, .int .i64 (-4)] w fun e w' => e = .returned (.tuple #[.agg #[.int .i64 (-1), .int .i64 2], .nilIface]) ∧ Below w.heap.size w w' := by
  have := Make_any aB aS aZ 2 (-4) w ⟨by decide, by decide⟩ ⟨by decide, by decide⟩ h
  rw [mk_half] at this
  exact this
theorem half_text (aB aS aZ : Addr) (w : World) (h : G aB aS aZ w) :
    Calls Tryd.prog 17 #[.agg #[.int .i64 (-1), .int .i64 2]] w fun e w' => e = .returned (.string ⟨#[45, 49, 47, 50]⟩) ∧ Below w.heap.size w w' := by
  have := Text_any aB aS aZ (-1) 2 w ⟨by decide, by decide⟩ ⟨by decide, by decide⟩ h
  rw [txt_half] at this
  exact this

set_option maxHeartbeats 1000000 in
theorem halved_any (aB aS aZ : Addr) (w : World) (h : G aB aS aZ w) :
    Calls Tryd.prog 12 #[] w fun e w' => e = .returned (.bool true) ∧ Below w.heap.size w w' := by
  go_enter Tryd.func12, Tryd.ntmps12
  go_wp2_with (first | (go_at_call 13; refine (half_make aB aS aZ _ h.e3).mono ?_; rintro e w1 ⟨rfl, hb⟩) | (go_at_call 17; refine (half_text aB aS aZ _ ?_).mono ?_; exact (h.below hb (Nat.le_refl _)).alloc _; rintro e w2 ⟨rfl, hb2⟩))
  go_ret
  exact ⟨rfl, (hb.alloc hb.size _).trans (hb2.mono (by have := hb.size; simp; omega))⟩
end Go.Proofs.YtdeahgbjkogjgaaDoor

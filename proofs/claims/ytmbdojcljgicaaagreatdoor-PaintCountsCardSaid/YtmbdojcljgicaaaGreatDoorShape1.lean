/-
  The walks of package shape's small functions: is a coordinate too great, a point right, what lies between two coordinates.
-/
import Derived.Test.YtmbdojcljgicaaaGreatDoorFrac4
import Derived.Test.YtmbdojcljgicaaaGreatDoorShapeM
namespace Go.Proofs.YtmbdojcljgicaaaGreatDoor
open Go.RowKit

abbrev qtV (a : Qt) : Value := .agg #[.int .i64 a.xn, .int .i64 a.xd, .int .i64 a.yn, .int .i64 a.yd]
/-- a point of parts that an int holds -/
structure PI (a : Qt) : Prop where
  xn : I64 a.xn
  xd : I64 a.xd
  yn : I64 a.yn
  yd : I64 a.yd
/-- is a coordinate too great? -/
def tgr (n d : Int) : Bool := decide (20 < d ∨ 1000 * d < n ∨ n < -1000 * d)
/-- the error's number of a point that is not right -/
def chkP (a : Qt) : Nat := if chk a.xn a.xd ≠ 0 then chk a.xn a.xd else chk a.yn a.yd
/-- the error's number of a point that is too great -/
def bigP (a : Qt) : Nat := if tgr a.xn a.xd = true ∨ tgr a.yn a.yd = true then 2 else 0
theorem chkP_cases (a : Qt) : chkP a = 0 ∨ chkP a = 2 ∨ chkP a = 3 := by
  unfold chkP
  split
  · exact chk_cases _ _
  · exact chk_cases _ _
theorem bigP_cases (a : Qt) : bigP a = 0 ∨ bigP a = 2 := by
  unfold bigP
  split <;> simp
theorem chkP_zero {a : Qt} : chkP a = 0 ↔ chk a.xn a.xd = 0 ∧ chk a.yn a.yd = 0 := by
  unfold chkP
  by_cases h : chk a.xn a.xd = 0
  · rw [if_neg (by simp [h])]; simp [h]
  · rw [if_pos h]; simp [h]
theorem chkP_pos {a : Qt} (h : chkP a = 0) : Pos a := ⟨(chk_zero.1 (chkP_zero.1 h).1).1, (chk_zero.1 (chkP_zero.1 h).2).1⟩

theorem mbelow (W : World) (o : Obj) : Below W.heap.size W (W.alloc o) := (Below.refl _ _).alloc (Nat.le_refl _) o
theorem bel_more {W X Y : World} (h1 : Below W.heap.size W X) (h2 : Below X.heap.size X Y) : Below W.heap.size W Y := h1.trans (h2.mono h1.size)

set_option maxHeartbeats 1000000 in
theorem tooGreat_sh (n d : Int) (w : World) (hn : I64 n) (h1 : 1 ≤ d) :
    Calls Tryz.prog 68 #[.agg #[.int .i64 n, .int .i64 d]] w fun e w' => e = .returned (.bool (tgr n d)) ∧ Below w.heap.size w w' := by
  obtain ⟨n1, n2⟩ := hn
  by_cases h20 : 20 < d
  · have e : tgr n d = true := by unfold tgr; simp; omega
    rw [e]
    go_enter Tryz.func68, Tryz.ntmps68
    go_wp2
    go_ret
    exact ⟨rfl, mbelow w _⟩
  · by_cases ha : 1000 * d < n
    · have e : tgr n d = true := by unfold tgr; simp; omega
      rw [e]
      go_enter Tryz.func68, Tryz.ntmps68
      go_wp2
      go_ret
      exact ⟨rfl, mbelow w _⟩
    · have e : tgr n d = decide (n < -1000 * d) := by unfold tgr; simp only [decide_eq_decide]; omega
      rw [e]
      go_enter Tryz.func68, Tryz.ntmps68
      go_wp2
      go_ret
      exact ⟨rfl, mbelow w _⟩
end Go.Proofs.YtmbdojcljgicaaaGreatDoor

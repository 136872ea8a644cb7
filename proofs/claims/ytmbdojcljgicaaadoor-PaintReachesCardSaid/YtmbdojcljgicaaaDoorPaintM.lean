/-
  Pictures as plain mathematics: which piece shows in a cell, a row, a picture; a piece that reaches a row.
-/
import Derived.Test.YtmbdojcljgicaaaDoorShapeM2
namespace Go.Proofs.YtmbdojcljgicaaaDoor

/-- what a picture asks of a piece -/
structure Pm where
  pts : List Qt
  fill : ByteArray
  rule : ByteArray
/-- the centre of a cell -/
def cenQ (x y : Int) : Qt := ⟨2 * x + 1, 2, 2 * y + 1, 2⟩
/-- how far down it is from the centres of row y to a fraction, times both lower parts -/
def downI (y n d : Int) : Int := 2 * n - (2 * y + 1) * d
def lWind : List UInt8 := [119, 105, 110, 100]
def lEven : List UInt8 := [101, 118, 101, 110]
def bDot : ByteArray := ⟨#[46]⟩
/-- does a shape that is well hold a point, by a rule? -/
def holdB (l : List Qt) (rule : ByteArray) (c : Qt) : Bool := if rule.toList = lWind then windE (turnI c) l != 0 else (windE (fun a b => turnI c a b * turnI c a b) l).tmod 2 == 1
/-- what is shown at a point, the last piece first -/
def shownR : List Pm → Qt → ByteArray
  | [], _ => bDot
  | s :: l, c => if holdB s.pts s.rule c then s.fill else shownR l c
def shownM (l : List Pm) (c : Qt) : ByteArray := shownR l.reverse c
theorem shownR_app (a b : List Pm) (c : Qt) (h : ∀ s ∈ a, holdB s.pts s.rule c = false) : shownR (a ++ b) c = shownR b c := by
  induction a with
  | nil => rfl
  | cons s a ih =>
    rw [List.cons_append, shownR, h s (List.mem_cons_self ..), if_neg (by simp)]
    exact ih (fun x hx => h x (List.mem_cons_of_mem _ hx))
theorem shownR_hit (a b : List Pm) (s : Pm) (c : Qt) (h : ∀ s ∈ a, holdB s.pts s.rule c = false) (hs : holdB s.pts s.rule c = true) : shownR (a ++ s :: b) c = s.fill := by
  rw [shownR_app a _ c h, shownR, if_pos hs]
theorem shownR_none (a : List Pm) (c : Qt) (h : ∀ s ∈ a, holdB s.pts s.rule c = false) : shownR a c = bDot := by
  have := shownR_app a [] c h
  rwa [List.append_nil] at this
section
variable (rc : List Qt → Int → Bool)
def rowM (l : List Pm) (w : Nat) (y : Int) : List ByteArray := (List.range w).map fun (x : Nat) => shownM (l.filter fun s => rc s.pts y) (cenQ (x : Int) y)
def picM (l : List Pm) (w h : Nat) : List ByteArray := (List.range h).flatMap fun (y : Nat) => rowM rc l w (y : Int)
theorem rowM_len (l : List Pm) (w : Nat) (y : Int) : (rowM rc l w y).length = w := by simp [rowM]
theorem rowM_again (l : List Pm) (w : Nat) (y : Int) : rowM rc (l.filter fun s => rc s.pts y) w y = rowM rc l w y := by
  unfold rowM
  rw [List.filter_filter]
  simp
theorem picM_succ (l : List Pm) (w h : Nat) : picM rc l w (h + 1) = picM rc l w h ++ rowM rc l w h := by
  unfold picM
  rw [List.range_succ, List.flatMap_append]
  simp
theorem picM_len (l : List Pm) (w : Nat) : ∀ h : Nat, (picM rc l w h).length = w * h
  | 0 => rfl
  | h + 1 => by rw [picM_succ, List.length_append, picM_len l w h, rowM_len, Nat.mul_succ]
theorem picM_row (l : List Pm) (w : Nat) : ∀ h y : Nat, y < h → ((picM rc l w h).drop (w * y)).take w = rowM rc l w y
  | 0, y, hy => by omega
  | h + 1, y, hy => by
    rw [picM_succ]
    by_cases e : y = h
    · subst e
      rw [List.drop_append_of_le_length (by rw [picM_len]; exact Nat.le_refl _), List.drop_eq_nil_of_le (by rw [picM_len]; exact Nat.le_refl _), List.nil_append, List.take_of_length_le (by rw [rowM_len]; exact Nat.le_refl _)]
    · have h1 : y + 1 ≤ h := by omega
      have h2 : w * (y + 1) ≤ w * h := Nat.mul_le_mul_left w h1
      rw [Nat.mul_succ] at h2
      rw [List.drop_append_of_le_length (by rw [picM_len]; omega), List.take_append_of_le_length (by rw [List.length_drop, picM_len]; omega)]
      exact picM_row l w h y (by omega)
end
/-- a fraction that is at most the centres of a row; one that is at least that -/
def overM (l : List Qt) (y : Int) : Bool := l.any fun a => decide (downI y a.yn a.yd ≤ 0)
def underM (l : List Qt) (y : Int) : Bool := l.any fun a => decide (0 ≤ downI y a.yn a.yd)
/-- does it reach a row? -/
def reachM (l : List Qt) (y : Int) : Bool :=
  if y < -1073741824 ∨ 1073741824 ≤ y then false else l.all (fun a => decide (chk a.xn a.xd = 0) && decide (chk a.yn a.yd = 0)) && (overM l y && underM l y)
end Go.Proofs.YtmbdojcljgicaaaDoor

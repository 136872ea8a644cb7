/-
  A polygon that is moved by whole steps, in plain integers.
-/
import Derived.Test.YtdjeblcmpegmpaaDoorShapeM
namespace Go.Proofs.YtdjeblcmpegmpaaDoor

def shiftP (x y : Int) (a : Qt) : Qt := ⟨a.xn + x * a.xd, a.xd, a.yn + y * a.yd, a.yd⟩
theorem nX_shift (x y : Int) (a b : Qt) : nX (shiftP x y a) (shiftP x y b) = nX a b := by unfold nX shiftP; grind
theorem nY_shift (x y : Int) (a b : Qt) : nY (shiftP x y a) (shiftP x y b) = nY a b := by unfold nY shiftP; grind
theorem side_shift (x y : Int) (f t p : Qt) : sideI (shiftP x y f) (shiftP x y t) (shiftP x y p) = sideI f t p := by
  unfold sideI
  rw [nX_shift, nX_shift, nY_shift, nY_shift]
  rfl
theorem turn_shift (x y : Int) (p f t : Qt) : turnI (shiftP x y p) (shiftP x y f) (shiftP x y t) = turnI p f t := by
  unfold turnI
  rw [side_shift, nY_shift, nY_shift]
theorem edges_map (g : Qt → Qt) : ∀ l : List Qt, edges (l.map g) = (edges l).map fun e => (g e.1, g e.2)
  | [] => rfl
  | a :: l => by
    have h : l.map g ++ [g a] = (l ++ [a]).map g := by simp
    simp only [List.map_cons, edges]
    rw [h, ← List.map_cons, List.zip_map]
    rfl
theorem wind_shift (x y : Int) (p : Qt) (l : List Qt) : windE (turnI (shiftP x y p)) (l.map (shiftP x y)) = windE (turnI p) l := by
  unfold windE
  rw [edges_map]
  unfold sumE
  rw [List.map_map]
  congr 1
  refine List.map_congr_left fun e _ => ?_
  exact turn_shift x y p e.1 e.2
theorem shift_back (x y : Int) (a : Qt) : shiftP (-x) (-y) (shiftP x y a) = a := by
  unfold shiftP
  cases a
  simp only [Qt.mk.injEq, true_and, and_true]
  constructor <;> grind
theorem gcd_shift (x n d : Int) : gcdI (n + x * d) d = gcdI n d := by
  unfold gcdI
  rw [← Int.gcd_eq_natAbs_gcd_natAbs, ← Int.gcd_eq_natAbs_gcd_natAbs]
  simp
end Go.Proofs.YtdjeblcmpegmpaaDoor

/-
  mark.Text of any node.
-/
import Derived.Test.YtdebekonggnckacDoorMark12
namespace Go.Proofs.YtdebekonggnckacDoor
open Go.RowKit

theorem mdrew {B : Nat} {w : World} : ∀ (k : Nat) {v : World}, Below B w v → Below B w (v.drewN k) := fun _ _ h => ⟨h.os, h.tape, h.output, h.size, h.block⟩
end Go.Proofs.YtdebekonggnckacDoor

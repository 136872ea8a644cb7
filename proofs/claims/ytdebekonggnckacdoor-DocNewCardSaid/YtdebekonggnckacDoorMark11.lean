/-
  A value as text.
-/
import Derived.Test.YtdebekonggnckacDoorMarkB
namespace Go.Proofs.YtdebekonggnckacDoor
open Go.RowKit

end Go.Proofs.YtdebekonggnckacDoor

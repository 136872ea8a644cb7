/-
  Package move's Then, where both moves are right.
-/
import Derived.Test.YtdjeblcmpegmpaaDoorMove9
namespace Go.Proofs.YtdjeblcmpegmpaaDoor
open Go.RowKit


end Go.Proofs.YtdjeblcmpegmpaaDoor

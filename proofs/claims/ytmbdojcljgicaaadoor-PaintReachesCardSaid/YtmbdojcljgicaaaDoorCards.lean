/-
  DERIVED. GIVEN WITH THE SEED: THE CARDS: each row of YtmbdojcljgicaaaDoorRows.lean that lists a variable, with what it lists TIED to the program's text (the seventh form; the later family's looks); each row that meets fmt, with fmt's text TOLD by the authors' own Lean function (tested against real Go, not proved from fmt's source: count such statements apart). THE CARD IS WHAT COUNTS. Prove the row's statement (the work); the ties are given (YtmbdojcljgicaaaDoorTie.lean); close each card by the builder's one call (the guide's Derived/Test/ToyasCard.lean, 'card_holds'). Laid BY PROGRAM, IN A SANDBOX (cutbox-door.mjs). By AI agents, Wed Nov 11 2026. No macro, syntax, notation, axiom, sorry.
-/
import Derived.Test.YtmbdojcljgicaaaDoorRows
import GoSem.ClaimSeven
namespace Go.Proofs.YtmbdojcljgicaaaDoor
namespace Rows

/-- THE TIED CARD OF 'leadlightlaw2.PaintReaches'. -/
def paintReachesCard : Claim7 := { stood := { row := paintReachesRow, standIns := [], harness := (true, "75cdc09a44b1159c9b06ad4c9cde78e1df8977c7fae6b27200474db26e1272c9"), looks := true }, kinds := [], alts := [], laidByText := true, laidKinds := [.handle, .sentinel, .sentinel, .sentinel], laidTests := true, laidLooks := .later }
def PaintReachesCardSaid : Prop := Claim7.holds Tryd.pinned (.plain (OpenSpec.ofChange paintReachesSpec)) paintReachesCard

/-- THE SECOND FORM's CARD OF 'leadlightlaw2.PaintReaches'. -/
def paintReachesUptoCard : Claim7 := { stood := { row := paintReachesUptoRow, standIns := [], harness := (true, "75cdc09a44b1159c9b06ad4c9cde78e1df8977c7fae6b27200474db26e1272c9"), looks := true }, kinds := [], alts := [], laidByText := true, laidKinds := [.handle, .sentinel, .sentinel, .sentinel], laidTests := true, laidLooks := .later }
def PaintReachesUptoCardSaid : Prop := Claim7.holds Tryd.pinned (.plain (OpenSpec.upto paintReachesSpec)) paintReachesUptoCard
end Rows
end Go.Proofs.YtmbdojcljgicaaaDoor

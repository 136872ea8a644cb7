/-
  DERIVED. GIVEN WITH THE SEED: THE CARDS: each row of YtdjeblcmpegmpaaDoorRows.lean that lists a variable, with what it lists TIED to the program's text (the seventh form; the later family's looks); each row that meets fmt, with fmt's text TOLD by the authors' own Lean function (tested against real Go, not proved from fmt's source: count such statements apart). THE CARD IS WHAT COUNTS. Prove the row's statement (the work); the ties are given (YtdjeblcmpegmpaaDoorTie.lean); close each card by the builder's one call (the guide's Derived/Test/ToyasCard.lean, 'card_holds'). Laid BY PROGRAM, IN A SANDBOX (cutbox-door.mjs). By AI agents, Wed Nov 11 2026. No macro, syntax, notation, axiom, sorry.
-/
import Derived.Test.YtdjeblcmpegmpaaDoorRows
import GoSem.ClaimSeven
namespace Go.Proofs.YtdjeblcmpegmpaaDoor
namespace Rows

/-- THE TIED CARD OF 'leadlightlaw2.ShapeTurns'. -/
def shapeTurnsCard : Claim7 := { stood := { row := shapeTurnsRow, standIns := [], harness := (true, "44b754daf901a9e12eb8949645c45b0084f9a84b1b05280d583609f9e9d40a21"), looks := false }, kinds := [], alts := [], laidByText := true, laidKinds := [.sentinel, .sentinel, .sentinel], laidTests := true, laidLooks := .later }
def ShapeTurnsCardSaid : Prop := Claim7.holds Tryd.pinned (.plain (OpenSpec.ofChange shapeTurnsSpec)) shapeTurnsCard

/-- THE TIED CARD OF 'leadlightlaw2.ShapeMoves'. -/
def shapeMovesCard : Claim7 := { stood := { row := shapeMovesRow, standIns := [], harness := (true, "44b754daf901a9e12eb8949645c45b0084f9a84b1b05280d583609f9e9d40a21"), looks := false }, kinds := [], alts := [], laidByText := true, laidKinds := [.sentinel, .sentinel, .sentinel, .sentinel], laidTests := true, laidLooks := .later }
def ShapeMovesCardSaid : Prop := Claim7.holds Tryd.pinned (.plain (OpenSpec.ofChange shapeMovesSpec)) shapeMovesCard

/-- THE TIED CARD OF 'leadlightlaw2.ShapeBoxes'. -/
def shapeBoxesCard : Claim7 := { stood := { row := shapeBoxesRow, standIns := [], harness := (true, "44b754daf901a9e12eb8949645c45b0084f9a84b1b05280d583609f9e9d40a21"), looks := false }, kinds := [], alts := [], laidByText := true, laidKinds := [.sentinel, .sentinel, .sentinel], laidTests := true, laidLooks := .later }
def ShapeBoxesCardSaid : Prop := Claim7.holds Tryd.pinned (.plain (OpenSpec.ofChange shapeBoxesSpec)) shapeBoxesCard

/-- THE SECOND FORM's CARD OF 'leadlightlaw2.ShapeTurns'. -/
def shapeTurnsUptoCard : Claim7 := { stood := { row := shapeTurnsUptoRow, standIns := [], harness := (true, "44b754daf901a9e12eb8949645c45b0084f9a84b1b05280d583609f9e9d40a21"), looks := false }, kinds := [], alts := [], laidByText := true, laidKinds := [.sentinel, .sentinel, .sentinel], laidTests := true, laidLooks := .later }
def ShapeTurnsUptoCardSaid : Prop := Claim7.holds Tryd.pinned (.plain (OpenSpec.upto shapeTurnsSpec)) shapeTurnsUptoCard

/-- THE SECOND FORM's CARD OF 'leadlightlaw2.ShapeMoves'. -/
def shapeMovesUptoCard : Claim7 := { stood := { row := shapeMovesUptoRow, standIns := [], harness := (true, "44b754daf901a9e12eb8949645c45b0084f9a84b1b05280d583609f9e9d40a21"), looks := false }, kinds := [], alts := [], laidByText := true, laidKinds := [.sentinel, .sentinel, .sentinel, .sentinel], laidTests := true, laidLooks := .later }
def ShapeMovesUptoCardSaid : Prop := Claim7.holds Tryd.pinned (.plain (OpenSpec.upto shapeMovesSpec)) shapeMovesUptoCard

/-- THE SECOND FORM's CARD OF 'leadlightlaw2.ShapeBoxes'. -/
def shapeBoxesUptoCard : Claim7 := { stood := { row := shapeBoxesUptoRow, standIns := [], harness := (true, "44b754daf901a9e12eb8949645c45b0084f9a84b1b05280d583609f9e9d40a21"), looks := false }, kinds := [], alts := [], laidByText := true, laidKinds := [.sentinel, .sentinel, .sentinel], laidTests := true, laidLooks := .later }
def ShapeBoxesUptoCardSaid : Prop := Claim7.holds Tryd.pinned (.plain (OpenSpec.upto shapeBoxesSpec)) shapeBoxesUptoCard
end Rows
end Go.Proofs.YtdjeblcmpegmpaaDoor

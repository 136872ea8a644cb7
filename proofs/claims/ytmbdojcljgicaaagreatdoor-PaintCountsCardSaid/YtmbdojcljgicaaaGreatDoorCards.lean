/-
  DERIVED. GIVEN WITH THE SEED: THE CARDS: each row of YtmbdojcljgicaaaGreatDoorRows.lean that lists a variable, with what it lists TIED to the program's text (the seventh form; the later family's looks); each row that meets fmt, with fmt's text TOLD by the authors' own Lean function (tested against real Go, not proved from fmt's source: count such statements apart). THE CARD IS WHAT COUNTS. Prove the row's statement (the work); the ties are given (YtmbdojcljgicaaaGreatDoorTie.lean); close each card by the builder's one call (the guide's Derived/Test/ToyasCard.lean, 'card_holds'). Laid BY PROGRAM, IN A SANDBOX (cutbox-door.mjs). By AI agents, Wed Nov 11 2026. No macro, syntax, notation, axiom, sorry.
-/
import Derived.Test.YtmbdojcljgicaaaGreatDoorRows
import GoSem.ClaimSeven
namespace Go.Proofs.YtmbdojcljgicaaaGreatDoor
namespace Rows

/-- THE TIED CARD OF 'leadlightlaw2.PaintCounts'. -/
def paintCountsCard : Claim7 := { stood := { row := paintCountsRow, standIns := [], harness := (true, "2dd5f1135e9e9bfdb1e53957e2c7e1eace22f353f26313a10f2951d27f6f9c9e"), looks := true }, kinds := [], alts := [], laidByText := true, laidKinds := [.handle, .sentinel, .sentinel, .sentinel], laidTests := true, laidLooks := .later }
def PaintCountsCardSaid : Prop := Claim7.holds Tryz.pinned (.plain (OpenSpec.ofChange paintCountsSpec)) paintCountsCard

/-- THE SECOND FORM's CARD OF 'leadlightlaw2.PaintCounts'. -/
def paintCountsUptoCard : Claim7 := { stood := { row := paintCountsUptoRow, standIns := [], harness := (true, "2dd5f1135e9e9bfdb1e53957e2c7e1eace22f353f26313a10f2951d27f6f9c9e"), looks := true }, kinds := [], alts := [], laidByText := true, laidKinds := [.handle, .sentinel, .sentinel, .sentinel], laidTests := true, laidLooks := .later }
def PaintCountsUptoCardSaid : Prop := Claim7.holds Tryz.pinned (.plain (OpenSpec.upto paintCountsSpec)) paintCountsUptoCard
end Rows
end Go.Proofs.YtmbdojcljgicaaaGreatDoor

/-
  DERIVED. GIVEN WITH THE SEED: THE CARDS: each row of YtjfiehbcamfdfaaGreatDoorRows.lean that lists a variable, with what it lists TIED to the program's text (the seventh form; the later family's looks); each row that meets fmt, with fmt's text TOLD by the authors' own Lean function (tested against real Go, not proved from fmt's source: count such statements apart). THE CARD IS WHAT COUNTS. Prove the row's statement (the work); the ties are given (YtjfiehbcamfdfaaGreatDoorTie.lean); close each card by the builder's one call (the guide's Derived/Test/ToyasCard.lean, 'card_holds'). Laid BY PROGRAM, IN A SANDBOX (cutbox-door.mjs). By AI agents, Wed Nov 11 2026. No macro, syntax, notation, axiom, sorry.
-/
import Derived.Test.YtjfiehbcamfdfaaGreatDoorRows
import GoSem.ClaimSeven
namespace Go.Proofs.YtjfiehbcamfdfaaGreatDoor
namespace Rows

/-- THE TIED CARD OF 'leadlightlaw3.LiveFresh'. -/
def liveFreshCard : Claim7 := { stood := { row := liveFreshRow, standIns := [], harness := (true, "d351d73dc4a04c7e488741d5cf6a0fa0410c75cbee591999c1a2a58a8ef02b49"), looks := true }, kinds := [], alts := [], laidByText := true, laidKinds := [.data, .data, .data, .data, .handle, .sentinel, .sentinel, .sentinel, .sentinel, .sentinel, .sentinel, .sentinel, .sentinel, .sentinel, .sentinel, .sentinel, .sentinel, .pinned], laidTests := true, laidLooks := .later }
def LiveFreshCardSaid : Prop := Claim7.holds Tryz.pinned (.plain (OpenSpec.ofChange liveFreshSpec)) liveFreshCard

/-- THE TIED CARD OF 'leadlightlaw3.LiveBack'. -/
def liveBackCard : Claim7 := { stood := { row := liveBackRow, standIns := [], harness := (true, "d351d73dc4a04c7e488741d5cf6a0fa0410c75cbee591999c1a2a58a8ef02b49"), looks := true }, kinds := [], alts := [], laidByText := true, laidKinds := [.data, .data, .data, .data, .handle, .sentinel, .sentinel, .sentinel, .sentinel, .sentinel, .sentinel, .sentinel, .sentinel, .sentinel, .sentinel, .sentinel, .sentinel, .pinned], laidTests := true, laidLooks := .later }
def LiveBackCardSaid : Prop := Claim7.holds Tryz.pinned (.plain (OpenSpec.ofChange liveBackSpec)) liveBackCard

/-- THE TIED CARD OF 'leadlightlaw3.LiveRows'. -/
def liveRowsCard : Claim7 := { stood := { row := liveRowsRow, standIns := [], harness := (true, "d351d73dc4a04c7e488741d5cf6a0fa0410c75cbee591999c1a2a58a8ef02b49"), looks := true }, kinds := [], alts := [], laidByText := true, laidKinds := [.data, .data, .data, .data, .handle, .sentinel, .sentinel, .sentinel, .sentinel, .sentinel, .sentinel, .sentinel, .sentinel, .sentinel, .sentinel, .sentinel, .sentinel, .pinned], laidTests := true, laidLooks := .later }
def LiveRowsCardSaid : Prop := Claim7.holds Tryz.pinned (.plain (OpenSpec.ofChange liveRowsSpec)) liveRowsCard

/-- THE SECOND FORM's CARD OF 'leadlightlaw3.LiveFresh'. -/
def liveFreshUptoCard : Claim7 := { stood := { row := liveFreshUptoRow, standIns := [], harness := (true, "d351d73dc4a04c7e488741d5cf6a0fa0410c75cbee591999c1a2a58a8ef02b49"), looks := true }, kinds := [], alts := [], laidByText := true, laidKinds := [.data, .data, .data, .data, .handle, .sentinel, .sentinel, .sentinel, .sentinel, .sentinel, .sentinel, .sentinel, .sentinel, .sentinel, .sentinel, .sentinel, .sentinel, .pinned], laidTests := true, laidLooks := .later }
def LiveFreshUptoCardSaid : Prop := Claim7.holds Tryz.pinned (.plain (OpenSpec.upto liveFreshSpec)) liveFreshUptoCard

/-- THE SECOND FORM's CARD OF 'leadlightlaw3.LiveBack'. -/
def liveBackUptoCard : Claim7 := { stood := { row := liveBackUptoRow, standIns := [], harness := (true, "d351d73dc4a04c7e488741d5cf6a0fa0410c75cbee591999c1a2a58a8ef02b49"), looks := true }, kinds := [], alts := [], laidByText := true, laidKinds := [.data, .data, .data, .data, .handle, .sentinel, .sentinel, .sentinel, .sentinel, .sentinel, .sentinel, .sentinel, .sentinel, .sentinel, .sentinel, .sentinel, .sentinel, .pinned], laidTests := true, laidLooks := .later }
def LiveBackUptoCardSaid : Prop := Claim7.holds Tryz.pinned (.plain (OpenSpec.upto liveBackSpec)) liveBackUptoCard

/-- THE SECOND FORM's CARD OF 'leadlightlaw3.LiveRows'. -/
def liveRowsUptoCard : Claim7 := { stood := { row := liveRowsUptoRow, standIns := [], harness := (true, "d351d73dc4a04c7e488741d5cf6a0fa0410c75cbee591999c1a2a58a8ef02b49"), looks := true }, kinds := [], alts := [], laidByText := true, laidKinds := [.data, .data, .data, .data, .handle, .sentinel, .sentinel, .sentinel, .sentinel, .sentinel, .sentinel, .sentinel, .sentinel, .sentinel, .sentinel, .sentinel, .sentinel, .pinned], laidTests := true, laidLooks := .later }
def LiveRowsUptoCardSaid : Prop := Claim7.holds Tryz.pinned (.plain (OpenSpec.upto liveRowsSpec)) liveRowsUptoCard
end Rows
end Go.Proofs.YtjfiehbcamfdfaaGreatDoor

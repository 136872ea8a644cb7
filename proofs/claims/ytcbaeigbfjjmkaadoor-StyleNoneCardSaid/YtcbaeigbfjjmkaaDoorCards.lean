/-
  DERIVED. GIVEN WITH THE SEED: THE CARDS: each row of YtcbaeigbfjjmkaaDoorRows.lean that lists a variable, with what it lists TIED to the program's text (the seventh form; the later family's looks); each row that meets fmt, with fmt's text TOLD by the authors' own Lean function (tested against real Go, not proved from fmt's source: count such statements apart). THE CARD IS WHAT COUNTS. Prove the row's statement (the work); the ties are given (YtcbaeigbfjjmkaaDoorTie.lean); close each card by the builder's one call (the guide's Derived/Test/ToyasCard.lean, 'card_holds'). Laid BY PROGRAM, IN A SANDBOX (cutbox-door.mjs). By AI agents, Wed Nov 11 2026. No macro, syntax, notation, axiom, sorry.
-/
import Derived.Test.YtcbaeigbfjjmkaaDoorRows
import GoSem.ClaimSeven
namespace Go.Proofs.YtcbaeigbfjjmkaaDoor
namespace Rows

/-- THE TIED CARD OF 'leadlightlaw1.DocOne'. -/
def docOneCard : Claim7 := { stood := { row := docOneRow, standIns := [], harness := (true, "3446aa0e3c35ed50fafca3295cf0605dd65ec917dadf21f9af48c8359849ac65"), looks := true }, kinds := [], alts := [], laidByText := true, laidKinds := [.sentinel, .sentinel, .sentinel, .sentinel, .sentinel, .sentinel, .sentinel, .sentinel, .sentinel], laidTests := true, laidLooks := .later }
def DocOneCardSaid : Prop := Claim7.holds Tryd.pinned (.plain (OpenSpec.ofChange docOneSpec)) docOneCard

/-- THE TIED CARD OF 'leadlightlaw1.DocNew'. -/
def docNewCard : Claim7 := { stood := { row := docNewRow, standIns := [], harness := (true, "3446aa0e3c35ed50fafca3295cf0605dd65ec917dadf21f9af48c8359849ac65"), looks := true }, kinds := [], alts := [], laidByText := true, laidKinds := [.handle, .sentinel, .sentinel, .sentinel, .sentinel, .sentinel, .sentinel, .sentinel, .sentinel, .sentinel, .sentinel, .sentinel], laidTests := true, laidLooks := .later }
def DocNewCardSaid : Prop := Claim7.holds Tryd.pinned (.plain (OpenSpec.ofChange docNewSpec)) docNewCard

/-- THE TIED CARD OF 'leadlightlaw1.PickLast'. -/
def pickLastCard : Claim7 := { stood := { row := pickLastRow, standIns := [], harness := (true, "3446aa0e3c35ed50fafca3295cf0605dd65ec917dadf21f9af48c8359849ac65"), looks := true }, kinds := [], alts := [], laidByText := true, laidKinds := [.data, .sentinel, .sentinel, .sentinel, .sentinel, .sentinel, .sentinel, .pinned], laidTests := true, laidLooks := .later }
def PickLastCardSaid : Prop := Claim7.holds Tryd.pinned (.plain (OpenSpec.ofChange pickLastSpec)) pickLastCard

/-- THE TIED CARD OF 'leadlightlaw1.PickWeighs'. -/
def pickWeighsCard : Claim7 := { stood := { row := pickWeighsRow, standIns := [], harness := (true, "3446aa0e3c35ed50fafca3295cf0605dd65ec917dadf21f9af48c8359849ac65"), looks := true }, kinds := [], alts := [], laidByText := true, laidKinds := [.data, .sentinel, .sentinel, .sentinel, .sentinel, .sentinel, .sentinel, .pinned], laidTests := true, laidLooks := .later }
def PickWeighsCardSaid : Prop := Claim7.holds Tryd.pinned (.plain (OpenSpec.ofChange pickWeighsSpec)) pickWeighsCard

/-- THE TIED CARD OF 'leadlightlaw2.StyleNone'. -/
def styleNoneCard : Claim7 := { stood := { row := styleNoneRow, standIns := [], harness := (true, "3446aa0e3c35ed50fafca3295cf0605dd65ec917dadf21f9af48c8359849ac65"), looks := true }, kinds := [], alts := [], laidByText := true, laidKinds := [.data, .sentinel, .sentinel, .sentinel, .sentinel, .sentinel, .sentinel, .sentinel, .pinned], laidTests := true, laidLooks := .later }
def StyleNoneCardSaid : Prop := Claim7.holds Tryd.pinned (.plain (OpenSpec.ofChange styleNoneSpec)) styleNoneCard

/-- THE TIED CARD OF 'leadlightlaw2.StyleHeirs'. -/
def styleHeirsCard : Claim7 := { stood := { row := styleHeirsRow, standIns := [], harness := (true, "3446aa0e3c35ed50fafca3295cf0605dd65ec917dadf21f9af48c8359849ac65"), looks := true }, kinds := [], alts := [], laidByText := true, laidKinds := [.data, .sentinel, .sentinel, .sentinel, .sentinel, .sentinel, .sentinel, .sentinel, .pinned], laidTests := true, laidLooks := .later }
def StyleHeirsCardSaid : Prop := Claim7.holds Tryd.pinned (.plain (OpenSpec.ofChange styleHeirsSpec)) styleHeirsCard

/-- THE SECOND FORM's CARD OF 'leadlightlaw1.DocOne'. -/
def docOneUptoCard : Claim7 := { stood := { row := docOneUptoRow, standIns := [], harness := (true, "3446aa0e3c35ed50fafca3295cf0605dd65ec917dadf21f9af48c8359849ac65"), looks := true }, kinds := [], alts := [], laidByText := true, laidKinds := [.sentinel, .sentinel, .sentinel, .sentinel, .sentinel, .sentinel, .sentinel, .sentinel, .sentinel], laidTests := true, laidLooks := .later }
def DocOneUptoCardSaid : Prop := Claim7.holds Tryd.pinned (.plain (OpenSpec.upto docOneSpec)) docOneUptoCard

/-- THE SECOND FORM's CARD OF 'leadlightlaw1.DocNew'. -/
def docNewUptoCard : Claim7 := { stood := { row := docNewUptoRow, standIns := [], harness := (true, "3446aa0e3c35ed50fafca3295cf0605dd65ec917dadf21f9af48c8359849ac65"), looks := true }, kinds := [], alts := [], laidByText := true, laidKinds := [.handle, .sentinel, .sentinel, .sentinel, .sentinel, .sentinel, .sentinel, .sentinel, .sentinel, .sentinel, .sentinel, .sentinel], laidTests := true, laidLooks := .later }
def DocNewUptoCardSaid : Prop := Claim7.holds Tryd.pinned (.plain (OpenSpec.upto docNewSpec)) docNewUptoCard

/-- THE SECOND FORM's CARD OF 'leadlightlaw1.PickLast'. -/
def pickLastUptoCard : Claim7 := { stood := { row := pickLastUptoRow, standIns := [], harness := (true, "3446aa0e3c35ed50fafca3295cf0605dd65ec917dadf21f9af48c8359849ac65"), looks := true }, kinds := [], alts := [], laidByText := true, laidKinds := [.data, .sentinel, .sentinel, .sentinel, .sentinel, .sentinel, .sentinel, .pinned], laidTests := true, laidLooks := .later }
def PickLastUptoCardSaid : Prop := Claim7.holds Tryd.pinned (.plain (OpenSpec.upto pickLastSpec)) pickLastUptoCard

/-- THE SECOND FORM's CARD OF 'leadlightlaw1.PickWeighs'. -/
def pickWeighsUptoCard : Claim7 := { stood := { row := pickWeighsUptoRow, standIns := [], harness := (true, "3446aa0e3c35ed50fafca3295cf0605dd65ec917dadf21f9af48c8359849ac65"), looks := true }, kinds := [], alts := [], laidByText := true, laidKinds := [.data, .sentinel, .sentinel, .sentinel, .sentinel, .sentinel, .sentinel, .pinned], laidTests := true, laidLooks := .later }
def PickWeighsUptoCardSaid : Prop := Claim7.holds Tryd.pinned (.plain (OpenSpec.upto pickWeighsSpec)) pickWeighsUptoCard

/-- THE SECOND FORM's CARD OF 'leadlightlaw2.StyleNone'. -/
def styleNoneUptoCard : Claim7 := { stood := { row := styleNoneUptoRow, standIns := [], harness := (true, "3446aa0e3c35ed50fafca3295cf0605dd65ec917dadf21f9af48c8359849ac65"), looks := true }, kinds := [], alts := [], laidByText := true, laidKinds := [.data, .sentinel, .sentinel, .sentinel, .sentinel, .sentinel, .sentinel, .sentinel, .pinned], laidTests := true, laidLooks := .later }
def StyleNoneUptoCardSaid : Prop := Claim7.holds Tryd.pinned (.plain (OpenSpec.upto styleNoneSpec)) styleNoneUptoCard

/-- THE SECOND FORM's CARD OF 'leadlightlaw2.StyleHeirs'. -/
def styleHeirsUptoCard : Claim7 := { stood := { row := styleHeirsUptoRow, standIns := [], harness := (true, "3446aa0e3c35ed50fafca3295cf0605dd65ec917dadf21f9af48c8359849ac65"), looks := true }, kinds := [], alts := [], laidByText := true, laidKinds := [.data, .sentinel, .sentinel, .sentinel, .sentinel, .sentinel, .sentinel, .sentinel, .pinned], laidTests := true, laidLooks := .later }
def StyleHeirsUptoCardSaid : Prop := Claim7.holds Tryd.pinned (.plain (OpenSpec.upto styleHeirsSpec)) styleHeirsUptoCard
end Rows
end Go.Proofs.YtcbaeigbfjjmkaaDoor

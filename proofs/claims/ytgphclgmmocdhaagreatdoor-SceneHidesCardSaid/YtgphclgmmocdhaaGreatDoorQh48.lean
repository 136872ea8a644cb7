/-
  Parts of the proof.
-/
import Derived.Test.YtgphclgmmocdhaaGreatDoorRows
import Derived.ProofKit
namespace Go.Proofs.YtgphclgmmocdhaaGreatDoor
open Go.ChangeShapes Go.WideShapes Go.ChangeAt Go.RowKit
namespace sceneHides
theorem fact0:(Rows.sceneHidesRow.wf (OpenSpec.ofChange (OpenSpec.ofChange Rows.sceneHidesSpec).bare))=true:=by kernel_rfl
theorem fact1:(laidOutB Tryz.pinned.checked.prog)=true:=by kernel_rfl
theorem fact2:(mapsRowed Tryz.pinned.checked.prog)=true:=by kernel_rfl
theorem fact3:(Tryz.f3.params.all (Tryz.pinned.checked.prog.readableRec ·))=true:=by kernel_rfl
theorem fact4:(namedTie Tryz.pinned.checked.prog Rows.sceneHidesRow.named (OpenSpec.ofChange Rows.sceneHidesSpec).bare.vars)=true:=by kernel_rfl
theorem fact5:((Rows.sceneHidesRow.stops==[]))=true:=by kernel_rfl
theorem fact6:((Tryz.pinned.checked.prog.stops==[]))=true:=by kernel_rfl
theorem fact7:((Rows.sceneHidesRow.knobs==[]))=true:=by kernel_rfl
theorem fact8:((Tryz.pinned.checked.prog.stopKnobs==[]))=true:=by kernel_rfl
theorem fact9:((Rows.sceneHidesRow.inPlace==Tryz.pinned.checked.prog.inPlace 3))=true:=by kernel_rfl
theorem fact10:((Rows.sceneHidesRow.unfollowed==Tryz.pinned.checked.prog.unfollowed 3))=true:=by kernel_rfl
theorem fact11:((Rows.sceneHidesRow.recurses==Tryz.pinned.checked.prog.recurses 3))=true:=by kernel_rfl
theorem fact12:((Rows.sceneHidesRow.named==Tryz.pinned.checked.prog.varsNamed 3))=true:=by kernel_rfl
theorem fact13:((Rows.sceneHidesRow.maps==(Tryz.f3.params.toList++(OpenSpec.ofChange Rows.sceneHidesSpec).bare.plain.varTypes Tryz.pinned.checked.prog).any (Tryz.pinned.checked.prog.mapsRec ·)))=true:=by kernel_rfl
theorem fact14:((Rows.sceneHidesRow.ifaces==(Tryz.f3.params.toList++(OpenSpec.ofChange Rows.sceneHidesSpec).bare.plain.varTypes Tryz.pinned.checked.prog).any (Tryz.pinned.checked.prog.ifacesRec ·)))=true:=by kernel_rfl
theorem fact15:((Rows.sceneHidesRow.mapsOut==Tryz.pinned.checked.prog.mapsAmong Tryz.f3.resultTypes.toList))=true:=by kernel_rfl
theorem fact16:((Rows.sceneHidesRow.loops==(Tryz.f3.params.toList++(OpenSpec.ofChange Rows.sceneHidesSpec).bare.plain.varTypes Tryz.pinned.checked.prog).any (Tryz.pinned.checked.prog.loopsFrom ·)))=true:=by kernel_rfl
theorem fact17:((Rows.sceneHidesRow.wideKeys==(Tryz.f3.params.toList++(OpenSpec.ofChange Rows.sceneHidesSpec).bare.plain.varTypes Tryz.pinned.checked.prog++Tryz.f3.resultTypes.toList).any (Tryz.pinned.checked.prog.wideKeysFrom ·)))=true:=by kernel_rfl
theorem fact18:((OpenSpec.ofChange Rows.sceneHidesSpec).bare.vars.all (Tryz.pinned.checked.prog.varReadable ·))=true:=by kernel_rfl
theorem fact19:(Tryz.f3.resultTypes.all (fun t=>Tryz.pinned.checked.prog.readableRec t && decide (t<Tryz.pinned.checked.prog.types.size)))=true:=by kernel_rfl
theorem fact20:((Rows.sceneHidesRow.ifacesOut==Tryz.f3.resultTypes.toList.any (Tryz.pinned.checked.prog.ifacesRec ·)))=true:=by kernel_rfl
theorem fact21:((Rows.sceneHidesRow.loopsOut==Tryz.f3.resultTypes.toList.any (Tryz.pinned.checked.prog.loopsFrom ·)))=true:=by kernel_rfl
theorem fact22:((Rows.sceneHidesRow.plainKeys==Tryz.pinned.checked.prog.plainKeys))=true:=by kernel_rfl
theorem fact23:(Rows.sceneHidesRow.shortTexts.isNone)=true:=by kernel_rfl
theorem fact24:(Tryz.pinned.checked.prog.stopsHeard)=true:=by kernel_rfl
theorem fact25:(Tryz.pinned.checked.prog.mayEnter)=true:=by kernel_rfl
theorem fact26:((Rows.sceneHidesRow.lifted==Tryz.pinned.checked.prog.liftsFinal))=true:=by kernel_rfl
theorem fact27:((Tryz.pinned.checked.prog.make==some Rows.sceneHidesRow.make))=true:=by kernel_rfl
theorem fact29:((Rows.sceneHidesRow.pinned==Rows.sceneHidesRow.pinnedBy))=true:=by kernel_rfl
theorem fact30:((Rows.sceneHidesRow.veiled==(Tryz.f3.params.toList++(OpenSpec.ofChange Rows.sceneHidesSpec).bare.plain.varTypes Tryz.pinned.checked.prog++Tryz.f3.resultTypes.toList).any (Tryz.pinned.checked.prog.veiledRec ·)))=true:=by kernel_rfl
theorem fact31:(Rows.sceneHidesRow.veiledFits Tryz.pinned.checked.prog Tryz.f3.params.toList (Tryz.f3.params.toList++(OpenSpec.ofChange Rows.sceneHidesSpec).bare.plain.varTypes Tryz.pinned.checked.prog++Tryz.f3.resultTypes.toList))=true:=by kernel_rfl
theorem facts:joinedFacts Tryz.pinned.checked.prog 3 Tryz.f3 (OpenSpec.ofChange Rows.sceneHidesSpec).bare Rows.sceneHidesRow=true:=by
 unfold joinedFacts
 rw [fact0,fact1,fact2,fact3,fact4,fact5,fact6,fact7,fact8,fact9,fact10,fact11,fact12,fact13,fact14,fact15,fact16,fact17,fact18,fact19,fact20,fact21,fact22,fact23,fact24,fact25,fact26,fact27,fact29,fact30,fact31]
 kernel_rfl
end sceneHides
end Go.Proofs.YtgphclgmmocdhaaGreatDoor

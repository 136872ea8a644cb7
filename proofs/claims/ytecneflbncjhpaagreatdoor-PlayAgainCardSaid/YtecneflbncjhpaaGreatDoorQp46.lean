/- Parts of the proof. -/
import Derived.Test.YtecneflbncjhpaaGreatDoorRows
import Derived.ProofKit
import Derived.Test.YtecneflbncjhpaaGreatDoorQpb
namespace Go.Proofs.YtecneflbncjhpaaGreatDoor
open Go.ChangeShapes Go.WideShapes Go.ChangeAt Go.RowKit
namespace playAgain
theorem abb:(Rows.playAgainRow.wf (OpenSpec.ofChange (OpenSpec.ofChange Rows.playAgainSpec).bare))=true:=by kernel_rfl
theorem abd:(laidOutB Tryz.pinned.checked.prog)=true:=by kernel_rfl
theorem abe:(mapsRowed Tryz.pinned.checked.prog)=true:=by kernel_rfl
theorem abf:(Tryz.f3.params.all (Tryz.pinned.checked.prog.readableRec ·))=true:=by kernel_rfl
theorem abg:(namedTie Tryz.pinned.checked.prog Rows.playAgainRow.named (OpenSpec.ofChange Rows.playAgainSpec).bare.vars)=true:=by kernel_rfl
theorem abh:((Rows.playAgainRow.stops==[]))=true:=by kernel_rfl
theorem abj:((Tryz.pinned.checked.prog.stops==[]))=true:=by kernel_rfl
theorem abk:((Rows.playAgainRow.knobs==[]))=true:=by kernel_rfl
theorem abl:((Tryz.pinned.checked.prog.stopKnobs==[]))=true:=by kernel_rfl
theorem abm:((Rows.playAgainRow.inPlace==Tryz.pinned.checked.prog.inPlace 3))=true:=by kernel_rfl
theorem a7r:((Rows.playAgainRow.unfollowed==Tryz.pinned.checked.prog.unfollowed 3))=true:=by kernel_rfl
theorem a7s:((Rows.playAgainRow.recurses==Tryz.pinned.checked.prog.recurses 3))=true:=by kernel_rfl
theorem a7t:((Rows.playAgainRow.named==Tryz.pinned.checked.prog.varsNamed 3))=true:=by kernel_rfl
theorem a7u:((Rows.playAgainRow.maps==(Tryz.f3.params.toList++(OpenSpec.ofChange Rows.playAgainSpec).bare.plain.varTypes Tryz.pinned.checked.prog).any (Tryz.pinned.checked.prog.mapsRec ·)))=true:=by kernel_rfl
theorem a7v:((Rows.playAgainRow.ifaces==(Tryz.f3.params.toList++(OpenSpec.ofChange Rows.playAgainSpec).bare.plain.varTypes Tryz.pinned.checked.prog).any (Tryz.pinned.checked.prog.ifacesRec ·)))=true:=by kernel_rfl
theorem a7w:((Rows.playAgainRow.mapsOut==Tryz.pinned.checked.prog.mapsAmong Tryz.f3.resultTypes.toList))=true:=by kernel_rfl
theorem a7x:((Rows.playAgainRow.loops==(Tryz.f3.params.toList++(OpenSpec.ofChange Rows.playAgainSpec).bare.plain.varTypes Tryz.pinned.checked.prog).any (Tryz.pinned.checked.prog.loopsFrom ·)))=true:=by kernel_rfl
theorem a7y:((Rows.playAgainRow.wideKeys==(Tryz.f3.params.toList++(OpenSpec.ofChange Rows.playAgainSpec).bare.plain.varTypes Tryz.pinned.checked.prog++Tryz.f3.resultTypes.toList).any (Tryz.pinned.checked.prog.wideKeysFrom ·)))=true:=by kernel_rfl
theorem a7z:((OpenSpec.ofChange Rows.playAgainSpec).bare.vars.all (Tryz.pinned.checked.prog.varReadable ·))=true:=by kernel_rfl
theorem a7A:(Tryz.f3.resultTypes.all (fun t=>Tryz.pinned.checked.prog.readableRec t && decide (t<Tryz.pinned.checked.prog.types.size)))=true:=by kernel_rfl
theorem a7B:((Rows.playAgainRow.ifacesOut==Tryz.f3.resultTypes.toList.any (Tryz.pinned.checked.prog.ifacesRec ·)))=true:=by kernel_rfl
theorem a7C:((Rows.playAgainRow.loopsOut==Tryz.f3.resultTypes.toList.any (Tryz.pinned.checked.prog.loopsFrom ·)))=true:=by kernel_rfl
theorem a7D:((Rows.playAgainRow.plainKeys==Tryz.pinned.checked.prog.plainKeys))=true:=by kernel_rfl
theorem a7E:(Rows.playAgainRow.shortTexts.isNone)=true:=by kernel_rfl
theorem a7F:(Tryz.pinned.checked.prog.stopsHeard)=true:=by kernel_rfl
theorem a7G:(Tryz.pinned.checked.prog.mayEnter)=true:=by kernel_rfl
theorem a7H:((Rows.playAgainRow.lifted==Tryz.pinned.checked.prog.liftsFinal))=true:=by kernel_rfl
theorem a7I:((Tryz.pinned.checked.prog.make==some Rows.playAgainRow.make))=true:=by kernel_rfl
theorem a7J:((Rows.playAgainRow.pinned==Rows.playAgainRow.pinnedBy))=true:=by kernel_rfl
theorem a7K:((Rows.playAgainRow.veiled==(Tryz.f3.params.toList++(OpenSpec.ofChange Rows.playAgainSpec).bare.plain.varTypes Tryz.pinned.checked.prog++Tryz.f3.resultTypes.toList).any (Tryz.pinned.checked.prog.veiledRec ·)))=true:=by kernel_rfl
theorem a7L:(Rows.playAgainRow.veiledFits Tryz.pinned.checked.prog Tryz.f3.params.toList (Tryz.f3.params.toList++(OpenSpec.ofChange Rows.playAgainSpec).bare.plain.varTypes Tryz.pinned.checked.prog++Tryz.f3.resultTypes.toList))=true:=by kernel_rfl
theorem facts:joinedFacts Tryz.pinned.checked.prog 3 Tryz.f3 (OpenSpec.ofChange Rows.playAgainSpec).bare Rows.playAgainRow=true:=by
 unfold joinedFacts;rw[abb,abd,abe,abf,abg,abh,abj,abk,abl,abm,a7r,a7s,a7t,a7u,a7v,a7w,a7x,a7y,a7z,a7A,a7B,a7C,a7D,a7E,a7F,a7G,a7H,a7I,a7J,a7K,a7L];kernel_rfl
end playAgain
end Go.Proofs.YtecneflbncjhpaaGreatDoor

import Derived.Test.YtbkjmamcnflncaaGreatDoorRows
import Derived.ProofKit
import Derived.Test.YtbkjmamcnflncaaGreatDoorQtb
namespace Go.Proofs.YtbkjmamcnflncaaGreatDoor
open Go.ChangeShapes Go.WideShapes Go.ChangeAt Go.RowKit
namespace scriptAgain
theorem ahQ:(Rows.scriptAgainRow.wf (OpenSpec.ofChange (OpenSpec.ofChange Rows.scriptAgainSpec).bare))=true:=aA
theorem ahR:(laidOutB Tryz.pinned.checked.prog)=true:=aA
theorem ahS:(mapsRowed Tryz.pinned.checked.prog)=true:=aA
theorem ahT:(Tryz.f4.params.all (Tryz.pinned.checked.prog.readableRec ·))=true:=aA
theorem ahU:(namedTie Tryz.pinned.checked.prog Rows.scriptAgainRow.named (OpenSpec.ofChange Rows.scriptAgainSpec).bare.vars)=true:=aA
theorem ahV:((Rows.scriptAgainRow.stops==[]))=true:=aA
theorem ahW:((Tryz.pinned.checked.prog.stops==[]))=true:=aA
theorem ahX:((Rows.scriptAgainRow.knobs==[]))=true:=aA
theorem ahY:((Tryz.pinned.checked.prog.stopKnobs==[]))=true:=aA
theorem ahZ:((Rows.scriptAgainRow.inPlace==Tryz.pinned.checked.prog.inPlace 4))=true:=aA
theorem adV:((Rows.scriptAgainRow.unfollowed==Tryz.pinned.checked.prog.unfollowed 4))=true:=aA
theorem adW:((Rows.scriptAgainRow.recurses==Tryz.pinned.checked.prog.recurses 4))=true:=aA
theorem adX:((Rows.scriptAgainRow.named==Tryz.pinned.checked.prog.varsNamed 4))=true:=aA
theorem adY:((Rows.scriptAgainRow.maps==(Tryz.f4.params.toList++(OpenSpec.ofChange Rows.scriptAgainSpec).bare.plain.varTypes Tryz.pinned.checked.prog).any (Tryz.pinned.checked.prog.mapsRec ·)))=true:=aA
theorem adZ:((Rows.scriptAgainRow.ifaces==(Tryz.f4.params.toList++(OpenSpec.ofChange Rows.scriptAgainSpec).bare.plain.varTypes Tryz.pinned.checked.prog).any (Tryz.pinned.checked.prog.ifacesRec ·)))=true:=aA
theorem ae0:((Rows.scriptAgainRow.mapsOut==Tryz.pinned.checked.prog.mapsAmong Tryz.f4.resultTypes.toList))=true:=aA
theorem ae1:((Rows.scriptAgainRow.loops==(Tryz.f4.params.toList++(OpenSpec.ofChange Rows.scriptAgainSpec).bare.plain.varTypes Tryz.pinned.checked.prog).any (Tryz.pinned.checked.prog.loopsFrom ·)))=true:=aA
theorem ae2:((Rows.scriptAgainRow.wideKeys==(Tryz.f4.params.toList++(OpenSpec.ofChange Rows.scriptAgainSpec).bare.plain.varTypes Tryz.pinned.checked.prog++Tryz.f4.resultTypes.toList).any (Tryz.pinned.checked.prog.wideKeysFrom ·)))=true:=aA
theorem ae3:((OpenSpec.ofChange Rows.scriptAgainSpec).bare.vars.all (Tryz.pinned.checked.prog.varReadable ·))=true:=aA
theorem ae4:(Tryz.f4.resultTypes.all (λt=>Tryz.pinned.checked.prog.readableRec t && decide (t<Tryz.pinned.checked.prog.types.size)))=true:=aA
theorem ae5:((Rows.scriptAgainRow.ifacesOut==Tryz.f4.resultTypes.toList.any (Tryz.pinned.checked.prog.ifacesRec ·)))=true:=aA
theorem ae6:((Rows.scriptAgainRow.loopsOut==Tryz.f4.resultTypes.toList.any (Tryz.pinned.checked.prog.loopsFrom ·)))=true:=aA
theorem ae7:((Rows.scriptAgainRow.plainKeys==Tryz.pinned.checked.prog.plainKeys))=true:=aA
theorem ae8:(Rows.scriptAgainRow.shortTexts.isNone)=true:=aA
theorem ae9:(Tryz.pinned.checked.prog.stopsHeard)=true:=aA
theorem aea:(Tryz.pinned.checked.prog.mayEnter)=true:=aA
theorem aeb:((Rows.scriptAgainRow.lifted==Tryz.pinned.checked.prog.liftsFinal))=true:=aA
theorem aec:((Tryz.pinned.checked.prog.make==some Rows.scriptAgainRow.make))=true:=aA
theorem aed:((Rows.scriptAgainRow.pinned==Rows.scriptAgainRow.pinnedBy))=true:=aA
theorem aee:((Rows.scriptAgainRow.veiled==(Tryz.f4.params.toList++(OpenSpec.ofChange Rows.scriptAgainSpec).bare.plain.varTypes Tryz.pinned.checked.prog++Tryz.f4.resultTypes.toList).any (Tryz.pinned.checked.prog.veiledRec ·)))=true:=aA
theorem aef:(Rows.scriptAgainRow.veiledFits Tryz.pinned.checked.prog Tryz.f4.params.toList (Tryz.f4.params.toList++(OpenSpec.ofChange Rows.scriptAgainSpec).bare.plain.varTypes Tryz.pinned.checked.prog++Tryz.f4.resultTypes.toList))=true:=aA
theorem facts:joinedFacts Tryz.pinned.checked.prog 4 Tryz.f4 (OpenSpec.ofChange Rows.scriptAgainSpec).bare Rows.scriptAgainRow=true:=by
 unfold joinedFacts;rw[ahQ,ahR,ahS,ahT,ahU,ahV,ahW,ahX,ahY,ahZ,adV,adW,adX,adY,adZ,ae0,ae1,ae2,ae3,ae4,ae5,ae6,ae7,ae8,ae9,aea,aeb,aec,aed,aee,aef];kernel_rfl
end scriptAgain

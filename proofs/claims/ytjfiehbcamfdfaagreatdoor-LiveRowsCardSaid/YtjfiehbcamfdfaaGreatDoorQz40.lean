/- Parts of the proof. -/
import Derived.Test.YtjfiehbcamfdfaaGreatDoorRows
import Derived.ProofKit
import Derived.Test.YtjfiehbcamfdfaaGreatDoorQzb
namespace Go.Proofs.YtjfiehbcamfdfaaGreatDoor
open Go.ChangeShapes Go.WideShapes Go.ChangeAt Go.RowKit
namespace liveRows
theorem a9h:(Rows.liveRowsRow.wf (OpenSpec.ofChange (OpenSpec.ofChange Rows.liveRowsSpec).bare))=true:=by kernel_rfl
theorem a9i:(laidOutB Tryz.pinned.checked.prog)=true:=by kernel_rfl
theorem a9j:(mapsRowed Tryz.pinned.checked.prog)=true:=by kernel_rfl
theorem a9k:(Tryz.f5.params.all (Tryz.pinned.checked.prog.readableRec ·))=true:=by kernel_rfl
theorem a9l:(namedTie Tryz.pinned.checked.prog Rows.liveRowsRow.named (OpenSpec.ofChange Rows.liveRowsSpec).bare.vars)=true:=by kernel_rfl
theorem a9m:((Rows.liveRowsRow.stops==[]))=true:=by kernel_rfl
theorem a9n:((Tryz.pinned.checked.prog.stops==[]))=true:=by kernel_rfl
theorem a9o:((Rows.liveRowsRow.knobs==[]))=true:=by kernel_rfl
theorem a9p:((Tryz.pinned.checked.prog.stopKnobs==[]))=true:=by kernel_rfl
theorem a9q:((Rows.liveRowsRow.inPlace==Tryz.pinned.checked.prog.inPlace 5))=true:=by kernel_rfl
theorem a5d:((Rows.liveRowsRow.unfollowed==Tryz.pinned.checked.prog.unfollowed 5))=true:=by kernel_rfl
theorem a5e:((Rows.liveRowsRow.recurses==Tryz.pinned.checked.prog.recurses 5))=true:=by kernel_rfl
theorem a5f:((Rows.liveRowsRow.named==Tryz.pinned.checked.prog.varsNamed 5))=true:=by kernel_rfl
theorem a5g:((Rows.liveRowsRow.maps==(Tryz.f5.params.toList++(OpenSpec.ofChange Rows.liveRowsSpec).bare.plain.varTypes Tryz.pinned.checked.prog).any (Tryz.pinned.checked.prog.mapsRec ·)))=true:=by kernel_rfl
theorem a5h:((Rows.liveRowsRow.ifaces==(Tryz.f5.params.toList++(OpenSpec.ofChange Rows.liveRowsSpec).bare.plain.varTypes Tryz.pinned.checked.prog).any (Tryz.pinned.checked.prog.ifacesRec ·)))=true:=by kernel_rfl
theorem a5i:((Rows.liveRowsRow.mapsOut==Tryz.pinned.checked.prog.mapsAmong Tryz.f5.resultTypes.toList))=true:=by kernel_rfl
theorem a5j:((Rows.liveRowsRow.loops==(Tryz.f5.params.toList++(OpenSpec.ofChange Rows.liveRowsSpec).bare.plain.varTypes Tryz.pinned.checked.prog).any (Tryz.pinned.checked.prog.loopsFrom ·)))=true:=by kernel_rfl
theorem a5k:((Rows.liveRowsRow.wideKeys==(Tryz.f5.params.toList++(OpenSpec.ofChange Rows.liveRowsSpec).bare.plain.varTypes Tryz.pinned.checked.prog++Tryz.f5.resultTypes.toList).any (Tryz.pinned.checked.prog.wideKeysFrom ·)))=true:=by kernel_rfl
theorem a5l:((OpenSpec.ofChange Rows.liveRowsSpec).bare.vars.all (Tryz.pinned.checked.prog.varReadable ·))=true:=by kernel_rfl
theorem a5m:(Tryz.f5.resultTypes.all (fun t=>Tryz.pinned.checked.prog.readableRec t && decide (t<Tryz.pinned.checked.prog.types.size)))=true:=by kernel_rfl
theorem a5n:((Rows.liveRowsRow.ifacesOut==Tryz.f5.resultTypes.toList.any (Tryz.pinned.checked.prog.ifacesRec ·)))=true:=by kernel_rfl
theorem a5o:((Rows.liveRowsRow.loopsOut==Tryz.f5.resultTypes.toList.any (Tryz.pinned.checked.prog.loopsFrom ·)))=true:=by kernel_rfl
theorem a5p:((Rows.liveRowsRow.plainKeys==Tryz.pinned.checked.prog.plainKeys))=true:=by kernel_rfl
theorem a5q:(Rows.liveRowsRow.shortTexts.isNone)=true:=by kernel_rfl
theorem a5r:(Tryz.pinned.checked.prog.stopsHeard)=true:=by kernel_rfl
theorem a5s:(Tryz.pinned.checked.prog.mayEnter)=true:=by kernel_rfl
theorem a5t:((Rows.liveRowsRow.lifted==Tryz.pinned.checked.prog.liftsFinal))=true:=by kernel_rfl
theorem a5u:((Tryz.pinned.checked.prog.make==some Rows.liveRowsRow.make))=true:=by kernel_rfl
theorem a5v:((Rows.liveRowsRow.pinned==Rows.liveRowsRow.pinnedBy))=true:=by kernel_rfl
theorem a5w:((Rows.liveRowsRow.veiled==(Tryz.f5.params.toList++(OpenSpec.ofChange Rows.liveRowsSpec).bare.plain.varTypes Tryz.pinned.checked.prog++Tryz.f5.resultTypes.toList).any (Tryz.pinned.checked.prog.veiledRec ·)))=true:=by kernel_rfl
theorem a5x:(Rows.liveRowsRow.veiledFits Tryz.pinned.checked.prog Tryz.f5.params.toList (Tryz.f5.params.toList++(OpenSpec.ofChange Rows.liveRowsSpec).bare.plain.varTypes Tryz.pinned.checked.prog++Tryz.f5.resultTypes.toList))=true:=by kernel_rfl
theorem facts:joinedFacts Tryz.pinned.checked.prog 5 Tryz.f5 (OpenSpec.ofChange Rows.liveRowsSpec).bare Rows.liveRowsRow=true:=by
 unfold joinedFacts;rw[a9h,a9i,a9j,a9k,a9l,a9m,a9n,a9o,a9p,a9q,a5d,a5e,a5f,a5g,a5h,a5i,a5j,a5k,a5l,a5m,a5n,a5o,a5p,a5q,a5r,a5s,a5t,a5u,a5v,a5w,a5x];kernel_rfl
end liveRows
end Go.Proofs.YtjfiehbcamfdfaaGreatDoor

/-
  Parts of the proof.
-/
import Derived.Test.YtjfiehbcamfdfaaGreatDoorRows
import Derived.ProofKit
import Derived.Test.YtjfiehbcamfdfaaGreatDoorQyb
namespace Go.Proofs.YtjfiehbcamfdfaaGreatDoor
open Go.ChangeShapes Go.WideShapes Go.ChangeAt Go.RowKit
namespace liveFresh
theorem a8X:(Rows.liveFreshRow.wf (OpenSpec.ofChange (OpenSpec.ofChange Rows.liveFreshSpec).bare))=true:=by kernel_rfl
theorem a8Y:(laidOutB Tryz.pinned.checked.prog)=true:=by kernel_rfl
theorem a8Z:(mapsRowed Tryz.pinned.checked.prog)=true:=by kernel_rfl
theorem a90:(Tryz.f3.params.all (Tryz.pinned.checked.prog.readableRec ·))=true:=by kernel_rfl
theorem a92:(namedTie Tryz.pinned.checked.prog Rows.liveFreshRow.named (OpenSpec.ofChange Rows.liveFreshSpec).bare.vars)=true:=by kernel_rfl
theorem a94:((Rows.liveFreshRow.stops==[]))=true:=by kernel_rfl
theorem a95:((Tryz.pinned.checked.prog.stops==[]))=true:=by kernel_rfl
theorem a96:((Rows.liveFreshRow.knobs==[]))=true:=by kernel_rfl
theorem a97:((Tryz.pinned.checked.prog.stopKnobs==[]))=true:=by kernel_rfl
theorem a98:((Rows.liveFreshRow.inPlace==Tryz.pinned.checked.prog.inPlace 3))=true:=by kernel_rfl
theorem a5h:((Rows.liveFreshRow.unfollowed==Tryz.pinned.checked.prog.unfollowed 3))=true:=by kernel_rfl
theorem a5i:((Rows.liveFreshRow.recurses==Tryz.pinned.checked.prog.recurses 3))=true:=by kernel_rfl
theorem a5j:((Rows.liveFreshRow.named==Tryz.pinned.checked.prog.varsNamed 3))=true:=by kernel_rfl
theorem a5k:((Rows.liveFreshRow.maps==(Tryz.f3.params.toList++(OpenSpec.ofChange Rows.liveFreshSpec).bare.plain.varTypes Tryz.pinned.checked.prog).any (Tryz.pinned.checked.prog.mapsRec ·)))=true:=by kernel_rfl
theorem a5l:((Rows.liveFreshRow.ifaces==(Tryz.f3.params.toList++(OpenSpec.ofChange Rows.liveFreshSpec).bare.plain.varTypes Tryz.pinned.checked.prog).any (Tryz.pinned.checked.prog.ifacesRec ·)))=true:=by kernel_rfl
theorem a5m:((Rows.liveFreshRow.mapsOut==Tryz.pinned.checked.prog.mapsAmong Tryz.f3.resultTypes.toList))=true:=by kernel_rfl
theorem a5n:((Rows.liveFreshRow.loops==(Tryz.f3.params.toList++(OpenSpec.ofChange Rows.liveFreshSpec).bare.plain.varTypes Tryz.pinned.checked.prog).any (Tryz.pinned.checked.prog.loopsFrom ·)))=true:=by kernel_rfl
theorem a5o:((Rows.liveFreshRow.wideKeys==(Tryz.f3.params.toList++(OpenSpec.ofChange Rows.liveFreshSpec).bare.plain.varTypes Tryz.pinned.checked.prog++Tryz.f3.resultTypes.toList).any (Tryz.pinned.checked.prog.wideKeysFrom ·)))=true:=by kernel_rfl
theorem a5p:((OpenSpec.ofChange Rows.liveFreshSpec).bare.vars.all (Tryz.pinned.checked.prog.varReadable ·))=true:=by kernel_rfl
theorem a5q:(Tryz.f3.resultTypes.all (fun t=>Tryz.pinned.checked.prog.readableRec t && decide (t<Tryz.pinned.checked.prog.types.size)))=true:=by kernel_rfl
theorem a5r:((Rows.liveFreshRow.ifacesOut==Tryz.f3.resultTypes.toList.any (Tryz.pinned.checked.prog.ifacesRec ·)))=true:=by kernel_rfl
theorem a5s:((Rows.liveFreshRow.loopsOut==Tryz.f3.resultTypes.toList.any (Tryz.pinned.checked.prog.loopsFrom ·)))=true:=by kernel_rfl
theorem a5t:((Rows.liveFreshRow.plainKeys==Tryz.pinned.checked.prog.plainKeys))=true:=by kernel_rfl
theorem a5u:(Rows.liveFreshRow.shortTexts.isNone)=true:=by kernel_rfl
theorem a5v:(Tryz.pinned.checked.prog.stopsHeard)=true:=by kernel_rfl
theorem a5w:(Tryz.pinned.checked.prog.mayEnter)=true:=by kernel_rfl
theorem a5x:((Rows.liveFreshRow.lifted==Tryz.pinned.checked.prog.liftsFinal))=true:=by kernel_rfl
theorem a5y:((Tryz.pinned.checked.prog.make==some Rows.liveFreshRow.make))=true:=by kernel_rfl
theorem a5z:((Rows.liveFreshRow.pinned==Rows.liveFreshRow.pinnedBy))=true:=by kernel_rfl
theorem a5A:((Rows.liveFreshRow.veiled==(Tryz.f3.params.toList++(OpenSpec.ofChange Rows.liveFreshSpec).bare.plain.varTypes Tryz.pinned.checked.prog++Tryz.f3.resultTypes.toList).any (Tryz.pinned.checked.prog.veiledRec ·)))=true:=by kernel_rfl
theorem a5B:(Rows.liveFreshRow.veiledFits Tryz.pinned.checked.prog Tryz.f3.params.toList (Tryz.f3.params.toList++(OpenSpec.ofChange Rows.liveFreshSpec).bare.plain.varTypes Tryz.pinned.checked.prog++Tryz.f3.resultTypes.toList))=true:=by kernel_rfl
theorem facts:joinedFacts Tryz.pinned.checked.prog 3 Tryz.f3 (OpenSpec.ofChange Rows.liveFreshSpec).bare Rows.liveFreshRow=true:=by
 unfold joinedFacts;rw[a8X,a8Y,a8Z,a90,a92,a94,a95,a96,a97,a98,a5h,a5i,a5j,a5k,a5l,a5m,a5n,a5o,a5p,a5q,a5r,a5s,a5t,a5u,a5v,a5w,a5x,a5y,a5z,a5A,a5B];kernel_rfl
end liveFresh
end Go.Proofs.YtjfiehbcamfdfaaGreatDoor

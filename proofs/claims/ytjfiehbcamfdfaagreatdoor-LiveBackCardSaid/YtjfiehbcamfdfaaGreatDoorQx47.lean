/-
  Parts of the proof.
-/
import Derived.Test.YtjfiehbcamfdfaaGreatDoorRows
import Derived.ProofKit
import Derived.Test.YtjfiehbcamfdfaaGreatDoorQxb
namespace Go.Proofs.YtjfiehbcamfdfaaGreatDoor
open Go.ChangeShapes Go.WideShapes Go.ChangeAt Go.RowKit
namespace liveBack
theorem a8X:(Rows.liveBackRow.wf (OpenSpec.ofChange (OpenSpec.ofChange Rows.liveBackSpec).bare))=true:=by kernel_rfl
theorem a8Y:(laidOutB Tryz.pinned.checked.prog)=true:=by kernel_rfl
theorem a8Z:(mapsRowed Tryz.pinned.checked.prog)=true:=by kernel_rfl
theorem a90:(Tryz.f4.params.all (Tryz.pinned.checked.prog.readableRec ·))=true:=by kernel_rfl
theorem a92:(namedTie Tryz.pinned.checked.prog Rows.liveBackRow.named (OpenSpec.ofChange Rows.liveBackSpec).bare.vars)=true:=by kernel_rfl
theorem a94:((Rows.liveBackRow.stops==[]))=true:=by kernel_rfl
theorem a95:((Tryz.pinned.checked.prog.stops==[]))=true:=by kernel_rfl
theorem a96:((Rows.liveBackRow.knobs==[]))=true:=by kernel_rfl
theorem a97:((Tryz.pinned.checked.prog.stopKnobs==[]))=true:=by kernel_rfl
theorem a98:((Rows.liveBackRow.inPlace==Tryz.pinned.checked.prog.inPlace 4))=true:=by kernel_rfl
theorem a5h:((Rows.liveBackRow.unfollowed==Tryz.pinned.checked.prog.unfollowed 4))=true:=by kernel_rfl
theorem a5i:((Rows.liveBackRow.recurses==Tryz.pinned.checked.prog.recurses 4))=true:=by kernel_rfl
theorem a5j:((Rows.liveBackRow.named==Tryz.pinned.checked.prog.varsNamed 4))=true:=by kernel_rfl
theorem a5k:((Rows.liveBackRow.maps==(Tryz.f4.params.toList++(OpenSpec.ofChange Rows.liveBackSpec).bare.plain.varTypes Tryz.pinned.checked.prog).any (Tryz.pinned.checked.prog.mapsRec ·)))=true:=by kernel_rfl
theorem a5l:((Rows.liveBackRow.ifaces==(Tryz.f4.params.toList++(OpenSpec.ofChange Rows.liveBackSpec).bare.plain.varTypes Tryz.pinned.checked.prog).any (Tryz.pinned.checked.prog.ifacesRec ·)))=true:=by kernel_rfl
theorem a5m:((Rows.liveBackRow.mapsOut==Tryz.pinned.checked.prog.mapsAmong Tryz.f4.resultTypes.toList))=true:=by kernel_rfl
theorem a5n:((Rows.liveBackRow.loops==(Tryz.f4.params.toList++(OpenSpec.ofChange Rows.liveBackSpec).bare.plain.varTypes Tryz.pinned.checked.prog).any (Tryz.pinned.checked.prog.loopsFrom ·)))=true:=by kernel_rfl
theorem a5o:((Rows.liveBackRow.wideKeys==(Tryz.f4.params.toList++(OpenSpec.ofChange Rows.liveBackSpec).bare.plain.varTypes Tryz.pinned.checked.prog++Tryz.f4.resultTypes.toList).any (Tryz.pinned.checked.prog.wideKeysFrom ·)))=true:=by kernel_rfl
theorem a5p:((OpenSpec.ofChange Rows.liveBackSpec).bare.vars.all (Tryz.pinned.checked.prog.varReadable ·))=true:=by kernel_rfl
theorem a5q:(Tryz.f4.resultTypes.all (fun t=>Tryz.pinned.checked.prog.readableRec t && decide (t<Tryz.pinned.checked.prog.types.size)))=true:=by kernel_rfl
theorem a5r:((Rows.liveBackRow.ifacesOut==Tryz.f4.resultTypes.toList.any (Tryz.pinned.checked.prog.ifacesRec ·)))=true:=by kernel_rfl
theorem a5s:((Rows.liveBackRow.loopsOut==Tryz.f4.resultTypes.toList.any (Tryz.pinned.checked.prog.loopsFrom ·)))=true:=by kernel_rfl
theorem a5t:((Rows.liveBackRow.plainKeys==Tryz.pinned.checked.prog.plainKeys))=true:=by kernel_rfl
theorem a5u:(Rows.liveBackRow.shortTexts.isNone)=true:=by kernel_rfl
theorem a5v:(Tryz.pinned.checked.prog.stopsHeard)=true:=by kernel_rfl
theorem a5w:(Tryz.pinned.checked.prog.mayEnter)=true:=by kernel_rfl
theorem a5x:((Rows.liveBackRow.lifted==Tryz.pinned.checked.prog.liftsFinal))=true:=by kernel_rfl
theorem a5y:((Tryz.pinned.checked.prog.make==some Rows.liveBackRow.make))=true:=by kernel_rfl
theorem a5z:((Rows.liveBackRow.pinned==Rows.liveBackRow.pinnedBy))=true:=by kernel_rfl
theorem a5A:((Rows.liveBackRow.veiled==(Tryz.f4.params.toList++(OpenSpec.ofChange Rows.liveBackSpec).bare.plain.varTypes Tryz.pinned.checked.prog++Tryz.f4.resultTypes.toList).any (Tryz.pinned.checked.prog.veiledRec ·)))=true:=by kernel_rfl
theorem a5B:(Rows.liveBackRow.veiledFits Tryz.pinned.checked.prog Tryz.f4.params.toList (Tryz.f4.params.toList++(OpenSpec.ofChange Rows.liveBackSpec).bare.plain.varTypes Tryz.pinned.checked.prog++Tryz.f4.resultTypes.toList))=true:=by kernel_rfl
theorem facts:joinedFacts Tryz.pinned.checked.prog 4 Tryz.f4 (OpenSpec.ofChange Rows.liveBackSpec).bare Rows.liveBackRow=true:=by
 unfold joinedFacts;rw[a8X,a8Y,a8Z,a90,a92,a94,a95,a96,a97,a98,a5h,a5i,a5j,a5k,a5l,a5m,a5n,a5o,a5p,a5q,a5r,a5s,a5t,a5u,a5v,a5w,a5x,a5y,a5z,a5A,a5B];kernel_rfl
end liveBack
end Go.Proofs.YtjfiehbcamfdfaaGreatDoor

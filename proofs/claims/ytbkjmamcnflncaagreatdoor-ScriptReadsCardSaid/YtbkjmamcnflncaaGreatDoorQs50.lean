import Derived.Test.YtbkjmamcnflncaaGreatDoorRows
import Derived.ProofKit
import Derived.Test.YtbkjmamcnflncaaGreatDoorQsb
namespace Go.Proofs.YtbkjmamcnflncaaGreatDoor
open Go.ChangeShapes Go.WideShapes Go.ChangeAt Go.RowKit
namespace scriptReads
theorem ah6:(Rows.scriptReadsRow.wf (OpenSpec.ofChange (OpenSpec.ofChange Rows.scriptReadsSpec).bare))=true:=az
theorem ah7:(laidOutB Tryz.pinned.checked.prog)=true:=az
theorem ah8:(mapsRowed Tryz.pinned.checked.prog)=true:=az
theorem ah9:(Tryz.f3.params.all (Tryz.pinned.checked.prog.readableRec ·))=true:=az
theorem aha:(namedTie Tryz.pinned.checked.prog Rows.scriptReadsRow.named (OpenSpec.ofChange Rows.scriptReadsSpec).bare.vars)=true:=az
theorem ahb:((Rows.scriptReadsRow.stops==[]))=true:=az
theorem ahc:((Tryz.pinned.checked.prog.stops==[]))=true:=az
theorem ahd:((Rows.scriptReadsRow.knobs==[]))=true:=az
theorem ahe:((Tryz.pinned.checked.prog.stopKnobs==[]))=true:=az
theorem ahf:((Rows.scriptReadsRow.inPlace==Tryz.pinned.checked.prog.inPlace 3))=true:=az
theorem ada:((Rows.scriptReadsRow.unfollowed==Tryz.pinned.checked.prog.unfollowed 3))=true:=az
theorem adb:((Rows.scriptReadsRow.recurses==Tryz.pinned.checked.prog.recurses 3))=true:=az
theorem ade:((Rows.scriptReadsRow.named==Tryz.pinned.checked.prog.varsNamed 3))=true:=az
theorem adf:((Rows.scriptReadsRow.maps==(Tryz.f3.params.toList++(OpenSpec.ofChange Rows.scriptReadsSpec).bare.plain.varTypes Tryz.pinned.checked.prog).any (Tryz.pinned.checked.prog.mapsRec ·)))=true:=az
theorem adg:((Rows.scriptReadsRow.ifaces==(Tryz.f3.params.toList++(OpenSpec.ofChange Rows.scriptReadsSpec).bare.plain.varTypes Tryz.pinned.checked.prog).any (Tryz.pinned.checked.prog.ifacesRec ·)))=true:=az
theorem adh:((Rows.scriptReadsRow.mapsOut==Tryz.pinned.checked.prog.mapsAmong Tryz.f3.resultTypes.toList))=true:=az
theorem adi:((Rows.scriptReadsRow.loops==(Tryz.f3.params.toList++(OpenSpec.ofChange Rows.scriptReadsSpec).bare.plain.varTypes Tryz.pinned.checked.prog).any (Tryz.pinned.checked.prog.loopsFrom ·)))=true:=az
theorem adj:((Rows.scriptReadsRow.wideKeys==(Tryz.f3.params.toList++(OpenSpec.ofChange Rows.scriptReadsSpec).bare.plain.varTypes Tryz.pinned.checked.prog++Tryz.f3.resultTypes.toList).any (Tryz.pinned.checked.prog.wideKeysFrom ·)))=true:=az
theorem adk:((OpenSpec.ofChange Rows.scriptReadsSpec).bare.vars.all (Tryz.pinned.checked.prog.varReadable ·))=true:=az
theorem adl:(Tryz.f3.resultTypes.all (λt=>Tryz.pinned.checked.prog.readableRec t && decide (t<Tryz.pinned.checked.prog.types.size)))=true:=az
theorem adm:((Rows.scriptReadsRow.ifacesOut==Tryz.f3.resultTypes.toList.any (Tryz.pinned.checked.prog.ifacesRec ·)))=true:=az
theorem adn:((Rows.scriptReadsRow.loopsOut==Tryz.f3.resultTypes.toList.any (Tryz.pinned.checked.prog.loopsFrom ·)))=true:=az
theorem ado:((Rows.scriptReadsRow.plainKeys==Tryz.pinned.checked.prog.plainKeys))=true:=az
theorem adp:(Rows.scriptReadsRow.shortTexts.isNone)=true:=az
theorem adq:(Tryz.pinned.checked.prog.stopsHeard)=true:=az
theorem adr:(Tryz.pinned.checked.prog.mayEnter)=true:=az
theorem ads:((Rows.scriptReadsRow.lifted==Tryz.pinned.checked.prog.liftsFinal))=true:=az
theorem adt:((Tryz.pinned.checked.prog.make==some Rows.scriptReadsRow.make))=true:=az
theorem adu:((Rows.scriptReadsRow.pinned==Rows.scriptReadsRow.pinnedBy))=true:=az
theorem adv:((Rows.scriptReadsRow.veiled==(Tryz.f3.params.toList++(OpenSpec.ofChange Rows.scriptReadsSpec).bare.plain.varTypes Tryz.pinned.checked.prog++Tryz.f3.resultTypes.toList).any (Tryz.pinned.checked.prog.veiledRec ·)))=true:=az
theorem adw:(Rows.scriptReadsRow.veiledFits Tryz.pinned.checked.prog Tryz.f3.params.toList (Tryz.f3.params.toList++(OpenSpec.ofChange Rows.scriptReadsSpec).bare.plain.varTypes Tryz.pinned.checked.prog++Tryz.f3.resultTypes.toList))=true:=az
theorem facts:joinedFacts Tryz.pinned.checked.prog 3 Tryz.f3 (OpenSpec.ofChange Rows.scriptReadsSpec).bare Rows.scriptReadsRow=true:=by
 unfold joinedFacts;rw[ah6,ah7,ah8,ah9,aha,ahb,ahc,ahd,ahe,ahf,ada,adb,ade,adf,adg,adh,adi,adj,adk,adl,adm,adn,ado,adp,adq,adr,ads,adt,adu,adv,adw];kernel_rfl
end scriptReads

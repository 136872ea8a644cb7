import Derived.Test.YtbkjmamcnflncaaGreatDoorQs48
namespace Go.Proofs.YtbkjmamcnflncaaGreatDoor
open Go.ChangeShapes Go.WideShapes Go.ChangeAt Go.RowKit Go.Joins
set_option maxRecDepth 100000
namespace scriptReads
theorem met (a:Os)(args:Array au):laidMetH Tryz.prog Rows.scriptReadsRow.laid ((w0 a).forCall (λ_ _=>0) ⟨#[],args,[]⟩).memory:=
 laidMetH_of_parts3 (fuel:=8) (a4O _ az az) az az
theorem reads (a:Os){H:Type}(enc:TypeId×au->H):DataW.whole enc Tryz.prog ((w0 a).forCall (λ_ _=>0) ⟨#[],#[.slice none 0 0],[]⟩).memory Tryz.f3.params.toList Rows.scriptReadsSpec.vars false (#[.slice none 0 0]:Array au).toList 8=some ([.nil],[],[]):=az
theorem vars (a:Os):((w0 a).forCall (λ_ _=>0) ⟨#[],#[.slice none 0 0],[]⟩).variablesRefB Tryz.checked.prog=true:=az
theorem rest (a:Os):(((w0 a).forCall (λ_ _=>0) ⟨#[],#[.slice none 0 0],[]⟩).heap.toList.drop Tryz.checked.prog.globals.size).take ((begin Tryz.checked.prog (λ_ _=>0) default).world.heap.size-Tryz.checked.prog.globals.size)=
   (begin Tryz.checked.prog (λ_ _=>0) default).world.heap.toList.drop Tryz.checked.prog.globals.size:=az
theorem okw (a:Os):Input.okWideB Tryz.checked.prog ((w0 a).forCall (λ_ _=>0) ⟨#[],#[.slice none 0 0],[]⟩) 3 ⟨#[],#[.slice none 0 0],[]⟩=true:=az
theorem lifted (b:Os)(a:b.Started)(H:Type)(enc:TypeId×au->H)(F:Stop.Interp):
  ReturnsInHanded {} Tryz.checked b 3 .any ((OpenSpec.ofChange Rows.scriptReadsSpec).preRow enc Tryz.prog Tryz.f3 Rows.scriptReadsRow.domain false Rows.scriptReadsRow.laid) (((OpenSpec.ofChange Rows.scriptReadsSpec).at F).post enc Tryz.prog Tryz.f3 false true false false):=by
 have h:=reads b enc;refine returnsInHanded_of_row (C:=Tryz.checked) (s:=OpenSpec.ofChange Rows.scriptReadsSpec) ama a az Tryz.func3
  (witness_row_atRef (enc:=enc) (C:=Tryz.checked) false (w0 b) #[.slice none 0 0] (ah5 b) (vars b) (rest b) (okw b)
   (OpenSpec.preRow_of_cond 8 h az (λk i=>by cases i) az (met b _))) ?_
 intro W d e j l c f m _ _ _ n g _;exact contract H enc W d e j l c f m n g
end scriptReads

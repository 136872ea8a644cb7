import Derived.Test.YtbkjmamcnflncaaGreatDoorQt48
namespace Go.Proofs.YtbkjmamcnflncaaGreatDoor
open Go.ChangeShapes Go.WideShapes Go.ChangeAt Go.RowKit Go.Joins
set_option maxRecDepth 100000
namespace scriptAgain
theorem met (a:Os)(args:Array ax):laidMetH Tryz.prog Rows.scriptAgainRow.laid ((w0 a).forCall (λ_ _=>0) ⟨#[],args,[]⟩).memory:=
 laidMetH_of_parts3 (fuel:=8) (a5G _ aA aA) aA aA
theorem reads (a:Os){H:Type}(enc:TypeId×ax->H):DataW.whole enc Tryz.prog ((w0 a).forCall (λ_ _=>0) ⟨#[],#[.slice none 0 0,.int .i64 0],[]⟩).memory Tryz.f4.params.toList Rows.scriptAgainSpec.vars false (#[.slice none 0 0,.int .i64 0]:Array ax).toList 8=some ([.nil,.lit (.int .i64 0)],[],[]):=aA
theorem vars (a:Os):((w0 a).forCall (λ_ _=>0) ⟨#[],#[.slice none 0 0,.int .i64 0],[]⟩).variablesRefB Tryz.checked.prog=true:=aA
theorem rest (a:Os):(((w0 a).forCall (λ_ _=>0) ⟨#[],#[.slice none 0 0,.int .i64 0],[]⟩).heap.toList.drop Tryz.checked.prog.globals.size).take ((begin Tryz.checked.prog (λ_ _=>0) default).world.heap.size-Tryz.checked.prog.globals.size)=
   (begin Tryz.checked.prog (λ_ _=>0) default).world.heap.toList.drop Tryz.checked.prog.globals.size:=aA
theorem okw (a:Os):Input.okWideB Tryz.checked.prog ((w0 a).forCall (λ_ _=>0) ⟨#[],#[.slice none 0 0,.int .i64 0],[]⟩) 4 ⟨#[],#[.slice none 0 0,.int .i64 0],[]⟩=true:=aA
theorem lifted (b:Os)(a:b.Started)(H:Type)(enc:TypeId×ax->H)(F:Stop.Interp):
  ReturnsInHanded {} Tryz.checked b 4 .any ((OpenSpec.ofChange Rows.scriptAgainSpec).preRow enc Tryz.prog Tryz.f4 Rows.scriptAgainRow.domain false Rows.scriptAgainRow.laid) (((OpenSpec.ofChange Rows.scriptAgainSpec).at F).post enc Tryz.prog Tryz.f4 false true false false):=by
 have h:=reads b enc;refine returnsInHanded_of_row (C:=Tryz.checked) (s:=OpenSpec.ofChange Rows.scriptAgainSpec) amQ a aA Tryz.func4
  (witness_row_atRef (enc:=enc) (C:=Tryz.checked) false (w0 b) #[.slice none 0 0,.int .i64 0] (ahP b) (vars b) (rest b) (okw b)
   (OpenSpec.preRow_of_cond 8 h aA (λk i=>by cases i) aA (met b _))) ?_
 intro W d e j l c f m _ _ _ n g _;exact contract H enc W d e j l c f m n g
end scriptAgain

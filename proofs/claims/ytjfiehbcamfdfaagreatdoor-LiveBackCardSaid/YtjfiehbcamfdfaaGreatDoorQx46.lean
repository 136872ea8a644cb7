/-
  Parts of the proof.
-/
import Derived.Test.YtjfiehbcamfdfaaGreatDoorQx45
namespace Go.Proofs.YtjfiehbcamfdfaaGreatDoor
open Go.Proofs.Tryz
open Go.ChangeShapes Go.WideShapes Go.ChangeAt Go.RowKit Go.Joins
set_option maxRecDepth 100000
namespace liveBack
theorem met (os:Os)(args:Array Value):laidMetH prog Rows.liveBackRow.laid (((World.doorLaid prog 240 os).layVars prog (Rows.liveBackRow.laid.filter fun x=>x.2.handleName?.isNone)).forCall (fun _ _=>0) ⟨#[],args,[]⟩).memory:=
  laidMetH_of_parts3 (fuel:=8) (Y9 _ (by kernel_rfl) (by kernel_rfl)) (by kernel_rfl) (by kernel_rfl)
theorem reads (os:Os){H:Type}(enc:TypeId×Value->H):DataW.whole enc prog (((World.doorLaid prog 240 os).layVars prog (Rows.liveBackRow.laid.filter fun x=>x.2.handleName?.isNone)).forCall (fun _ _=>0) ⟨#[],#[.agg #[.string ⟨#[]⟩,.slice none 0 0,.slice none 0 0],.int .i64 0,.string ⟨#[]⟩,.string ⟨#[]⟩],[]⟩).memory Tryz.f4.params.toList Rows.liveBackSpec.vars false (#[.agg #[.string ⟨#[]⟩,.slice none 0 0,.slice none 0 0],.int .i64 0,.string ⟨#[]⟩,.string ⟨#[]⟩]:Array Value).toList 8=some ([.agg [.lit (.string []),.nil,.nil],.lit (.int .i64 0),.lit (.string []),.lit (.string [])],[],[]):=by kernel_rfl
theorem lifted (os:Os)(started:os.Started)(H:Type)(enc:TypeId×Value->H)(F:Stop.Interp):
    ReturnsInHanded {} Tryz.checked os 4 .any ((OpenSpec.ofChange Rows.liveBackSpec).preRow enc prog Tryz.f4 Rows.liveBackRow.domain false Rows.liveBackRow.laid) (((OpenSpec.ofChange Rows.liveBackSpec).at F).post enc prog Tryz.f4 false true false false):=by
  have hx:=reads os enc;refine returnsInHanded_of_row (C:=Tryz.checked) (s:=OpenSpec.ofChange Rows.liveBackSpec) adC started (by kernel_rfl) func4
    (witness_row_atRef (enc:=enc) (C:=Tryz.checked) false ((World.doorLaid prog 240 os).layVars prog (Rows.liveBackRow.laid.filter fun x=>x.2.handleName?.isNone)) #[.agg #[.string ⟨#[]⟩,.slice none 0 0,.slice none 0 0],.int .i64 0,.string ⟨#[]⟩,.string ⟨#[]⟩] (World.layVars_os _ _ _) (by kernel_rfl) (by kernel_rfl) (by kernel_rfl)
      (OpenSpec.preRow_of_cond 8 hx (by kernel_rfl) (fun k hk=>by cases hk) (by kernel_rfl) (met os _))) ?_
  intro W base args ds gs before hval hW _ _ _ hL hsh _;exact contract H enc W base args ds gs before hval hW hL
end liveBack
end Go.Proofs.YtjfiehbcamfdfaaGreatDoor

/- Parts of the proof. -/
import Derived.Test.YtecneflbncjhpaaGreatDoorQp44
namespace Go.Proofs.YtecneflbncjhpaaGreatDoor
open Go.Proofs.Tryz
open Go.ChangeShapes Go.WideShapes Go.ChangeAt Go.RowKit Go.Joins
set_option maxRecDepth 100000
namespace playAgain
theorem met (os:Os)(args:Array ah):laidMetH prog Rows.playAgainRow.laid (((World.doorLaid prog 240 os).layVars prog (Rows.playAgainRow.laid.filter fun x=>x.2.handleName?.isNone)).forCall (fun _ _=>0) ⟨#[],args,[]⟩).memory:=
 laidMetH_of_parts3 (fuel:=8) (a07 _ (by kernel_rfl) (by kernel_rfl)) (by kernel_rfl) (by kernel_rfl)
theorem reads (os:Os){H:Type}(enc:TypeId×ah->H):DataW.whole enc prog (((World.doorLaid prog 240 os).layVars prog (Rows.playAgainRow.laid.filter fun x=>x.2.handleName?.isNone)).forCall (fun _ _=>0) ⟨#[],#[.slice none 0 0],[]⟩).memory Tryz.f3.params.toList Rows.playAgainSpec.vars false (#[.slice none 0 0]:Array ah).toList 8=some ([.nil],[],[]):=by kernel_rfl
theorem lifted (os:Os)(started:os.Started)(H:Type)(enc:TypeId×ah->H)(F:Stop.Interp):
    ReturnsInHanded {} Tryz.checked os 3 .any ((OpenSpec.ofChange Rows.playAgainSpec).preRow enc prog Tryz.f3 Rows.playAgainRow.domain false Rows.playAgainRow.laid) (((OpenSpec.ofChange Rows.playAgainSpec).at F).post enc prog Tryz.f3 false true false false):=by
  have hx:=reads os enc;refine returnsInHanded_of_row (C:=Tryz.checked) (s:=OpenSpec.ofChange Rows.playAgainSpec) afW started (by kernel_rfl) func3
    (witness_row_atRef (enc:=enc) (C:=Tryz.checked) false ((World.doorLaid prog 240 os).layVars prog (Rows.playAgainRow.laid.filter fun x=>x.2.handleName?.isNone)) #[.slice none 0 0] (World.layVars_os _ _ _) (by kernel_rfl) (by kernel_rfl) (by kernel_rfl)
      (OpenSpec.preRow_of_cond 8 hx (by kernel_rfl) (fun k hk=>by cases hk) (by kernel_rfl) (met os _))) ?_
  intro W base args ds gs before hval hW _ _ _ hL hsh _;exact contract H enc W base args ds gs before hval hW hL hsh
end playAgain
end Go.Proofs.YtecneflbncjhpaaGreatDoor

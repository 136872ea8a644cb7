import Derived.Test.YtbkjmamcnflncaaGreatDoorQt49
import Derived.Test.YtbkjmamcnflncaaGreatDoorQt50
namespace Go.Proofs.YtbkjmamcnflncaaGreatDoor
open Go.ChangeShapes Go.WideShapes Go.ChangeAt Go.RowKit Go.Joins
namespace scriptAgain
theorem said:Rows.ScriptAgainSaid:=
 OpenClaim.holds_of_cond 4 Tryz.f4 rfl rfl rfl rfl rfl rfl rfl ⟨rfl,rfl,rfl,rfl,rfl⟩ rfl rfl rfl rfl rfl aA Tryz.func4 facts
  (of_decide_eq_true aA) (by unfold Func.isWrapper;first|(rw[aR (by decide+kernel)];kernel_rfl)|(rw[aG (by decide+kernel)];exact⟨rfl,rfl⟩))
  (λc a H b _ F=>by rw[OpenClaim.pre_eq_preRow];exact lifted c a H b F)
theorem amT:Tryz.pinned.checked.prog.funcs.toList.any Func.goes=false:=aA
theorem a9E {P:Program}(h:P.funcs.toList.any Func.goes=false)(c:OpenClaim)(hs:c.start=.entering):false=c.goesBy P:=by
 have a:∀f,P.goes f=false:=λf=>by
  have b:P.funcs.any Func.goes=false:=by rw[<- Array.any_toList];exact h
  have d:∀g:Nat,(P.funcs[g]?).any Func.goes=false:=λg=>by
   cases e:P.funcs[g]? with
   |none=>rfl
   |some x=>exact List.any_eq_false.1 h x (Array.mem_toList_iff.2 (Array.mem_of_getElem? e))|>λy=>by simpa using y
  unfold Program.goes;rw[b,Bool.and_false,Bool.or_false];exact List.any_eq_false.2 λg _=>by simp[d g]
 unfold OpenClaim.goesBy Program.goesAt Program.goesFrom;rw[hs];cases P.funcNamed c.func<;>simp[a]
end scriptAgain

/-
  ScriptAgain answers true for every row of commands and every number, and leaves the row as it was: the same lines make the same answers, and those of a beginning are the beginning of the answers; its conditions: the listed package variables hold what the program's text lays.
-/
import Derived.Test.YtbkjmamcnflncaaGreatDoorQt51
namespace Go.Proofs.YtbkjmamcnflncaaGreatDoor
open Go.ChangeShapes Go.WideShapes Go.ChangeAt Go.RowKit Go.Joins
namespace scriptAgain
theorem plain (f:FuncId)(a:Func)(e:Tryz.pinned.checked.prog.funcNamed "leadlight/leadlightlaw3.ScriptAgain"=some f)(b:Tryz.pinned.checked.prog.funcs[f]? =some a):
  true=Tryz.pinned.checked.prog.looks []/\∀(j:Nat) t,a.params[j]? =some t->Tryz.pinned.checked.prog.wantsStandIn t=false:=by
 obtain rfl:f=4:=fT ((show Tryz.prog.funcNamed "leadlight/leadlightlaw3.ScriptAgain"=some 4 by kernel_rfl).symm.trans e)|>.symm;obtain rfl:a=Tryz.f4:=(fT (Tryz.func4.symm.trans b)).symm;refine⟨aA,λj t c=>?_⟩;rw[Tryz.params4] at c;have d:=Array.mem_of_getElem? c;simp at d;rcases d with rfl|rfl
 .exact(show Tryz.prog.wantsStandIn 34=false by kernel_rfl)
 .exact(show Tryz.prog.wantsStandIn 3=false by kernel_rfl)
theorem card:Rows.ScriptAgainCardSaid:=
 Claim7.holds_tied_plain_at .later [] _ _ _ _ said (λ_ h=>by cases h) aA (λ_ h=>by cases h) scriptAgain_row_tie rfl ⟨rfl,rfl⟩ aA rfl plain (a9E amT _ rfl)
end scriptAgain
theorem scriptAgain_card:Rows.ScriptAgainCardSaid:=scriptAgain.card

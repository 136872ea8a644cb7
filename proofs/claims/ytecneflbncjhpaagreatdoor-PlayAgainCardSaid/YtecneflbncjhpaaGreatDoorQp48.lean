/-
  PlayAgain answers true for every row of numbers, and leaves it as it was: the same script makes the same play; its conditions: the listed package variables hold what the program's text lays.
-/
import Derived.Test.YtecneflbncjhpaaGreatDoorQp47
namespace Go.Proofs.YtecneflbncjhpaaGreatDoor
open Go.ChangeShapes Go.WideShapes Go.ChangeAt Go.RowKit Go.Joins
namespace playAgain
theorem plain (f:FuncId)(fn:Func)(hf:Tryz.pinned.checked.prog.funcNamed "leadlight/leadlightlaw3.PlayAgain"=some f)(hfn:Tryz.pinned.checked.prog.funcs[f]? =some fn):
  true=Tryz.pinned.checked.prog.looks []/\∀(j:Nat) t,fn.params[j]? =some t->Tryz.pinned.checked.prog.wantsStandIn t=false:=by
 obtain rfl:f=3:=dP ((show Tryz.prog.funcNamed "leadlight/leadlightlaw3.PlayAgain"=some 3 by kernel_rfl).symm.trans hf)|>.symm;obtain rfl:fn=Tryz.f3:=(dP (Tryz.func3.symm.trans hfn)).symm;refine⟨by kernel_rfl,fun j t ht=>?_⟩;rw[Tryz.params3] at ht;have hm:=Array.mem_of_getElem? ht;simp at hm;subst hm;exact(show Tryz.prog.wantsStandIn 22=false by kernel_rfl)
theorem card:Rows.PlayAgainCardSaid:=
 Claim7.holds_tied_plain_at .later [] _ _ _ _ said (fun _ h=>by cases h) (by kernel_rfl) (fun _ h=>by cases h) playAgain_row_tie rfl ⟨rfl,rfl⟩ (by kernel_rfl) rfl plain (by kernel_rfl)
end playAgain
theorem playAgain_card:Rows.PlayAgainCardSaid:=playAgain.card
end Go.Proofs.YtecneflbncjhpaaGreatDoor

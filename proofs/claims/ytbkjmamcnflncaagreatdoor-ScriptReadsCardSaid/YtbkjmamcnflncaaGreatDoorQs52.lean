/-
  ScriptReads answers true for every row of texts, and leaves it as it was: any lines are answered, and what is no line is told; its conditions: the listed package variables hold what the program's text lays.
-/
import Derived.Test.YtbkjmamcnflncaaGreatDoorQs51
namespace Go.Proofs.YtbkjmamcnflncaaGreatDoor
open Go.ChangeShapes Go.WideShapes Go.ChangeAt Go.RowKit Go.Joins
namespace scriptReads
theorem plain (f:FuncId)(a:Func)(e:Tryz.pinned.checked.prog.funcNamed "leadlight/leadlightlaw3.ScriptReads"=some f)(b:Tryz.pinned.checked.prog.funcs[f]? =some a):
  true=Tryz.pinned.checked.prog.looks []/\∀(j:Nat) t,a.params[j]? =some t->Tryz.pinned.checked.prog.wantsStandIn t=false:=by
 obtain rfl:f=3:=fF ((show Tryz.prog.funcNamed "leadlight/leadlightlaw3.ScriptReads"=some 3 by kernel_rfl).symm.trans e)|>.symm;obtain rfl:a=Tryz.f3:=(fF (Tryz.func3.symm.trans b)).symm;refine⟨az,λj t c=>?_⟩;rw[Tryz.params3] at c;have d:=Array.mem_of_getElem? c;simp at d;subst d;exact(show Tryz.prog.wantsStandIn 22=false by kernel_rfl)
theorem card:Rows.ScriptReadsCardSaid:=
 Claim7.holds_tied_plain_at .later [] _ _ _ _ said (λ_ h=>by cases h) az (λ_ h=>by cases h) scriptReads_row_tie rfl ⟨rfl,rfl⟩ az rfl plain (a8T amd _ rfl)
end scriptReads
theorem scriptReads_card:Rows.ScriptReadsCardSaid:=scriptReads.card

/-
  LiveFresh answers true for every node and every row of edits, and leaves both as they were: whatever was edited, the picture is as painted from the beginning, and rows that were not painted anew are as they were; its conditions: the listed package variables hold what the program's text lays, and no node holds itself.
-/
import Derived.Test.YtjfiehbcamfdfaaGreatDoorQy49
namespace Go.Proofs.YtjfiehbcamfdfaaGreatDoor
open Go.ChangeShapes Go.WideShapes Go.ChangeAt Go.RowKit Go.Joins
namespace liveFresh
theorem plain (f:FuncId)(fn:Func)(hf:Tryz.pinned.checked.prog.funcNamed "leadlight/leadlightlaw3.LiveFresh"=some f)(hfn:Tryz.pinned.checked.prog.funcs[f]? =some fn):
  true=Tryz.pinned.checked.prog.looks []/\∀(j:Nat) t,fn.params[j]? =some t->Tryz.pinned.checked.prog.wantsStandIn t=false:=by
 obtain rfl:f=3:=Option.some.inj ((show Tryz.prog.funcNamed "leadlight/leadlightlaw3.LiveFresh"=some 3 by kernel_rfl).symm.trans hf)|>.symm;obtain rfl:fn=Tryz.f3:=(Option.some.inj (Tryz.func3.symm.trans hfn)).symm;refine⟨by kernel_rfl,fun j t ht=>?_⟩;rw[Tryz.params3] at ht;have hm:=Array.mem_of_getElem? ht;simp at hm;rcases hm with rfl|rfl
 ·exact(show Tryz.prog.wantsStandIn 25=false by kernel_rfl)
 ·exact(show Tryz.prog.wantsStandIn 26=false by kernel_rfl)
theorem card:Rows.LiveFreshCardSaid:=
 Claim7.holds_tied_plain_at .later [] _ _ _ _ said (fun _ h=>by cases h) (by kernel_rfl) (fun _ h=>by cases h) liveFresh_row_tie rfl ⟨rfl,rfl⟩ (by kernel_rfl) rfl plain (by kernel_rfl)
end liveFresh
theorem liveFresh_card:Rows.LiveFreshCardSaid:=liveFresh.card
end Go.Proofs.YtjfiehbcamfdfaaGreatDoor

/-
  Parts of the proof.
-/
import Derived.Test.YtgphclgmmocdhaaGreatDoorQh26
namespace Go.Proofs.YtgphclgmmocdhaaGreatDoor
mutual
theorem elN_nm:∀ (n:Nd) (k:Nat) (p:Int),okN n->∀ e ∈ elN k p n,isNm e.name=true
  | .mk nm ats ks,k,p,h,e,he=>by
    unfold okN at h
    rw [elN] at he
    rcases List.mem_cons.1 he with rfl | he
    · exact h.1
    · exact elL_nm ks _ _ h.2.2 e he
theorem elL_nm:∀ (l:List Nd) (k:Nat) (p:Int),okL l->∀ e ∈ elL k p l,isNm e.name=true
  | [],_,_,_,e,he=>by simp [elL] at he
  | n :: l,k,p,h,e,he=>by
    unfold okL at h
    rw [elL] at he
    rcases List.mem_append.1 he with he | he
    · exact elN_nm n _ _ h.1 e he
    · exact elL_nm l _ _ h.2 e he
end
abbrev newD (n:Nd):Dm:=extE (fun _=>none) 0 (elN 0 (-1) n)
end Go.Proofs.YtgphclgmmocdhaaGreatDoor

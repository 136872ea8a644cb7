/-
  Parts of the proof.
-/
import Derived.Test.YtgphclgmmocdhaaGreatDoorQh31
namespace Go.Proofs.YtgphclgmmocdhaaGreatDoor
open Go.RowKit Go.Shelf
mutual
theorem elN_va:∀ (n:Nd) (k:Nat) (p:Int),okN n->∀ e ∈ elN k p n,∀ a ∈ e.ats,isVal a.2=true
  | .mk nm ats ks,k,p,h,e,he=>by
    unfold okN at h
    rw [elN] at he
    rcases List.mem_cons.1 he with rfl | he
    · exact fun a ha=>(h.2.1 a ha).2
    · exact elL_va ks _ _ h.2.2 e he
theorem elL_va:∀ (l:List Nd) (k:Nat) (p:Int),okL l->∀ e ∈ elL k p l,∀ a ∈ e.ats,isVal a.2=true
  | [],_,_,_,e,he=>by simp [elL] at he
  | n :: l,k,p,h,e,he=>by
    unfold okL at h
    rw [elL] at he
    rcases List.mem_append.1 he with he | he
    · exact elN_va n _ _ h.1 e he
    · exact elL_va l _ _ h.2 e he
end
theorem FitD.new (n:Nd) (hc:(ckN n 1 0).1=0):FitD (newD n):=fun j e he=>by
  have hk:=ckN_ok n 1 0 hc
  unfold newD extE at he
  split at he
  · have hm:=List.mem_of_getElem? he
    refine ⟨?_,fun a ha=>?_⟩
    · obtain ⟨c,r,h1, -⟩:=isNm_head (elN_nm n 0 (-1) hk e hm)
      rw [h1]
      simp
    · have h1:=elN_va n 0 (-1) hk e hm a ha
      unfold isVal at h1
      simp only [Bool.and_eq_true,decide_eq_true_eq] at h1
      omega
  · cases he
end Go.Proofs.YtgphclgmmocdhaaGreatDoor

/-
  Parts of the proof.
-/
import Derived.Test.YtgphclgmmocdhaaGreatDoorQh9
namespace Go.Proofs.YtgphclgmmocdhaaGreatDoor
section
def boxL (xn xd yn yd Xn Xd Yn Yd:Int):List Qt:=[⟨xn,xd,yn,yd⟩,⟨Xn,Xd,yn,yd⟩,⟨Xn,Xd,Yn,Yd⟩,⟨xn,xd,Yn,Yd⟩]
end
section
open Go.RowKit
theorem bcellQ {w:World} {b:Nat} {cs:Array Value} {t:TypeId} {f:Nat × Nat} (h:w.heap[b]? = some (.cells cs t f)) (k:Nat) (v:Value) (hv:cs[k]? = some v):w.cell? ⟨b,k,none⟩=some v:=by
 simp only [World.cell?,h]
 exact hv
theorem bfrozQ {w:World} {b:Nat} {cs:Array Value} {t:TypeId} (h:w.heap[b]? = some (.cells cs t (0,0))) (k:Nat):w.frozen? ⟨b,k,none⟩=false:=by
 simp [World.frozen?,h]
theorem al_old {X:World} {k:Nat} {v:Obj} (o:Obj) (h:X.heap[k]? = some v):(X.alloc o).heap[k]? = some v:=((mbelow X o).block k (Array.getElem?_eq_some_iff.1 h).1).trans h
theorem al_new {X:World} {k:Nat} (o:Obj) (h:X.heap.size=k):(X.alloc o).heap[k]? = some o:=by rw [<- h];exact World.alloc_heap_new X o
theorem heap6 (w:World) (o0 o1 o2 o3 o4 o5:Obj):∀ U,(((((w.alloc o0).alloc o1).alloc o2).alloc o3).alloc o4).alloc o5=U->
  U.heap[w.heap.size]? = some o0/\U.heap[w.heap.size+1]? = some o1/\U.heap[w.heap.size+1+1]? = some o2/\U.heap[w.heap.size+1+1+1]? = some o3/\U.heap[w.heap.size+1+1+1+1]? = some o4/\U.heap[w.heap.size+1+1+1+1+1]? = some o5/\Below w.heap.size w U:=by
 rintro U rfl
 refine ⟨?_,?_,?_,?_,?_,?_,?_⟩
 ·exact al_old _ (al_old _ (al_old _ (al_old _ (al_old _ (al_new _ rfl)))))
 ·exact al_old _ (al_old _ (al_old _ (al_old _ (al_new _ (by simp)))))
 ·exact al_old _ (al_old _ (al_old _ (al_new _ (by simp))))
 ·exact al_old _ (al_old _ (al_new _ (by simp)))
 ·exact al_old _ (al_new _ (by simp))
 ·exact al_new _ (by simp)
 ·exact ((((((Below.refl _ _).alloc Nat.le.refl _).alloc (by simp) _).alloc (by simp;omega) _).alloc (by simp;omega) _).alloc (by simp;omega) _).alloc (by simp;omega) _
theorem add_c {an ad bn bd:Int} (ha:chk an ad=0) (hb:chk bn bd=0):(add an ad bn bd).c=0\/(add an ad bn bd).c=2:=by
 have e:add an ad bn bd=low (an * bd+bn * ad) (ad * bd):=by unfold add;rw [if_neg (by simp [ha]),if_neg (by simp [hb])]
 rw [e]
 rcases low_cases (n:=an * bd+bn * ad) (d:=ad * bd) with h | h
 ·rw [h];exact .inr rfl
 ·exact .inl h
end
end Go.Proofs.YtgphclgmmocdhaaGreatDoor

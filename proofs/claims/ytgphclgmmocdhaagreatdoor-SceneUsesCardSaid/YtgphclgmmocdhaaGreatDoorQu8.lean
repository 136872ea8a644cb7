/-
  Parts of the proof.
-/
import Derived.Test.YtgphclgmmocdhaaGreatDoorQu7
import Derived.Test.YtgphclgmmocdhaaGreatDoorQu4
import Derived.Test.YtgphclgmmocdhaaGreatDoorQu6
namespace Go.Proofs.YtgphclgmmocdhaaGreatDoor
section
def boxL (xn xd yn yd Xn Xd Yn Yd:Int):List Qt:=[⟨xn,xd,yn,yd⟩,⟨Xn,Xd,yn,yd⟩,⟨Xn,Xd,Yn,Yd⟩,⟨xn,xd,Yn,Yd⟩]
end
section
open Go.RowKit
theorem bcellQ {w:World} {b:Nat} {cs:Array Value} {t:TypeId} {f:Nat × Nat} (h:w.heap[b]? = some (.cells cs t f)) (k:Nat) (v:Value) (hv:cs[k]? = some v):w.cell? ⟨b,k,none⟩=some v:=by
 simp only [World.cell?,h]
 exact hv
theorem bfrozQ {w:World} {b:Nat} {cs:Array Value} {t:TypeId} (h:w.heap[b]? = some (.cells cs t (0,0))) (k:Nat):w.frozen? ⟨b,k,none⟩=false:=by
 simp [World.frozen?,h]
theorem al_old {X:World} {k:Nat} {v:Obj} (o:Obj) (h:X.heap[k]? = some v):(X.alloc o).heap[k]? = some v:=((mbelow X o).block k (Array.getElem?_eq_some_iff.1 h).1).trans h
theorem al_new {X:World} {k:Nat} (o:Obj) (h:X.heap.size=k):(X.alloc o).heap[k]? = some o:=by rw [<- h];exact World.alloc_heap_new X o
theorem heap6 (w:World) (o0 o1 o2 o3 o4 o5:Obj):∀ U,(((((w.alloc o0).alloc o1).alloc o2).alloc o3).alloc o4).alloc o5=U->
  U.heap[w.heap.size]? = some o0/\U.heap[w.heap.size+1]? = some o1/\U.heap[w.heap.size+1+1]? = some o2/\U.heap[w.heap.size+1+1+1]? = some o3/\U.heap[w.heap.size+1+1+1+1]? = some o4/\U.heap[w.heap.size+1+1+1+1+1]? = some o5/\Below w.heap.size w U:=by
 rintro U rfl
 refine ⟨?_,?_,?_,?_,?_,?_,?_⟩
 ·exact al_old _ (al_old _ (al_old _ (al_old _ (al_old _ (al_new _ rfl)))))
 ·exact al_old _ (al_old _ (al_old _ (al_old _ (al_new _ (by simp)))))
 ·exact al_old _ (al_old _ (al_old _ (al_new _ (by simp))))
 ·exact al_old _ (al_old _ (al_new _ (by simp)))
 ·exact al_old _ (al_new _ (by simp))
 ·exact al_new _ (by simp)
 ·exact ((((((Below.refl _ _).alloc Nat.le.refl _).alloc (by simp) _).alloc (by simp;omega) _).alloc (by simp;omega) _).alloc (by simp;omega) _).alloc (by simp;omega) _
theorem add_c {an ad bn bd:Int} (ha:chk an ad=0) (hb:chk bn bd=0):(add an ad bn bd).c=0\/(add an ad bn bd).c=2:=by
 have e:add an ad bn bd=low (an * bd+bn * ad) (ad * bd):=by unfold add;rw [if_neg (by simp [ha]),if_neg (by simp [hb])]
 rw [e]
 rcases low_cases (n:=an * bd+bn * ad) (d:=ad * bd) with h | h
 ·rw [h];exact .inr rfl
 ·exact .inl h
end
section
open Go.RowKit
def qtP (a:Qt):Pt:=⟨⟨a.xn,a.xd⟩,⟨a.yn,a.yd⟩⟩
theorem chkP_pi {a:Qt} (h:chkP a=0):PI a:=by
 obtain ⟨c1,c2⟩:=chkP_zero.1 h
 obtain ⟨i1,i2⟩:=i64_of_chk c1
 obtain ⟨i3,i4⟩:=i64_of_chk c2
 exact ⟨i1,i2,i3,i4⟩
theorem heap3 (w:World) (o0 o1 o2:Obj):∀ U,((w.alloc o0).alloc o1).alloc o2=U->
  U.heap[w.heap.size]? = some o0/\U.heap[w.heap.size+1]? = some o1/\U.heap[w.heap.size+1+1]? = some o2/\Below w.heap.size w U:=by
 rintro U rfl
 refine ⟨?_,?_,?_,?_⟩
 ·exact al_old _ (al_old _ (al_new _ rfl))
 ·exact al_old _ (al_new _ (by simp))
 ·exact al_new _ (by simp)
 ·exact (((Below.refl _ _).alloc Nat.le.refl _).alloc (by simp) _).alloc (by simp;omega) _
theorem blk_keepQ {w w':World} {b n:Nat} {o:Obj} (hb:Below n w w') (hn:w.heap.size<=n) (h:w.heap[b]? = some o):w'.heap[b]? = some o:=(hb.block _ (Nat.lt_of_lt_of_le (Array.getElem?_eq_some_iff.1 h).1 hn)).trans h
theorem blk_keep {w w':World} {b:Nat} {o:Obj} (hb:Below w.heap.size w w') (h:w.heap[b]? = some o):w'.heap[b]? = some o:=blk_keepQ hb Nat.le.refl h
theorem OwnP.far {w:World} {base b:Nat} {v u:Value} {l:List Qt} (h:OwnP w base v l) (hb:b<base):OwnP (w.setCell ⟨b,0,none⟩ u) base v l:=by
 refine ⟨h.1,?_⟩
 rcases h.2 with h0 | ⟨g,cap,cur,h1,h2,h3,h4⟩
 ·exact .inl h0
 ·refine .inr ⟨g,cap,cur,h1,h2,?_,h4⟩
  rw [Below.heap_setCell _ _ _ g (by simp;omega)]
  exact h3
theorem OwnP.low {w:World} {base b:Nat} {v:Value} {l:List Qt} (h:OwnP w base v l) (hb:b<=base):OwnP w b v l:=by
 refine ⟨h.1,?_⟩
 rcases h.2 with h0 | ⟨g,cap,cur,h1,h2,h3⟩
 ·exact .inl h0
 ·exact .inr ⟨g,cap,cur,h1,Nat.le_trans hb h2,h3⟩
theorem OwnP.keep {w w':World} {base:Nat} {v:Value} {l:List Qt} (h:OwnP w base v l) (hb:Below w.heap.size w w'):OwnP w' base v l:=by
 refine ⟨h.1,?_⟩
 rcases h.2 with h0 | ⟨g,cap,cur,h1,h2,h3,h4⟩
 ·exact .inl h0
 ·exact .inr ⟨g,cap,cur,h1,h2,blk_keep hb h3,h4⟩
end
section
open Go.RowKit
set_option maxHeartbeats 4000000
set_option maxRecDepth 20000
theorem samePoints_same (l:List Qt) (o1 o2:Option Addr) (c1 c2:Nat) (w:World) (hl:l.length<=1000) (h1:PtsAt w o1 l) (h2:PtsAt w o2 l) :
  Calls Tryz.prog 14 #[.slice o1 l.length c1,.slice o2 l.length c2] w fun e W=>e=.returned (.bool true)/\Below w.heap.size w W:=by
 go_enter Tryz.func14,Tryz.ntmps14
 go_wp2_with fail
 go_loopw [5] (fun y wr=>∃ k:Nat,k<=l.length/\y=.int .i64 k/\Below w.heap.size w wr) (fun y _=>l.length - (intOf y).toNat)
 case atStart=>exact ⟨0,Nat.zero_le _,rfl,Below.refl _ _⟩
 case round=>
  obtain ⟨k,hk,rfl,hb⟩:=hrel
  by_cases hlt:k<l.length
  ·have hlt':(k:Int)<(l.length:Int):=by omega
   obtain ⟨a,ha⟩:∃ a,l[k]? = some a:=⟨_,List.getElem?_eq_getElem hlt⟩
   obtain ⟨b,off,ho,hp⟩:=(h1.below hb Nat.le.refl) k a ha
   obtain ⟨b2,off2,ho2,hp2⟩:=(h2.below hb Nat.le.refl) k a ha
   subst ho
   subst ho2
   obtain ⟨c0,c1,c2,c3, -⟩:=hp
   obtain ⟨d0,d1,d2,d3, -⟩:=hp2
   clear ha
   go_upto_region 6 with fail
   go_region
   go_wp2_with fail
   exact ⟨⟨k+1,by omega,by go_num,below_drewN hb 1⟩,by simp [intOf];omega⟩
  ·obtain rfl:k=l.length:=by omega
   go_wp2_with fail
   go_ret
   exact ⟨rfl,hb⟩
end
end Go.Proofs.YtgphclgmmocdhaaGreatDoor

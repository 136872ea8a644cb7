/-
  Parts of the proof.
-/
import Derived.Test.YtgphclgmmocdhaaGreatDoorQh33
namespace Go.Proofs.YtgphclgmmocdhaaGreatDoor
open Go.RowKit
set_option maxHeartbeats 4000000
set_option maxRecDepth 20000
theorem samePoints_same (l:List Qt) (o1 o2:Option Addr) (c1 c2:Nat) (w:World) (hl:l.length<=1000) (h1:PtsAt w o1 l) (h2:PtsAt w o2 l) :
  Calls Tryz.prog 14 #[.slice o1 l.length c1,.slice o2 l.length c2] w fun e W=>e=.returned (.bool true)/\Below w.heap.size w W:=by
 go_enter Tryz.func14,Tryz.ntmps14
 go_wp2_with fail
 go_loopw [5] (fun y wr=>∃ k:Nat,k<=l.length/\y=.int .i64 k/\Below w.heap.size w wr) (fun y _=>l.length - (intOf y).toNat)
 case atStart=>exact ⟨0,Nat.zero_le _,rfl,Below.refl _ _⟩
 case round=>
  obtain ⟨k,hk,rfl,hb⟩:=hrel
  by_cases hlt:k<l.length
  ·have hlt':(k:Int)<(l.length:Int):=by omega
   obtain ⟨a,ha⟩:∃ a,l[k]? = some a:=⟨_,List.getElem?_eq_getElem hlt⟩
   obtain ⟨b,off,ho,hp⟩:=(h1.below hb Nat.le.refl) k a ha
   obtain ⟨b2,off2,ho2,hp2⟩:=(h2.below hb Nat.le.refl) k a ha
   subst ho
   subst ho2
   obtain ⟨c0,c1,c2,c3, -⟩:=hp
   obtain ⟨d0,d1,d2,d3, -⟩:=hp2
   clear ha
   go_upto_region 6 with fail
   go_region
   go_wp2_with fail
   exact ⟨⟨k+1,by omega,by go_num,below_drewN hb 1⟩,by simp [intOf];omega⟩
  ·obtain rfl:k=l.length:=by omega
   go_wp2_with fail
   go_ret
   exact ⟨rfl,hb⟩
end Go.Proofs.YtgphclgmmocdhaaGreatDoor

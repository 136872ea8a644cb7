/-
  Parts of the proof.
-/
import Derived.Test.YtjfiehbcamfdfaaGreatDoorQx35
namespace Go.Proofs.YtjfiehbcamfdfaaGreatDoor
section
open Go.RowKit
def KN (w:World)(o:Option Addr)(l:List ByteArray):Prop:=∀i s,l[i]? =some s->∃b off,o=some ⟨b,off,none⟩/\w.cell? (ag b (off+i))=some (.string s)
theorem KN.below {w w':World}{o:Option Addr}{l:List ByteArray}(h:KN w o l)(hb:Below w.heap.size w w'):KN w' o l:=fun i s hs=>by
 obtain⟨b,off,h1,h2⟩:=h i s hs;exact⟨b,off,h1,(hb.cell (ay h2)).trans h2⟩
def a2a (a b:List ByteArray)(e:Ending):Prop:=(a=b/\e=.returned (.bool true))\/(a≠b/\e=.returned (.bool false))
end
section
open Go.RowKit
set_option maxHeartbeats 4000000
set_option maxRecDepth 20000
theorem NM (a b:List ByteArray)(oa ob:Option Addr)(ca cb:Nat)(w:World)(hla:a.length<=10000)(ha:KN w oa a)(hb:KN w ob b):
  ak 33 #[.slice oa a.length ca,.slice ob b.length cb] w fun e W=>a2a a b e/\Below w.heap.size w W:=by
 by_cases hne:a.length=b.length
 ·have hne':((a.length:Int)==(b.length:Int))=true:=by rw[hne];simp
  have hnb:((a.length:Int) !=(b.length:Int))=false:=by rw[hne];simp
  have Rv:Hid (a.length=b.length):=hne;clear hne;go_enter Tryz.func33,Tryz.ntmps33;go_wp2_with fail
  go_loopw [13] (fun i wr=>∃k:Nat,k<=a.length/\i=aa k/\a.take k=b.take k/\Below w.heap.size w wr) (fun i _=>a.length-(intOf i).toNat)
  case atStart=>exact⟨0,Nat.zero_le _,rfl,rfl,Below.refl _ _⟩
  case round=>
   obtain⟨k,hk,rfl,hrt,hB⟩:=hrel;by_cases hlt:k<a.length
   ·have hlt':(k:Int)<(a.length:Int):=by omega
    have a8j:(k:Int)<(b.length:Int):=by have:=Rv.out;omega
    obtain⟨x,hx⟩:∃x,a[k]? =some x:=⟨_,List.getElem?_eq_getElem hlt⟩;obtain⟨y,hy⟩:∃y,b[k]? =some y:=⟨_,List.getElem?_eq_getElem (by have:=Rv.out;omega)⟩;obtain⟨b1,f1,rfl,c1⟩:=ha.below hB k x hx;obtain⟨b2,f2,rfl,c2⟩:=hb.below hB k y hy;have HX:Hid (a[k]? =some x/\b[k]? =some y):=⟨hx,hy⟩;clear hx hy;have d1:wr.drew.cell? (ag b1 (f1+k))=some (.string x):=c1;have d2:wr.drew.cell? (ag b2 (f2+k))=some (.string y):=c2;by_cases hxy:x=y
    ·subst hxy;go_upto_region 6 with fail;go_region
     all_goals
      go_wp2_with fail
      go_roundw
      case rel=>exact⟨k+1,by omega,by go_num,by rw[List.take_add_one,List.take_add_one,hrt,HX.out.1,HX.out.2],hB.drew⟩
      case measure=>simp[intOf];omega
    ·have hxl:(x.toList==y.toList)=false:=beq_eq_false_iff_ne.2 (fun h=>hxy (ba_eq h));have hno:a≠b:=fun h=>hxy (by
      have:=HX.out.1;rw[h,HX.out.2] at this;cases this;rfl)
     go_upto_region 6 with fail;go_region
     all_goals
      go_wp2_with fail;go_ret;exact⟨.inr ⟨hno,rfl⟩,hB.drew⟩
   ·obtain rfl:k=a.length:=by omega
    have hab:a=b:=by
     rw[List.take_length] at hrt;rw[Rv.out,List.take_length] at hrt;exact hrt
    go_wp2_with fail;go_ret;exact⟨.inl ⟨hab,rfl⟩,hB⟩
 ·have hno:a≠b:=fun h=>hne (by rw[h]);have hne':((a.length:Int)==(b.length:Int))=false:=by rw[beq_eq_false_iff_ne];omega
  have hnb:((a.length:Int) !=(b.length:Int))=true:=by rw[bne,hne'];rfl
  clear hne;go_enter Tryz.func33,Tryz.ntmps33;go_wp2_with fail;go_ret;exact⟨.inr ⟨hno,rfl⟩,Below.refl _ _⟩
theorem XW (a b:List ByteArray)(oa ob:Option Addr)(ca cb:Nat)(n h:Int)(w:World)(hla:a.length<=10000)(ha:KN w oa a)(hb:KN w ob b):
  ak 13 #[.agg #[aa n,aa h,.slice oa a.length ca],.agg #[aa n,aa h,.slice ob b.length cb]] w fun e W=>a2a a b e/\Below w.heap.size w W:=by
 have r0:=World.alloc_heap_new w (.cells #[aa n,aa h,.slice oa a.length ca] 40);have b0:=aL w (.cells #[aa n,aa h,.slice oa a.length ca] 40);have b1:=aL (w.alloc (.cells #[aa n,aa h,.slice oa a.length ca] 40)) (.cells #[aa n,aa h,.slice ob b.length cb] 40);have bb:=au b0 b1;have EQ:=NM a b oa ob ca cb ((w.alloc (.cells #[aa n,aa h,.slice oa a.length ca] 40)).alloc (.cells #[aa n,aa h,.slice ob b.length cb] 40)) hla (ha.below bb) (hb.below bb);clear r0 b0 b1;go_enter Tryz.func13,Tryz.ntmps13;go_wp2_with fail;refine EQ.mono ?_;rintro e w1 ⟨hr,b2⟩;rcases hr with⟨hab,rfl⟩|⟨hab,rfl⟩
 ·go_wp2_with fail;go_ret;exact⟨.inl ⟨hab,rfl⟩,au bb b2⟩
 ·go_wp2_with fail;go_ret;exact⟨.inr ⟨hab,rfl⟩,au bb b2⟩
end
end Go.Proofs.YtjfiehbcamfdfaaGreatDoor

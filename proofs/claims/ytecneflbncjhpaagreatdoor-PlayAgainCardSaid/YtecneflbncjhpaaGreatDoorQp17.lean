/- Parts of the proof. -/
import Derived.Test.YtecneflbncjhpaaGreatDoorQp13
import Derived.Test.YtecneflbncjhpaaGreatDoorQp11
namespace Go.Proofs.YtecneflbncjhpaaGreatDoor
open Go.Proofs.Tryz
set_option maxHeartbeats 2000000
section
open Go.RowKit
theorem kC:∀{l:List (Bs×Bs)} {i:Nat} {x:Bs×Bs},l[i]? =some x->(bJ l)[i*2]? =some (.string ⟨x.1.toArray⟩)/\(bJ l)[i*2+1]? =some (.string ⟨x.2.toArray⟩)
 |[],_,_,h=>by simp at h
 |y::l,0,x,h=>by
  simp at h;subst h;exact⟨rfl,rfl⟩
 |y::l,i+1,x,h=>by
  have h1:=kC (l:=l) (i:=i) (x:=x) (by simpa using h);rw[show(i+1)*2=i*2+1+1 from by omega];exact⟨by simpa[bJ] using h1.1,by simpa[bJ] using h1.2⟩
theorem wQ:∀(l:List (Bs×Bs)) (nm:Bs) (k:Nat),(fI nm k l= -1/\kQ l nm=none)\/∃i x,fI nm k l=((k+i:Nat):Int)/\l[i]? =some x/\kQ l nm=some x.2
 |[],_,_=>.inl ⟨rfl,rfl⟩
 |x::l,nm,k=>by
  unfold fI kQ;rw[List.find?_cons];cases hx:(x.1==nm) with
  |true=>exact .inr ⟨0,x,by simp,rfl,rfl⟩
  |false=>
   rcases wQ l nm (k+1) with⟨h1,h2⟩|⟨i,y,h1,h2,h3⟩
   ·exact .inl ⟨by simpa using h1,h2⟩
   ·exact .inr ⟨i+1,y,by rw[if_neg (by simp),h1];congr 1;omega,by simpa using h2,h3⟩
theorem Oq (x:Bs×Bs)(nm:Bs)(B:Nat)(W:ag)(hB:W.cell? (ak B 0)=some (gT nm)):
  au 231 #[atV x,ay B] W fun e w'=>e=.returned (.bool (x.1==nm))/\Below W.heap.size W w':=by
 have hB':=fun o=>bK o hB;unfold atV gT at*;go_enter func231,ntmps231;go_wp2;go_ret;exact⟨rfl,(aG _ W).alloc ai _⟩
theorem Ot (ats:List (Bs×Bs))(nm:Bs)(B B0:Nat)(v:ah)(W:ag)(h:W.ownsRow B0 100 2 v ats.length (bJ ats))(hB:W.cell? (ak B 0)=some (gT nm)):
  au 168 #[v,.func (.func 231) #[] #[ay B]] W fun e w'=>e=.returned (aa (fI nm 0 ats))/\Below W.heap.size W w':=by
 obtain⟨o,cap,Ou,h1,h2,h3,h5⟩:=dL h;have hlen:(ats.length:Int)<=9223372036854775807:=by rw[bq] at h2;omega
 by_cases h0:ats.length=0
 ·obtain rfl:ats=[]:=iC.1 h0;subst Ou;clear h h5;go_enter func168,ntmps168;go_wp2_with fail
  go_loopw [8] (fun y wr=>y=aa 0/\wr=W) (fun _ _=>0)
  case atStart=>exact⟨rfl,rfl⟩
  case round=>
   obtain⟨rfl,rfl⟩:=hrel;go_wp2_with fail;go_ret;exact⟨rfl,aG _ _⟩
 ·obtain⟨x0,hx0, -⟩:=drop_at (l:=ats) (k:=0) (by omega);obtain⟨g,hg, -⟩:=dF h _ _ (kC hx0).1;have hog:=h5 g hg;subst Ou hog;have H4:Hid (∀k x,ats[k]? =some x->W.cell? (ak g (k*2))=some (.string ⟨x.1.toArray⟩)/\W.cell? (ak g (k*2+1))=some (.string ⟨x.2.toArray⟩)):=(fun k x hx=>by
   obtain⟨g1,hg1,c1⟩:=dF h _ _ (kC hx).1;obtain⟨g2,hg2,c2⟩:=dF h _ _ (kC hx).2;rw[hg] at hg1 hg2;cases hg1;cases hg2;exact⟨c1,c2⟩:∀k x,ats[k]? =some x->W.cell? (ak g (k*2))=some (.string ⟨x.1.toArray⟩)/\W.cell? (ak g (k*2+1))=some (.string ⟨x.2.toArray⟩))
  clear h hx0 h3 h5 x0 hg;go_enter func168,ntmps168;go_wp2_with fail
  go_loopw [8] (fun y wr=>∃k:Nat,k<=ats.length/\y=aa k/\fI nm 0 ats=fI nm k (ats.drop k)/\Below W.heap.size W wr) (fun y _=>ats.length-(intOf y).toNat)
  case atStart=>exact⟨0,aP _,rfl,rfl,aG _ _⟩
  case round=>
   obtain⟨k,hk,rfl,hf,hb⟩:=hrel;by_cases hlt:k<ats.length
   ·have hlt':(k:Int)<(ats.length:Int):=by omega
    obtain⟨x,hx,hd⟩:=drop_at hlt;obtain⟨c0,c1⟩:=H4.out k x hx;have k0:=(hb.cell (az c0)).trans c0;have k1:=(hb.cell (az c1)).trans c1;have hB1:=(hb.cell (az hB)).trans hB;have HS:=Oq x nm B wr hB1;unfold atV gT at HS;rw[hd] at hf;clear c0 c1 hx hd;cases hs:(x.1==nm) with
    |true=>
     rw[hs] at HS;have hf':Hid (fI nm 0 ats=k):=(by rw[hf];unfold fI;rw[if_pos hs]:fI nm 0 ats=k);clear hf hs;go_wp2_with(go_at_call 231;refine HS.mono ?_;rintro e w1 ⟨rfl,hb1⟩);go_ret;exact⟨by rw[hf'.out];rfl,aH hb hb1⟩
    |false=>
     rw[hs] at HS;have hf0:fI nm k (x::ats.drop (k+1))=fI nm (k+1) (ats.drop (k+1)):=by rw[fI,if_neg (by rw[hs];simp)]
     have hf':Hid (fI nm 0 ats=fI nm (k+1) (ats.drop (k+1))):=hf.trans hf0;clear hf0;clear hf hs;go_wp2_with(go_at_call 231;refine HS.mono ?_;rintro e w1 ⟨rfl,hb1⟩)
     go_roundw
     case rel=>exact⟨k+1,by omega,by go_num,hf'.out,aH hb hb1⟩
     case measure=>simp[intOf];omega
   ·obtain rfl:k=ats.length:=by omega
    have hf':Hid (fI nm 0 ats= -1):=(by rw[hf,List.drop_length];rfl:fI nm 0 ats= -1);clear hf;go_wp2_with fail;go_ret;exact⟨by rw[hf'.out];rfl,hb⟩
section
variable {B:Nat}{tg:bP}{W:ag}{DB MB:Nat}{p:Int->Option Nat}{M:Dm}{nx c:Nat}
theorem zy {i:Int}{b:Nat}{e:gH}{va vk:ah}(he:xX B tg W i b e va vk)(nm:Bs):
  au 184 #[ay b,.string ⟨nm.toArray⟩] W fun r w'=>r=.returned (aa (fI nm 0 e.ats))/\Below W.heap.size W w':=by
 have b1:=(aG W.heap.size W).alloc ai (.cells #[.string ⟨nm.toArray⟩] 9);have x1:=(b1.cell (az he.c1)).trans he.c1;have Hu:=aQ he.ats b1;have hB:(W.alloc (.cells #[.string ⟨nm.toArray⟩] 9)).cell? ⟨W.heap.size,0,none⟩=some (gT nm):=aD (dw W #[.string ⟨nm.toArray⟩] 9) 0 _ rfl;obtain⟨ov,kv,rfl⟩:=aM he.ats;have PF:=Ot e.ats nm W.heap.size B _ _ Hu hB;go_enter func184,ntmps184;go_wp2_with(go_at_call 168;refine PF.mono ?_;rintro r w1 ⟨rfl,hb1⟩);go_ret;exact⟨rfl,aH b1 hb1⟩
def Ov (M:Dm)(n:Int)(nm:Bs):Option Bs:=match M n with|none=>none|some e=>kQ e.ats nm
theorem jP (h:aX B tg W DB MB p M nx c)(n:Int)(hn:dR n)(nm:Bs):
  au 137 #[ay DB,aa n,.string ⟨nm.toArray⟩] W fun r w'=>r=.returned (.tuple #[.string ⟨((Ov M n nm).getD []).toArray⟩,.bool (Ov M n nm).isSome])/\Below W.heap.size W w':=by
 have d0:=h.d0;unfold Ov;cases hm:M n with
 |none=>
  have hp:=h.non n hm;go_enter func137,ntmps137;go_wp2_with(at_lookup;refine lC _ rfl _ _ 93 rfl underlying3 underlying93 (eD _) rfl h.map n rfl hn hp ?_);refine bodyPost_ret (v:=.tuple #[.string ⟨#[]⟩,.bool false]) (by simp[results,results137,go_sem]) rfl ⟨rfl,aG _ _⟩
 |some e=>
  obtain⟨b,va,vk,hp,he⟩:=h.els n e hm;have PO:=zy he nm;simp only;rcases wQ e.ats nm 0 with⟨h1,h2⟩|⟨i,x,h1,h2,h3⟩
  ·rw[h1] at PO;rw[h2];go_enter func137,ntmps137;go_wp2_with(first|(at_lookup;refine fq _ rfl _ _ 93 rfl underlying3 underlying93 (eD _) rfl h.map n rfl hn b hp ?_)|(go_at_call 184;refine PO.mono ?_;rintro r w1 ⟨rfl,hb1⟩));refine bodyPost_ret (v:=.tuple #[.string ⟨#[]⟩,.bool false]) (by simp[results,results137,go_sem]) rfl ⟨rfl,hb1⟩
  ·rw[Nat.zero_add] at h1;rw[h1] at PO;rw[h3];obtain⟨g,hg,c2⟩:=dF he.ats _ _ (kC h2).2;obtain⟨o,cap,Ou,q1,q2,q3,q5⟩:=dL he.ats;have hog:=q5 g hg;subst Ou hog;have hil:=(jc.1 h2).1;have a4J:(i:Int)<(e.ats.length:Int):=by omega
   have x1:=he.c1;have HC:=aj c2;clear c2 hg q5;go_enter func137,ntmps137;go_wp2_with(first|(at_lookup;refine fq _ rfl _ _ 93 rfl underlying3 underlying93 (eD _) rfl h.map n rfl hn b hp ?_)|(go_at_call 184;refine PO.mono ?_;rintro r w1 ⟨rfl,hb1⟩;have k1:=(hb1.cell (az x1)).trans x1;have k2:=(hb1.cell (az HC.out)).trans HC.out));refine bodyPost_ret (v:=.tuple #[.string ⟨x.2.toArray⟩,.bool true]) (by simp[results,results137,go_sem]) rfl ⟨rfl,hb1⟩
end
structure E4 (aT aB aS:Addr)(w:ag):Prop where
 e3:E3 aB aS aB w
 t:w.cell? (ak 1 0)=some (.iface 401 (.pointer (some aT)))
theorem E4.below {aT aB aS:Addr}{w w':ag}{B:Nat}(h:E4 aT aB aS w)(hb:Below B w w')(hB:w.heap.size<=B):E4 aT aB aS w':=⟨h.e3.below hb hB,(hb.cell (bI (aF h.t) hB)).trans h.t⟩
theorem mH {m:Mv}(h:m.ok):m.i64:=⟨jy h.1,jy h.2.1,jy h.2.2.1,jy h.2.2.2.1,jy h.2.2.2.2.1,jy h.2.2.2.2.2⟩
end
end Go.Proofs.YtecneflbncjhpaaGreatDoor

/-
  Parts of the proof.
-/
import Derived.Test.YtjfiehbcamfdfaaGreatDoorQy18
namespace Go.Proofs.YtjfiehbcamfdfaaGreatDoor
open Go.Proofs.Tryz
section
open Go.RowKit
set_option maxHeartbeats 2000000
theorem iU:∀{l:List (Bs×Bs)} {i:Nat} {x:Bs×Bs},l[i]? =some x->(aF l)[i*2]? =some (.string ⟨x.1.toArray⟩)/\(aF l)[i*2+1]? =some (.string ⟨x.2.toArray⟩)
 |[],_,_,h=>by simp at h
 |y::l,0,x,h=>by
  simp at h;subst h;exact⟨rfl,rfl⟩
 |y::l,i+1,x,h=>by
  have h1:=iU (l:=l) (i:=i) (x:=x) (by simpa using h);rw[show(i+1)*2=i*2+1+1 from by omega];exact⟨by simpa[aF] using h1.1,by simpa[aF] using h1.2⟩
theorem vI:∀(l:List (Bs×Bs)) (nm:Bs) (k:Nat),(fI nm k l= -1/\iK l nm=none)\/∃i x,fI nm k l=((k+i:Nat):Int)/\l[i]? =some x/\iK l nm=some x.2
 |[],_,_=>.inl ⟨rfl,rfl⟩
 |x::l,nm,k=>by
  unfold fI iK;rw[List.find?_cons];cases hx:(x.1==nm) with
  |true=>exact .inr ⟨0,x,by simp,rfl,rfl⟩
  |false=>
   rcases vI l nm (k+1) with⟨h1,h2⟩|⟨i,y,h1,h2,h3⟩
   ·exact .inl ⟨by simpa using h1,h2⟩
   ·exact .inr ⟨i+1,y,by rw[if_neg (by simp),h1];congr 1;omega,by simpa using h2,h3⟩
theorem Mx (x:Bs×Bs)(nm:Bs)(B:Nat)(W:World)(hB:W.cell? (ag B 0)=some (eD nm)):
  ak 68 #[atV x,aj B] W fun e w'=>e=.returned (.bool (x.1==nm))/\Below W.heap.size W w':=by
 have hB':=fun o=>bO o hB;unfold atV eD at*;go_enter func68,ntmps68;go_wp2;go_ret;exact⟨rfl,(Below.refl _ W).alloc eU _⟩
theorem MC (ats:List (Bs×Bs))(nm:Bs)(B B0:Nat)(v:Value)(W:World)(h:W.ownsRow B0 65 2 v ats.length (aF ats))(hB:W.cell? (ag B 0)=some (eD nm)):
  ak 67 #[v,.func (.func 68) #[] #[aj B]] W fun e w'=>e=.returned (aa (fI nm 0 ats))/\Below W.heap.size W w':=by
 obtain⟨o,cap,Js,h1,h2,h3,h5⟩:=bA h;have hlen:(ats.length:Int)<=9223372036854775807:=by rw[aQ] at h2;omega
 by_cases h0:ats.length=0
 ·obtain rfl:ats=[]:=List.length_eq_zero_iff.1 h0;subst Js;clear h h5;go_enter func67,ntmps67;go_wp2_with fail
  go_loopw [8] (fun y wr=>y=aa 0/\wr=W) (fun _ _=>0)
  case atStart=>exact⟨rfl,rfl⟩
  case round=>
   obtain⟨rfl,rfl⟩:=hrel;go_wp2_with fail;go_ret;exact⟨rfl,Below.refl _ _⟩
 ·obtain⟨x0,hx0, -⟩:=drop_at (l:=ats) (k:=0) (by omega);obtain⟨g,hg, -⟩:=bJ h _ _ (iU hx0).1;have hog:=h5 g hg;subst Js hog;have H4:Hid (∀k x,ats[k]? =some x->W.cell? (ag g (k*2))=some (.string ⟨x.1.toArray⟩)/\W.cell? (ag g (k*2+1))=some (.string ⟨x.2.toArray⟩)):=(fun k x hx=>by
   obtain⟨g1,hg1,c1⟩:=bJ h _ _ (iU hx).1;obtain⟨g2,hg2,c2⟩:=bJ h _ _ (iU hx).2;rw[hg] at hg1 hg2;cases hg1;cases hg2;exact⟨c1,c2⟩:∀k x,ats[k]? =some x->W.cell? (ag g (k*2))=some (.string ⟨x.1.toArray⟩)/\W.cell? (ag g (k*2+1))=some (.string ⟨x.2.toArray⟩))
  clear h hx0 h3 h5 x0 hg;have hcap:(ats.length:Int)<=(cap:Int):=by omega
  go_enter func67,ntmps67;go_wp2_with fail
  go_loopw [8] (fun y wr=>∃k:Nat,k<=ats.length/\y=aa k/\fI nm 0 ats=fI nm k (ats.drop k)/\Below W.heap.size W wr) (fun y _=>ats.length-(intOf y).toNat)
  case atStart=>exact⟨0,Nat.zero_le _,rfl,rfl,Below.refl _ _⟩
  case round=>
   obtain⟨k,hk,rfl,hf,hb⟩:=hrel;by_cases hlt:k<ats.length
   ·have hlt':(k:Int)<(ats.length:Int):=by omega
    obtain⟨x,hx,hd⟩:=drop_at hlt;obtain⟨c0,c1⟩:=H4.out k x hx;have k0:=(hb.cell (ax c0)).trans c0;have k1:=(hb.cell (ax c1)).trans c1;have hB1:=(hb.cell (ax hB)).trans hB;have HS:=Mx x nm B wr hB1;unfold atV eD at HS;rw[hd] at hf;clear c0 c1 hx hd;cases hs:(x.1==nm) with
    |true=>
     rw[hs] at HS;have hf':Hid (fI nm 0 ats=k):=(by rw[hf];unfold fI;rw[if_pos hs]:fI nm 0 ats=k);clear hf hs;go_wp2_with(go_at_call 68;refine HS.mono ?_;rintro e w1 ⟨rfl,hb1⟩);go_ret;exact⟨by rw[hf'.out];rfl,az hb hb1⟩
    |false=>
     rw[hs] at HS;have hf0:fI nm k (x::ats.drop (k+1))=fI nm (k+1) (ats.drop (k+1)):=by rw[fI,if_neg (by rw[hs];simp)]
     have hf':Hid (fI nm 0 ats=fI nm (k+1) (ats.drop (k+1))):=hf.trans hf0;clear hf0;clear hf hs;go_wp2_with(go_at_call 68;refine HS.mono ?_;rintro e w1 ⟨rfl,hb1⟩)
     go_roundw
     case rel=>exact⟨k+1,by omega,by go_num,hf'.out,az hb hb1⟩
     case measure=>simp[intOf];omega
   ·obtain rfl:k=ats.length:=by omega
    have hf':Hid (fI nm 0 ats= -1):=(by rw[hf,List.drop_length];rfl:fI nm 0 ats= -1);clear hf;go_wp2_with fail;go_ret;exact⟨by rw[hf'.out];rfl,hb⟩
section
variable {B:Nat}{tg:kE}{W:World}{DB MB:Nat}{p:Int->Option Nat}{M:Dm}{nx c:Nat}
theorem qO {i:Int}{b:Nat}{e:iy}{va vk:Value}(he:yf B tg W i b e va vk)(nm:Bs):
  ak 35 #[aj b,.string ⟨nm.toArray⟩] W fun r w'=>r=.returned (aa (fI nm 0 e.ats))/\Below W.heap.size W w':=by
 have b1:=(Below.refl W.heap.size W).alloc eU (.cells #[.string ⟨nm.toArray⟩] 9);have x1:=(b1.cell (ax he.c1)).trans he.c1;have Jn:=aK he.ats b1;have hB:(W.alloc (.cells #[.string ⟨nm.toArray⟩] 9)).cell? ⟨W.heap.size,0,none⟩=some (eD nm):=aA (dh W #[.string ⟨nm.toArray⟩] 9) 0 _ rfl;obtain⟨ov,kv,rfl⟩:=aI he.ats;have PF:=MC e.ats nm W.heap.size B _ _ Jn hB;go_enter func35,ntmps35;go_wp2_with(go_at_call 67;refine PF.mono ?_;rintro r w1 ⟨rfl,hb1⟩);go_ret;exact⟨rfl,az b1 hb1⟩
def VD (M:Dm)(n:Int)(nm:Bs):Option Bs:=match M n with|none=>none|some e=>iK e.ats nm
theorem l8 (h:bG B tg W DB MB p M nx c)(n:Int)(hn:dH n)(nm:Bs):
  ak 17 #[aj DB,aa n,.string ⟨nm.toArray⟩] W fun r w'=>r=.returned (.tuple #[.string ⟨((VD M n nm).getD []).toArray⟩,.bool (VD M n nm).isSome])/\Below W.heap.size W w':=by
 have d0:=h.d0;unfold VD;cases hm:M n with
 |none=>
  have hp:=h.non n hm;go_enter func17,ntmps17;go_wp2_with(at_lookup;refine lY _ rfl _ _ 83 rfl underlying3 underlying83 (eG _) rfl h.map n rfl hn hp ?_);refine bodyPost_ret (v:=.tuple #[.string ⟨#[]⟩,.bool false]) (by simp[results,results17,go_sem]) rfl ⟨rfl,Below.refl _ _⟩
 |some e=>
  obtain⟨b,va,vk,hp,he⟩:=h.els n e hm;have PO:=qO he nm;simp only;rcases vI e.ats nm 0 with⟨h1,h2⟩|⟨i,x,h1,h2,h3⟩
  ·rw[h1] at PO;rw[h2];go_enter func17,ntmps17;go_wp2_with(first|(at_lookup;refine eY _ rfl _ _ 83 rfl underlying3 underlying83 (eG _) rfl h.map n rfl hn b hp ?_)|(go_at_call 35;refine PO.mono ?_;rintro r w1 ⟨rfl,hb1⟩));refine bodyPost_ret (v:=.tuple #[.string ⟨#[]⟩,.bool false]) (by simp[results,results17,go_sem]) rfl ⟨rfl,hb1⟩
  ·rw[Nat.zero_add] at h1;rw[h1] at PO;rw[h3];obtain⟨g,hg,c2⟩:=bJ he.ats _ _ (iU h2).2;obtain⟨o,cap,Js,q1,q2,q3,q5⟩:=bA he.ats;have hog:=q5 g hg;subst Js hog;have hil:=(List.getElem?_eq_some_iff.1 h2).1;have a3c:(i:Int)<(e.ats.length:Int):=by omega
   have x1:=he.c1;have HC:Hid (W.cell? (ag g (i*2+1))=some (.string ⟨x.2.toArray⟩)):=c2;clear c2 hg q5;go_enter func17,ntmps17;go_wp2_with(first|(at_lookup;refine eY _ rfl _ _ 83 rfl underlying3 underlying83 (eG _) rfl h.map n rfl hn b hp ?_)|(go_at_call 35;refine PO.mono ?_;rintro r w1 ⟨rfl,hb1⟩;have k1:=(hb1.cell (ax x1)).trans x1;have k2:=(hb1.cell (ax HC.out)).trans HC.out));refine bodyPost_ret (v:=.tuple #[.string ⟨x.2.toArray⟩,.bool true]) (by simp[results,results17,go_sem]) rfl ⟨rfl,hb1⟩
end
end
section
open Go.RowKit Go.Shelf
attribute [local go_sem] Oper.semAt_some
section
variable {B:Nat}{tg:kE}{W:World}{DB MB:Nat}{p:Int->Option Nat}{M:Dm}{nx c:Nat}
def MW (M:Dm):Prop:=∀n e,M n=some e->e.name≠[]/\∀a∈e.ats,a.2.length<=1000000
end
end
end Go.Proofs.YtjfiehbcamfdfaaGreatDoor

/- Parts of the proof. -/
import Derived.Test.YtjfiehbcamfdfaaGreatDoorQz11
namespace Go.Proofs.YtjfiehbcamfdfaaGreatDoor
open Go.Proofs.Tryz
set_option maxHeartbeats 2000000
section
open Go.RowKit
theorem j5:∀{l:List (Bs×Bs)} {i:Nat} {x:Bs×Bs},l[i]? =some x->(aL l)[i*2]? =some (.string ⟨x.1.toArray⟩)/\(aL l)[i*2+1]? =some (.string ⟨x.2.toArray⟩)
 |[],_,_,h=>by simp at h
 |y::l,0,x,h=>by
  simp at h;subst h;exact⟨rfl,rfl⟩
 |y::l,i+1,x,h=>by
  have h1:=j5 (l:=l) (i:=i) (x:=x) (by simpa using h);rw[show(i+1)*2=i*2+1+1 from by omega];exact⟨by simpa[aL] using h1.1,by simpa[aL] using h1.2⟩
theorem ru:∀(l:List (Bs×Bs)) (nm:Bs) (k:Nat),(fI nm k l= -1/\jk l nm=none)\/∃i x,fI nm k l=((k+i:Nat):Int)/\l[i]? =some x/\jk l nm=some x.2
 |[],_,_=>.inl ⟨rfl,rfl⟩
 |x::l,nm,k=>by
  unfold fI jk;rw[List.find?_cons];cases hx:(x.1==nm) with
  |true=>exact .inr ⟨0,x,by simp,rfl,rfl⟩
  |false=>
   rcases ru l nm (k+1) with⟨h1,h2⟩|⟨i,y,h1,h2,h3⟩
   ·exact .inl ⟨by simpa using h1,h2⟩
   ·exact .inr ⟨i+1,y,by rw[if_neg (by simp),h1];congr 1;omega,by simpa using h2,h3⟩
theorem MH (x:Bs×Bs)(nm:Bs)(B:Nat)(W:ag)(hB:W.cell? (ak B 0)=some (fe nm)):
  ax 68 #[atV x,ay B] W fun e w'=>e=.returned (.bool (x.1==nm))/\Below W.heap.size W w':=by
 have hB':=fun o=>dQ o hB;unfold atV fe at*;go_enter func68,ntmps68;go_wp2;go_ret;exact⟨rfl,(Below.refl _ W).alloc ai _⟩
theorem MI (ats:List (Bs×Bs))(nm:Bs)(B B0:Nat)(v:ah)(W:ag)(h:W.ownsRow B0 65 2 v ats.length (aL ats))(hB:W.cell? (ak B 0)=some (fe nm)):
  ax 67 #[v,.func (.func 68) #[] #[ay B]] W fun e w'=>e=.returned (aa (fI nm 0 ats))/\Below W.heap.size W w':=by
 obtain⟨o,cap,JE,h1,h2,h3,h5⟩:=bS h;have hlen:(ats.length:Int)<=9223372036854775807:=by rw[bq] at h2;omega
 by_cases h0:ats.length=0
 ·obtain rfl:ats=[]:=List.length_eq_zero_iff.1 h0;subst JE;clear h h5;go_enter func67,ntmps67;go_wp2_with fail
  go_loopw [8] (fun y wr=>y=aa 0/\wr=W) (fun _ _=>0)
  case atStart=>exact⟨rfl,rfl⟩
  case round=>
   obtain⟨rfl,rfl⟩:=hrel;go_wp2_with fail;go_ret;exact⟨rfl,Below.refl _ _⟩
 ·obtain⟨x0,hx0, -⟩:=drop_at (l:=ats) (k:=0) (by omega);obtain⟨g,hg, -⟩:=bO h _ _ (j5 hx0).1;have hog:=h5 g hg;subst JE hog;have H4:Hid (∀k x,ats[k]? =some x->W.cell? (ak g (k*2))=some (.string ⟨x.1.toArray⟩)/\W.cell? (ak g (k*2+1))=some (.string ⟨x.2.toArray⟩)):=(fun k x hx=>by
   obtain⟨g1,hg1,c1⟩:=bO h _ _ (j5 hx).1;obtain⟨g2,hg2,c2⟩:=bO h _ _ (j5 hx).2;rw[hg] at hg1 hg2;cases hg1;cases hg2;exact⟨c1,c2⟩:∀k x,ats[k]? =some x->W.cell? (ak g (k*2))=some (.string ⟨x.1.toArray⟩)/\W.cell? (ak g (k*2+1))=some (.string ⟨x.2.toArray⟩))
  clear h hx0 h3 h5 x0 hg;go_enter func67,ntmps67;go_wp2_with fail
  go_loopw [8] (fun y wr=>∃k:Nat,k<=ats.length/\y=aa k/\fI nm 0 ats=fI nm k (ats.drop k)/\Below W.heap.size W wr) (fun y _=>ats.length-(intOf y).toNat)
  case atStart=>exact⟨0,Nat.zero_le _,rfl,rfl,Below.refl _ _⟩
  case round=>
   obtain⟨k,hk,rfl,hf,hb⟩:=hrel;by_cases hlt:k<ats.length
   ·have hlt':(k:Int)<(ats.length:Int):=by omega
    obtain⟨x,hx,hd⟩:=drop_at hlt;obtain⟨c0,c1⟩:=H4.out k x hx;have k0:=(hb.cell (az c0)).trans c0;have k1:=(hb.cell (az c1)).trans c1;have hB1:=(hb.cell (az hB)).trans hB;have HS:=MH x nm B wr hB1;unfold atV fe at HS;rw[hd] at hf;clear c0 c1 hx hd;cases hs:(x.1==nm) with
    |true=>
     rw[hs] at HS;have hf':Hid (fI nm 0 ats=k):=(by rw[hf];unfold fI;rw[if_pos hs]:fI nm 0 ats=k);clear hf hs;go_wp2_with(go_at_call 68;refine HS.mono ?_;rintro e w1 ⟨rfl,hb1⟩);go_ret;exact⟨by rw[hf'.out];rfl,aG hb hb1⟩
    |false=>
     rw[hs] at HS;have hf0:fI nm k (x::ats.drop (k+1))=fI nm (k+1) (ats.drop (k+1)):=by rw[fI,if_neg (by rw[hs];simp)]
     have hf':Hid (fI nm 0 ats=fI nm (k+1) (ats.drop (k+1))):=hf.trans hf0;clear hf0;clear hf hs;go_wp2_with(go_at_call 68;refine HS.mono ?_;rintro e w1 ⟨rfl,hb1⟩)
     go_roundw
     case rel=>exact⟨k+1,by omega,by go_num,hf'.out,aG hb hb1⟩
     case measure=>simp[intOf];omega
   ·obtain rfl:k=ats.length:=by omega
    have hf':Hid (fI nm 0 ats= -1):=(by rw[hf,List.drop_length];rfl:fI nm 0 ats= -1);clear hf;go_wp2_with fail;go_ret;exact⟨by rw[hf'.out];rfl,hb⟩
section
variable {B:Nat}{tg:bf}{W:ag}{DB MB:Nat}{p:Int->Option Nat}{M:Dm}{nx c:Nat}
theorem qC {i:Int}{b:Nat}{e:dO}{va vk:ah}(he:wu B tg W i b e va vk)(nm:Bs):
  ax 35 #[ay b,.string ⟨nm.toArray⟩] W fun r w'=>r=.returned (aa (fI nm 0 e.ats))/\Below W.heap.size W w':=by
 have b1:=(Below.refl W.heap.size W).alloc ai (.cells #[.string ⟨nm.toArray⟩] 9);have x1:=(b1.cell (az he.c1)).trans he.c1;have vC:=aP he.ats b1;have hB:(W.alloc (.cells #[.string ⟨nm.toArray⟩] 9)).cell? ⟨W.heap.size,0,none⟩=some (fe nm):=aF (cZ W #[.string ⟨nm.toArray⟩] 9) 0 _ rfl;obtain⟨ov,kv,rfl⟩:=aH he.ats;have PF:=MI e.ats nm W.heap.size B _ _ vC hB;go_enter func35,ntmps35;go_wp2_with(go_at_call 67;refine PF.mono ?_;rintro r w1 ⟨rfl,hb1⟩);go_ret;exact⟨rfl,aG b1 hb1⟩
def MJ (M:Dm)(n:Int)(nm:Bs):Option Bs:=match M n with|none=>none|some e=>jk e.ats nm
theorem jv (h:aO B tg W DB MB p M nx c)(n:Int)(hn:bA n)(nm:Bs):
  ax 17 #[ay DB,aa n,.string ⟨nm.toArray⟩] W fun r w'=>r=.returned (.tuple #[.string ⟨((MJ M n nm).getD []).toArray⟩,.bool (MJ M n nm).isSome])/\Below W.heap.size W w':=by
 have d0:=h.d0;unfold MJ;cases hm:M n with
 |none=>
  have hp:=h.non n hm;go_enter func17,ntmps17;go_wp2_with(at_lookup;refine iB _ rfl _ _ 83 rfl underlying3 underlying83 (aW _) rfl h.map n rfl hn hp ?_);refine bodyPost_ret (v:=.tuple #[.string ⟨#[]⟩,.bool false]) (by simp[results,results17,go_sem]) rfl ⟨rfl,Below.refl _ _⟩
 |some e=>
  obtain⟨b,va,vk,hp,he⟩:=h.els n e hm;have PO:=qC he nm;simp only;rcases ru e.ats nm 0 with⟨h1,h2⟩|⟨i,x,h1,h2,h3⟩
  ·rw[h1] at PO;rw[h2];go_enter func17,ntmps17;go_wp2_with(first|(at_lookup;refine bu _ rfl _ _ 83 rfl underlying3 underlying83 (aW _) rfl h.map n rfl hn b hp ?_)|(go_at_call 35;refine PO.mono ?_;rintro r w1 ⟨rfl,hb1⟩));refine bodyPost_ret (v:=.tuple #[.string ⟨#[]⟩,.bool false]) (by simp[results,results17,go_sem]) rfl ⟨rfl,hb1⟩
  ·rw[Nat.zero_add] at h1;rw[h1] at PO;rw[h3];obtain⟨g,hg,c2⟩:=bO he.ats _ _ (j5 h2).2;obtain⟨o,cap,JE,q1,q2,q3,q5⟩:=bS he.ats;have hog:=q5 g hg;subst JE hog;have hil:=(List.getElem?_eq_some_iff.1 h2).1;have a2I:(i:Int)<(e.ats.length:Int):=by omega
   have x1:=he.c1;have HC:=aj c2;clear c2 hg q5;go_enter func17,ntmps17;go_wp2_with(first|(at_lookup;refine bu _ rfl _ _ 83 rfl underlying3 underlying83 (aW _) rfl h.map n rfl hn b hp ?_)|(go_at_call 35;refine PO.mono ?_;rintro r w1 ⟨rfl,hb1⟩;have k1:=(hb1.cell (az x1)).trans x1;have k2:=(hb1.cell (az HC.out)).trans HC.out));refine bodyPost_ret (v:=.tuple #[.string ⟨x.2.toArray⟩,.bool true]) (by simp[results,results17,go_sem]) rfl ⟨rfl,hb1⟩
end
end
section
open Go.RowKit
attribute [local go_sem] fT
theorem xw (s:aD)(hs:s.size<4294967281)(W:ag):
  ax 235 #[.string s,.string ⟨#[32]⟩] W fun e w'=>e=.returned (.slice (some ⟨W.heap.size,0,none⟩) (Lib.countB s ⟨#[32]⟩+1) (Lib.countB s ⟨#[32]⟩+1))/\w'=W.alloc (.cells ((Lib.splitB ⟨#[32]⟩ 0 (Lib.countB s ⟨#[32]⟩) s).map Value.string).toArray 9):=by
 have h1:1<=(⟨#[32]⟩:aD).size:=by decide
 have hle:=Lib.countB_le ⟨#[32]⟩ h1 s.size s ai;have hlen:=Lib.splitB_all ⟨#[32]⟩ h1 0 _ s rfl;have c:=Any.strings_genSplit_core Tryz.ZF (by kernel_rfl) s ⟨#[32]⟩ 0 (-1) (Lib.countB s ⟨#[32]⟩+1) W hs h1 (Nat.zero_le _)
  (fun x c _=>(Any.strings_Index_one Tryz.ZA x 32 _).mono fun e w' ⟨he,hw⟩=>⟨by rw[he,<- Lib.index_one],hw⟩)
  ((Any.strings_Count_one Tryz.ZC s 32 W).mono fun e w' ⟨he,hw⟩=>⟨by rw[he];show _=Ending.returned (Value.int .i64 ((Lib.count s.data.toList [32]:Nat):Int));rw[Lib.count_one];rfl,hw⟩)
  (by decide) (by decide) (by rw[if_pos (by decide)];omega)
 rw[Nat.add_sub_cancel,hlen] at c;have e2:Lib.cellsOf (Lib.splitB ⟨#[32]⟩ 0 (Lib.countB s ⟨#[32]⟩) s) (Lib.countB s ⟨#[32]⟩+1)=((Lib.splitB ⟨#[32]⟩ 0 (Lib.countB s ⟨#[32]⟩) s).map Value.string).toArray:=by rw[<- hlen];exact Lib.cellsOf_full _
 rw[e2] at c;go_enter func235,ntmps235;go_wp2_with(go_at_call 264;refine c.mono ?_;rintro e w' ⟨rfl,hw⟩;rw[hw]);go_ret;exact⟨rfl,rfl⟩
theorem Pw {R:Nat}:∀(vs:List ah) (o:Nat) (w:ag) (j:Nat),j<o->(put w R o vs).cell? (ak R j)=w.cell? (ak R j)
 |[],_,_,_,_=>rfl
 |v::vs,o,w,j,h=>(Pw vs (o+1) _ j (by omega)).trans (World.cell?_setCell_other _ _ _ _ (by intro e;have:=congrArg Addr.off e;simp only at this;omega))
theorem G7 {R:Nat}:∀(vs:List ah) (o:Nat) (w:ag),(∀i,i<vs.length->(w.cell? (ak R (o+i))).isSome=true)->∀j u,vs[j]? =some u->(put w R o vs).cell? (ak R (o+j))=some u
 |[],_,_,_,j,u,h=>by simp at h
 |v::vs,o,w,hw,0,u,h=>by
  simp at h;subst h;exact(Pw vs (o+1) _ o (by omega)).trans (World.cell?_setCell_same' _ _ _ (hw 0 (by simp)))
 |v::vs,o,w,hw,j+1,u,h=>by
  have:=G7 vs (o+1) (w.setCell ⟨R,o,none⟩ v) (fun i hi=>by
   rw[World.cell?_setCell_other _ _ _ _ (by intro e;have:=congrArg Addr.off e;simp only at this;omega)];have:=hw (i+1) (by simp;omega);rwa[show o+(i+1)=o+1+i by omega] at this) j u (by simpa using h)
  rw[show o+(j+1)=o+1+j by omega];exact this
theorem qD {B:Nat}{w u:ag}(h:Below B w.drew u):Below B w u:=⟨h.os,h.tape,h.output,h.size,h.block⟩
theorem Px {cs:List ah}{w:ag}{t:TypeId}:∀j u,cs[j]? =some u->(w.alloc (.cells cs.toArray t)).cell? ⟨w.heap.size,j,none⟩=some u:=fun j u h=>bg rfl (by simpa using h)
theorem JF {w:ag}{R:Nat}{cs:Array ah}{t:TypeId}(h:dH w R cs t):∀i,i<cs.size->(w.cell? (ak R (0+i))).isSome=true:=fun i hi=>by
 rw[h.cell (0+i) cs[i] (by simp[hi])];rfl
theorem G8 {w u:ag}{Q:Nat}{a b:ah}(hb:Below w.heap.size w u)(h:w.cell? (ak Q 0)=some a/\w.cell? (ak Q 1)=some b):u.cell? (ak Q 0)=some a/\u.cell? (ak Q 1)=some b:=⟨(hb.cell (p:=⟨Q,0,none⟩) (aC h.1)).trans h.1,(hb.cell (p:=⟨Q,1,none⟩) (aC h.2)).trans h.2⟩
theorem ry {w u:ag}{cs:Array ah}{t:TypeId}(hb:Below (w.alloc (.cells cs t)).drew.heap.size (w.alloc (.cells cs t)).drew u):dH u w.heap.size cs t:=dH.below (w:=(w.alloc (.cells cs t)).drew) ⟨(dH.new w cs t).h⟩ hb ai
theorem Wm:(prog.info? 129).map (fun i=>(i.zero,i.size,i.bytes))=some (some (.agg zA),12,96):=by kernel_rfl
theorem a1U {m:Mv}:∀u∈[Value.int .i64 m.a.n,aa m.a.d,aa m.b.n,aa m.b.d,aa m.c.n,aa m.c.d,aa m.d.n,aa m.d.d,aa m.e.n,aa m.e.d,aa m.f.n,aa m.f.d],u.oneCell'=true:=fun u hu=>by
 simp at hu;rcases hu with rfl|rfl|rfl|rfl|rfl|rfl|rfl|rfl|rfl|rfl|rfl|rfl<;>rfl
end
section
open Go.RowKit Go.Shelf
attribute [local go_sem] Oper.semAt_some
def iU (n j:Nat):List Nat:=(List.range (n-1-j)).map (fun k=>n-1-k)
theorem nZ {n j:Nat}(h:j<n):iU n j++[j]=(List.range (n-j)).map (fun k=>n-1-k):=by
 unfold iU;rw[show n-j=n-1-j+1 by omega,List.range_succ,List.map_append];simp;omega
theorem JG (n j:Nat):(iU n j).length=n-1-j:=by simp[iU]
def aX (n:Nat):List Nat:=(List.range n).map (fun k=>n-1-k)
theorem G9 {n j:Nat}(h:j+1<n):iU n (j+1)++[j+1]=iU n j:=by
 rw[nZ h,iU,show n-(j+1)=n-1-j by omega]
theorem Ga {n:Nat}(h:0<n):iU n 0++[0]=aX n:=by rw[nZ h,aX];rfl
theorem Bi {n j:Nat}(h:j<n):iU n j++[j]<+:aX n:=by
 rw[nZ h,aX];refine List.IsPrefix.map _ ?_;refine⟨(List.range j).map (fun k=>(n-j)+k),?_⟩;rw[show List.range n=List.range ((n-j)+j) by congr 1;omega,List.range_add]
abbrev a1V (m:Mv)(j:Nat):Array ah:=#[aa j,.agg (mA m)]
theorem vI (v:ah)(a:Option Addr)(n c:Nat)(hv:v=.slice a n c)(W:ag):ax 199 #[v] W fun e w'=>e=.returned (.func (.func 240) #[] #[ay W.heap.size])/\w'=W.alloc (.cells #[v] 277):=by
 subst hv;go_enter func199,ntmps199;go_wp2;go_ret;exact⟨rfl,rfl⟩
end
end Go.Proofs.YtjfiehbcamfdfaaGreatDoor

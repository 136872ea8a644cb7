/- Parts of the proof. -/
import Derived.Test.YtjfiehbcamfdfaaGreatDoorQz23
import Derived.Test.YtjfiehbcamfdfaaGreatDoorQz20
import Derived.Test.YtjfiehbcamfdfaaGreatDoorQz14
import Derived.Lib.AppendIntMem
import Derived.Lib.ItoaLen
namespace Go.Proofs.YtjfiehbcamfdfaaGreatDoor
open Go.Proofs.Tryz
set_option maxHeartbeats 8000000
section
open Go.RowKit
set_option maxRecDepth 20000
mutual
def sh:Nat->Nd->Prop
 |d,.mk _ _ ks=>d<=15/\shL (d+1) ks
def shL:Nat->List Nd->Prop
 |_,[]=>True
 |d,k::l=>sh d k/\shL d l
end
theorem Q8:∀{l:List Nd} {d:Nat} {k:Nd},shL d l->k∈l->sh d k
 |[],_,_,_,h=>by simp at h
 |a::l,d,k,h,hk=>by
  unfold shL at h;rcases List.mem_cons.1 hk with rfl|hk
  ·exact h.1
  ·exact Q8 h.2 hk
theorem Xg:∀{l:List Nd} {d:Nat},(∀k∈l,sh d k)->shL d l
 |[],_,_=>by unfold shL;trivial
 |a::l,d,h=>by
  unfold shL;exact⟨h a (by simp),Xg (fun k hk=>h k (by simp[hk]))⟩
theorem a3L (k:Nat)(p:Int)(d:Nat)(ks:List Nd)(i:Nat):(Cx k p d (ks.take i)).length<=(Cx k p d ks).length:=by
 have e:=List.take_append_drop i ks;have:=AA k p d (ks.take i) (ks.drop i);rw[e] at this;rw[this,List.length_append];omega
def Big (k:Nat)(p:Int)(d:Nat)(n:Nd):Prop:=150<k+(vZ k p d n).length\/¬sh d n
theorem Q9 {k i j:Nat}{p:Int}{d:Nat}{nm:Bs}{ats:List (Bs×Bs)}{ks:List Nd}{kid:Nd}(hx:ks[i]? =some kid)(hj:j=k+1+(Cx (k+1) k (d+1) (ks.take i)).length)(h:150<j+(vZ j k (d+1) kid).length):Big k p d (.mk nm ats ks):=by
 refine .inl ?_;have h1:=a3L (k+1) k (d+1) ks (i+1);rw[Ju hx,List.length_append,<- hj] at h1;rw[vZ,List.length_cons];omega
theorem Xh {k i:Nat}{p:Int}{d:Nat}{nm:Bs}{ats:List (Bs×Bs)}{ks:List Nd}{kid:Nd}(hx:ks[i]? =some kid)(h:¬sh (d+1) kid):Big k p d (.mk nm ats ks):=by
 refine .inr fun hs=>h ?_;unfold sh at hs;exact Q8 hs.2 (List.mem_of_getElem? hx)
def a7T (W0:ag)(n:Nd):Prop:=∀(c0 c1 c2:ah) (L:List yU) (v:ah) (parent:Int) (deep:Nat) (W:ag),jX W0 c0 c1 c2 n->Below W0.heap.size W0 W->W.ownsRow W0.heap.size 63 4 v L.length (gJ L)->L.length<=151->deep<=16->
 ax 22 #[v,.agg #[c0,c1,c2],aa parent,aa deep] W fun e w'=>∃v' m cs,e=.returned v'/\w'.ownsRow W0.heap.size 63 4 v' m cs/\m<=151/\FK W0.heap.size W w'/\
  ((150<m/\Big L.length parent deep n)\/∃M,m=(L++M).length/\cs=gJ (L++M)/\mZ W0 M (vZ L.length parent deep n)/\sh deep n)
theorem Sw (W0:ag):∀n,a7T W0 n:=by
 refine Nd.ind fun nm ats ks ih=>?_;intro c0 c1 c2 L v parent deep W hn hb hown hL hd;have hn':=hn;unfold jX at hn';obtain⟨rfl,hl,vC,ok,dW,rfl,hkc,hkm,hk0,hks⟩:=hn';obtain⟨o1,dR,rfl, -⟩:=vC;obtain⟨ov,ajR,rfl⟩:=aH hown;obtain⟨i0,hi,hz0,hz1,hz2⟩:=info_parts VP;have hB:=hb.size;have hx0:=cZ W #[.string ⟨nm.toArray⟩,.slice o1 ats.length dR,.slice ok ks.length dW] 25;have k0:=FK.al (B:=W0.heap.size) W (.cells #[.string ⟨nm.toArray⟩,.slice o1 ats.length dR,.slice ok ks.length dW] 25) hB;have hown1:=World.ownsRow.alloc hown (.cells #[.string ⟨nm.toArray⟩,.slice o1 ats.length dR,.slice ok ks.length dW] 25);have n0:=aF hx0 0 (.string ⟨nm.toArray⟩) rfl;have n1:=aF hx0 1 (.slice o1 ats.length dR) rfl;have z0:=k0.low.size;unfold fe;by_cases hlg:150<L.length
 ·have abU:150<(L.length:Int):=by omega
  go_enter func22,ntmps22;go_wp2_with(at_make;refine wpList_make_full _ rfl _ _ 28 rfl W0.heap.size 63 i0 _ 4 underlying28 hi hz0 hz1 _ _ 151 151 151 rfl rfl rfl rfl (by rw[hz2];decide) (by decide) (by omega) ?_;intro w1 hown2 hgrow);go_ret;simp only[World.size_alloc] at hown2;exact⟨_,151,_,rfl,hown2,by decide,k0.trans (FK.VO hgrow (by omega)),.inl ⟨by decide,.inl (by omega)⟩⟩
 have abU:(L.length:Int)<=150:=by omega
 by_cases hdp:15<deep
 ·have abV:15<(deep:Int):=by omega
  go_enter func22,ntmps22;go_wp2_with(at_make;refine wpList_make_full _ rfl _ _ 28 rfl W0.heap.size 63 i0 _ 4 underlying28 hi hz0 hz1 _ _ 151 151 151 rfl rfl rfl rfl (by rw[hz2];decide) (by decide) (by omega) ?_;intro w1 hown2 hgrow);go_ret;simp only[World.size_alloc] at hown2;exact⟨_,151,_,rfl,hown2,by decide,k0.trans (FK.VO hgrow (by omega)),.inl ⟨by decide,.inr (fun h=>by unfold sh at h;omega)⟩⟩
 ·have abV:(deep:Int)<=15:=by omega
  have a6S:(ks.length:Int)<=9223372036854775807:=by rw[bq] at hkm;omega
  have HKS:=aj hks;have IH:=aj ih;have HN:=aj hn;clear hks ih hn hown;go_enter func22,ntmps22;go_upto_region 4 with fail;obtain⟨V,hV⟩:∃V,W.alloc (.cells #[.string ⟨nm.toArray⟩,.slice o1 ats.length dR,.slice ok ks.length dW] 25)=V:=⟨_,rfl⟩;rw[hV] at hx0 k0 hown1 n0 n1 z0⊢;clear hV;have zV:W0.heap.size<=V.heap.size:=Nat.le_trans hB z0;go_wp2_with(at_builtin;refine wpList_append_own _ rfl _ _ 28 rfl W0.heap.size 63 i0 (.agg #[.string ⟨#[]⟩,.slice none 0 0,aa 0,aa 0]) 4 56 underlying28 hi hz0 hz1 hz2 rfl (by decide) _ _ _ rfl (World.ownsRow.alloc hown1 _) ⟨V.heap.size,0,none⟩ 1 1 [.string ⟨nm.toArray⟩,.slice o1 ats.length dR,aa parent,aa deep] rfl rfl (Mr V _ _ _ _ _) (fun u hu=>by simp at hu;rcases hu with rfl|rfl|rfl|rfl<;>rfl) (by rw[bq];omega) (by omega) (by simp;omega) ?_;intro v2 w2 hown2 hgrow2 _);have KV:FK W0.heap.size V w2:=(FK.al V _ zV).trans (FK.grown (World.ownsRow.alloc hown1 _) hgrow2 (by simp;omega));have a7U:Hid (w2.ownsRow W0.heap.size 63 4 v2 (L++[(⟨nm,.slice o1 ats.length dR,parent,deep⟩:yU)]).length (gJ (L++[⟨nm,.slice o1 ats.length dR,parent,deep⟩]))):=(by rw[Jt,List.length_append];exact hown2:w2.ownsRow W0.heap.size 63 4 v2 (L++[(⟨nm,.slice o1 ats.length dR,parent,deep⟩:yU)]).length (gJ (L++[⟨nm,.slice o1 ats.length dR,parent,deep⟩])));have HR0:Hid (mZ W0 [⟨nm,.slice o1 ats.length dR,parent,deep⟩] [⟨nm,ats,parent,deep⟩]):=(by
   have:=HN.out;unfold jX at this;exact⟨⟨rfl,this.2.2.1,rfl,rfl,hl⟩,trivial⟩:mZ W0 [⟨nm,.slice o1 ats.length dR,parent,deep⟩] [⟨nm,ats,parent,deep⟩])
  have hx1:=KV.box hx0 (by decide);have KW:=k0.trans KV;clear hown2 hgrow2 hown1 n0 n1
  go_loopw [10,11] (fun u y wr=>∃(i:Nat) (M:List yU),i<=ks.length/\y=aa i/\wr.ownsRow W0.heap.size 63 4 u (L++M).length (gJ (L++M))/\(L++M).length<=151/\FK W0.heap.size w2 wr/\mZ W0 M (⟨nm,ats,parent,deep⟩::Cx (L.length+1) L.length (deep+1) (ks.take i))/\(∀k∈ks.take i,sh (deep+1) k)) (fun _ y _=>ks.length-(intOf y).toNat)
  case atStart=>exact⟨0,_,Nat.zero_le _,rfl,a7U.out,by simp;omega,FK.refl _ _,by simpa[Cx] using HR0.out,by simp⟩
  case round=>
   obtain⟨i,M,hi',rfl,hoM,hlM,hkM,hRM,hsM⟩:=hrel;have HSM:=aj hsM;clear hsM;have HOM:=aj hoM;have HRM:=aj hRM;clear hoM hRM;have bR:Below W0.heap.size W0 wr:=(hb.trans KW.low).trans hkM.low;have hx2:=hkM.box hx1 (by decide);have m2:=aF hx2 2 (.slice ok ks.length dW) rfl;by_cases hlt:i<ks.length
   ·have hlt':(i:Int)<(ks.length:Int):=by omega
    obtain⟨kid,hx, -⟩:=drop_at hlt;obtain⟨b',off',d0,d1,d2,rfl,e0,e1,e2,wY⟩:=HKS.out.get hx;rw[Nat.zero_add] at e0 e1 e2;have HI:=IH.out kid (List.mem_of_getElem? hx);have j0:=(bR.cell (az e0)).trans e0;have j1:=(bR.cell (az e1)).trans e1;have j2:=(bR.cell (az e2)).trans e2;have HC:=HI d0 d1 d2 (L++M) u10 L.length (deep+1) wr wY bR HOM.out hlM (by omega);rw[show((deep+1:Nat):Int)=(deep:Int)+1 from by omega] at HC;have HX:=aj hx;clear HI e0 e1 e2 hx wY;go_wp2_with(go_at_call 22;refine HC.mono ?_;rintro e w3 ⟨v3,m3,cs3,rfl,ho3,hm3,hk3,hr3⟩;obtain⟨o3,ajT,rfl⟩:=aH ho3)
    ·go_ret;have hl1:=HRM.out.len;have e1:(L++M).length=L.length+1+(Cx (L.length+1) L.length (deep+1) (ks.take i)).length:=by rw[List.length_append,hl1];simp;omega
     refine⟨_,m3,cs3,rfl,ho3,hm3,(KW.trans hkM).trans hk3,.inl ⟨by omega,?_⟩⟩;rcases hr3 with⟨-,h3|h3⟩|⟨M',rfl, -,h3, -⟩
     ·exact Q9 HX.out e1 h3
     ·exact Xh HX.out h3
     ·have h4:150<(L++M++M').length:=by omega
      have h5:=h3.len;rw[show(L++M++M').length=(L++M).length+M'.length from List.length_append] at h4;exact Q9 HX.out e1 (by omega)
    ·go_roundw
     case rel=>
      rcases hr3 with h3|⟨M',rfl,rfl,hR,hsk⟩
      ·exact absurd h3.1 (by omega)
      ·refine⟨i+1,M++M',by omega,by go_num,by rw[<- List.append_assoc];exact ho3,by rw[<- List.append_assoc];exact hm3,hkM.trans hk3,?_,fun k hk=>by
        rw[List.take_add_one,HX.out,List.mem_append] at hk;rcases hk with hk|hk
        ·exact HSM.out k hk
        ·simp at hk;rw[hk];exact hsk⟩
       have hl1:=HRM.out.len;have e1:(L++M).length=L.length+1+(Cx (L.length+1) L.length (deep+1) (ks.take i)).length:=by rw[List.length_append,hl1];simp;omega
       rw[e1] at hR;rw[Ju HX.out];exact mZ.app HRM.out hR
     case measure=>simp[intOf];omega
   ·obtain rfl:i=ks.length:=by omega
    have HT:Hid (mZ W0 M (vZ L.length parent deep (.mk nm ats ks))):=(by have:=HRM.out;rw[List.take_length] at this;rw[vZ];exact this:mZ W0 M (vZ L.length parent deep (.mk nm ats ks)));go_wp2_with fail;go_ret;have HS2:sh deep (.mk nm ats ks):=by
     unfold sh;refine⟨by omega,Xg ?_⟩;have:=HSM.out;rwa[List.take_length] at this
    exact⟨_,_,_,rfl,HOM.out,hlM,KW.trans hkM,.inr ⟨M,rfl,rfl,HT.out,HS2⟩⟩
def nu:Nat->List (Bs×Bs)->Option Nat
  |many,[]=>some many
  |many,a::r=>if 100<a.1.length\/300<a.2.length then none else nu (many+a.1.length+a.2.length) r
def oh:Nat->List Fl->Bool
  |_,[]=>true
  |many,f::r=>if 100<f.name.length\/20<f.attrs.length then false else match nu (many+f.name.length) f.attrs with
    |none=>false
    |some m=>if 4000<m then false else oh m r
def Fit (n:Nd):Prop:=(vZ 0 (-1) 1 n).length<=150/\sh 1 n/\oh 0 (vZ 0 (-1) 1 n)=true
theorem Qa {many:Nat}{a:Bs×Bs}{r:List (Bs×Bs)}(h:100<a.1.length\/300<a.2.length):nu many (a::r)=none:=by rw[nu,if_pos h]
theorem a0t {many:Nat}{a:Bs×Bs}{r:List (Bs×Bs)}(h1:¬100<a.1.length)(h2:¬300<a.2.length):nu many (a::r)=nu (many+a.1.length+a.2.length) r:=by rw[nu,if_neg (by rintro(h|h)<;>contradiction)]
theorem Qb {many:Nat}{f:Fl}{r:List Fl}(h:100<f.name.length\/20<f.attrs.length):oh many (f::r)=false:=by rw[oh,if_pos h]
theorem a3M {many:Nat}{f:Fl}{r:List Fl}(h:nu (many+f.name.length) f.attrs=none):oh many (f::r)=false:=by
  rw[oh,h];split<;>rfl
theorem a3N {many m:Nat}{f:Fl}{r:List Fl}(h:nu (many+f.name.length) f.attrs=some m)(hm:4000<m):oh many (f::r)=false:=by
  rw[oh,h];split
  · rfl
  · simp[hm]
theorem a0u {many m:Nat}{f:Fl}{r:List Fl}(h1:¬100<f.name.length)(h2:¬20<f.attrs.length)(h:nu (many+f.name.length) f.attrs=some m)(hm:¬4000<m):oh many (f::r)=oh m r:=by
  rw[oh,h,if_neg (by rintro(h|h)<;>contradiction)];simp[hm]
def FlF (W:ag)(n:Nd)(v:ah)(w:ag):Prop:=(¬Fit n/\v=.slice none 0 0)\/(Fit n/\∃M g cap,v=.slice (some ⟨g,0,none⟩) M.length cap/\0<M.length/\M.length<=150/\M.length<=cap/\Xf w g M/\mZ W M (vZ 0 (-1) 1 n))
theorem K8 (n:Nd)(c0 c1 c2:ah)(W:ag)(hn:jX W c0 c1 c2 n):
    ax 7 #[.agg #[c0,c1,c2]] W fun e w'=>Below W.heap.size W w'/\∃v,e=.returned v/\FlF W n v w':=by
  have HF:=Sw W n;unfold a7T at HF;have hn':=hn;obtain⟨nm,ats,ks⟩:=n;unfold jX at hn';obtain⟨rfl, -,⟨o1,dR,rfl, -⟩,ok,dW,rfl, -⟩:=hn';generalize hN:Nd.mk nm ats ks=n at hn HF⊢;clear hN;unfold fe at*;have b1:=di W (.cells #[.string ⟨nm.toArray⟩,.slice o1 ats.length dR,.slice ok ks.length dW] 25);have n0:=gP W #[.string ⟨nm.toArray⟩,.slice o1 ats.length dR,.slice ok ks.length dW] 25 0 (.string ⟨nm.toArray⟩) rfl;have n1:=gP W #[.string ⟨nm.toArray⟩,.slice o1 ats.length dR,.slice ok ks.length dW] 25 1 (.slice o1 ats.length dR) rfl;have n2:=gP W #[.string ⟨nm.toArray⟩,.slice o1 ats.length dR,.slice ok ks.length dW] 25 2 (.slice ok ks.length dW) rfl;have HC:=HF _ _ _ [] (.slice none 0 0) (-1) 1 _ hn b1 (World.ownsRow_nil _ _ _ _) (by decide) (by decide);clear HF;go_enter func7,ntmps7;go_upto_region 3 with(go_at_call 22;refine HC.mono ?_;rintro e w1 ⟨v1,m1,cs1,rfl,ho1,hm1,hk1,hr1⟩;obtain⟨o2,cap2,rfl⟩:=aH ho1);have abW:(m1:Int)<=151:=by omega
  have bw:=b1.trans hk1.low;by_cases hbig:150<m1
  · have hbig':150<(m1:Int):=by omega
    have Xi:Hid (¬Fit n):=(fun hfit=>by
      rcases hr1 with⟨-,h|h⟩|⟨M,rfl, -,h, -⟩
      · have:=hfit.1;simp at h;omega
      · exact h hfit.2.1
      · have:=hfit.1;have:=h.len;simp at*;omega:¬Fit n)
    go_wp2_with fail;go_ret;exact⟨bw,_,rfl,.inl ⟨Xi.out,rfl⟩⟩
  · have hbig':(m1:Int)<=150:=by omega
    rcases hr1 with h|⟨M,rfl,rfl,hR,hsh⟩
    · exact absurd h.1 hbig
    simp only[List.nil_append,List.length_nil] at ho1 hR hbig'⊢;have hp:0<M.length:=by
      rw[hR.len];obtain⟨f,r,e, -⟩:=UQ 0 (-1) 1 n;rw[e];simp
    obtain⟨g,cap,hv,hg,hcap,hrow⟩:=row_of ho1 hp;simp only[Value.slice.injEq,true_and] at hv;obtain⟨rfl,rfl⟩:=hv;have a7W:=aj hrow;have HR:=aj hR;have HSH:=aj hsh;clear hsh;clear hrow hR ho1 HC n0 n1 n2 b1 hk1 hm1 abW;go_wp2_with fail
    go_loopw [4,5] (fun x y wr=>∃many i:Nat,x=aa many/\y=aa i/\many<=4000/\i<=M.length/\oh 0 (vZ 0 (-1) 1 n)=oh many ((vZ 0 (-1) 1 n).drop i)/\Below w1.heap.size w1 wr) (fun _ y _=>M.length-(intOf y).toNat)
    case atStart=>exact⟨0,0,rfl,rfl,by decide,Nat.zero_le _,rfl,Below.refl _ _⟩
    case round=>
      obtain⟨many,i,rfl,rfl,hmy,hi,hfl,hbr⟩:=hrel;have HFL:=aj hfl;clear hfl;have bW:Below W.heap.size W wr:=bw.trans (hbr.mono bw.size);by_cases hlt:i<M.length
      · have hlt':(i:Int)<(M.length:Int):=by omega
        obtain⟨x,hx, -⟩:=drop_at hlt;obtain⟨r0,r1, -, -⟩:=a7W.out i x hx;obtain⟨f,hLf,hfn,hfa, -⟩:=HR.out.get hx;have hdr:(vZ 0 (-1) 1 n).drop i=f::(vZ 0 (-1) 1 n).drop (i+1):=by
          obtain⟨y,hy,hd⟩:=drop_at (l:=vZ 0 (-1) 1 n) (k:=i) (by rw[<- HR.out.len];exact hlt);rw[hLf] at hy;cases hy;exact hd
        have HDR:=aj hdr;have Zc:=aj hfn;have YH:Hid (oh many ((vZ 0 (-1) 1 n).drop i)=false->¬Fit n):=(fun h hfit=>by have:=hfit.2.2;rw[HFL.out,h] at this;exact absurd this (by simp):oh many ((vZ 0 (-1) 1 n).drop i)=false->¬Fit n);clear hdr hLf hfn;have q0:=(hbr.cell (az r0)).trans r0;have q1:=(hbr.cell (az r1)).trans r1;obtain⟨oa,ajV,hxc,ha1,ha2, -,ha4⟩:=hfa;rw[hxc] at q1;have HA4:=aj ha4;clear r0 r1 hx hxc ha4;have hla:(f.attrs.length:Int)<=9223372036854775807:=by rw[bq] at ha2;omega
        by_cases g1:100<x.nm.length
        · have g1':100<(x.nm.length:Int):=by omega
          have Xi:Hid (¬Fit n):=YH.out (by rw[HDR.out];exact Qb (.inl (by rw[<- Zc.out];exact g1)));go_wp2_with fail;go_ret;exact⟨bW,_,rfl,.inl ⟨Xi.out,rfl⟩⟩
        · have g1':(x.nm.length:Int)<=100:=by omega
          by_cases g2:20<f.attrs.length
          · have g2':20<(f.attrs.length:Int):=by omega
            have Xi:Hid (¬Fit n):=YH.out (by rw[HDR.out];exact Qb (.inr g2));go_wp2_with fail;go_ret;exact⟨bW,_,rfl,.inl ⟨Xi.out,rfl⟩⟩
          · have g2':(f.attrs.length:Int)<=20:=by omega
            go_wp2_with fail;obtain⟨wa,rfl⟩:∃V,V=wr:=⟨_,rfl⟩
            go_loopw [4,6] (fun x' y wq=>∃my k:Nat,x'=aa my/\y=aa k/\my<=4100+400*k/\k<=f.attrs.length/\nu (many+x.nm.length) f.attrs=nu my (f.attrs.drop k)/\Below wa.heap.size wa wq) (fun _ y _=>f.attrs.length-(intOf y).toNat)
            case atStart=>exact⟨many+x.nm.length,0,by go_num,rfl,by omega,Nat.zero_le _,rfl,Below.refl _ _⟩
            case round=>
              obtain⟨my,k,rfl,rfl,hm2,hk2,a7X,hbq⟩:=hrel;have HFA:=aj a7X;clear a7X;have bQ:Below W.heap.size W wr:=bW.trans (hbq.mono bW.size);have p1:=(hbq.cell (az q1)).trans q1;have ajX:(my:Int)<=20000:=by omega
              by_cases hlk:k<f.attrs.length
              · have ajY:(k:Int)<(f.attrs.length:Int):=by omega
                obtain⟨a,hxa,hda⟩:=drop_at hlk;have HDA:=aj hda;have HNA:Hid (nu my (f.attrs.drop k)=none->¬Fit n):=(fun h=>YH.out (by rw[HDR.out];exact a3M (by rw[<- Zc.out,HFA.out];exact h)):nu my (f.attrs.drop k)=none->¬Fit n);clear hda;obtain⟨b',off',rfl,d0,d1, -, -⟩:=HA4.out k a hxa;have j0:=(bQ.cell (az d0)).trans d0;have j1:=(bQ.cell (az d1)).trans d1;unfold fe at j0 j1;clear d0 d1 hxa;by_cases g3:100<a.1.length
                · have g3':100<(a.1.length:Int):=by omega
                  have Xi:Hid (¬Fit n):=HNA.out (by rw[HDA.out];exact Qa (.inl g3));go_wp2_with fail;go_ret;exact⟨bQ,_,rfl,.inl ⟨Xi.out,rfl⟩⟩
                · have g3':(a.1.length:Int)<=100:=by omega
                  by_cases g4:300<a.2.length
                  · have g4':300<(a.2.length:Int):=by omega
                    have Xi:Hid (¬Fit n):=HNA.out (by rw[HDA.out];exact Qa (.inr g4));go_wp2_with fail;go_ret;exact⟨bQ,_,rfl,.inl ⟨Xi.out,rfl⟩⟩
                  · have g4':(a.2.length:Int)<=300:=by omega
                    have acd:Hid (nu (many+x.nm.length) f.attrs=nu (my+a.1.length+a.2.length) (f.attrs.drop (k+1))):=(by rw[HFA.out,HDA.out];exact a0t g3 g4:nu (many+x.nm.length) f.attrs=nu (my+a.1.length+a.2.length) (f.attrs.drop (k+1)));go_upto_region 17 with fail
                    go_quiet (fail)
                    go_wp2_with fail
                    go_roundw
                    case rel=>exact⟨my+a.1.length+a.2.length,k+1,by go_num,by go_num,by omega,by omega,acd.out,Js _ hbq⟩
                    case measure=>simp[intOf];omega
              · obtain rfl:k=f.attrs.length:=by omega
                have HFE:Hid (nu (many+f.name.length) f.attrs=some my):=(by rw[<- Zc.out,HFA.out,List.drop_length];rfl:nu (many+f.name.length) f.attrs=some my);by_cases g5:4000<my
                · have g5':4000<(my:Int):=by omega
                  have Xi:Hid (¬Fit n):=YH.out (by rw[HDR.out];exact a3N HFE.out g5);go_wp2_with fail;go_ret;exact⟨bQ,_,rfl,.inl ⟨Xi.out,rfl⟩⟩
                · have g5':(my:Int)<=4000:=by omega
                  have ace:Hid (oh 0 (vZ 0 (-1) 1 n)=oh my ((vZ 0 (-1) 1 n).drop (i+1))):=(by rw[HFL.out,HDR.out];exact a0u (by rw[<- Zc.out];exact g1) g2 HFE.out g5:oh 0 (vZ 0 (-1) 1 n)=oh my ((vZ 0 (-1) 1 n).drop (i+1)));go_wp2_with fail
                  go_roundw
                  case rel=>exact⟨my,i+1,rfl,by go_num,by omega,by omega,ace.out,hbr.trans (hbq.mono hbr.size)⟩
                  case measure=>simp[intOf];omega
      · obtain rfl:i=M.length:=by omega
        go_wp2_with fail;go_ret;exact⟨bW,_,rfl,.inr ⟨⟨by rw[<- HR.out.len];omega,HSH.out,by rw[HFL.out,HR.out.len,List.drop_length];rfl⟩,M,g,cap2,rfl,hp,by omega,hcap,a7W.out.below hbr,HR.out⟩⟩
end
section
open Go.RowKit
theorem a0v (E:Nat->Addr)(n:Nd)(c0 c1 c2:ah)(W:ag)(hE:CE E W)(hn:jX W c0 c1 c2 n)(hs:gu n<=1000000)(hc:(iT n 1 0).1=0):
  ax 23 #[.agg #[c0,c1,c2]] W fun e w'=>Below W.heap.size W w'/\∃DB MB tg p,e=.returned (.tuple #[ay DB,.nilIface])/\aO W.heap.size tg w' DB MB p (jV n) (gu n) (gu n):=(Pn E n c0 c1 c2 W hE hn hs).mono fun e w' h=>⟨h.1,by
 rcases h.2 with h2|h2
 ·exact absurd hc h2.1
 ·exact h2.2⟩
theorem a3O (E:Nat->Addr)(n:Nd)(c0 c1 c2:ah)(W:ag)(hE:CE E W)(hn:jX W c0 c1 c2 n)(hs:gu n<=1000000)(hc:(iT n 1 0).1≠0):
  ax 23 #[.agg #[c0,c1,c2]] W fun e w'=>Below W.heap.size W w'/\∃pb,e=.returned (.tuple #[.pointer none,.iface 113 (ay pb)]):=(Pn E n c0 c1 c2 W hE hn hs).mono fun e w' h=>⟨h.1,by
 rcases h.2 with⟨-,pb,h2, -⟩|h2
 ·exact⟨pb,h2⟩
 ·exact absurd h2.1 hc⟩
end
section
open Go.RowKit
mutual
theorem Xj:∀(n:Nd) (deep ahead:Nat),(iT n deep ahead).1=0->(iT n deep ahead).2=ahead+gu n
 | .mk nm ats ks,deep,ahead,h=>by
  by_cases h1:ck1 nm ats deep ahead=0
  ·rw[Jp h1] at h⊢;rw[Xk ks _ _ h,gu];omega
  ·rw[iT,if_neg h1] at h;exact absurd h h1
theorem Xk:∀(l:List Nd) (deep ahead:Nat),(wo l deep ahead).1=0->(wo l deep ahead).2=ahead+jd l
 |[],_,ahead,_=>by rw[wo,jd];rfl
 |k::l,deep,ahead,h=>by
  by_cases h1:(iT k deep ahead).1=0
  ·rw[qy h1] at h⊢;rw[Xk l _ _ h,Xj k _ _ h1,jd];omega
  ·rw[vw h1] at h;exact absurd h h1
end
theorem a7Y (E:Nat->Addr)(n:Nd)(c0 c1 c2:ah)(W:ag)(hE:CE E W)(hn:jX W c0 c1 c2 n)(hs:gu n<=1000000)(hc:(iT n 1 0).1=0):
  ax 23 #[.agg #[c0,c1,c2]] W fun e w'=>Below W.heap.size W w'/\∃DB MB tg p,e=.returned (.tuple #[ay DB,.nilIface])/\dN W.heap.size tg w' DB MB p (jV n) (gu n) (gu n) (Um n):=by
 refine(a0v E n c0 c1 c2 W hE hn hs hc).mono ?_;rintro e w' ⟨hb,DB,MB,tg,p,rfl,hd⟩;have h1:=Xj n 1 0 hc;have h2:=Mo n 1 0 hc;exact⟨hb,DB,MB,tg,p,rfl,hd,Wd.new n (Xc n 1 0 hc),Cd.new n,by omega,hb.size⟩
section
variable {M:Dm}{r:Int->Nat}
def pI (M:Dm)(x:Int):Int:=match M x with|none=> -1|some e=>e.parent
end
end
section
section
variable {M M':Dm}{r r':Int->Nat}{n par:Int}
theorem vO.back (hv:vO M M' n par){y:Int}{e':dO}(h:M' y=some e')(hy:y≠n):∃e,M y=some e/\e'.parent=e.parent:=by
 cases hm:M y with
 |none=>rw[hv.non y hm] at h;exact absurd h (by simp)
 |some e=>
  obtain⟨x',h1,h2,_⟩:=hv.old y e hm;rw[h] at h1;cases h1;rw[if_neg hy] at h2;exact⟨e,rfl,h2⟩
theorem vO.below (hv:vO M M' n par){x:dO}(hn:M n=some x){y:Int}(h:Bl M' n y):Bl M n y:=by
 induction h with
 |self _=>exact .self hn
 | @kid y e' he h0 _ ih=>
  by_cases hy:y=n
  ·rw[hy];exact .self hn
  ·obtain⟨e,h1,h2⟩:=hv.back he hy;rw[h2] at ih;exact .kid h1 h0 ih
theorem vO.rank (hv:vO M M' n par)(h:Wd M r)(h':Wd M' r'){y:Int}(hb:Bl M' n y):r' y+r n=r y+r' n:=by
 induction hb with
 |self _=>omega
 | @kid y e' he h0 _ ih=>
  by_cases hy:y=n
  ·rw[hy];omega
  ·obtain⟨e,h1,h2⟩:=hv.back he hy;obtain⟨_,_,_,h3⟩:=h'.up y e' he h0;obtain⟨_,_,_,h4⟩:=h.up y e h1 h0;rw[h2] at ih h3;omega
theorem vO.deep (hv:vO M M' n par)(h:Wd M r)(h':Wd M' r'){f:Nat}{y dy:Int}(hm:(y,dy)∈pre M' f n 1){x:dO}(hn:M n=some x):dy+r n<=11:=by
 obtain⟨h1,h2⟩:=h'.qg f n 1 y dy hm;have h3:=hv.rank h h' h1;obtain⟨e,he⟩:=(hv.below hn h1).in_;have:=(h.rb y e he).2;omega
end
end
section
open Go.RowKit
section
variable {M M':Dm}{r r':Int->Nat}{n par:Int}
theorem vO.up (hv:vO M M' n par)(h:Wd M r){x:dO}(hn:M n=some x):∀(d:Nat) (y:Int),Up M y d->¬Bl M n y->Up M' y d
 |0,y,hu,_=>hv.non y hu
 |d+1,y,⟨e,he,hu⟩,hb=>by
  obtain⟨e',h1,h2,_⟩:=hv.old y e he;have hy:y≠n:=fun e1=>hb (by rw[e1];exact .self hn);rw[if_neg hy] at h2;refine⟨e',h1,?_⟩;rw[h2];refine hv.up h hn d _ hu fun hb'=>?_;by_cases h0:y=0
  ·subst h0;obtain⟨e0,h3,h4⟩:=h.root;rw[he] at h3;cases h3;obtain⟨z,hz⟩:=hb'.in_;rw[h4,h.neg _ (by decide)] at hz;exact absurd hz (by simp)
  ·exact hb (.kid he h0 hb')
end
section
variable {B:Nat}{tg gF:bf}{W w1:ag}{DB MB:Nat}{p:Int->Option Nat}{M:Dm}{nx c:Nat}{r r':Int->Nat}{n par:Int}{k:Nat}{x o q0 q:dO}
theorem Sy (h:dN B tg W DB MB p M nx c r)(hn:M n=some x)(h0:n≠0)(ho:M x.parent=some o)(hq0:M par=some q0)(hq:gK M n x o par=some q)(hpn:par≠n)(hd:dN B gF w1 DB MB p (iE M n par k x o q) nx c r')(a0:Nat)(ha:o.kids[a0]? =some n):
  ax 59 #[ay DB,aa n,aa x.parent,aa a0] w1 fun e w'=>e=.returned .nilIface/\KT gF w1 w'/\∃Np,(∀y,y<w1.heap.size->Np y=gF y)/\dN B Np w' DB MB p M nx c r:=by
 have hv:=h.d.a7R hn h0 ho hq0 hq hpn k;obtain⟨e',o',q',h1,h2,h3,h4,h5,h6,h7⟩:=h.d.back hn h0 ho hq0 hq hpn k a0 ha;obtain⟨M',hM'⟩:∃M',iE M n par k x o q=M':=⟨_,rfl⟩;rw[hM'] at hv hd h1 h3 h5 h7;clear hM';have hself:=h.d.vQ hn h0;obtain⟨o1,hq1,hk1⟩:∃o1,M' x.parent=some o1/\(q'.kids.length:Int)=if e'.parent=x.parent then(o1.kids.length:Int)-1 else o1.kids.length:=by
  obtain⟨o1,hq1,_⟩:=hv.old _ o ho;refine⟨o1,hq1,?_⟩;unfold gK bJ at h5;by_cases he:x.parent=e'.parent
  ·rw[if_pos he] at h5;rw[if_pos he.symm];have ho1:o'=o1:=by rw[he,h2,h3] at hq1;exact Option.some.inj hq1
   rw[<- ho1];have hno:n∈o'.kids:=by
    obtain⟨z,hz,hzm,_⟩:=hd.d.up n e' h1 h0;rw[h2,h3] at hz;cases hz;exact hzm
   have hl:=Q7 hno (hd.d.nodup _ o' h3);have h8:=Option.some.inj h5;rw[<- h8];show((um o'.kids n).length:Int)=_;omega
  ·rw[if_neg he] at h5;rw[if_neg (fun e1=>he e1.symm)];rw[hq1] at h5;rw[Option.some.inj h5]
 have hal:=(List.getElem?_eq_some_iff.1 ha).1;have hdp:=hd.d.dp 11 n e' h1 (by omega);have hl:=hd.count (d:=1) hdp;have hnot:x.parent ∉ dw M' 11 n:=fun hm=>h.d.Gq hn h0 (hv.below hn ((hd.d.mem hdp).1 hm));have Sz:=hd.few hq1;have hof:=h.few ho;have hu:=hv.up h.d hn (r x.parent) x.parent (h.d.deep _ _ o rfl ho) (h.d.Gq hn h0);obtain⟨_,_,_,hrn⟩:=h.d.up n x hn h0;have hrb:=(h.d.rb _ o ho).2;have hmo:jB (pre M' 11 n 1)<=10-(r x.parent:Int):=BG _ _ _ (by omega) fun z hz=>by
  have:=hv.deep h.d hd.d (y:=z.1) (dy:=z.2) hz hn;omega
 have hM:=JS hd.w n x.parent a0 e' o' o1 q' h1 h0 (by rw[h2];exact h3) h4 (by rw[h2];exact hpn) hq1 h5 hself 11 (by omega) hdp (by omega) hnot (by omega) (by omega) (by omega) (by omega) (r x.parent) hu (by omega) hd.d.most.1 hd.low;rw[h7] at hM;refine hM.mono ?_;rintro e w' ⟨rfl,hk,Np,ht,hdw⟩;exact⟨rfl,hk,Np,ht,hdw,h.d,h.n,h.le,Nat.le_trans hd.low hk.size⟩
end
section
variable {E:Nat->Addr}{B:Nat}{tg:bf}{W:ag}{DB MB:Nat}{p:Int->Option Nat}{M:Dm}{nx c:Nat}{r:Int->Nat}
theorem uq (h:aO B tg W DB MB p M nx c)(n:Int)(hn:bA n):ax 91 #[ay DB,aa n] W fun e w'=>e=.returned (aa (pI M n))/\w'=W:=by
 have h1:=AJ h n hn;unfold pI;cases hm:M n with
 |none=>rw[hm] at h1;exact h1
 |some e=>rw[hm] at h1;exact h1
end
end
section
open Go.RowKit Go.Shelf
set_option maxRecDepth 20000
section
variable {B:Nat}{tg:bf}{W:ag}{DB MB:Nat}{p:Int->Option Nat}{M:Dm}{nx c:Nat}{r:Int->Nat}
theorem Nq {M:Dm}{k:Nat}{m:Int}{e:dO}(he:M m=some e):iG M (k+1) m=if e.parent<0 then[] else e.parent::iG M k e.parent:=by
 rw[iG,he]
theorem ET (g:Int->Bool){k:Nat}{m:Int}{e:dO}(he:M m=some e):(iG M (k+1) m).any g=(decide (0<=e.parent) && (g e.parent||(iG M k e.parent).any g)):=by
 rw[Nq he];by_cases hp:e.parent<0
 ·rw[if_pos hp,decide_eq_false (by omega)];rfl
 ·rw[if_neg hp,decide_eq_true (by omega)];simp
def mz (r:Int->Nat)(x:Int):Nat:=if 0<=x then r x+1 else 0
theorem Xl {r:Int->Nat}{x:Int}(h:0<=x):mz r x=r x+1:=by unfold mz;rw[if_pos h]
theorem a3P {r:Int->Nat}{x:Int}(h:¬0<=x):mz r x=0:=by unfold mz;rw[if_neg h]
theorem Dr (h:aO B tg W DB MB p M nx c)(hw:Wd M r)(n:Int)(hn:bA n)(g:Int->Bool)(lb:Array ah)(PT PA:Nat)(hlb:lb=#[ay PT,ay PA])
  (hg:∀m V,bA m->Below W.heap.size W V->ax 189 #[aa m,ay PT,ay PA] V fun e w'=>e=.returned (.bool (g m))/\Below V.heap.size V w'):
  ax 188 #[ay DB,aa n,.func (.func 189) #[] lb] W fun e w'=>e=.returned (.bool ((iG M 11 n).any g))/\Below W.heap.size W w':=by
 subst hlb;have PN:=uq h n hn;have HW:=aj hw;have HG:=aj hg;have HH:=aj h;have hwp:bA (pI M n):=by
  unfold pI;cases hm:M n with
  |none=>exact WalkArith.wf_i64 (by decide)
  |some e=>exact(h.wf n e hm).1
 have h0:(iG M 11 n).any g=(decide (0<=pI M n) && (g (pI M n)||(iG M 10 (pI M n)).any g))/\(0<=pI M n->∃e,M (pI M n)=some e/\r (pI M n)<=10):=by
  unfold pI;cases hm:M n with
  |none=>
   refine⟨?_,fun hh=>absurd hh (by decide)⟩;rw[iG,hm];rfl
  |some e=>
   refine⟨ET g hm,fun hh=>?_⟩;by_cases hn0:n=0
   ·subst hn0;obtain⟨e0,h1,h2⟩:=hw.root;rw[hm] at h1;cases h1;have hh':0<=e.parent:=hh;omega
   ·obtain⟨q,hq, -, -⟩:=hw.up n e hm hn0;exact⟨q,hq,(hw.rb _ q hq).2⟩
 obtain⟨T,hT⟩:∃T,(iG M 11 n).any g=T:=⟨_,rfl⟩;rw[hT] at h0⊢;have HT0:=aj h0;clear hT h0 hg hw h;go_enter func188,ntmps188;go_wp2_with(go_at_call 91;refine PN.mono ?_;rintro e w1 ⟨rfl,h1⟩;rw[h1];clear h1)
 go_loopw [1] (fun y wr=>∃(m:Int) (k:Nat),y=aa m/\T=(decide (0<=m) && (g m||(iG M k m).any g))/\(0<=m->∃e,M m=some e/\r m<=k)/\bA m/\Below W.heap.size W wr) (fun y _=>mz r (intOf y))
 case atStart=>exact⟨pI M n,10,rfl,HT0.out.1,HT0.out.2,hwp,Below.refl _ _⟩
 case round=>
  obtain⟨m,k,rfl,hT,hk,hwm,hb⟩:=hrel;by_cases hm0:0<=m
  ·obtain⟨e,he,hrk⟩:=hk hm0;have hrb:=(HW.out.rb m e he).1;obtain⟨k',rfl⟩:∃k',k=k'+1:=⟨k-1,by omega⟩;have GM:=HG.out m wr hwm hb;have a7Z:=HH.out.below hb;have PM:=fun V (hv:Below wr.heap.size wr V)=>uq (a7Z.below hv) m hwm;have hpe:pI M m=e.parent:=by unfold pI;rw[he]
   rw[hpe] at PM;have hwe:=(a7Z.wf m e he).1;rw[decide_eq_true hm0,ET g he] at hT;have hup:0<=e.parent->∃q,M e.parent=some q/\r e.parent<=k'/\r e.parent<r m:=fun hh=>by
    by_cases hz:m=0
    ·subst hz;obtain⟨e0,h1,h2⟩:=HW.out.root;rw[he] at h1;cases h1;omega
    ·obtain⟨q,hq, -,hr⟩:=HW.out.up m e he hz;exact⟨q,hq,by omega,by omega⟩
   have HUP:=aj hup;cases hgm:g m with
   |true=>
    rw[hgm] at GM hT;have HT:Hid (T=true):=(by rw[hT];rfl:T=true);clear hT hk hup;go_wp2_with(go_at_call 189;refine GM.mono ?_;rintro e' w2 ⟨rfl,b2⟩);go_ret;exact⟨by rw[HT.out];rfl,aG hb b2⟩
   |false=>
    rw[hgm] at GM hT;have HT:Hid (T=(decide (0<=e.parent) && (g e.parent||(iG M k' e.parent).any g))):=(by rw[hT];simp:T=(decide (0<=e.parent) && (g e.parent||(iG M k' e.parent).any g)));clear hT hk hup hpe;go_wp2_with(first|(go_at_call 189;refine GM.mono ?_;rintro e' w2 ⟨rfl,b2⟩)|(go_at_call 91;refine(PM _ b2).mono ?_;rintro e' w3 ⟨rfl,h3⟩;rw[h3];clear h3))
    go_roundw
    case rel=>exact⟨e.parent,k',rfl,HT.out,fun hh=>by obtain⟨q,h1,h2, -⟩:=HUP.out hh;exact⟨q,h1,h2⟩,hwe,aG hb b2⟩
    case measure=>
     show mz r e.parent<mz r m;rw[Xl hm0];by_cases GY:0<=e.parent
     ·obtain⟨q, -, -,h3⟩:=HUP.out GY;rw[Xl GY];omega
     ·rw[a3P GY];omega
  ·rw[decide_eq_false hm0] at hT;have HT:Hid (T=false):=(by rw[hT];rfl:T=false);clear hT hk;go_wp2_with fail;go_ret;exact⟨by rw[HT.out];rfl,hb⟩
end
abbrev Nr (PD PT:Nat):ah:=.func (.func 186) #[] #[ay PD,ay PT]
def a81 (M:Dm)(f:Nat)(a:Bs)(n:Int):Lk->Bool
 | .no=>true
 | .right=>D9 M f a (pI M n)
 | .below=>(iG M 11 n).any (D9 M f a)
theorem SG (M:Dm)(f:Nat){t a b:Bs}{k:Lk}(h:oU t=(a,k,b))(n:Int):D9 M (f+1) t n=(Ii M b n && a81 M f a n k):=by
 rw[D9,h];cases k<;>rfl
section
variable {B:Nat}{tg:bf}{W:ag}{DB MB:Nat}{p:Int->Option Nat}{M:Dm}{nx c:Nat}{r:Int->Nat}
theorem SK (PD PT PA:Nat)(a:Bs)(m:Int)(V:ag)(res:Bool)(h1:V.cell? (ak PT 0)=some (Nr PD PT))(h2:V.cell? (ak PA 0)=some (bV a))
  (IH:ax 186 #[bV a,aa m,ay PD,ay PT] V fun e w'=>e=.returned (.bool res)/\Below V.heap.size V w'):
  ax 189 #[aa m,ay PT,ay PA] V fun e w'=>e=.returned (.bool res)/\Below V.heap.size V w':=by
 go_enter func189,ntmps189;go_wp2_with(go_at_call 186;refine IH.mono ?_;rintro e w1 ⟨rfl,hb1⟩);go_ret;exact⟨rfl,hb1⟩
theorem Qc (h:aO B tg W DB MB p M nx c)(hw:Wd M r)(hF:Dn M)(PD PT:Nat)(h1:W.cell? (ak PD 0)=some (ay DB))(h2:W.cell? (ak PT 0)=some (Nr PD PT)):
  ∀(f:Nat) (t:Bs) (n:Int) (V:ag),t.length<f->t.length<=1000000->bA n->Below W.heap.size W V->
  ax 186 #[bV t,aa n,ay PD,ay PT] V fun e w'=>e=.returned (.bool (D9 M f t n))/\Below V.heap.size V w'
 |0,_,_,_,hf,_,_,_=>by omega
 |f+1,t,n,V,hf,htl,hn,hb=>by
  have HIH:Hid (∀(t:Bs) (n:Int) (V:ag),t.length<f->t.length<=1000000->bA n->Below W.heap.size W V->ax 186 #[bV t,aa n,ay PD,ay PT] V fun e w'=>e=.returned (.bool (D9 M f t n))/\Below V.heap.size V w'):=Qc h hw hF PD PT h1 h2 f;obtain⟨a,k,b,hc⟩:∃a k b,oU t=(a,k,b):=⟨_,_,_,rfl⟩;have hbl:b.length<=1000000:=Nat.le_trans (Ee hc) htl;have CU:=Gh t a b k hc htl V;rw[SG M f hc];have HH:=aj h;have SF:=fun X (hx:Below W.heap.size W X)=>Gp (HH.out.below hx) hF n hn b hbl;obtain⟨fs,hfs⟩:∃fs,Ii M b n=fs:=⟨_,rfl⟩;rw[hfs] at SF⊢;have HAL:Hid (k≠.no->a.length<f/\a.length<=1000000):=(fun hk=>by have:=mV hc hk;omega:k≠.no->a.length<f/\a.length<=1000000);have HB:=aj hb;clear hfs hc h hb;cases fs with
  |false=>
   go_enter func186,ntmps186;go_wp2_with(first|(go_at_call 172;refine CU.mono ?_;rintro e w1 ⟨rfl,b1⟩;have b2:=b1.alloc b1.size (.cells #[bV a] 9);have B2:=HB.out.trans (b2.mono HB.out.size);have q1:=(B2.cell (az h1)).trans h1)|(go_at_call 187;refine(SF _ B2).mono ?_;rintro e w2 ⟨rfl,b3⟩));go_ret;exact⟨rfl,aG b2 b3⟩
  |true=>
   go_enter func186,ntmps186;go_upto_region 4 with(first|(go_at_call 172;refine CU.mono ?_;rintro e w1 ⟨rfl,b1⟩;have b2:=b1.alloc b1.size (.cells #[bV a] 9);have B2:=HB.out.trans (b2.mono HB.out.size);have q1:=(B2.cell (az h1)).trans h1)|(go_at_call 187;refine(SF _ B2).mono ?_;rintro e w2 ⟨rfl,b3⟩));have hA:=World.alloc_heap_new w1 (.cells #[bV a] 9);have hA2:=dL b3 hA;have cA:=bG hA2;have b4:=aG b2 b3;have B4:=HB.out.trans (b4.mono HB.out.size);have q2:=(B4.cell (az h1)).trans h1;have q3:=(B4.cell (az h2)).trans h2;obtain⟨PA,hPA⟩:∃PA,w1.heap.size=PA:=⟨_,rfl⟩;rw[hPA] at cA⊢;clear hA hA2 hPA b3 q1;cases k with
   |no=>
    go_wp2_with fail;go_ret;exact⟨rfl,b4⟩
   |right=>
    have PN:=fun X (hx:Below W.heap.size W X)=>uq (HH.out.below hx) n hn;have hwp:bA (pI M n):=by
     unfold pI;cases hm:M n with
     |none=>exact WalkArith.wf_i64 (by decide)
     |some e=>exact(HH.out.wf n e hm).1
    have hal:=HAL.out (by simp);have PW:=PN w2.drew B4.drew;have IH:=HIH.out a (pI M n) w2.drew hal.1 hal.2 hwp B4.drew;go_upto_region 6 with fail
    go_region_with ((first|(go_at_call 91;refine PW.mono ?_;rintro e w3 ⟨rfl,h3⟩;rw[h3];clear h3)|(go_at_call 186;refine IH.mono ?_;rintro e w4 ⟨rfl,b5⟩)))
    all_goals go_wp2_with fail
    all_goals go_ret
    all_goals exact⟨by rw[Bool.true_and];rfl,aG b4.drew b5⟩
   |below=>
    have hal:=HAL.out (by simp);have SA:=Dr (HH.out.below B4) hw n hn (D9 M f a) _ PT PA rfl (fun m X hm hx=>SK PD PT PA a m X _ ((hx.cell (az q3)).trans q3) ((hx.cell (az cA)).trans cA) (HIH.out a m X hal.1 hal.2 hm (B4.trans (hx.mono B4.size))));go_wp2_with(go_at_call 188;refine SA.mono ?_;rintro e w3 ⟨rfl,b5⟩);go_ret;exact⟨by rw[Bool.true_and];rfl,aG b4 b5⟩
end
end
section
open Go.RowKit Go.Shelf
set_option maxRecDepth 20000
theorem Gr (P:Program)(w:ag)(a:Addr)(f:Fn)(x y:Array ah)(m:Mode):(store a (.func f x y) m).run P w=stored P w a (.func f x y) m:=run_store P w a _ m rfl
attribute [local go_sem] Gr
section
variable {B:Nat}{tg:bf}{W:ag}{DB MB:Nat}{p:Int->Option Nat}{M:Dm}{nx c:Nat}{r:Int->Nat}
theorem Xm (h:aO B tg W DB MB p M nx c)(hw:Wd M r)(hF:Dn M)(s:Bs)(hs:s.length<=1000000)(hs0:s≠[])(n:Int)(hn:bA n):
  ax 138 #[.agg #[bV s],ay DB,aa n] W fun e w'=>e=.returned (.bool (a1E M s n))/\Below W.heap.size W w':=by
 have hem:s.isEmpty=false:=by
  cases s with
  |nil=>exact absurd rfl hs0
  |cons _ _=>rfl
 obtain⟨hS0,hD0,hT0,hsz0,b0⟩:=gp W (.cells #[bV s] 108) (.cells #[ay DB] 52) (.cells #[.nilFunc] 264);go_enter func138,ntmps138;go_upto_region 4 with fail;obtain⟨U,hU⟩:∃U,(((W.alloc (.cells #[bV s] 108)).alloc (.cells #[ay DB] 52)).alloc (.cells #[.nilFunc] 264))=U:=⟨_,rfl⟩;rw[hU] at hS0 hD0 hT0 hsz0 b0⊢;clear hU;have c1:=bG hT0;have f1:=fJ hT0;have hT1:=gq hT0 (Nr (W.heap.size+1) (W.heap.size+1+1));have hD1:(U.setCell ⟨W.heap.size+1+1,0,none⟩ (Nr (W.heap.size+1) (W.heap.size+1+1))).heap[W.heap.size+1]? =some (.cells #[ay DB] 52):=(Below.heap_setCell _ _ _ _ (by simp only;omega)).trans hD0;have hS1:(U.setCell ⟨W.heap.size+1+1,0,none⟩ (Nr (W.heap.size+1) (W.heap.size+1+1))).heap[W.heap.size]? =some (.cells #[bV s] 108):=(Below.heap_setCell _ _ _ _ (by simp only;omega)).trans hS0;have b1:Below W.heap.size W (U.setCell ⟨W.heap.size+1+1,0,none⟩ (Nr (W.heap.size+1) (W.heap.size+1+1))):=b0.setCell (by simp only;omega) _;go_upto_region 5 with fail;obtain⟨U1,ZW⟩:∃U1,U.setCell ⟨W.heap.size+1+1,0,none⟩ (Nr (W.heap.size+1) (W.heap.size+1+1))=U1:=⟨_,rfl⟩;rw[ZW] at hT1 hD1 hS1 b1⊢;clear ZW;have d1:=bG hT1;have d2:=bG hD1;have d3:=bG hS1;have TR:=Qc (h.below b1) hw hF (W.heap.size+1) (W.heap.size+1+1) d2 d1 (s.length+1) s n U1 (by omega) hs hn (Below.refl _ _);go_wp2_with(go_at_call 186;refine TR.mono ?_;rintro e w2 ⟨rfl,b2⟩);go_ret;exact⟨rfl,aG b1 b2⟩
end
end
section
open Go.RowKit Go.Shelf
set_option maxRecDepth 20000
theorem a0w {s:Bs}(h:nM s=true):s≠[]:=by
 intro e;subst e;revert h;decide
section
variable {B:Nat}{tg:bf}{W:ag}{DB MB:Nat}{p:Int->Option Nat}{M:Dm}{nx c:Nat}{r:Int->Nat}
theorem SN (h:aO B tg W DB MB p M nx c)(hw:Wd M r)(hF:Dn M)(x:Rl)(hx:Da x)(nm:Bs)(n:Int)(hn:bA n)(P1 P2 P3:Nat)(h1:W.cell? (ak P1 0)=some (bV nm))(h2:W.cell? (ak P2 0)=some (ay DB))(h3:W.cell? (ak P3 0)=some (aa n)):
  ax 137 #[rlV x,ay P1,ay P2,ay P3] W fun e w'=>e=.returned (.bool (mg M nm n x))/\Below W.heap.size W w':=by
 have n0:=cZ W #[bV x.wh,bV x.nm,bV x.vl] 110;have b0:=di W (.cells #[bV x.wh,bV x.nm,bV x.vl] 110);have FD:=fun V (hv:Below W.heap.size W V)=>Xm (h.below hv) hw hF x.wh hx.2.2.2 (a0w hx.1) n hn;have hq:=fD x.nm nm;unfold mg;go_enter func137,ntmps137;go_upto_region 1 with fail;obtain⟨V,hV⟩:∃V,W.alloc (.cells #[bV x.wh,bV x.nm,bV x.vl] 110)=V:=⟨_,rfl⟩;rw[hV] at n0 b0⊢;clear hV;have k1:=(b0.cell (az h1)).trans h1;have k2:=(b0.cell (az h2)).trans h2;have k3:=(b0.cell (az h3)).trans h3;have c0:=aF n0 0 _ rfl;have c1:=aF n0 1 _ rfl;have c2:=aF n0 2 _ rfl;have FD1:=FD V b0;clear FD;cases ha:(x.nm==nm) with
 |false=>
  rw[ha] at hq;go_wp2_with fail;go_ret;exact⟨by rw[ha];rfl,b0⟩
 |true=>
  rw[ha] at hq;go_wp2_with(go_at_call 138;refine FD1.mono ?_;rintro e w1 ⟨rfl,b1⟩);go_ret;exact⟨by rw[ha];rfl,aG b0 b1⟩
end
def WtG (x:Rl):Prop:=∀V,ax 185 #[.agg #[bV x.wh]] V fun e w'=>e=.returned (aa (Yz x.wh:Nat))/\Below V.heap.size V w'
def YI (x:Rl):Prop:=Da x/\WtG x/\∀(B:Nat) (tg:bf) (W:ag) (DB MB:Nat) (p:Int->Option Nat) (M:Dm) (nx c:Nat) (r:Int->Nat),aO B tg W DB MB p M nx c->Wd M r->Dn M->∀(nm:Bs) (n:Int),bA n->∀P1 P2 P3:Nat,W.cell? (ak P1 0)=some (bV nm)->W.cell? (ak P2 0)=some (ay DB)->W.cell? (ak P3 0)=some (aa n)->
 ax 137 #[rlV x,ay P1,ay P2,ay P3] W fun e w'=>e=.returned (.bool (mg M nm n x))/\Below W.heap.size W w'
theorem rlG {x:Rl}(h:Da x):YI x:=⟨h,fun V=>Nc x.wh h.2.2.2 V,fun _ _ _ _ _ _ _ _ _ _ hd hw hF nm n hn P1 P2 P3 h1 h2 h3=>SN hd hw hF x h nm n hn P1 P2 P3 h1 h2 h3⟩
theorem Gs (l:List Rl)(hok:∀x∈l,WtG x)(pf:Rl->Bool)(B0:Nat)(v:ah)(W:ag)(h:W.ownsRow B0 110 3 v l.length (dZ l))(P1 P2 P3:Nat)
  (hg:∀x V,x∈l->Below W.heap.size W V->ax 137 #[rlV x,ay P1,ay P2,ay P3] V fun e w'=>e=.returned (.bool (pf x))/\Below V.heap.size V w'):
  ax 136 #[v,.func (.func 137) #[] #[ay P1,ay P2,ay P3]] W fun e w'=>e=.returned (.tuple #[bV (Cy pf l).1,.bool (Cy pf l).2.1])/\Below W.heap.size W w':=by
 obtain⟨o,cap,JE,h1,h2,h3,h5⟩:=bS h;have hlen:(l.length:Int)<=9223372036854775807:=by rw[bq] at h2;omega
 have hcap:(l.length:Int)<=(cap:Int):=by omega
 have HR:=aj h;have HG:Hid _:=hg;have HK:=aj hok;have H5:=aj h5;subst JE;clear h hg h5 h3 hok;go_enter func136,ntmps136;go_wp2_with fail
 go_loopw [4,5,6,12] (fun a b m y wr=>∃k:Nat,k<=l.length/\y=aa k/\a=bV (Cy pf (l.take k)).1/\b=.bool (Cy pf (l.take k)).2.1/\m=aa (Cy pf (l.take k)).2.2/\Below W.heap.size W wr) (fun _ _ _ y _=>l.length-(intOf y).toNat)
 case atStart=>exact⟨0,Nat.zero_le _,rfl,rfl,rfl,rfl,Below.refl _ _⟩
 case round=>
  obtain⟨k,hk,rfl,rfl,rfl,rfl,hb⟩:=hrel;by_cases hlt:k<l.length
  ·have hlt':(k:Int)<(l.length:Int):=by omega
   obtain⟨x,hx⟩:∃x,l[k]? =some x:=⟨_,List.getElem?_eq_getElem hlt⟩;obtain⟨q0,q1,q2⟩:=EO hx;obtain⟨g,hgb,c0⟩:=bO (aP HR.out hb) _ _ q0;obtain⟨g1,a8a,c1⟩:=bO (aP HR.out hb) _ _ q1;obtain⟨g2,a8b,c2⟩:=bO (aP HR.out hb) _ _ q2;rw[hgb] at a8a a8b;cases a8a;cases a8b;have hog:=H5.out g hgb;subst hog;have hst:l.take (k+1)=l.take k++[x]:=by rw[List.take_add_one,hx];rfl
   have HST:Hid (Cy pf (l.take (k+1))=jl pf (Cy pf (l.take k)) x):=(by rw[hst,V5]:Cy pf (l.take (k+1))=jl pf (Cy pf (l.take k)) x);have Uf:Hid (WtG x):=HK.out x (List.mem_of_getElem? hx);have GX:=fun V (hv:Below wr.heap.size wr V)=>HG.out x V (List.mem_of_getElem? hx) (aG hb hv);have WX:=fun V=>Uf.out V;clear hst hx q0 q1 q2 hgb;obtain⟨A,hA⟩:∃A,Cy pf (l.take k)=A:=⟨_,rfl⟩;rw[hA] at HST⊢;clear hA;obtain⟨av,af,am⟩:=A;obtain⟨wt,hwt⟩:∃t,Yz x.wh=t:=⟨_,rfl⟩;simp only[hwt] at WX;have HWT:=aj hwt;clear hwt;have W1:=WX (wr.alloc (.cells #[bV x.wh,bV x.nm,bV x.vl] 110));have n3:=cZ wr #[bV x.wh,bV x.nm,bV x.vl] 110;have b3:=di wr (.cells #[bV x.wh,bV x.nm,bV x.vl] 110);go_upto_region 5 with fail;obtain⟨V3,JO⟩:∃V,wr.alloc (.cells #[bV x.wh,bV x.nm,bV x.vl] 110)=V:=⟨_,rfl⟩;rw[JO] at W1 n3 b3⊢;clear JO WX;have p0:=aF n3 0 _ rfl;go_upto_region 6 with(go_at_call 185;refine W1.mono ?_;rintro e w4 ⟨rfl,b4⟩);clear W1 p0;have n4:=dL b4 n3;have B4:=aG b3 b4;have p0:=aF n4 0 _ rfl;have p1:=aF n4 1 _ rfl;have p2:=aF n4 2 _ rfl;by_cases hle:am<=wt
   ·have hle':(am:Int)<=(wt:Int):=by omega
    have GX4:=GX w4 B4;clear GX;cases hp:pf x with
    |true=>
     rw[hp] at GX4;have K9:Cy pf (l.take (k+1))=(x.vl,true,wt):=by rw[HST.out,Af (by rw[HWT.out];exact hle) hp,HWT.out]
     have HS2:=aj K9;clear K9 hp;go_upto_region 7 with(go_at_call 137;refine GX4.mono ?_;rintro e w5 ⟨rfl,b5⟩);have r2:=aF (dL b5 n4) 2 _ rfl;go_wp2_with fail
     go_roundw
     case rel=>exact⟨k+1,by omega,by go_num,by rw[HS2.out],by rw[HS2.out],by rw[HS2.out],aG hb (aG B4 b5)⟩
     case measure=>simp[intOf];omega
    |false=>
     rw[hp] at GX4;have K9:Cy pf (l.take (k+1))=(av,af,am):=by rw[HST.out,Eh hp]
     have HS2:=aj K9;clear K9 hp;go_wp2_with(go_at_call 137;refine GX4.mono ?_;rintro e w5 ⟨rfl,b5⟩)
     go_roundw
     case rel=>exact⟨k+1,by omega,by go_num,by rw[HS2.out],by rw[HS2.out],by rw[HS2.out],aG hb (aG B4 b5)⟩
     case measure=>simp[intOf];omega
   ·have hle':¬(am:Int)<=(wt:Int):=by omega
    have K9:Cy pf (l.take (k+1))=(av,af,am):=by rw[HST.out,Ae (by rw[HWT.out];exact hle)]
    have HS2:=aj K9;clear K9;go_wp2_with fail
    go_roundw
    case rel=>exact⟨k+1,by omega,by go_num,by rw[HS2.out],by rw[HS2.out],by rw[HS2.out],aG hb B4⟩
    case measure=>simp[intOf];omega
  ·obtain rfl:k=l.length:=by omega
   have hge:¬(l.length:Int)<(l.length:Int):=by omega
   have htk:l.take l.length=l:=List.take_length;have HTK:=aj htk;clear htk;rw[HTK.out];go_wp2_with fail
   go_ret2
   exact⟨rfl,hb⟩
section
variable {B:Nat}{tg:bf}{W:ag}{DB MB:Nat}{p:Int->Option Nat}{M:Dm}{nx c:Nat}{r:Int->Nat}
def tdR:Option Bs->ah
 |none=>.tuple #[.string ⟨#[]⟩,.bool false]
 |some v=>.tuple #[bV v,.bool true]
theorem BH (pf:Rl->Bool):∀(l:List Rl) (a:Bs×Bool×Nat),(a.2.1=false->a.1=[])->(l.foldl (jl pf) a).2.1=false->(l.foldl (jl pf) a).1=[]
 |[],_,ha,h=>ha h
 |x::l,a,ha,h=>by
  rw[List.foldl_cons] at h⊢;refine BH pf l _ (fun h1=>?_) h;unfold jl at h1⊢;split
  ·next hc=>rw[if_pos hc] at h1;cases h1
  ·next hc=>rw[if_neg hc] at h1;exact ha h1
theorem Xo (h:aO B tg W DB MB p M nx c)(hw:Wd M r)(hF:Dn M)(l:List Rl)(hok:∀x∈l,YI x)(B0:Nat)(v:ah)(hl:W.ownsRow B0 110 3 v l.length (dZ l))(nm:Bs)(n:Int)(hn:bA n):
  ax 92 #[ay DB,v,aa n,bV nm] W fun e w'=>e=.returned (tdR (uT M l nm n))/\Below W.heap.size W w':=by
 obtain⟨k0,k1,k2, -,b0⟩:=gp W (.cells #[ay DB] 52) (.cells #[aa n] 3) (.cells #[bV nm] 9);obtain⟨ov,kv,hvv⟩:=aH hl;subst hvv;have HD:=aj h;have HL:=aj hl;have HK:=aj hok;clear h hl hok;obtain⟨res,hres⟩:∃x,uT M l nm n=x:=⟨_,rfl⟩;have hR:=hres;unfold uT at hR;rw[hres];clear hres;have AT:=fun V (hv:Below W.heap.size W V)=>jv (HD.out.below hv) n hn nm;have hat:MJ M n nm=yP M n nm:=rfl;simp only[hat] at AT;clear hat;go_enter func92,ntmps92;go_upto_region 1 with fail;obtain⟨V,hV⟩:∃V,((W.alloc (.cells #[ay DB] 52)).alloc (.cells #[aa n] 3)).alloc (.cells #[bV nm] 9)=V:=⟨_,rfl⟩;rw[hV] at k0 k1 k2 b0⊢;clear hV;have d0:=bG k0;have d1:=bG k1;have d2:=bG k2;have AT1:=AT V b0;clear AT;cases ha:yP M n nm with
 |some av=>
  rw[ha] at hR AT1;subst hR;simp only[Option.getD_some,Option.isSome_some] at AT1;go_wp2_with(go_at_call 17;refine AT1.mono ?_;rintro e w1 ⟨rfl,b1⟩)
  go_ret2
  exact⟨rfl,aG b0 b1⟩
 |none=>
  rw[ha] at hR AT1;simp only[Option.getD_none,Option.isSome_none] at AT1;go_upto_region 4 with(go_at_call 17;refine AT1.mono ?_;rintro e w1 ⟨rfl,b1⟩);have B1:=aG b0 b1;have HV:=Gs l (fun x hx=>(HK.out x hx).2.1) (mg M nm n) B0 (.slice ov l.length kv) w1 (aP HL.out B1) (W.heap.size+1+1) W.heap.size (W.heap.size+1) (fun x X hx hX=>(HK.out x hx).2.2 _ _ _ _ _ _ _ _ _ _ (HD.out.below (aG B1 hX)) hw hF nm n hn _ _ _ (((aG b1 hX).cell (az d2)).trans d2) (((aG b1 hX).cell (az d0)).trans d0) (((aG b1 hX).cell (az d1)).trans d1));have hun:=BH (mg M nm n) l ([],false,0) (fun _=>rfl);have hun':(Cy (mg M nm n) l).2.1=false->(Cy (mg M nm n) l).1=[]:=hun;obtain⟨A,hA⟩:∃A,Cy (mg M nm n) l=A:=⟨_,rfl⟩;rw[hA] at HV hR hun';clear hA hun;obtain⟨hv,hf,hm⟩:=A;have HRR:=aj hR;have HUN:=aj hun';clear hR hun' AT1;go_wp2_with(go_at_call 136;refine HV.mono ?_;rintro e w2 ⟨rfl,b2⟩)
  go_ret2
  refine⟨?_,aG B1 b2⟩;rw[<- HRR.out];cases hf with
  |true=>rfl
  |false=>rw[HUN.out rfl];rfl
end
section
variable {B:Nat}{tg:bf}{W:ag}{DB MB:Nat}{p:Int->Option Nat}{M:Dm}{nx c:Nat}{r:Int->Nat}
theorem Xp (h:aO B tg W DB MB p M nx c)(n:Int):bA (rQ M n):=by
 unfold rQ;cases hm:M n with
 |none=>exact WalkArith.wf_i64 (by decide)
 |some e=>exact(h.wf n e hm).1
theorem a3Q (h:aO B tg W DB MB p M nx c)(hw:Wd M r)(hF:Dn M)(l:List Rl)(hok:∀x∈l,YI x)(B0:Nat)(v:ah)(hl:W.ownsRow B0 110 3 v l.length (dZ l))(n:Int)(hn:bA n)(nm:Bs):
  ax 50 #[ay DB,v,aa n,bV nm] W fun e w'=>e=.returned (bV (ofM M l nm n))/\Below W.heap.size W w':=by
 obtain⟨ov,kv,hvv⟩:=aH hl;subst hvv;have NA:=ng h n hn;have IN:=yH nm W;have HD:=aj h;have HL:=aj hl;have HK:=aj hok;have HF:=aj hF;have HW:=aj hw;clear h hl hok hw hF;cases hm:M n with
 |none=>
  rw[hm] at NA;have ho:ofM M l nm n=[]:=by unfold ofM;rw[hm];rfl
  rw[ho];clear ho hm;go_enter func50,ntmps50;go_wp2_with(go_at_call 90;refine NA.mono ?_;rintro e w1 ⟨rfl,h⟩;rw[h];clear h);go_ret;exact⟨rfl,Below.refl _ _⟩
 |some e0=>
  rw[hm] at NA;have hne:=(HF.out n e0 hm).1;have hq:=fD e0.name [];have hq1:(e0.name==[])=false:=by simpa using hne
  rw[hq1] at hq;cases hN:yf nm with
  |false=>
   rw[hN] at IN;have ho:ofM M l nm n=[]:=by unfold ofM;rw[hN];simp
   rw[ho];clear ho hm;go_enter func50,ntmps50;go_wp2_with(first|(go_at_call 90;refine NA.mono ?_;rintro e w1 ⟨rfl,h⟩;rw[h];clear h)|(go_at_call 79;refine IN.mono ?_;rintro e w1 ⟨rfl,h⟩;rw[h];clear h));go_ret;exact⟨rfl,Below.refl _ _⟩
  |true=>
   rw[hN] at IN;have ho:=a2N (l:=l) hm hN;rw[ho];obtain⟨res,hres⟩:∃x,Ip M l nm 12 n=x:=⟨_,rfl⟩;rw[hres];have HRS:=aj hres;have HN0:=aj hm;have hrn:=(HW.out.rb n e0 hm).2;clear ho hres hm;go_enter func50,ntmps50;go_upto_region 3 with(first|(go_at_call 90;refine NA.mono ?_;rintro e w1 ⟨rfl,h⟩;rw[h];clear h)|(go_at_call 79;refine IN.mono ?_;rintro e w1 ⟨rfl,h⟩;rw[h];clear h));clear NA IN
   go_loopw [2] (fun y wr=>∃(f:Nat) (k:Int),y=aa k/\bA k/\Ip M l nm f k=res/\(k<0\/∃e,M k=some e/\r k<=f)/\Below W.heap.size W wr) (fun y _=>if intOf y<0 then 0 else r (intOf y))
   case atStart=>exact⟨12,n,rfl,hn,HRS.out,.inr ⟨e0,HN0.out,by omega⟩,Below.refl _ _⟩
   case round=>
    obtain⟨f,k,rfl,a8c,hof,hin,hb⟩:=hrel;have HOF:=aj hof;have HIN:=aj hin;clear hof hin;have FO:=fun V=>yG nm V;by_cases hk:k<0
    ·have hk':¬(0:Int)<=k:=by omega
     have hre:res=firstM nm:=by rw[<- HOF.out,Ze l nm f hk]
     subst hre;have FO1:=FO wr;go_wp2_with(go_at_call 94;refine FO1.mono ?_;rintro e w1 ⟨rfl,h⟩;rw[h];clear h);go_ret;exact⟨rfl,hb⟩
    ·have hk':(0:Int)<=k:=by omega
     have hin:∃e,M k=some e/\r k<=f:=by
      rcases HIN.out with h|h
      ·exact absurd h hk
      ·exact h
     obtain⟨ek,hek,hrf⟩:=hin;have hr1:=(HW.out.rb k ek hek).1;obtain⟨f,rfl⟩:∃g,f=g+1:=⟨f-1,by omega⟩;have HEK:=aj hek;clear hek;have TD:=Xo (HD.out.below hb) HW.out HF.out l HK.out B0 _ (aP HL.out hb) nm k a8c;cases ht:uT M l nm k with
     |some tv=>
      rw[ht] at TD;unfold tdR at TD;have hre:res=tv:=by rw[<- HOF.out,V8 f hk' ht]
      subst hre;clear ht;go_wp2_with(go_at_call 92;refine TD.mono ?_;rintro e w1 ⟨rfl,b1⟩);go_ret;exact⟨rfl,aG hb b1⟩
     |none=>
      rw[ht] at TD;unfold tdR at TD;have HT:=aj ht;clear ht;go_upto_region 8 with(go_at_call 92;refine TD.mono ?_;rintro e w1 ⟨rfl,b1⟩);have IH:=Sb nm w1;have PA:ax 91 #[ay DB,aa k] w1 fun r w'=>r=.returned (aa (rQ M k))/\w'=w1:=AJ (HD.out.below (aG hb b1)) k a8c;have FO1:=FO w1;cases hi:Ef nm with
      |false=>
       rw[hi] at IH;have hre:res=firstM nm:=by rw[<- HOF.out,Zf f hk' HT.out hi]
       subst hre;clear hi;go_wp2_with(first|(go_at_call 93;refine IH.mono ?_;rintro e w2 ⟨rfl,h⟩;rw[h];clear h)|(go_at_call 94;refine FO1.mono ?_;rintro e w1 ⟨rfl,h⟩;rw[h];clear h));go_ret;exact⟨rfl,aG hb b1⟩
      |true=>
       rw[hi] at IH;have hre:Ip M l nm f (rQ M k)=res:=by rw[<- HOF.out,a2M f hk' HT.out hi]
       have GY:(rQ M k<0)\/((0<=rQ M k)/\∃q,M (rQ M k)=some q/\r k=r (rQ M k)+1):=by
        by_cases h0:k=0
        ·subst h0;rw[HW.out.V7];exact .inl (by decide)
        ·obtain⟨q,hq,hr⟩:=HW.out.a2L HEK.out h0;exact .inr ⟨HW.out.pos hq,q,hq,hr⟩
       have a8d:=Xp HD.out k;obtain⟨pk,hpk⟩:∃x,rQ M k=x:=⟨_,rfl⟩;rw[hpk] at hre GY a8d PA;have HRE:=aj hre;have HPP:=aj GY;clear hi hpk hre GY;go_wp2_with(first|(go_at_call 93;refine IH.mono ?_;rintro e w2 ⟨rfl,h⟩;rw[h];clear h)|(go_at_call 91;refine PA.mono ?_;rintro e w1 ⟨rfl,h⟩;rw[h];clear h))
       go_roundw
       case rel=>
        refine⟨f,pk,rfl,a8d,HRE.out,?_,aG hb b1⟩;rcases HPP.out with h|⟨_,q,hq,hr⟩
        ·exact .inl h
        ·exact .inr ⟨q,hq,by omega⟩
       case measure=>
        have hkn:¬k<0:=by omega
        show(if pk<0 then 0 else r pk)<(if k<0 then 0 else r k);rw[if_neg hkn];rcases HPP.out with h|⟨h1,q,hq,hr⟩
        ·rw[if_pos h];omega
        ·rw[if_neg (show¬pk<0 by omega)];omega
end
end
section
open Go.RowKit Go.Shelf
structure NE (E:Nat->Addr)(w:ag):Prop where
  c1:w.cell? (ak 1 0)=some (eV (E 1))
  c2:w.cell? (ak 0 0)=some (eV (E 2))
  c3:w.cell? (ak 3 0)=some (eV (E 3))
  c7:w.cell? (ak 2 0)=some (eV (E 7))
  c9:w.cell? (ak 5 0)=some (eV (E 9))
  c10:w.cell? (ak 8 0)=some (eV (E 10))
  sy:∃a,w.cell? (ak 12 0)=some (eV a)
  rg:∃a,w.cell? (ak 13 0)=some (eV a)
  tab:Lib.TabIs prog w "internal/strconv.uint64pow10" .u64 Lib.pow10Tab
  blk:∀k,1<=k->k<=10->∃c t,w.heap[(E k).block]? =some (.cells c t (0,0))
  ne:∀j k,1<=j->j<=10->1<=k->k<=10->j≠k->E j≠E k
theorem aY {w:ag}{b:Nat}{o:Obj}(h:w.heap[b]? =some o):b<w.heap.size:=(Array.getElem?_eq_some_iff.1 h).1
def Lu (E:Nat->Addr)(c:Nat)(v:ah)(w:ag):Prop:=1<=c/\c<=10/\(v=eV (E c)\/∃pb po,v=.iface 113 (.pointer (some ⟨pb,po,none⟩))/\w.cell? (ak pb (po+1))=some (eV (E c)))
def Un (E:Nat->Addr)(f:Ft)(base:Nat)(v:ah)(w:ag):Prop:=∃pb,base<=pb/\v=.iface 113 (ay pb)/\w.heap[pb]? =some (.cells #[aa f.pl,eV (E f.code)] 115)
theorem a0y {E:Nat->Addr}{w:ag}{c:Nat}{v:ah}(h:NE E w)(hv:Lu E c v w):
    ax 146 #[v,eV (E 2)] w fun e w'=>e=.returned (.bool (decide (c=2)))/\w'=w:=by
  obtain⟨h1,h2,hv⟩:=hv;obtain⟨cc,ct,hc⟩:=h.blk c h1 h2;obtain⟨c',t',hc'⟩:=h.blk 2 (by omega) (by omega);rcases hv with rfl|⟨pb,po,rfl,hp⟩
  · by_cases e:c=2
    · subst e;simp only[decide_true];exact a00 _ _
    · simp only[e,decide_false];exact W9 _ _ _ _ _ _ _ (h.ne c 2 h1 h2 (by omega) (by omega) e) hc hc'
  · by_cases e:c=2
    · subst e;simp only[decide_true];exact Dh _ _ _ _ hp
    · simp only[e,decide_false];exact Bc _ _ _ _ _ _ _ _ _ hp (h.ne c 2 h1 h2 (by omega) (by omega) e) hc hc'
theorem qJ {E:Nat->Addr}{w:ag}{c:Nat}{v:ah}(h:NE E w)(hv:Lu E c v w)(n:Int):
    ax 98 #[aa n,v] w fun e w'=>∃u,e=.returned u/\Un E ⟨yA c,n⟩ w.heap.size u w'/\Below w.heap.size w w':=by
  have IB:=a0y h hv;have e2:=h.c2;have e10:=h.c10;clear h hv;unfold yA;by_cases hc:c=2
  · simp only[hc,decide_true,if_true] at IB⊢
    go_enter func98,ntmps98;go_wp2_with(go_at_call 146;refine IB.mono ?_;rintro e w1 ⟨rfl,rfl⟩);go_ret;exact⟨_,rfl,⟨_,Nat.le_refl _,rfl,World.alloc_heap_new _ _⟩,(Below.refl _ _).alloc ai _⟩
  · simp only[hc,decide_false,if_false] at IB⊢
    go_enter func98,ntmps98;go_wp2_with(go_at_call 146;refine IB.mono ?_;rintro e w1 ⟨rfl,rfl⟩);go_ret;exact⟨_,rfl,⟨_,Nat.le_refl _,rfl,World.alloc_heap_new _ _⟩,(Below.refl _ _).alloc ai _⟩
def eT (w:ag)(p:Option Nat):List (Int×Mv)->Prop
  |[]=>p=none
  |(n,m)::r=>∃b q,p=some b/\w.heap[b]? =some (.cells #[aa n,.pointer (q.map fun x=>⟨x,0,none⟩),aa m.a.n,aa m.a.d,aa m.b.n,aa m.b.d,aa m.c.n,aa m.c.d,aa m.d.n,aa m.d.d,aa m.e.n,aa m.e.d,aa m.f.n,aa m.f.d] 132)/\eT w q r
abbrev pV (p:Option Nat):ah:=.pointer (p.map fun x=>⟨x,0,none⟩)
theorem eT.keep {w w':ag}(hk:∀(b:Nat) (t:Obj),w.heap[b]? =some t->(∃c,t=.cells c 132)->w'.heap[b]? =some t):∀{p:Option Nat} {l:List (Int×Mv)},eT w p l->eT w' p l
  |_,[],h=>h
  |_,(_,_)::_,⟨b,q,h1,h2,h3⟩=>⟨b,q,h1,hk b _ h2 ⟨_,rfl⟩,eT.keep hk h3⟩
def WiR (n:Int)(l:List (Int×Mv))(w:ag)(e:Ending)(w':ag):Prop:=e=.returned (.bool (decide (n∈l.map Prod.fst)))/\w'=w
def WiL (n:Int)(l:List (Int×Mv))(w:ag)(g:Nat)(y:ah)(wr:ag):Prop:=∃(p:Option Nat) (r:List (Int×Mv)),y=pV p/\eT w p r/\(n∈l.map Prod.fst↔n∈r.map Prod.fst)/\r.length<=g/\wr=w
theorem ou (w:ag)(p:Option Nat)(l:List (Int×Mv))(n:Int)(h:eT w p l):
    ax 95 #[pV p,aa n] w fun e w'=>WiR n l w e w':=by
  have H0:=aj h;clear h;go_enter func95,ntmps95;go_upto_region 1 with fail
  go_loopg [0] l.length (fun g y wr=>WiL n l w g y wr)
  case atStart=>exact⟨p,l,rfl,H0.out,Iff.rfl,Nat.le_refl _,rfl⟩
  case round=>
    obtain⟨p,r,rfl,hP,hiff,hlen,rfl⟩:=hrel;have HI:=aj hiff;clear hiff
    match r,hP,hlen,HI with
    |[],hP,hlen,HI=>
      obtain rfl:p=none:=hP;have hd:Hid (decide (n∈l.map Prod.fst)=false):=decide_eq_false (fun h=>by have:=HI.out.1 h;simp at this);clear hP;simp only[pV,Option.map_none];go_wp2;go_ret;exact⟨by rw[hd.out];rfl,rfl⟩
    |(k,m)::r,⟨b,q,hp,hb,hq⟩,hlen,HI=>
      subst hp;have c0:=aF hb 0 _ rfl;have c1:=aF hb 1 _ rfl;have HQ:=aj hq;clear hb hq;simp only[pV,Option.map_some];by_cases hk:k=n
      · have hd:Hid (decide (n∈l.map Prod.fst)=true):=decide_eq_true (HI.out.2 (by simp[hk]))
        have hkz:(k==n)=true:=by simpa using hk
        clear hk;go_wp2;go_ret;exact⟨by rw[hd.out];rfl,rfl⟩
      · have hkz:(k==n)=false:=by simpa using hk
        obtain⟨pq,hpq⟩:∃x,(Option.map (fun x=>(⟨x,0,none⟩:Addr)) q)=x:=⟨_,rfl⟩;rw[hpq] at c1;go_wp2
        go_roundg r.length
        case measure=>simp at hlen;omega
        case rel=>
          rw[<- hpq];refine⟨q,r,rfl,HQ.out,HI.out.trans ?_,Nat.le_refl _,rfl⟩;simp[Ne.symm hk]
end
section
open Go.RowKit
def mk (n d:Int):R3:=if d=0 then⟨0,0,11⟩ else if gM n=true\/gM d=true then⟨0,0,2⟩ else low n d
theorem a3R:prog.globalNamed "internal/strconv.uint64pow10"=some 14:=by kernel_rfl
theorem SQ {w w':ag}{B:Nat}(h:Lib.TabIs prog w "internal/strconv.uint64pow10" .u64 Lib.pow10Tab)(hb:Below B w w')(hB:w.heap.size<=B):Lib.TabIs prog w' "internal/strconv.uint64pow10" .u64 Lib.pow10Tab:=
 var?_below hb a3R (Nat.lt_of_lt_of_le (aC (h.cell a3R 0 (by simp[Lib.pow10Tab]))) hB) h
theorem Xq (n:Int)(w:ag)(hn:lI n)(htab:Lib.TabIs prog w "internal/strconv.uint64pow10" .u64 Lib.pow10Tab):
  ax 231 #[aa n] w fun e w'=>e=.returned (.string ⟨(Lib.itoa n).toArray⟩)/\Below w.heap.size w w':=by
 refine(Tryz.strconv_Itoa n hn.1 hn.2 w htab).mono ?_;rintro e w' ⟨rfl,k,os,rfl⟩;exact⟨rfl,Lib.below_grow _ _ ai k os⟩
end
section
open Go.RowKit Go.Shelf
theorem NE.below {E:Nat->Addr}{w w':ag}(h:NE E w)(hb:Below w.heap.size w w'):NE E w':=by
 obtain⟨c1,c2,c3,c7,c9,c10,⟨a,sy⟩,⟨a',rg⟩,tab,blk,ne⟩:=h;have C:=fun{x:Addr} {v:ah} (hx:w.cell? x=some v)=>(hb.cell (aC hx)).trans hx;refine⟨C c1,C c2,C c3,C c7,C c9,C c10,⟨a,C sy⟩,⟨a',C rg⟩,?_,fun k h1 h2=>?_,ne⟩
 ·exact SQ tab hb ai
 ·obtain⟨c,t,hc⟩:=blk k h1 h2;exact⟨c,t,(hb.block _ (aY hc)).trans hc⟩
theorem Dt {E:Nat->Addr}{w:ag}(h:NE E w)(s:Bs)(hs:s.length<=1000000):
  ax 192 #[bV s] w fun e w'=>e=.returned (aa (EG s))/\Below w.heap.size w w':=by
 have hsz:(⟨s.toArray⟩:aD).size<=1000000:=hs;have hls:(⟨s.toArray⟩:aD).data.toList=s:=rfl;unfold EG;cases ha:Lib.atoiAll s with
 |«syntax»=>
  obtain⟨a,sy⟩:=h.sy;have AT:=Tryz.strconv_Atoi_syntax ⟨s.toArray⟩ (by omega) (by rw[hls];exact ha) (eV a) w sy (.inr ⟨_,_,rfl⟩);clear h sy ha;go_enter func192,ntmps192;go_wp2_with(go_at_call 230;refine AT.mono ?_;rintro e w1 ⟨nb,rfl, -, -,b1⟩);go_ret;exact⟨rfl,b1⟩
 |range=>
  obtain⟨a,rg⟩:=h.rg;have AT:=Tryz.strconv_Atoi_range ⟨s.toArray⟩ (by omega) (by rw[hls];exact ha) (eV a) w rg (.inr ⟨_,_,rfl⟩);clear h rg ha;go_enter func192,ntmps192;go_wp2_with(go_at_call 230;refine AT.mono ?_;rintro e w1 ⟨nb,rfl, -, -,b1⟩);go_ret;exact⟨rfl,b1⟩
 |ok v=>
  have AT:ax 230 #[.string ⟨s.toArray⟩] w fun e w'=>e=.returned (.tuple #[aa v,.nilIface])/\Below w.heap.size w w':=by
   refine(Tryz.strconv_Atoi_ok ⟨s.toArray⟩ (by omega) v (by rw[hls];exact ha) w).mono ?_;rintro e w1 ⟨rfl,rfl|⟨t,rfl⟩⟩
   ·exact⟨rfl,Below.refl _ _⟩
   ·exact⟨rfl,rfl,rfl,rfl,by rw[Lib.bytesWorld_size];omega,fun j hj=>Lib.bytesWorld_at_old w _ _ j hj⟩
  clear ha;dsimp only;by_cases h0:v<0
  ·rw[if_neg (by omega)];go_enter func192,ntmps192;go_wp2_with(go_at_call 230;refine AT.mono ?_;rintro e w1 ⟨rfl,b1⟩);go_ret;exact⟨rfl,b1⟩
  ·by_cases h9:999<v
   ·rw[if_neg (by omega)];go_enter func192,ntmps192;go_wp2_with(go_at_call 230;refine AT.mono ?_;rintro e w1 ⟨rfl,b1⟩);go_ret;exact⟨rfl,b1⟩
   ·have IT:=fun V (hV:NE E V)=>Xq v V ⟨by omega,by omega⟩ hV.tab;have HN:=aj h;clear h;by_cases hi:Lib.itoa v=s
    ·rw[if_pos ⟨by omega,by omega,hi⟩];rw[hi] at IT;go_enter func192,ntmps192;go_wp2_with(first|(go_at_call 230;refine AT.mono ?_;rintro e w1 ⟨rfl,b1⟩;have I1:=IT w1 (HN.out.below b1))|(go_at_call 231;refine I1.mono ?_;rintro e w2 ⟨rfl,b2⟩));go_ret;exact⟨rfl,aG b1 b2⟩
    ·rw[if_neg (fun h=>hi h.2.2)];obtain⟨t,ht⟩:∃t,Lib.itoa v=t:=⟨_,rfl⟩;rw[ht] at IT;have hq:=fD t s;have hq1:(t==s)=false:=by rw[<- ht];simpa using hi
     rw[hq1] at hq;clear hi ht;go_enter func192,ntmps192;go_wp2_with(first|(go_at_call 230;refine AT.mono ?_;rintro e w1 ⟨rfl,b1⟩;have I1:=IT w1 (HN.out.below b1))|(go_at_call 231;refine I1.mono ?_;rintro e w2 ⟨rfl,b2⟩));go_ret;exact⟨rfl,aG b1 b2⟩
end
section
open Go.RowKit Go.Shelf
set_option maxRecDepth 20000
theorem NE.e3 {E:Nat->Addr}{w:ag}(h:NE E w):E3 (E 2) (E 3) (E 2) w:=⟨h.c2,h.c3,rfl⟩
theorem NE.e4 {E:Nat->Addr}{w:ag}(h:NE E w):E4 (E 1) (E 2) (E 3) w:=⟨h.e3,h.c1⟩
theorem qK (M:Dm)(n:Int)(nm:Bs):MJ M n nm=yP M n nm:=rfl
def SzD (M:Dm):Prop:=∀n e,M n=some e->∀a∈e.ats,a.2.length<=200
theorem Gt {M:Dm}(h:SzD M){n:Int}{nm s:Bs}(ha:yP M n nm=some s):s.length<=200:=by
 unfold yP at ha;cases hm:M n with
 |none=>rw[hm] at ha;cases ha
 |some e=>
  rw[hm] at ha;simp only[jk,Option.map_eq_some_iff] at ha;obtain⟨a,h1,h2⟩:=ha;have:=h n e hm a (List.mem_of_find?_eq_some h1);rw[h2] at this;exact this
theorem Ka {M:Dm}(h:SzD M)(n:Int)(nm:Bs):(FU M n nm).length<=200:=by
 unfold FU;cases ha:yP M n nm with
 |none=>simp
 |some s=>exact Gt h ha
section
variable {E:Nat->Addr}{B:Nat}{tg:bf}{W:ag}{DB MB:Nat}{p:Int->Option Nat}{M:Dm}{nx c:Nat}
theorem Ns (hN:NE E W)(hd:aO B tg W DB MB p M nx c)(hz:SzD M)(WB:Nat)(hw:W.cell? (ak WB 0)=some (ay DB))(n:Int)(hn:bA n)(nm:Bs):
  ax 193 #[ay WB,aa n,bV nm] W fun e w'=>e=.returned (.tuple #[.agg #[aa (eP M n nm).n,aa (eP M n nm).d],Lr (E 1) (E 2) (E 3) (E 2) (eP M n nm).c])/\Below W.heap.size W w':=by
 have b0:=di W (.cells #[aa 0,aa 0] 127);have T0:=Two.new W (aa 0) (aa 0) 127;have AT:=jv (hd.below b0) n hn nm;have hw0:=(b0.cell (aC hw)).trans hw;rw[qK] at AT;unfold eP;cases ha:yP M n nm with
 |none=>
  rw[ha] at AT;clear hd ha;go_enter func193,ntmps193;go_wp2_with(go_at_call 17;refine AT.mono ?_;rintro e w1 ⟨rfl,b1⟩;obtain⟨t0,t1,f0,f1⟩:=T0.below b1 ai);refine bodyPost_ret (v:=.tuple #[.agg #[aa 0,aa 1],.nilIface]) (by simp[results,results193,go_sem,t0,t1]) rfl ⟨rfl,?_⟩;exact((aG b0 b1).setCell ai _).setCell ai _
 |some s=>
  rw[ha] at AT;have hs:=Gt hz ha;have hsz:(⟨s.toArray⟩:aD).size<=200:=hs;have RD:∀V,NE E V->ax 232 #[bV s] V fun e w'=>e=.returned (.tuple #[.agg #[aa (rd s).n,aa (rd s).d],Lr (E 1) (E 2) (E 3) (E 2) (rd s).c])/\Below V.heap.size V w':=fun V hV=>qX (E 1) (E 2) (E 3) (E 2) ⟨s.toArray⟩ V hV.e3 hV.c1 (by omega);have HN:=aj hN;dsimp only;generalize rd s=x at RD⊢;obtain⟨ev,hev⟩:∃v,Lr (E 1) (E 2) (E 3) (E 2) x.c=v:=⟨_,rfl⟩;simp only[hev] at RD⊢;clear hd ha hN hev;go_enter func193,ntmps193;go_wp2_with(first|(go_at_call 17;refine AT.mono ?_;rintro e w1 ⟨rfl,b1⟩;have R1:=RD w1 (HN.out.below (aG b0 b1)))|(go_at_call 232;refine R1.mono ?_;rintro e w2 ⟨rfl,b2⟩;obtain⟨t0,t1,f0,f1⟩:=T0.below (aG b1 b2) ai));refine bodyPost_ret (v:=.tuple #[.agg #[aa x.n,aa x.d],ev]) (by simp[results,results193,go_sem,t0,t1]) rfl ⟨rfl,?_⟩;exact((aG b0 (aG b1 b2)).setCell ai _).setCell ai _
theorem dH.Kb {w:ag}{R:Nat}{v0 v1 v2 v3 v4 v5 v6 v7 v8 v9 v10 v11:ah}{t:TypeId}(h:dH w R #[v0,v1,v2,v3,v4,v5,v6,v7,v8,v9,v10,v11] t):
  w.cell? (ak R 0)=some v0/\w.cell? (ak R 1)=some v1/\w.cell? (ak R 2)=some v2/\w.cell? (ak R 3)=some v3/\w.cell? (ak R 4)=some v4/\w.cell? (ak R 5)=some v5/\w.cell? (ak R 6)=some v6/\w.cell? (ak R 7)=some v7/\w.cell? (ak R 8)=some v8/\w.cell? (ak R 9)=some v9/\w.cell? (ak R 10)=some v10/\w.cell? (ak R 11)=some v11/\
  w.frozen? ⟨R,0,none⟩=false/\w.frozen? ⟨R,1,none⟩=false/\w.frozen? ⟨R,2,none⟩=false/\w.frozen? ⟨R,3,none⟩=false/\w.frozen? ⟨R,4,none⟩=false/\w.frozen? ⟨R,5,none⟩=false/\w.frozen? ⟨R,6,none⟩=false/\w.frozen? ⟨R,7,none⟩=false/\w.frozen? ⟨R,8,none⟩=false/\w.frozen? ⟨R,9,none⟩=false/\w.frozen? ⟨R,10,none⟩=false/\w.frozen? ⟨R,11,none⟩=false:=
 ⟨h.cell 0 _ rfl,h.cell 1 _ rfl,h.cell 2 _ rfl,h.cell 3 _ rfl,h.cell 4 _ rfl,h.cell 5 _ rfl,h.cell 6 _ rfl,h.cell 7 _ rfl,h.cell 8 _ rfl,h.cell 9 _ rfl,h.cell 10 _ rfl,h.cell 11 _ rfl,h.dD 0 _ rfl,h.dD 1 _ rfl,h.dD 2 _ rfl,h.dD 3 _ rfl,h.dD 4 _ rfl,h.dD 5 _ rfl,h.dD 6 _ rfl,h.dD 7 _ rfl,h.dD 8 _ rfl,h.dD 9 _ rfl,h.dD 10 _ rfl,h.dD 11 _ rfl⟩
abbrev plA (n:Int)(q:ah)(m:Mv):Array ah:=#[aa n,q,aa m.a.n,aa m.a.d,aa m.b.n,aa m.b.d,aa m.c.n,aa m.c.d,aa m.d.n,aa m.d.d,aa m.e.n,aa m.e.d,aa m.f.n,aa m.f.d]
def MvR (E:Nat->Addr)(x:Except Nat Mv)(e:Ending)(w':ag):Prop:=match x with
 | .ok m=>e=.returned (.tuple #[mv m,.nilIface])
 | .error c=>∃v,e=.returned (.tuple #[mv .zero,v])/\Lu E c v w'
theorem SX (kd:Kd)(ws:List aD):(Ev kd ws).2=0\/(Ev kd ws).2=1\/(Ev kd ws).2=2\/(Ev kd ws).2=3:=by
 have hr:∀a:aD,yt a=0\/yt a=1\/yt a=2\/yt a=3:=fun a=>by
  unfold yt;rcases Bn a.data.toList with h|⟨h, -⟩
  ·exact .inl h
  ·exact .inr h
 have h2:∀(mk:Fr->Fr->Mv) (a b:aD),(ze mk a b).2=0\/(ze mk a b).2=1\/(ze mk a b).2=2\/(ze mk a b).2=3:=fun mk a b=>by
  unfold ze;split
  ·exact hr a
  ·split
   ·exact hr b
   ·exact .inl rfl
 unfold Ev;split
 ·exact h2 _ _ _
 ·exact h2 _ _ _
 ·unfold Av;split
  ·exact .inl rfl
  ·split
   ·exact .inl rfl
   ·split
    ·exact .inl rfl
    ·split
     ·exact .inl rfl
     ·exact .inr (.inl rfl)
 ·unfold GU;split
  ·exact hr _
  ·exact .inl rfl
 ·exact .inr (.inl rfl)
theorem yL:∀(f:Nat) (ws:List aD) (acc:List Mv),(eU f ws acc).2=0\/(eU f ws acc).2=1\/(eU f ws acc).2=2\/(eU f ws acc).2=3
 |_,[],_=>.inl (by simp[eU])
 |0,_::_,_=>.inr (.inl rfl)
 |f+1,k::ws,acc=>by
  unfold eU;cases hk:pE k with
  |none=>exact .inr (.inl rfl)
  |some kd=>
   dsimp only;split
   ·exact .inr (.inl rfl)
   ·split
    ·exact yL f _ _
    ·exact SX kd ws
theorem Kc (s:aD):(iL s).2=0\/(iL s).2=1\/(iL s).2=2\/(iL s).2=3:=by
 unfold iL;split
 ·rcases EJ (l6 s).1.reverse .one with h|h
  ·exact .inl h
  ·rw[h];exact .inr (.inr (.inl rfl))
 ·unfold l6;split
  ·exact .inl rfl
  ·exact yL _ _ _
theorem Ke {s:aD}(h:(iL s).2=0):(iL s).1.ok:=by
 unfold iL at h⊢;by_cases hl:(l6 s).2=0
 ·rw[if_pos hl] at h⊢;refine Bp _ _ Au (fun n hn=>?_) h;unfold l6 at hl hn;by_cases h0:s.size=0
  ·rw[if_pos h0] at hn;simp at hn
  ·rw[if_neg h0] at hl hn;exact Aw _ _ _ (by simp) hl n (List.mem_reverse.1 hn)
 ·rw[if_neg hl] at h;exact absurd h hl
theorem a3S {E:Nat->Addr}{c:Nat}(h:c=1\/c=2\/c=3):er0 (E 1) (E 2) (E 3) c=eV (E c):=by
 rcases h with rfl|rfl|rfl<;>rfl
theorem Nt (hN:NE E W)(hd:aO B tg W DB MB p M nx c)(hz:SzD M)(WB:Nat)(hw:W.cell? (ak WB 0)=some (ay DB))(n:Int)(hn:bA n)(PB:Nat)(k:Int)(q:ah)(m:Mv)(hm:m.ok)(hp:W.heap[PB]? =some (.cells (plA k q m) 132)):
  ax 97 #[ay WB,aa n,ay PB] W fun e w'=>MvR E (sI M n m) e w'/\Below W.heap.size W w':=by
 have b0:=di W (.cells zA 129);have K0:=dH.new W zA 129;have AT:=jv (hd.below b0) n hn dY;have hw0:=(b0.cell (aC hw)).trans hw;rw[qK] at AT;have hl:=Ka hz n dY;unfold sI;unfold FU at hl⊢;generalize (yP M n dY).getD []=s at AT hl⊢;generalize (yP M n dY).isSome=bo at AT;have hsz:(⟨s.toArray⟩:aD).size<=200:=hl;have RD:=fun V (hV:NE E V)=>WG (aT:=E 1) (aB:=E 2) (aS:=E 3) ⟨s.toArray⟩ (by omega) V hV.e4;have HN:=aj hN;have hrc:=Kc ⟨s.toArray⟩;have hro:(iL ⟨s.toArray⟩).2=0->(iL ⟨s.toArray⟩).1.ok:=Ke;obtain⟨rm,rc,hr⟩:∃a b,iL ⟨s.toArray⟩=(a,b):=⟨_,_,rfl⟩;simp only[hr] at RD hrc hro⊢;clear hr hN hd hl;by_cases hc:rc=0
 ·subst hc;have hro:=hro rfl;have hpl:=aY hp;rw[if_neg (by simp)];simp only[show er0 (E 1) (E 2) (E 3) 0=.nilIface from rfl] at RD;by_cases ht:(thenS rm m).2=0
  ·rw[if_pos ht];have TH:=fun V (hV:NE E V)=>OT (aB:=E 2) (aS:=E 3) (aZ:=E 2) (lg hro) (lg hm) (Jk hro hm (Gd ht)) V hV.e3;generalize (thenS rm m).1=x at TH⊢;clear ht hrc;go_enter func97,ntmps97;go_upto_region 5 with(first|(go_at_call 17;refine AT.mono ?_;rintro e w1 ⟨rfl,b1⟩;have R1:=RD w1 (HN.out.below (aG b0 b1)))|(go_at_call 144;refine R1.mono ?_;rintro e w2 ⟨rfl,b2⟩));have b3:=di w2 (.cells (mA rm) 129);have KM:=dH.new w2 (mA rm) 129;have bU:=aG (aG b0 b1) (aG b2 b3);have K0U:=K0.below (aG b1 (aG b2 b3)) ai;have vR:=(bU.block _ hpl).trans hp;have hlt:W.heap.size<w2.heap.size:=by have:=b1.size;have:=b2.size;simp at*;omega
   obtain⟨U,hU⟩:∃U,w2.alloc (.cells (mA rm) 129)=U:=⟨_,rfl⟩;rw[hU] at bU K0U vR KM⊢;obtain⟨RB,hRB⟩:∃r,w2.heap.size=r:=⟨_,rfl⟩;rw[hRB] at KM hlt⊢;have NU:=HN.out.below bU;have TU:=fun V (hV:Below U.heap.size U V)=>TH V (NU.below hV);clear hU b0 b1 b2 b3 AT RD R1 TH hw0 K0 hp;have T1:=TU U.drew (below_drewN (Below.refl _ _) 1);obtain⟨m0,m1,m2,m3,m4,m5,m6,m7,m8,m9,m10,m11, -⟩:=KM.Kb;have p2:=aF vR 2 _ rfl;have p3:=aF vR 3 _ rfl;have p4:=aF vR 4 _ rfl;have p5:=aF vR 5 _ rfl;have p6:=aF vR 6 _ rfl;have p7:=aF vR 7 _ rfl;have p8:=aF vR 8 _ rfl;have p9:=aF vR 9 _ rfl;have p10:=aF vR 10 _ rfl;have p11:=aF vR 11 _ rfl;have p12:=aF vR 12 _ rfl;have p13:=aF vR 13 _ rfl;have RF:∀V,Below U.heap.size U.drew V->dH V W.heap.size zA 129:=fun V hV=>⟨(hV.block _ K0U.lt).trans K0U.h⟩;clear vR KM
   go_region_with (go_at_call 145;refine T1.mono ?_;rintro e w3 ⟨rfl,b4⟩;obtain⟨z0,z1,z2,z3,z4,z5,z6,z7,z8,z9,z10,z11,y0,y1,y2,y3,y4,y5,y6,y7,y8,y9,Yv,y11⟩:=(RF w3 b4).Kb)
   all_goals go_wp2_with fail
   all_goals refine bodyPost_ret (v:=.tuple #[mv x,.nilIface]) (by simp[results,results97,go_sem,z0,z1,z2,z3,z4,z5,z6,z7,z8,z9,z10,z11]) rfl ⟨rfl,?_⟩
   all_goals exact aQ (R:=W.heap.size) ai (mL x) 0 (bU.trans ((below_drewN (Below.refl _ _) 1).trans (b4.mono ai)|>.mono bU.size))
  ·rw[if_neg ht];have TH:∀V,NE E V->ax 145 #[mv rm,mv m] V fun e w'=>(∃v,e=.returned (.tuple #[mv .zero,v])/\Er.is (E 2) (E 3) (E 2) V.heap.size (.bare 2) v w')/\Below V.heap.size V w':=fun V hV=>by
    have h:=OU (aB:=E 2) (aS:=E 3) (aZ:=E 2) (lg hro) (lg hm) (fun y e=>ht (by rw[(Jl e).2.2])) V hV.e3;have h2:(oO rm m).2=.bare 2:=by
     unfold oO;rw[if_neg (fun e=>e (nQ hro)),if_neg (fun e=>e (nQ hm)),if_neg ht]
    rw[h2] at h;exact h
   clear ht hrc;go_enter func97,ntmps97;go_upto_region 5 with(first|(go_at_call 17;refine AT.mono ?_;rintro e w1 ⟨rfl,b1⟩;have R1:=RD w1 (HN.out.below (aG b0 b1)))|(go_at_call 144;refine R1.mono ?_;rintro e w2 ⟨rfl,b2⟩));have b3:=di w2 (.cells (mA rm) 129);have KM:=dH.new w2 (mA rm) 129;have bU:=aG (aG b0 b1) (aG b2 b3);have K0U:=K0.below (aG b1 (aG b2 b3)) ai;have vR:=(bU.block _ hpl).trans hp;have hlt:W.heap.size<w2.heap.size:=by have:=b1.size;have:=b2.size;simp at*;omega
   obtain⟨U,hU⟩:∃U,w2.alloc (.cells (mA rm) 129)=U:=⟨_,rfl⟩;rw[hU] at bU K0U vR KM⊢;obtain⟨RB,hRB⟩:∃r,w2.heap.size=r:=⟨_,rfl⟩;rw[hRB] at KM hlt⊢;have NU:=HN.out.below bU;have TU:=fun V (hV:Below U.heap.size U V)=>TH V (NU.below hV);clear hU b0 b1 b2 b3 AT RD R1 TH hw0 K0 hp;have T1:=TU U.drew (below_drewN (Below.refl _ _) 1);obtain⟨m0,m1,m2,m3,m4,m5,m6,m7,m8,m9,m10,m11, -⟩:=KM.Kb;have p2:=aF vR 2 _ rfl;have p3:=aF vR 3 _ rfl;have p4:=aF vR 4 _ rfl;have p5:=aF vR 5 _ rfl;have p6:=aF vR 6 _ rfl;have p7:=aF vR 7 _ rfl;have p8:=aF vR 8 _ rfl;have p9:=aF vR 9 _ rfl;have p10:=aF vR 10 _ rfl;have p11:=aF vR 11 _ rfl;have p12:=aF vR 12 _ rfl;have p13:=aF vR 13 _ rfl;have RF:∀V,Below U.heap.size U.drew V->dH V W.heap.size zA 129:=fun V hV=>⟨(hV.block _ K0U.lt).trans K0U.h⟩;clear vR KM
   go_region_with (go_at_call 145;refine T1.mono ?_;rintro e w3 ⟨⟨ev,rfl,hev⟩,b4⟩;obtain⟨z0,z1,z2,z3,z4,z5,z6,z7,z8,z9,z10,z11,y0,y1,y2,y3,y4,y5,y6,y7,y8,y9,Yv,y11⟩:=(RF w3 b4).Kb)
   all_goals go_wp2_with fail
   all_goals refine bodyPost_ret (v:=.tuple #[mv .zero,ev]) (by simp[results,results97,go_sem,Mv.zero,Fr.zero,z0,z1,z2,z3,z4,z5,z6,z7,z8,z9,z10,z11]) rfl ⟨⟨ev,rfl,by decide,by decide,.inl hev.2⟩,?_⟩
   all_goals exact aQ (R:=W.heap.size) ai zL 0 (bU.trans ((below_drewN (Below.refl _ _) 1).trans (b4.mono ai)|>.mono bU.size))
 ·have hrc:rc=1\/rc=2\/rc=3:=hrc.resolve_left hc;rw[if_pos hc];simp only[a3S hrc] at RD;have HRC:=aj hrc;clear hrc hro;go_enter func97,ntmps97;go_wp2_with(first|(go_at_call 17;refine AT.mono ?_;rintro e w1 ⟨rfl,b1⟩;have R1:=RD w1 (HN.out.below (aG b0 b1)))|(go_at_call 144;refine R1.mono ?_;rintro e w2 ⟨rfl,b2⟩;obtain⟨z0,z1,z2,z3,z4,z5,z6,z7,z8,z9,z10,z11,y0,y1,y2,y3,y4,y5,y6,y7,y8,y9,Yv,y11⟩:=((K0.below (aG b1 b2) ai).alloc (.cells (mA rm) 129)).Kb));refine bodyPost_ret (v:=.tuple #[mv .zero,eV (E rc)]) (by simp[results,results97,go_sem,Mv.zero,Fr.zero,z0,z1,z2,z3,z4,z5,z6,z7,z8,z9,z10,z11]) rfl ⟨⟨_,rfl,by have:=HRC.out;omega,by have:=HRC.out;omega,.inl rfl⟩,?_⟩;exact aQ (R:=W.heap.size) ai zL 0 ((aG b0 (aG b1 b2)).alloc (aG b0 (aG b1 b2)).size _)
end
end
section
open Go.RowKit
theorem aJ {w:ag}{b:Nat}{cs:Array ah}{t:TypeId}{f:Nat×Nat}(h:w.heap[b]? =some (.cells cs t f))(k:Nat)(v:ah)(hv:cs[k]? =some v):w.cell? (ak b k)=some v:=by
 simp only[World.cell?,h];exact hv
theorem cO {w:ag}{b:Nat}{cs:Array ah}{t:TypeId}(h:w.heap[b]? =some (.cells cs t (0,0)))(k:Nat):w.frozen? ⟨b,k,none⟩=false:=by
 simp[World.frozen?,h]
theorem gL {X:ag}{k:Nat}{v:Obj}(o:Obj)(h:X.heap[k]? =some v):(X.alloc o).heap[k]? =some v:=((aU X o).block k (Array.getElem?_eq_some_iff.1 h).1).trans h
theorem oz {X:ag}{k:Nat}(o:Obj)(h:X.heap.size=k):(X.alloc o).heap[k]? =some o:=by rw[<- h];exact World.alloc_heap_new X o
theorem a8h (w:ag)(o0 o1 o2 o3 o4 o5:Obj):∀U,(((((w.alloc o0).alloc o1).alloc o2).alloc o3).alloc o4).alloc o5=U->
  U.heap[w.heap.size]? =some o0/\U.heap[w.heap.size+1]? =some o1/\U.heap[w.heap.size+1+1]? =some o2/\U.heap[w.heap.size+1+1+1]? =some o3/\U.heap[w.heap.size+1+1+1+1]? =some o4/\U.heap[w.heap.size+1+1+1+1+1]? =some o5/\Below w.heap.size w U:=by
 rintro U rfl;refine⟨?_,?_,?_,?_,?_,?_,?_⟩
 ·exact gL _ (gL _ (gL _ (gL _ (gL _ (oz _ rfl)))))
 ·exact gL _ (gL _ (gL _ (gL _ (oz _ (by simp)))))
 ·exact gL _ (gL _ (gL _ (oz _ (by simp))))
 ·exact gL _ (gL _ (oz _ (by simp)))
 ·exact gL _ (oz _ (by simp))
 ·exact oz _ (by simp)
 ·exact((((((Below.refl _ _).alloc ai _).alloc (by simp) _).alloc (by simp;omega) _).alloc (by simp;omega) _).alloc (by simp;omega) _).alloc (by simp;omega) _
theorem a2c {an ad bn bd:Int}(ha:dz an ad=0)(hb:dz bn bd=0):(add an ad bn bd).c=0\/(add an ad bn bd).c=2:=by
 have e:add an ad bn bd=low (an*bd+bn*ad) (ad*bd):=by unfold add;rw[if_neg (by simp[ha]),if_neg (by simp[hb])]
 rw[e];rcases wC (n:=an*bd+bn*ad) (d:=ad*bd) with h|h
 ·rw[h];exact .inr rfl
 ·exact .inl h
end
section
open Go.RowKit Go.Shelf
set_option maxRecDepth 20000
theorem Nu (s:aD)(w:ag)(h:behind 44 s.data.toList=none):
  ax 77 #[.string s,.string ⟨#[44]⟩] w fun e w'=>e=.returned (.tuple #[.string s,.string ⟨#[]⟩,.bool false])/\∃k,w'=w.drewN k:=by
 obtain⟨hi,_⟩:=index_none 44 _ h;have HI:=Tryz.stringslite_Index_one s 44;rw[hi] at HI;have HH:=aj HI;clear HI hi h;go_enter func77,ntmps77;go_wp2_with(go_at_call 122;refine(HH.out _).mono ?_;rintro e w' ⟨rfl,rfl⟩);go_ret3;exact⟨rfl,0,rfl⟩
theorem Nv (s a b:aD)(w:ag)(hb:behind 44 s.data.toList=some b.data.toList)(ha:ahead 44 s.data.toList=a.data.toList)(hm:s.size<=9223372036854475807):
  ax 77 #[.string s,.string ⟨#[44]⟩] w fun e w'=>e=.returned (.tuple #[.string a,.string b,.bool true])/\∃k,w'=w.drewN k:=by
 obtain⟨i,hi,hl,h3,h4⟩:=nP 44 _ _ hb;rw[jG] at hl;have HI:=Tryz.stringslite_Index_one s 44;rw[hi] at HI;have HH:=aj HI;have e1:s.extract 0 i=a:=ext_list (by rw[Lib.extract_data];simpa[ha] using h3);have e2:s.extract (i+1) s.size=b:=ext_list (by rw[Lib.extract_to_end];exact h4);clear HI hi h3 h4 ha hb;have hl1:(i:Int)<(s.size:Int):=by omega
 have hl2:(i:Int)+1<=(s.size:Int):=by omega
 have h0:(0:Int)<=(i:Int):=by omega
 go_enter func77,ntmps77;go_wp2_with(go_at_call 122;refine(HH.out _).mono ?_;rintro e w' ⟨rfl,rfl⟩)
 go_quiet (fail)
 go_wp2;go_ret3;exact⟨rfl,_,rfl⟩
theorem SY (s:aD)(w:ag)(h:behind 44 s.data.toList=none):
  ax 44 #[.string s,.string ⟨#[44]⟩] w fun e w'=>e=.returned (.tuple #[.string s,.string ⟨#[]⟩,.bool false])/\∃k,w'=w.drewN k:=by
 have HB:=aj h;clear h;go_enter func44,ntmps44;go_wp2_with(go_at_call 77;refine(Nu s _ HB.out).mono ?_;rintro e w' ⟨rfl,k,rfl⟩);go_ret3;exact⟨rfl,_,rfl⟩
theorem T9 (s a b:aD)(w:ag)(hb:behind 44 s.data.toList=some b.data.toList)(ha:ahead 44 s.data.toList=a.data.toList)(hm:s.size<=9223372036854475807):
  ax 44 #[.string s,.string ⟨#[44]⟩] w fun e w'=>e=.returned (.tuple #[.string a,.string b,.bool true])/\∃k,w'=w.drewN k:=by
 have HB:=aj hb;have HA:=aj ha;clear ha hb;go_enter func44,ntmps44;go_wp2_with(go_at_call 77;refine(Nv s a b _ HB.out HA.out hm).mono ?_;rintro e w' ⟨rfl,k,rfl⟩);go_ret3;exact⟨rfl,_,rfl⟩
theorem xB {E:Nat->Addr}{c:Nat}(h:c=1\/c=2\/c=3):Lr (E 1) (E 2) (E 3) (E 2) c=eV (E c):=by
 rcases h with rfl|rfl|rfl<;>rfl
theorem oC {E:Nat->Addr}:Lr (E 1) (E 2) (E 3) (E 2) 0=.nilIface:=rfl
abbrev zQt:Qt:=⟨0,0,0,0⟩
def RpR (x:Option Qt)(e:Ending):Prop:=match x with
 |some q=>e=.returned (.tuple #[lN q,.bool true])
 |none=>e=.returned (.tuple #[lN zQt,.bool false])
section
variable {E:Nat->Addr}{W:ag}
theorem zq (hN:NE E W)(s:aD)(hs:s.size<=1000000):ax 232 #[.string s] W fun e w'=>e=.returned (.tuple #[.agg #[aa (rd s.data.toList).n,aa (rd s.data.toList).d],Lr (E 1) (E 2) (E 3) (E 2) (rd s.data.toList).c])/\Below W.heap.size W w':=
 qX (E 1) (E 2) (E 3) (E 2) s W hN.e3 hN.c1 (by omega)
theorem qL (s l r:aD)(bo:Bool)(xn xd yn yd:Int)(e1 e2:ah)(ans:Option Qt)
  (CT:∀V,ax 44 #[.string s,.string ⟨#[44]⟩] V fun e w'=>e=.returned (.tuple #[.string l,.string r,.bool bo])/\∃k,w'=V.drewN k)
  (RX:∀V,NE E V->ax 232 #[.string l] V fun e w'=>e=.returned (.tuple #[.agg #[aa xn,aa xd],e1])/\Below V.heap.size V w')
  (RY:∀V,NE E V->ax 232 #[.string r] V fun e w'=>e=.returned (.tuple #[.agg #[aa yn,aa yd],e2])/\Below V.heap.size V w')
  (ny:(bo=false/\ans=none)\/(bo=true/\(∃a,e1=eV a)/\ans=none)\/(bo=true/\e1=.nilIface/\(∃a,e2=eV a)/\ans=none)\/(bo=true/\e1=.nilIface/\e2=.nilIface/\ans=some ⟨xn,xd,yn,yd⟩)) (hN:NE E W):
  ax 236 #[.string s] W fun e w'=>RpR ans e/\Below W.heap.size W w':=by
 have b0:=di W (.cells #[aa 0,aa 0,aa 0,aa 0] 177);have K0:=cZ W #[aa 0,aa 0,aa 0,aa 0] 177;have HN:=aj hN;clear hN;go_enter func236,ntmps236;go_upto_region 2 with(go_at_call 44;refine(CT _).mono ?_;rintro e w1 ⟨rfl,k,hw⟩;rw[hw]);have bU1:=below_drewN b0 k;obtain⟨U1,ZW⟩:∃U,((W.alloc (.cells #[aa 0,aa 0,aa 0,aa 0] 177)).drewN k)=U:=⟨_,rfl⟩;have K1:U1.heap[W.heap.size]? =some (.cells #[aa 0,aa 0,aa 0,aa 0] 177):=by rw[<- ZW];exact K0
 rw[ZW] at bU1⊢;clear ZW K0 b0;have R1:=RX U1 (HN.out.below bU1);go_upto_region 3 with(go_at_call 232;refine R1.mono ?_;rintro e w2 ⟨rfl,b2⟩);have b3:=di w2 (.cells #[aa xn,aa xd] 127);have KX:=cZ w2 #[aa xn,aa xd] 127;obtain⟨U2,hU2⟩:∃U,w2.alloc (.cells #[aa xn,aa xd] 127)=U:=⟨_,rfl⟩;obtain⟨BX,hBX⟩:∃b,w2.heap.size=b:=⟨_,rfl⟩;rw[hU2] at b3 KX⊢;rw[hBX] at KX⊢;have rJ:=aG b2 b3;have hlt1:W.heap.size<BX:=by have:=b2.size;have:=aY K1;omega
 have K2:=(rJ.block _ (aY K1)).trans K1;have bU2:=aG bU1 rJ;clear R1 hU2 b2 b3 rJ K1 hBX;have R2:=RY U2 (HN.out.below bU2);go_upto_region 4 with(go_at_call 232;refine R2.mono ?_;rintro e w4 ⟨rfl,b4⟩);have b5:=di w4 (.cells #[aa yn,aa yd] 127);have KY:=cZ w4 #[aa yn,aa yd] 127;obtain⟨U3,hU3⟩:∃U,w4.alloc (.cells #[aa yn,aa yd] 127)=U:=⟨_,rfl⟩;obtain⟨BY,hBY⟩:∃b,w4.heap.size=b:=⟨_,rfl⟩;rw[hU3] at b5 KY⊢;rw[hBY] at KY⊢;have b45:=aG b4 b5;have hlt2:BX<BY:=by have:=b4.size;have:=aY KX;omega
 have K3:=(b45.block _ (aY K2)).trans K2;have KX3:=(b45.block _ (aY KX)).trans KX;have bU3:=aG bU2 b45;clear R2 hU3 b4 b5 b45 K2 KX hBY;have x0:=aF KX3 0 _ rfl;have x1:=aF KX3 1 _ rfl;have y0:=aF KY 0 _ rfl;have y1:=aF KY 1 _ rfl;have r0:=aF K3 0 _ rfl;have r1:=aF K3 1 _ rfl;have r2:=aF K3 2 _ rfl;have r3:=aF K3 3 _ rfl;have f0:=cO K3 0;have f1:=cO K3 1;have f2:=cO K3 2;have f3:=cO K3 3;clear CT RX RY;rcases ny with⟨rfl,rfl⟩|⟨rfl,⟨a,rfl⟩,rfl⟩|⟨rfl,rfl,⟨a,rfl⟩,rfl⟩|⟨rfl,rfl,rfl,rfl⟩
 ·go_wp2_with fail
  all_goals refine bodyPost_ret (v:=.tuple #[lN zQt,.bool false]) (by simp[results,results236,go_sem,r0,r1,r2,r3]) rfl ⟨rfl,?_⟩
  all_goals exact(((bU3.setCell ai _).setCell ai _).setCell ai _).setCell ai _
 ·go_wp2_with fail
  all_goals refine bodyPost_ret (v:=.tuple #[lN zQt,.bool false]) (by simp[results,results236,go_sem,r0,r1,r2,r3]) rfl ⟨rfl,?_⟩
  all_goals exact(((bU3.setCell ai _).setCell ai _).setCell ai _).setCell ai _
 ·go_wp2_with fail
  all_goals refine bodyPost_ret (v:=.tuple #[lN zQt,.bool false]) (by simp[results,results236,go_sem,r0,r1,r2,r3]) rfl ⟨rfl,?_⟩
  all_goals exact(((bU3.setCell ai _).setCell ai _).setCell ai _).setCell ai _
 ·go_wp2_with fail
  all_goals refine bodyPost_ret (v:=.tuple #[lN ⟨xn,xd,yn,yd⟩,.bool true]) (by simp[results,results236,go_sem,r0,r1,r2,r3]) rfl ⟨rfl,?_⟩
  all_goals exact(((bU3.setCell ai _).setCell ai _).setCell ai _).setCell ai _
theorem Nw (l:Bs):(rd l).c=0\/(rd l).c=1\/(rd l).c=2\/(rd l).c=3:=by
 rcases Bn l with h|⟨h, -⟩
 ·exact .inl h
 ·exact .inr h
theorem Du (hN:NE E W)(s:aD)(hs:s.size<=1000):
  ax 236 #[.string s] W fun e w'=>RpR (ptM s.data.toList) e/\Below W.heap.size W w':=by
 unfold ptM;cases hb:behind 44 s.data.toList with
 |none=>
  exact qL s s ⟨#[]⟩ false _ _ _ _ _ _ none (fun V=>SY s V hb) (fun V hV=>zq hV s (by omega)) (fun V hV=>zq hV ⟨#[]⟩ (by decide)) (.inl ⟨rfl,rfl⟩) hN
 |some b=>
  have hbb:behind 44 s.data.toList=some (⟨b.toArray⟩:aD).data.toList:=hb;have haa:ahead 44 s.data.toList=(⟨(ahead 44 s.data.toList).toArray⟩:aD).data.toList:=rfl;obtain⟨i, -,hl,h3,h4⟩:=nP 44 _ _ hb;have hla:(⟨(ahead 44 s.data.toList).toArray⟩:aD).size<=1000000:=by
   show(ahead 44 s.data.toList).length<=1000000;rw[<- h3,List.length_take];have:s.data.toList.length=s.size:=rfl;omega
  have hlb:(⟨b.toArray⟩:aD).size<=1000000:=by
   show b.length<=1000000;rw[<- h4,List.length_drop];have:s.data.toList.length=s.size:=rfl;omega
  refine qL s ⟨(ahead 44 s.data.toList).toArray⟩ ⟨b.toArray⟩ true _ _ _ _ _ _ _ (fun V=>T9 s _ _ V hbb haa (by omega)) (fun V hV=>zq hV _ hla) (fun V hV=>zq hV _ hlb) (.inr ?_) hN;dsimp only;rcases Nw (ahead 44 s.data.toList) with h1|h1
  ·rcases Nw b with h2|h2
   ·exact .inr (.inr ⟨rfl,by rw[h1,oC],by rw[h2,oC],by rw[if_pos ⟨h1,h2⟩]⟩)
   ·exact .inr (.inl ⟨rfl,by rw[h1,oC],⟨_,xB h2⟩,by rw[if_neg (by omega)]⟩)
  ·exact .inl ⟨rfl,⟨_,xB h1⟩,by rw[if_neg (by omega)]⟩
end
end
section
theorem Ta {x:Int}(h1: -1000<=x)(h2:x<=1000):dz x 1=0:=by
 rw[dJ];refine⟨by decide,?_,by omega,by decide⟩;unfold fC;simp
end
section
open Go.RowKit
theorem gU.nil (w:ag)(base:Nat):gU w base (.slice none 0 0) []:=World.ownsRow_nil _ _ _ _
theorem gU.app {w:ag}{base:Nat}{v:ah}{l m:List Qt}{k:Nat}(h:w.ownsRow base 177 4 v (l.length+k) (dI l++dI m))(hk:k=m.length):gU w base v (l++m):=by
 unfold gU;rw[zO,List.length_append,<- hk];exact h
def Ny (a:Qt):Pt:=⟨⟨a.xn,a.xd⟩,⟨a.yn,a.yd⟩⟩
theorem zu {a:Qt}(h:eY a=0):PI a:=by
 obtain⟨c1,c2⟩:=fE.1 h;obtain⟨i1,i2⟩:=fZ c1;obtain⟨i3,i4⟩:=fZ c2;exact⟨i1,i2,i3,i4⟩
theorem a8l (w:ag)(o0 o1 o2:Obj):∀U,((w.alloc o0).alloc o1).alloc o2=U->
  U.heap[w.heap.size]? =some o0/\U.heap[w.heap.size+1]? =some o1/\U.heap[w.heap.size+1+1]? =some o2/\Below w.heap.size w U:=by
 rintro U rfl;refine⟨?_,?_,?_,?_⟩
 ·exact gL _ (gL _ (oz _ rfl))
 ·exact gL _ (oz _ (by simp))
 ·exact oz _ (by simp)
 ·exact(((Below.refl _ _).alloc ai _).alloc (by simp) _).alloc (by simp;omega) _
theorem Tc {w w':ag}{b n:Nat}{o:Obj}(hb:Below n w w')(hn:w.heap.size<=n)(h:w.heap[b]? =some o):w'.heap[b]? =some o:=(hb.block _ (Nat.lt_of_lt_of_le (Array.getElem?_eq_some_iff.1 h).1 hn)).trans h
theorem ig {w w':ag}{b:Nat}{o:Obj}(hb:Below w.heap.size w w')(h:w.heap[b]? =some o):w'.heap[b]? =some o:=Tc hb ai h
theorem gU.far {w:ag}{base b:Nat}{v u:ah}{l:List Qt}(h:gU w base v l)(hb:b<base):gU (w.setCell ⟨b,0,none⟩ u) base v l:=by
 refine⟨h.1,?_⟩;rcases h.2 with h0|⟨g,cap,cur,h1,h2,h3,h4⟩
 ·exact .inl h0
 ·refine .inr ⟨g,cap,cur,h1,h2,?_,h4⟩;rw[Below.heap_setCell _ _ _ g (by simp;omega)];exact h3
theorem gU.low {w:ag}{base b:Nat}{v:ah}{l:List Qt}(h:gU w base v l)(hb:b<=base):gU w b v l:=by
 refine⟨h.1,?_⟩;rcases h.2 with h0|⟨g,cap,cur,h1,h2,h3⟩
 ·exact .inl h0
 ·exact .inr ⟨g,cap,cur,h1,Nat.le_trans hb h2,h3⟩
theorem gU.keep {w w':ag}{base:Nat}{v:ah}{l:List Qt}(h:gU w base v l)(hb:Below w.heap.size w w'):gU w' base v l:=by
 refine⟨h.1,?_⟩;rcases h.2 with h0|⟨g,cap,cur,h1,h2,h3,h4⟩
 ·exact .inl h0
 ·exact .inr ⟨g,cap,cur,h1,h2,ig hb h3,h4⟩
end
section
open Go.RowKit Go.Shelf
set_option maxRecDepth 20000
def CkR (E:Nat->Addr)(l:List Qt)(o:Option Addr)(cap:Nat)(e:Ending)(w':ag):Prop:=
 (okB l=true/\e=.returned (.tuple #[.agg #[.slice o l.length cap],.nilIface]))\/(okB l=false/\∃v,e=.returned (.tuple #[.agg #[.slice none 0 0],v])/\Lu E 2 v w')
theorem vS (l:List Qt):okB l=true↔kR l:=by
 unfold okB kR;simp
theorem a3U {E:Nat->Addr}{w W:ag}{l:List Qt}{e:Ending}(hl:∀y∈l,eY y=0)(h:Uv (E 2) (E 3) (E 2) w l e W):∃v,e=.returned v/\((okB l=true/\v=.nilIface)\/(okB l=false/\(v=eV (E 2)\/∃pb,w.heap.size<=pb/\v=.iface 113 (ay pb)/\W.cell? (ak pb 1)=some (eV (E 2))))):=by
 rcases h with⟨h1,h2⟩|⟨-,⟨y,hy,hy2⟩, -⟩|⟨h1,h2,h3⟩
 ·exact⟨_,h2,.inr ⟨by rw[<- Bool.not_eq_true,vS];exact fun h=>by have:=h.1;omega,.inl rfl⟩⟩
 ·exact absurd (hl y hy) hy2
 ·rcases h3 with⟨h4,h5⟩|⟨q,x,r,pb,h4, -,h6,h7,h8, -,h9⟩
  ·exact⟨_,h5,.inl ⟨(vS l).2 ⟨h1,fun y hy=>by unfold gH;rw[if_neg (by simp[h2 y hy])];exact h4 y hy⟩,rfl⟩⟩
  ·have hx:jw x=2:=by have:=kQ x;omega
   refine⟨_,h8,.inr ⟨?_,.inr ⟨pb,h7,rfl,by rw[h9,hx];rfl⟩⟩⟩;rw[<- Bool.not_eq_true,vS];intro hh;have hm:x∈l:=by rw[h4];simp
   have:=hh.2 x hm;unfold gH at this;rw[if_neg (by simp[h2 x hm])] at this;exact h6 this
theorem BI {E:Nat->Addr}(l:List Qt)(hl:∀y∈l,eY y=0)(o:Option Addr)(cap:Nat)(w:ag)(h:eO w o l)(hE:NE E w):
  ax 234 #[.slice o l.length cap] w fun e W=>CkR E l o cap e W/\Below w.heap.size w W:=by
 go_enter func234,ntmps234;go_upto_region 2 with fail;obtain⟨U,hU⟩:∃U,(w.alloc (.cells #[.slice none 0 0] 136)).alloc (.cells #[.slice o l.length cap] 136)=U:=⟨_,rfl⟩;have rV:Below w.heap.size w U:=by rw[<- hU];exact((Below.refl _ _).alloc ai _).alloc (by simp) _
 have c0:U.cell? ⟨w.heap.size,0,none⟩=some (.slice none 0 0)/\U.frozen? ⟨w.heap.size,0,none⟩=false:=by
  rw[<- hU];have h1:=aU (w.alloc (.cells #[.slice none 0 0] 136)) (.cells #[.slice o l.length cap] 136);exact⟨(h1.cell (p:=⟨w.heap.size,0,none⟩) (by simp)).trans (iy w _ _).1,(h1.frozen (p:=⟨w.heap.size,0,none⟩) (by simp)).trans (iy w _ _).2⟩
 have c1:U.cell? ⟨w.heap.size+1,0,none⟩=some (.slice o l.length cap):=by
  have h1:=(iy (w.alloc (.cells #[.slice none 0 0] 136)) (.slice o l.length cap) 136).1;rw[show(w.alloc (.cells #[.slice none 0 0] 136)).heap.size=w.heap.size+1 from by simp,hU] at h1;exact h1
 rw[hU];clear hU;obtain⟨c0,f0⟩:=c0;have CK:=uO (E 2) (E 3) (E 2) l o cap U (h.below rV ai) (hE.e3.below rV ai);have hUl:w.heap.size<U.heap.size:=aC c0;have HL:=aj hl;go_upto_region 3 with(go_at_call 128;refine CK.mono ?_;rintro e w1 ⟨hc,b1⟩;obtain⟨v,rfl,hcv⟩:=a3U HL.out hc);have q0:=(b1.cell (aC c0)).trans c0;have g0:=(b1.frozen (aC c0)).trans f0;have q1:=(b1.cell (aC c1)).trans c1;have sS:=aA rV b1;clear hc CK c0 f0 c1;rcases hcv with⟨hok,rfl⟩|⟨hno,hv⟩
 ·go_wp2_with fail;have d0:(w1.setCell ⟨w.heap.size,0,none⟩ (.slice o l.length cap)).cell? ⟨w.heap.size,0,none⟩=some (.slice o l.length cap):=World.cell?_setCell_same' _ _ _ (by rw[q0];rfl);exact bodyPost_ret (v:=.tuple #[.agg #[.slice o l.length cap],.nilIface]) (by simp[results,results234,go_sem,d0]) rfl ⟨.inl ⟨hok,rfl⟩,sS.setCell (by simp) _⟩
 ·have d0:(w1.setCell ⟨w.heap.size,0,none⟩ (.slice none 0 0)).cell? ⟨w.heap.size,0,none⟩=some (.slice none 0 0):=World.cell?_setCell_same' _ _ _ (by rw[q0];rfl);rcases hv with rfl|⟨pb,hpb,rfl,hp1⟩
  ·go_wp2_with fail;exact bodyPost_ret (v:=.tuple #[.agg #[.slice none 0 0],eV (E 2)]) (by simp[results,results234,go_sem,d0]) rfl ⟨.inr ⟨hno,_,rfl,by decide,by decide,.inl rfl⟩,sS.setCell (by simp) _⟩
  ·go_wp2_with fail;refine bodyPost_ret (v:=.tuple #[.agg #[.slice none 0 0],.iface 113 (ay pb)]) (by simp[results,results234,go_sem,d0]) rfl ⟨.inr ⟨hno,_,rfl,by decide,by decide,.inr ⟨pb,0,rfl,?_⟩⟩,sS.setCell (by simp) _⟩;exact(World.cell?_setCell_far _ _ _ _ (by show w.heap.size≠pb;omega)).trans hp1
def lu (E:Nat->Addr)(x:Except Nat (List Qt))(e:Ending)(w':ag):Prop:=match x with
 | .ok l=>(∀a∈l,eY a=0)/\okB l=true/\∃o cap,e=.returned (.tuple #[.agg #[.slice o l.length cap],.nilIface])/\eO w' o l
 | .error c=>∃v,e=.returned (.tuple #[.agg #[.slice none 0 0],v])/\Lu E c v w'
def ptB (w:aD):Option Qt:=ptM w.data.toList
theorem a0A {w:Bs}{q:Qt}(h:ptM w=some q):eY q=0:=by
 unfold ptM at h;cases hb:behind 44 w with
 |none=>rw[hb] at h;cases h
 |some b=>
  rw[hb] at h;dsimp only at h;by_cases hc:(rd (ahead 44 w)).c=0/\(rd b).c=0
  ·rw[if_pos hc] at h;obtain rfl:=Option.some.inj h;exact fE.2 ⟨OZ hc.1,OZ hc.2⟩
  ·rw[if_neg hc] at h;cases h
theorem Td {f:aD->Option Qt}{ws:List aD}{k:Nat}{L:List Qt}{x:aD}{q:Qt}(h:(ws.take k).mapM f=some L)(hx:ws[k]? =some x)(hq:f x=some q):(ws.take (k+1)).mapM f=some (L++[q]):=by
 rw[List.take_add_one,hx];simp[List.mapM_append,h,hq]
theorem Qd {f:aD->Option Qt}:∀{ws:List aD} {k:Nat} {x:aD},ws[k]? =some x->f x=none->ws.mapM f=none
 |[],_,_,h,_=>by simp at h
 |y::ws,0,x,h,hx=>by
  simp at h;subst h;simp[hx]
 |y::ws,k+1,x,h,hx=>by
  have:=Qd (ws:=ws) (k:=k) (by simpa using h) hx;simp[this]
def Xr (ws:List aD):Except Nat (List Qt):=match ws.mapM ptB with
 |none=>.error 1
 |some l=>if okB l then .ok l else .error 2
theorem Lu.far {E:Nat->Addr}{c:Nat}{v u:ah}{w:ag}{b:Nat}(h:Lu E c v w):Lu E c v (w.setCell ⟨b,0,none⟩ u):=by
 obtain⟨h1,h2,h3⟩:=h;refine⟨h1,h2,?_⟩;rcases h3 with h3|⟨pb,po,h3,h4⟩
 ·exact .inl h3
 ·exact .inr ⟨pb,po,h3,(World.cell?_setCell_other _ _ _ _ (by intro h;simp at h)).trans h4⟩
def SrL (ws:List aD)(w1:ag)(x y:ah)(wr:ag):Prop:=∃(k:Nat) (L:List Qt) (v:ah),x=v/\y=aa k/\k<=ws.length/\(ws.take k).mapM ptB=some L/\(∀a∈L,eY a=0)/\L.length=k/\gU wr w1.heap.size v L/\Below w1.heap.size w1 wr
section
variable {E:Nat->Addr}{W:ag}
theorem Kg (hN:NE E W)(s:aD)(hs:s.size<=1000)(h0:s.size≠0):
  ax 195 #[.string s] W fun e w'=>lu E (Xr (words s)) e w'/\Below W.heap.size W w':=by
 obtain⟨i0,hi,hz0,hz1,hz2⟩:=info_parts UA;have b0:=di W (.cells #[.slice none 0 0] 136);have K0:=cZ W #[.slice none 0 0] 136;have SP:=xw s (by omega) (W.alloc (.cells #[.slice none 0 0] 136));have hlen:(words s).length=Lib.countB s ⟨#[32]⟩+1:=Lib.splitB_all ⟨#[32]⟩ (by decide) 0 _ s rfl;have hle:=Lib.countB_le ⟨#[32]⟩ (by decide) s.size s ai;have hsz:∀a∈words s,a.size<=1000:=fun a ha=>by have:=Bq _ s a ha;omega
 have hws:(Lib.splitB ⟨#[32]⟩ 0 (Lib.countB s ⟨#[32]⟩) s)=words s:=rfl;rw[hws,<- hlen] at SP;have hn1:(words s).length<=1001:=by omega
 generalize words s=ws at SP hsz hn1⊢;clear hws hlen hle;have hne:s.toList.isEmpty=false:=by
  rw[ByteArray.toList_eq,List.isEmpty_eq_false_iff];intro e;exact h0 (by rw[<- jG,e];rfl)
 have b1:=di (W.alloc (.cells #[.slice none 0 0] 136)) (.cells (ws.map Value.string).toArray 9);have KW:=cZ (W.alloc (.cells #[.slice none 0 0] 136)) (ws.map Value.string).toArray 9;have HN:=aj hN;clear hN;go_enter func195,ntmps195;go_upto_region 5 with(go_at_call 235;refine SP.mono ?_;rintro e w1 ⟨rfl,rfl⟩);clear SP;obtain⟨w1,hw1⟩:∃U,(W.alloc (.cells #[.slice none 0 0] 136)).alloc (.cells (ws.map Value.string).toArray 9)=U:=⟨_,rfl⟩;obtain⟨WB,hWB⟩:∃b,(W.alloc (.cells #[.slice none 0 0] 136)).heap.size=b:=⟨_,rfl⟩;have akf:W.heap.size<WB:=by rw[<- hWB];simp
 have K1:=(b1.block _ (aY K0)).trans K0;have sS:=aG b0 b1;rw[hw1] at sS K1 KW⊢;rw[hWB] at KW;simp only[World.size_alloc] at hWB;simp only[hWB];clear hw1 b0 b1 K0
 go_loopw [4,15] (fun x y wr=>SrL ws w1 x y wr) (fun _ y _=>ws.length-(intOf y).toNat)
 case atStart=>exact⟨0,[],_,rfl,rfl,Nat.zero_le _,rfl,by simp,rfl,gU.nil _ _,Below.refl _ _⟩
 case round=>
  obtain⟨k,L,v,rfl,rfl,hk,hL,hC,hLl,hO,hb⟩:=hrel;have HL:=aj hL;have HC:=aj hC;obtain⟨ov,cv,rfl,a8m⟩:=hO.at_ (fun a ha=>zu (hC a ha));rw[hLl] at hO⊢;have Nz:=aj hLl;have HO:=aj hO;have HPT:=aj a8m;have NR:=HN.out.below (aG sS hb);have KR:=(hb.block _ (aY K1)).trans K1;have KV:=(hb.block _ (aY KW)).trans KW;have r0:=aF KR 0 _ rfl;have f0:=cO KR 0;have bWr:=aG sS hb;clear hL hC hLl hO a8m;by_cases hlt:k<ws.length
  ·have hltz:(k:Int)<(ws.length:Int):=by omega
   obtain⟨x,hx⟩:∃x,ws[k]? =some x:=⟨_,List.getElem?_eq_getElem hlt⟩;have hc:=aF KV k (.string x) (by simp[hx]);have RP:=Du NR x (hsz x (List.mem_of_getElem? hx));have HX:=aj hx;clear hx;cases hq:ptM x.data.toList with
   |none=>
    rw[hq] at RP;have HQ:=aj hq;clear hq;have HA:Hid (Xr ws=.error 1):=by
     unfold Xr Hid;rw[Qd HX.out HQ.out]
    go_upto_region 9 with(go_at_call 236;refine RP.mono ?_;rintro e w2 ⟨rfl,b2⟩);have b3:=di w2 (.cells #[aa 0,aa 0,aa 0,aa 0] 177);obtain⟨U,hU⟩:∃U,w2.alloc (.cells #[aa 0,aa 0,aa 0,aa 0] 177)=U:=⟨_,rfl⟩;rw[hU] at b3⊢;have b4:=aG b2 b3;have NU:=NR.below b4;have e1:=NU.c1;have KU:=(b4.block _ (aY KR)).trans KR;have u0:=aF KU 0 _ rfl;have uf:=cO KU 0;have hg:1<W.heap.size:=aC HN.out.c1;have e1':(U.setCell ⟨W.heap.size,0,none⟩ (.slice none 0 0)).cell? (ak 1 0)=some (eV (E 1)):=(World.cell?_setCell_far _ _ _ _ (by show W.heap.size≠1;omega)).trans e1;clear RP hU b2 b3 hc;go_region
    all_goals go_wp2_with fail
    all_goals refine bodyPost_ret (v:=.tuple #[.agg #[.slice none 0 0],eV (E 1)]) (by simp[results,results195,go_sem,u0]) rfl ⟨?_,below_drewN ((aG bWr b4).setCell ai _) 1⟩
    all_goals rw[HA.out]
    all_goals exact⟨_,rfl,by decide,by decide,.inl rfl⟩
   |some q=>
    rw[hq] at RP;have HQ:=aj hq;have hqc:=a0A hq;clear hq;go_upto_region 10 with(go_at_call 236;refine RP.mono ?_;rintro e w2 ⟨rfl,b2⟩);have b3:=di w2 (.cells #[aa q.xn,aa q.xd,aa q.yn,aa q.yd] 177);have F3:=Four.new w2 (aa q.xn) (aa q.xd) (aa q.yn) (aa q.yd) 177;obtain⟨U,hU⟩:∃U,w2.alloc (.cells #[aa q.xn,aa q.xd,aa q.yn,aa q.yd] 177)=U:=⟨_,rfl⟩;obtain⟨BQ,hBQ⟩:∃b,w2.heap.size=b:=⟨_,rfl⟩;rw[hU] at b3 F3⊢;rw[hBQ] at F3⊢;have b4:=aG b2 b3;have b8:=aG hb b4;have YC:=b8.size;have a2d:U.ownsRow w1.heap.size 177 4 (.slice ov k cv) k (dI L):=by
     have h:=HO.out.keep b4;unfold gU at h;rw[Nz.out] at h;exact h
    have hnb:=World.alloc_heap_new U (.cells #[aa q.xn,aa q.xd,aa q.yn,aa q.yd] 177);have Xt:(U.alloc (.cells #[aa q.xn,aa q.xd,aa q.yn,aa q.yd] 177)).ownsRow w1.heap.size 177 4 (.slice ov k cv) k (dI L):=World.ownsRow.alloc a2d _;have HT:Hid ((ws.take (k+1)).mapM ptB=some (L++[q])):=Td HL.out HX.out HQ.out;obtain⟨f0,f1,f2,f3⟩:=F3;clear RP hU hBQ b2 b3 hc a2d r0 KR KV NR HPT;go_wp2_with(at_builtin;refine wpList_append_own _ rfl _ _ 134 rfl (w1.heap.size) 177 i0 (.agg #[aa 0,aa 0,aa 0,aa 0]) 4 32 underlying134 hi hz0 hz1 hz2 rfl (by decide) _ _ _ rfl Xt _ _ _ (dI [q]) rfl (tq [q]) (World.news_of_block hnb) (zR _) (by simp only[maxLen];omega) (by omega) (by simp;omega) ?_;intro v12 w12 Xu a3V _)
    go_roundw
    case rel=>
     refine⟨k+1,L++[q],v12,rfl,by go_num,hlt,HT.out,fun a ha=>?_,by simp[Nz.out],?_,(b8.alloc YC _).grown a3V (by simp;omega) (Oo Xt)⟩
     ·rcases List.mem_append.1 ha with h|h
      ·exact HC.out a h
      ·simp at h;rw[h];exact hqc
     ·rw[<- Nz.out] at Xu;exact gU.app (m:=[q]) Xu rfl
    case measure=>simp[intOf];omega
  ·have hltz:¬(k:Int)<(ws.length:Int):=by omega
   obtain rfl:k=ws.length:=by omega
   have HT:Hid (ws.mapM ptB=some L):=by
    have:=HL.out;rw[List.take_length] at this;exact this
   have hll:=Nz.out;have CK:=BI L HC.out ov cv wr HPT.out NR;rw[hll] at CK;clear hll;have HAN:Hid (Xr ws=if okB L then .ok L else .error 2):=by
    unfold Xr Hid;rw[HT.out]
   go_upto_region 12 with fail;have RES:∀w2,Below wr.heap.size wr w2->w2.cell? ⟨W.heap.size,0,none⟩=some (.slice none 0 0)/\w2.frozen? ⟨W.heap.size,0,none⟩=false:=fun w2 b2=>by
    have:=(b2.block _ (aY KR)).trans KR;exact⟨aF this 0 _ rfl,cO this 0⟩
   clear r0 f0 KR KV;cases hok:okB L with
   |true=>
    have CK2:ax 234 #[.slice ov ws.length cv] wr fun e w'=>e=.returned (.tuple #[.agg #[.slice ov ws.length cv],.nilIface])/\Below wr.heap.size wr w':=CK.mono fun e w' ⟨h,hb2⟩=>by
     rcases h with⟨-,h⟩|⟨h, -⟩
     ·rw[Nz.out] at h;exact⟨h,hb2⟩
     ·rw[hok] at h;cases h
    have Uf:=aj hok;clear CK hok;go_wp2_with(go_at_call 234;refine CK2.mono ?_;rintro e w2 ⟨rfl,b2⟩;obtain⟨u0,uf⟩:=RES w2 b2);refine bodyPost_ret (v:=.tuple #[.agg #[.slice ov ws.length cv],.nilIface]) (by simp[results,results195,go_sem,u0]) rfl ⟨?_,(aG bWr b2).setCell ai _⟩;rw[HAN.out,if_pos Uf.out];refine⟨HC.out,Uf.out,ov,cv,by rw[Nz.out],?_⟩;have ho:=(HO.out.keep b2).far (b:=W.heap.size) (u:=.slice ov ws.length cv) (by have:=aY K1;have:=sS.size;omega);obtain⟨o',c',h1,h2⟩:=ho.at_ (fun a ha=>zu (HC.out a ha));injection h1 with h1;subst h1;exact h2
   |false=>
    have CK2:ax 234 #[.slice ov ws.length cv] wr fun e w'=>(∃v,e=.returned (.tuple #[.agg #[.slice none 0 0],v])/\Lu E 2 v w')/\Below wr.heap.size wr w':=CK.mono fun e w' ⟨h,hb2⟩=>by
     rcases h with⟨h, -⟩|⟨-,h⟩
     ·rw[hok] at h;cases h
     ·exact⟨h,hb2⟩
    have Uf:Hid (¬okB L=true):=by show¬_;rw[hok];simp
    clear CK hok;go_wp2_with(go_at_call 234;refine CK2.mono ?_;rintro e w2 ⟨⟨v,rfl,hv⟩,b2⟩;obtain⟨u0,uf⟩:=RES w2 b2);refine bodyPost_ret (v:=.tuple #[.agg #[.slice none 0 0],v]) (by simp[results,results195,go_sem,u0]) rfl ⟨?_,(aG bWr b2).setCell ai _⟩;rw[HAN.out,if_neg Uf.out];exact⟨v,rfl,hv.far⟩
theorem NC (hN:NE E W)(s:Bs)(hs:s.length<=1000):
  ax 195 #[bV s] W fun e w'=>lu E (AZ s) e w'/\Below W.heap.size W w':=by
 unfold AZ;by_cases h0:s=[]
 ·subst h0;rw[if_pos rfl];clear hN;go_enter func195,ntmps195;go_wp2;have b0:=di W (.cells #[.slice none 0 0] 136);refine bodyPost_ret (v:=.tuple #[.agg #[.slice none 0 0],.nilIface]) (by simp[results,results195,go_sem]) rfl ⟨⟨by simp,rfl,none,0,rfl,fun i x h=>by simp at h⟩,b0⟩
 ·rw[if_neg h0];have h:=Kg hN ⟨s.toArray⟩ hs (fun h=>h0 (List.length_eq_zero_iff.1 h));have e:(fun(w:aD)=>ptM w.toList)=ptB:=by
   funext w;unfold ptB;rw[ByteArray.toList_eq]
  rw[e];exact h
end
end
end Go.Proofs.YtjfiehbcamfdfaaGreatDoor

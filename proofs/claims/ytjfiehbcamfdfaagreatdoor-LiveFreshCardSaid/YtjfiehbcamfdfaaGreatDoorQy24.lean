/-
  Parts of the proof.
-/
import Derived.Test.YtjfiehbcamfdfaaGreatDoorQy23
import Derived.Test.YtjfiehbcamfdfaaGreatDoorQy22
import Derived.Test.YtjfiehbcamfdfaaGreatDoorQy19
import Derived.Test.YtjfiehbcamfdfaaGreatDoorQy15
import Derived.Test.YtjfiehbcamfdfaaGreatDoorQy17
namespace Go.Proofs.YtjfiehbcamfdfaaGreatDoor
open Go.Proofs.Tryz
section
open Go.RowKit
theorem lq:∀(M:List wo) (i:Nat) (x:wo),M[i]? =some x->∀q u,x.cells[q]? =some u->(fG M)[i*4+q]? =some u
 |[],i,x,h,_,_,_=>by simp at h
 |y::r,0,x,h,q,u,hu=>by
  simp at h;subst h;have hq:q<4:=by
   rcases Nat.lt_or_ge q 4 with h|h
   ·exact h
   ·rw[List.getElem?_eq_none (by simp[wo.cells];omega)] at hu;cases hu
  rw[fG,Nat.zero_mul,Nat.zero_add,List.getElem?_append_left (by simp[wo.cells];omega)];exact hu
 |y::r,i+1,x,h,q,u,hu=>by
  have:=lq r i x (by simpa using h) q u hu;rw[fG,List.getElem?_append_right (by simp[wo.cells];omega)];rw[show(i+1)*4+q-y.cells.length=i*4+q from by simp[wo.cells];omega];exact this
def xu (w:World)(g:Nat)(M:List wo):Prop:=∀i x,M[i]? =some x->w.cell? (ag g (i*4))=some (.string ⟨x.nm.toArray⟩)/\w.cell? (ag g (i*4+1))=some x.c/\w.cell? (ag g (i*4+2))=some (aa x.parent)/\w.cell? (ag g (i*4+3))=some (aa x.deep)
theorem row_of {w:World}{B:Nat}{v:Value}{M:List wo}(h:w.ownsRow B 63 4 v M.length (fG M))(hp:0<M.length):∃g cap,v=.slice (some ⟨g,0,none⟩) M.length cap/\B<=g/\M.length<=cap/\xu w g M:=by
 obtain⟨h1,h2⟩:=h;rcases h2 with⟨_,h2⟩|⟨g,cap,cur,h3,h4,h5,h6,h7,h8,h9⟩
 ·omega
 ·have get:∀j u,(fG M)[j]? =some u->w.cell? (ag g j)=some u:=fun j u hj=>by
   rw[<- h9,List.getElem?_take] at hj;split at hj
   ·unfold World.cell?;rw[h5];simpa using hj
   ·cases hj
  refine⟨g,cap,h3,h4,by first|exact h6|omega,fun i x hx=>⟨?_,?_,?_,?_⟩⟩
  ·exact get _ _ (lq M i x hx 0 _ rfl)
  ·exact get _ _ (lq M i x hx 1 _ rfl)
  ·exact get _ _ (lq M i x hx 2 _ rfl)
  ·exact get _ _ (lq M i x hx 3 _ rfl)
theorem xu.below {w w':World}{g:Nat}{M:List wo}(h:xu w g M)(hb:Below w.heap.size w w'):xu w' g M:=fun i x hx=>by
 obtain⟨h1,h2,h3,h4⟩:=h i x hx;exact⟨(hb.cell (ax h1)).trans h1,(hb.cell (ax h2)).trans h2,(hb.cell (ax h3)).trans h3,(hb.cell (ax h4)).trans h4⟩
theorem je.get {W0:World}:∀{a:List wo} {f:List Fl} {i:Nat} {x:wo},je W0 a f->a[i]? =some x->∃y,f[i]? =some y/\FlR W0 x y
 |[],_,_,_,_,h=>by simp at h
 |_::r,[],_,_,h,_=>h.elim
 |z::r,y::q,0,x,h,hx=>by simp at hx;subst hx;exact⟨y,rfl,h.1⟩
 |z::r,y::q,i+1,x,h,hx=>by
  obtain⟨y',h1,h2⟩:=je.get (a:=r) (f:=q) (i:=i) h.2 (by simpa using hx);exact⟨y',by simpa using h1,h2⟩
end
section
open Go.RowKit
set_option maxHeartbeats 8000000
set_option maxRecDepth 20000
mutual
def sh:Nat->Nd->Prop
 |d,.mk _ _ ks=>d<=15/\shL (d+1) ks
def shL:Nat->List Nd->Prop
 |_,[]=>True
 |d,k::l=>sh d k/\shL d l
end
theorem Pg:∀{l:List Nd} {d:Nat} {k:Nd},shL d l->k∈l->sh d k
 |[],_,_,_,h=>by simp at h
 |a::l,d,k,h,hk=>by
  unfold shL at h;rcases List.mem_cons.1 hk with rfl|hk
  ·exact h.1
  ·exact Pg h.2 hk
theorem Wq:∀{l:List Nd} {d:Nat},(∀k∈l,sh d k)->shL d l
 |[],_,_=>by unfold shL;trivial
 |a::l,d,h=>by
  unfold shL;exact⟨h a (by simp),Wq (fun k hk=>h k (by simp[hk]))⟩
theorem a3G (k:Nat)(p:Int)(d:Nat)(ks:List Nd)(i:Nat):(sI k p d (ks.take i)).length<=(sI k p d ks).length:=by
 have e:=List.take_append_drop i ks;have:=Ar k p d (ks.take i) (ks.drop i);rw[e] at this;rw[this,List.length_append];omega
def Big (k:Nat)(p:Int)(d:Nat)(n:Nd):Prop:=150<k+(nu k p d n).length\/¬sh d n
theorem Ph {k i j:Nat}{p:Int}{d:Nat}{nm:Bs}{ats:List (Bs×Bs)}{ks:List Nd}{kid:Nd}(hx:ks[i]? =some kid)(hj:j=k+1+(sI (k+1) k (d+1) (ks.take i)).length)(h:150<j+(nu j k (d+1) kid).length):Big k p d (.mk nm ats ks):=by
 refine .inl ?_;have h1:=a3G (k+1) k (d+1) ks (i+1);rw[Jg hx,List.length_append,<- hj] at h1;rw[nu,List.length_cons];omega
theorem Ws {k i:Nat}{p:Int}{d:Nat}{nm:Bs}{ats:List (Bs×Bs)}{ks:List Nd}{kid:Nd}(hx:ks[i]? =some kid)(h:¬sh (d+1) kid):Big k p d (.mk nm ats ks):=by
 refine .inr fun hs=>h ?_;unfold sh at hs;exact Pg hs.2 (List.mem_of_getElem? hx)
def a3H (W0:World)(n:Nd):Prop:=∀(c0 c1 c2:Value) (L:List wo) (v:Value) (parent:Int) (deep:Nat) (W:World),jR W0 c0 c1 c2 n->Below W0.heap.size W0 W->W.ownsRow W0.heap.size 63 4 v L.length (fG L)->L.length<=151->deep<=16->
 ak 22 #[v,.agg #[c0,c1,c2],aa parent,aa deep] W fun e w'=>∃v' m cs,e=.returned v'/\w'.ownsRow W0.heap.size 63 4 v' m cs/\m<=151/\FK W0.heap.size W w'/\
  ((150<m/\Big L.length parent deep n)\/∃M,m=(L++M).length/\cs=fG (L++M)/\je W0 M (nu L.length parent deep n)/\sh deep n)
theorem Rk (W0:World):∀n,a3H W0 n:=by
 refine Nd.ind fun nm ats ks ih=>?_;intro c0 c1 c2 L v parent deep W hn hb hown hL hd;have hn':=hn;unfold jR at hn';obtain⟨rfl,hl,Jn,ok,dB,rfl,hkc,hkm,hk0,hks⟩:=hn';obtain⟨o1,dz,rfl, -⟩:=Jn;obtain⟨ov,aib,rfl⟩:=aI hown;obtain⟨i0,hi,hz0,hz1,hz2⟩:=info_parts Vb;have hB:=hb.size;have hx0:=dh W #[.string ⟨nm.toArray⟩,.slice o1 ats.length dz,.slice ok ks.length dB] 25;have k0:=FK.al (B:=W0.heap.size) W (.cells #[.string ⟨nm.toArray⟩,.slice o1 ats.length dz,.slice ok ks.length dB] 25) hB;have hown1:=World.ownsRow.alloc hown (.cells #[.string ⟨nm.toArray⟩,.slice o1 ats.length dz,.slice ok ks.length dB] 25);have n0:=aA hx0 0 (.string ⟨nm.toArray⟩) rfl;have n1:=aA hx0 1 (.slice o1 ats.length dz) rfl;have hL':(L.length:Int)<=151:=by omega
 have hd':(deep:Int)<=16:=by omega
 have z0:=k0.low.size;unfold eD;by_cases hlg:150<L.length
 ·have abC:150<(L.length:Int):=by omega
  go_enter func22,ntmps22;go_wp2_with(at_make;refine wpList_make_full _ rfl _ _ 28 rfl W0.heap.size 63 i0 _ 4 underlying28 hi hz0 hz1 _ _ 151 151 151 rfl rfl rfl rfl (by rw[hz2];decide) (by decide) (by omega) ?_;intro w1 hown2 hgrow);go_ret;simp only[World.size_alloc] at hown2;exact⟨_,151,_,rfl,hown2,by decide,k0.trans (FK.Va hgrow (by omega)),.inl ⟨by decide,.inl (by omega)⟩⟩
 have abC:(L.length:Int)<=150:=by omega
 by_cases hdp:15<deep
 ·have a6M:15<(deep:Int):=by omega
  go_enter func22,ntmps22;go_wp2_with(at_make;refine wpList_make_full _ rfl _ _ 28 rfl W0.heap.size 63 i0 _ 4 underlying28 hi hz0 hz1 _ _ 151 151 151 rfl rfl rfl rfl (by rw[hz2];decide) (by decide) (by omega) ?_;intro w1 hown2 hgrow);go_ret;simp only[World.size_alloc] at hown2;exact⟨_,151,_,rfl,hown2,by decide,k0.trans (FK.Va hgrow (by omega)),.inl ⟨by decide,.inr (fun h=>by unfold sh at h;omega)⟩⟩
 ·have a6M:(deep:Int)<=15:=by omega
  have a6P:(ks.length:Int)<=9223372036854775807:=by rw[aQ] at hkm;omega
  have HKS:Hid (fE W0 ok 0 ks):=hks;have IH:Hid (∀k∈ks,a3H W0 k):=ih;have HN:Hid (jR W0 (eD nm) (.slice o1 ats.length dz) (.slice ok ks.length dB) (.mk nm ats ks)):=hn;clear hks ih hn hown;go_enter func22,ntmps22;go_upto_region 4 with fail;obtain⟨V,hV⟩:∃V,W.alloc (.cells #[.string ⟨nm.toArray⟩,.slice o1 ats.length dz,.slice ok ks.length dB] 25)=V:=⟨_,rfl⟩;rw[hV] at hx0 k0 hown1 n0 n1 z0⊢;clear hV;have zV:W0.heap.size<=V.heap.size:=Nat.le_trans hB z0;go_wp2_with(at_builtin;refine wpList_append_own _ rfl _ _ 28 rfl W0.heap.size 63 i0 (.agg #[.string ⟨#[]⟩,.slice none 0 0,aa 0,aa 0]) 4 56 underlying28 hi hz0 hz1 hz2 rfl (by decide) _ _ _ rfl (World.ownsRow.alloc hown1 _) ⟨V.heap.size,0,none⟩ 1 1 [.string ⟨nm.toArray⟩,.slice o1 ats.length dz,aa parent,aa deep] rfl rfl (Mi V _ _ _ _ _) (fun u hu=>by simp at hu;rcases hu with rfl|rfl|rfl|rfl<;>rfl) (by rw[aQ];omega) (by omega) (by simp;omega) ?_;intro v2 w2 hown2 hgrow2 _);have KV:FK W0.heap.size V w2:=(FK.al V _ zV).trans (FK.grown (World.ownsRow.alloc hown1 _) hgrow2 (by simp;omega));have a7H:Hid (w2.ownsRow W0.heap.size 63 4 v2 (L++[(⟨nm,.slice o1 ats.length dz,parent,deep⟩:wo)]).length (fG (L++[⟨nm,.slice o1 ats.length dz,parent,deep⟩]))):=(by rw[Jf,List.length_append];exact hown2:w2.ownsRow W0.heap.size 63 4 v2 (L++[(⟨nm,.slice o1 ats.length dz,parent,deep⟩:wo)]).length (fG (L++[⟨nm,.slice o1 ats.length dz,parent,deep⟩])));have HR0:Hid (je W0 [⟨nm,.slice o1 ats.length dz,parent,deep⟩] [⟨nm,ats,parent,deep⟩]):=(by
   have:=HN.out;unfold jR at this;exact⟨⟨rfl,this.2.2.1,rfl,rfl,hl⟩,trivial⟩:je W0 [⟨nm,.slice o1 ats.length dz,parent,deep⟩] [⟨nm,ats,parent,deep⟩])
  have hx1:=KV.box hx0 (by decide);have KW:=k0.trans KV;clear hown2 hgrow2 hown1 n0 n1
  go_loopw [10,11] (fun u y wr=>∃(i:Nat) (M:List wo),i<=ks.length/\y=aa i/\wr.ownsRow W0.heap.size 63 4 u (L++M).length (fG (L++M))/\(L++M).length<=151/\FK W0.heap.size w2 wr/\je W0 M (⟨nm,ats,parent,deep⟩::sI (L.length+1) L.length (deep+1) (ks.take i))/\(∀k∈ks.take i,sh (deep+1) k)) (fun _ y _=>ks.length-(intOf y).toNat)
  case atStart=>exact⟨0,_,Nat.zero_le _,rfl,a7H.out,by simp;omega,FK.refl _ _,by simpa[sI] using HR0.out,by simp⟩
  case round=>
   obtain⟨i,M,hi',rfl,hoM,hlM,hkM,hRM,hsM⟩:=hrel;have HSM:Hid (∀k∈ks.take i,sh (deep+1) k):=hsM;clear hsM;have HOM:Hid (wr.ownsRow W0.heap.size 63 4 u10 (L++M).length (fG (L++M))):=hoM;have HRM:Hid (je W0 M (⟨nm,ats,parent,deep⟩::sI (L.length+1) L.length (deep+1) (ks.take i))):=hRM;clear hoM hRM;have bR:Below W0.heap.size W0 wr:=(hb.trans KW.low).trans hkM.low;have hx2:=hkM.box hx1 (by decide);have m2:=aA hx2 2 (.slice ok ks.length dB) rfl;by_cases hlt:i<ks.length
   ·have hlt':(i:Int)<(ks.length:Int):=by omega
    obtain⟨kid,hx, -⟩:=drop_at hlt;obtain⟨b',off',d0,d1,d2,rfl,e0,e1,e2,qh⟩:=HKS.out.get hx;rw[Nat.zero_add] at e0 e1 e2;have HI:=IH.out kid (List.mem_of_getElem? hx);have j0:=(bR.cell (ax e0)).trans e0;have j1:=(bR.cell (ax e1)).trans e1;have j2:=(bR.cell (ax e2)).trans e2;have HC:=HI d0 d1 d2 (L++M) u10 L.length (deep+1) wr qh bR HOM.out hlM (by omega);rw[show((deep+1:Nat):Int)=(deep:Int)+1 from by omega] at HC;have HX:Hid (ks[i]? =some kid):=hx;clear HI e0 e1 e2 hx qh;go_wp2_with(go_at_call 22;refine HC.mono ?_;rintro e w3 ⟨v3,m3,cs3,rfl,ho3,hm3,hk3,hr3⟩;obtain⟨o3,aie,rfl⟩:=aI ho3)
    ·go_ret;have hl1:=HRM.out.len;have e1:(L++M).length=L.length+1+(sI (L.length+1) L.length (deep+1) (ks.take i)).length:=by rw[List.length_append,hl1];simp;omega
     refine⟨_,m3,cs3,rfl,ho3,hm3,(KW.trans hkM).trans hk3,.inl ⟨by omega,?_⟩⟩;rcases hr3 with⟨-,h3|h3⟩|⟨M',rfl, -,h3, -⟩
     ·exact Ph HX.out e1 h3
     ·exact Ws HX.out h3
     ·have h4:150<(L++M++M').length:=by omega
      have h5:=h3.len;rw[show(L++M++M').length=(L++M).length+M'.length from List.length_append] at h4;exact Ph HX.out e1 (by omega)
    ·go_roundw
     case rel=>
      rcases hr3 with h3|⟨M',rfl,rfl,hR,hsk⟩
      ·exact absurd h3.1 (by omega)
      ·refine⟨i+1,M++M',by omega,by go_num,by rw[<- List.append_assoc];exact ho3,by rw[<- List.append_assoc];exact hm3,hkM.trans hk3,?_,fun k hk=>by
        rw[List.take_add_one,HX.out,List.mem_append] at hk;rcases hk with hk|hk
        ·exact HSM.out k hk
        ·simp at hk;rw[hk];exact hsk⟩
       have hl1:=HRM.out.len;have e1:(L++M).length=L.length+1+(sI (L.length+1) L.length (deep+1) (ks.take i)).length:=by rw[List.length_append,hl1];simp;omega
       rw[e1] at hR;rw[Jg HX.out];exact je.app HRM.out hR
     case measure=>simp[intOf];omega
   ·obtain rfl:i=ks.length:=by omega
    have HT:Hid (je W0 M (nu L.length parent deep (.mk nm ats ks))):=(by have:=HRM.out;rw[List.take_length] at this;rw[nu];exact this:je W0 M (nu L.length parent deep (.mk nm ats ks)));go_wp2_with fail;go_ret;have HS2:sh deep (.mk nm ats ks):=by
     unfold sh;refine⟨by omega,Wq ?_⟩;have:=HSM.out;rwa[List.take_length] at this
    exact⟨_,_,_,rfl,HOM.out,hlM,KW.trans hkM,.inr ⟨M,rfl,rfl,HT.out,HS2⟩⟩
end
section
open Go.RowKit
set_option maxHeartbeats 8000000
set_option maxRecDepth 20000
def lK:Nat->List (Bs×Bs)->Option Nat
  |many,[]=>some many
  |many,a::r=>if 100<a.1.length\/300<a.2.length then none else lK (many+a.1.length+a.2.length) r
def mJ:Nat->List Fl->Bool
  |_,[]=>true
  |many,f::r=>if 100<f.name.length\/20<f.attrs.length then false else match lK (many+f.name.length) f.attrs with
    |none=>false
    |some m=>if 4000<m then false else mJ m r
def Fit (n:Nd):Prop:=(nu 0 (-1) 1 n).length<=150/\sh 1 n/\mJ 0 (nu 0 (-1) 1 n)=true
theorem Pj {many:Nat}{a:Bs×Bs}{r:List (Bs×Bs)}(h:100<a.1.length\/300<a.2.length):lK many (a::r)=none:=by rw[lK,if_pos h]
theorem a0b {many:Nat}{a:Bs×Bs}{r:List (Bs×Bs)}(h1:¬100<a.1.length)(h2:¬300<a.2.length):lK many (a::r)=lK (many+a.1.length+a.2.length) r:=by rw[lK,if_neg (by rintro(h|h)<;>contradiction)]
theorem Pk {many:Nat}{f:Fl}{r:List Fl}(h:100<f.name.length\/20<f.attrs.length):mJ many (f::r)=false:=by rw[mJ,if_pos h]
theorem a3I {many:Nat}{f:Fl}{r:List Fl}(h:lK (many+f.name.length) f.attrs=none):mJ many (f::r)=false:=by
  rw[mJ,h];split<;>rfl
theorem a3J {many m:Nat}{f:Fl}{r:List Fl}(h:lK (many+f.name.length) f.attrs=some m)(hm:4000<m):mJ many (f::r)=false:=by
  rw[mJ,h];split
  · rfl
  · simp[hm]
theorem a0c {many m:Nat}{f:Fl}{r:List Fl}(h1:¬100<f.name.length)(h2:¬20<f.attrs.length)(h:lK (many+f.name.length) f.attrs=some m)(hm:¬4000<m):mJ many (f::r)=mJ m r:=by
  rw[mJ,h,if_neg (by rintro(h|h)<;>contradiction)];simp[hm]
def FlF (W:World)(n:Nd)(v:Value)(w:World):Prop:=(¬Fit n/\v=.slice none 0 0)\/(Fit n/\∃M g cap,v=.slice (some ⟨g,0,none⟩) M.length cap/\0<M.length/\M.length<=150/\M.length<=cap/\xu w g M/\je W M (nu 0 (-1) 1 n))
theorem yt (n:Nd)(c0 c1 c2:Value)(W:World)(hn:jR W c0 c1 c2 n):
    ak 7 #[.agg #[c0,c1,c2]] W fun e w'=>Below W.heap.size W w'/\∃v,e=.returned v/\FlF W n v w':=by
  have HF:=Rk W n;unfold a3H at HF;have hn':=hn;obtain⟨nm,ats,ks⟩:=n;unfold jR at hn';obtain⟨rfl, -,⟨o1,dz,rfl, -⟩,ok,dB,rfl, -⟩:=hn';generalize hN:Nd.mk nm ats ks=n at hn HF⊢;clear hN;unfold eD at*;have b1:=aW W (.cells #[.string ⟨nm.toArray⟩,.slice o1 ats.length dz,.slice ok ks.length dB] 25);have n0:=gp W #[.string ⟨nm.toArray⟩,.slice o1 ats.length dz,.slice ok ks.length dB] 25 0 (.string ⟨nm.toArray⟩) rfl;have n1:=gp W #[.string ⟨nm.toArray⟩,.slice o1 ats.length dz,.slice ok ks.length dB] 25 1 (.slice o1 ats.length dz) rfl;have n2:=gp W #[.string ⟨nm.toArray⟩,.slice o1 ats.length dz,.slice ok ks.length dB] 25 2 (.slice ok ks.length dB) rfl;have HC:=HF _ _ _ [] (.slice none 0 0) (-1) 1 _ hn b1 (World.ownsRow_nil _ _ _ _) (by decide) (by decide);clear HF;go_enter func7,ntmps7;go_upto_region 3 with(go_at_call 22;refine HC.mono ?_;rintro e w1 ⟨v1,m1,cs1,rfl,ho1,hm1,hk1,hr1⟩;obtain⟨o2,cap2,rfl⟩:=aI ho1);have abD:(m1:Int)<=151:=by omega
  have bw:=b1.trans hk1.low;by_cases hbig:150<m1
  · have hbig':150<(m1:Int):=by omega
    have Wt:Hid (¬Fit n):=(fun hfit=>by
      rcases hr1 with⟨-,h|h⟩|⟨M,rfl, -,h, -⟩
      · have:=hfit.1;simp at h;omega
      · exact h hfit.2.1
      · have:=hfit.1;have:=h.len;simp at*;omega:¬Fit n)
    go_wp2_with fail;go_ret;exact⟨bw,_,rfl,.inl ⟨Wt.out,rfl⟩⟩
  · have hbig':(m1:Int)<=150:=by omega
    rcases hr1 with h|⟨M,rfl,rfl,hR,hsh⟩
    · exact absurd h.1 hbig
    simp only[List.nil_append,List.length_nil] at ho1 hR hbig'⊢;have hp:0<M.length:=by
      rw[hR.len];obtain⟨f,r,e, -⟩:=uP 0 (-1) 1 n;rw[e];simp
    obtain⟨g,cap,hv,hg,hcap,hrow⟩:=row_of ho1 hp;simp only[Value.slice.injEq,true_and] at hv;obtain⟨rfl,rfl⟩:=hv;have a7J:Hid (xu w1 g M):=hrow;have HR:Hid (je W M (nu 0 (-1) 1 n)):=hR;have Rm:Hid (sh 1 n):=hsh;clear hsh;have a7K:(M.length:Int)<=(cap2:Int):=by omega
    clear hrow hR ho1 HC n0 n1 n2 b1 hk1 hm1 abD;go_wp2_with fail
    go_loopw [4,5] (fun x y wr=>∃many i:Nat,x=aa many/\y=aa i/\many<=4000/\i<=M.length/\mJ 0 (nu 0 (-1) 1 n)=mJ many ((nu 0 (-1) 1 n).drop i)/\Below w1.heap.size w1 wr) (fun _ y _=>M.length-(intOf y).toNat)
    case atStart=>exact⟨0,0,rfl,rfl,by decide,Nat.zero_le _,rfl,Below.refl _ _⟩
    case round=>
      obtain⟨many,i,rfl,rfl,hmy,hi,hfl,hbr⟩:=hrel;have HFL:Hid (mJ 0 (nu 0 (-1) 1 n)=mJ many ((nu 0 (-1) 1 n).drop i)):=hfl;clear hfl;have bW:Below W.heap.size W wr:=bw.trans (hbr.mono bw.size);have aih:(many:Int)<=4000:=by omega
      by_cases hlt:i<M.length
      · have hlt':(i:Int)<(M.length:Int):=by omega
        obtain⟨x,hx, -⟩:=drop_at hlt;obtain⟨r0,r1, -, -⟩:=a7J.out i x hx;obtain⟨f,hLf,hfn,hfa, -⟩:=HR.out.get hx;have hdr:(nu 0 (-1) 1 n).drop i=f::(nu 0 (-1) 1 n).drop (i+1):=by
          obtain⟨y,hy,hd⟩:=drop_at (l:=nu 0 (-1) 1 n) (k:=i) (by rw[<- HR.out.len];exact hlt);rw[hLf] at hy;cases hy;exact hd
        have HDR:Hid ((nu 0 (-1) 1 n).drop i=f::(nu 0 (-1) 1 n).drop (i+1)):=hdr;have Uu:Hid (x.nm=f.name):=hfn;have EE:Hid (mJ many ((nu 0 (-1) 1 n).drop i)=false->¬Fit n):=(fun h hfit=>by have:=hfit.2.2;rw[HFL.out,h] at this;exact absurd this (by simp):mJ many ((nu 0 (-1) 1 n).drop i)=false->¬Fit n);clear hdr hLf hfn;have q0:=(hbr.cell (ax r0)).trans r0;have q1:=(hbr.cell (ax r1)).trans r1;obtain⟨oa,aii,QW,ha1,ha2, -,ha4⟩:=hfa;rw[QW] at q1;have HA4:Hid (pK W oa f.attrs):=ha4;clear r0 r1 hx QW ha4;have hla:(f.attrs.length:Int)<=9223372036854775807:=by rw[aQ] at ha2;omega
        by_cases g1:100<x.nm.length
        · have g1':100<(x.nm.length:Int):=by omega
          have Wt:Hid (¬Fit n):=EE.out (by rw[HDR.out];exact Pk (.inl (by rw[<- Uu.out];exact g1)));go_wp2_with fail;go_ret;exact⟨bW,_,rfl,.inl ⟨Wt.out,rfl⟩⟩
        · have g1':(x.nm.length:Int)<=100:=by omega
          by_cases g2:20<f.attrs.length
          · have g2':20<(f.attrs.length:Int):=by omega
            have Wt:Hid (¬Fit n):=EE.out (by rw[HDR.out];exact Pk (.inr g2));go_wp2_with fail;go_ret;exact⟨bW,_,rfl,.inl ⟨Wt.out,rfl⟩⟩
          · have g2':(f.attrs.length:Int)<=20:=by omega
            go_wp2_with fail;obtain⟨wa,rfl⟩:∃V,V=wr:=⟨_,rfl⟩
            go_loopw [4,6] (fun x' y wq=>∃my k:Nat,x'=aa my/\y=aa k/\my<=4100+400*k/\k<=f.attrs.length/\lK (many+x.nm.length) f.attrs=lK my (f.attrs.drop k)/\Below wa.heap.size wa wq) (fun _ y _=>f.attrs.length-(intOf y).toNat)
            case atStart=>exact⟨many+x.nm.length,0,by go_num,rfl,by omega,Nat.zero_le _,rfl,Below.refl _ _⟩
            case round=>
              obtain⟨my,k,rfl,rfl,hm2,hk2,a7M,hbq⟩:=hrel;have HFA:Hid (lK (many+x.nm.length) f.attrs=lK my (f.attrs.drop k)):=a7M;clear a7M;have bQ:Below W.heap.size W wr:=bW.trans (hbq.mono bW.size);have p1:=(hbq.cell (ax q1)).trans q1;have aik:(my:Int)<=20000:=by omega
              by_cases hlk:k<f.attrs.length
              · have abG:(k:Int)<(f.attrs.length:Int):=by omega
                obtain⟨a,hxa,hda⟩:=drop_at hlk;have HDA:Hid (f.attrs.drop k=a::f.attrs.drop (k+1)):=hda;have HNA:Hid (lK my (f.attrs.drop k)=none->¬Fit n):=(fun h=>EE.out (by rw[HDR.out];exact a3I (by rw[<- Uu.out,HFA.out];exact h)):lK my (f.attrs.drop k)=none->¬Fit n);clear hda;obtain⟨b',off',rfl,d0,d1, -, -⟩:=HA4.out k a hxa;have j0:=(bQ.cell (ax d0)).trans d0;have j1:=(bQ.cell (ax d1)).trans d1;unfold eD at j0 j1;clear d0 d1 hxa;by_cases g3:100<a.1.length
                · have g3':100<(a.1.length:Int):=by omega
                  have Wt:Hid (¬Fit n):=HNA.out (by rw[HDA.out];exact Pj (.inl g3));go_wp2_with fail;go_ret;exact⟨bQ,_,rfl,.inl ⟨Wt.out,rfl⟩⟩
                · have g3':(a.1.length:Int)<=100:=by omega
                  by_cases g4:300<a.2.length
                  · have g4':300<(a.2.length:Int):=by omega
                    have Wt:Hid (¬Fit n):=HNA.out (by rw[HDA.out];exact Pj (.inr g4));go_wp2_with fail;go_ret;exact⟨bQ,_,rfl,.inl ⟨Wt.out,rfl⟩⟩
                  · have g4':(a.2.length:Int)<=300:=by omega
                    have abI:Hid (lK (many+x.nm.length) f.attrs=lK (my+a.1.length+a.2.length) (f.attrs.drop (k+1))):=(by rw[HFA.out,HDA.out];exact a0b g3 g4:lK (many+x.nm.length) f.attrs=lK (my+a.1.length+a.2.length) (f.attrs.drop (k+1)));go_upto_region 17 with fail
                    go_quiet (fail)
                    go_wp2_with fail
                    go_roundw
                    case rel=>exact⟨my+a.1.length+a.2.length,k+1,by go_num,by go_num,by omega,by omega,abI.out,lX _ hbq⟩
                    case measure=>simp[intOf];omega
              · obtain rfl:k=f.attrs.length:=by omega
                have HFE:Hid (lK (many+f.name.length) f.attrs=some my):=(by rw[<- Uu.out,HFA.out,List.drop_length];rfl:lK (many+f.name.length) f.attrs=some my);by_cases g5:4000<my
                · have g5':4000<(my:Int):=by omega
                  have Wt:Hid (¬Fit n):=EE.out (by rw[HDR.out];exact a3J HFE.out g5);go_wp2_with fail;go_ret;exact⟨bQ,_,rfl,.inl ⟨Wt.out,rfl⟩⟩
                · have g5':(my:Int)<=4000:=by omega
                  have abJ:Hid (mJ 0 (nu 0 (-1) 1 n)=mJ my ((nu 0 (-1) 1 n).drop (i+1))):=(by rw[HFL.out,HDR.out];exact a0c (by rw[<- Uu.out];exact g1) g2 HFE.out g5:mJ 0 (nu 0 (-1) 1 n)=mJ my ((nu 0 (-1) 1 n).drop (i+1)));go_wp2_with fail
                  go_roundw
                  case rel=>exact⟨my,i+1,rfl,by go_num,by omega,by omega,abJ.out,hbr.trans (hbq.mono hbr.size)⟩
                  case measure=>simp[intOf];omega
      · obtain rfl:i=M.length:=by omega
        go_wp2_with fail;go_ret;exact⟨bW,_,rfl,.inr ⟨⟨by rw[<- HR.out.len];omega,Rm.out,by rw[HFL.out,HR.out.len,List.drop_length];rfl⟩,M,g,cap2,rfl,hp,by omega,hcap,a7J.out.below hbr,HR.out⟩⟩
end
section
open Go.RowKit
theorem a0d (E:Nat->Addr)(n:Nd)(c0 c1 c2:Value)(W:World)(hE:CE E W)(hn:jR W c0 c1 c2 n)(hs:dQ n<=1000000)(hc:(fT n 1 0).1=0):
  ak 23 #[.agg #[c0,c1,c2]] W fun e w'=>Below W.heap.size W w'/\∃DB MB tg p,e=.returned (.tuple #[aj DB,.nilIface])/\bG W.heap.size tg w' DB MB p (dZ n) (dQ n) (dQ n):=(OJ E n c0 c1 c2 W hE hn hs).mono fun e w' h=>⟨h.1,by
 rcases h.2 with h2|h2
 ·exact absurd hc h2.1
 ·exact h2.2⟩
theorem a3K (E:Nat->Addr)(n:Nd)(c0 c1 c2:Value)(W:World)(hE:CE E W)(hn:jR W c0 c1 c2 n)(hs:dQ n<=1000000)(hc:(fT n 1 0).1≠0):
  ak 23 #[.agg #[c0,c1,c2]] W fun e w'=>Below W.heap.size W w'/\∃pb,e=.returned (.tuple #[.pointer none,.iface 113 (aj pb)]):=(OJ E n c0 c1 c2 W hE hn hs).mono fun e w' h=>⟨h.1,by
 rcases h.2 with⟨-,pb,h2, -⟩|h2
 ·exact⟨pb,h2⟩
 ·exact absurd h2.1 hc⟩
end
section
open Go.RowKit
mutual
theorem Wu:∀(n:Nd) (deep ahead:Nat),(fT n deep ahead).1=0->(fT n deep ahead).2=ahead+dQ n
 | .mk nm ats ks,deep,ahead,h=>by
  by_cases h1:ck1 nm ats deep ahead=0
  ·rw[J9 h1] at h⊢;rw[Wv ks _ _ h,dQ];omega
  ·rw[fT,if_neg h1] at h;exact absurd h h1
theorem Wv:∀(l:List Nd) (deep ahead:Nat),(uD l deep ahead).1=0->(uD l deep ahead).2=ahead+iO l
 |[],_,ahead,_=>by rw[uD,iO];rfl
 |k::l,deep,ahead,h=>by
  by_cases h1:(fT k deep ahead).1=0
  ·rw[qM h1] at h⊢;rw[Wv l _ _ h,Wu k _ _ h1,iO];omega
  ·rw[vv h1] at h;exact absurd h h1
end
theorem a7N (E:Nat->Addr)(n:Nd)(c0 c1 c2:Value)(W:World)(hE:CE E W)(hn:jR W c0 c1 c2 n)(hs:dQ n<=1000000)(hc:(fT n 1 0).1=0):
  ak 23 #[.agg #[c0,c1,c2]] W fun e w'=>Below W.heap.size W w'/\∃DB MB tg p,e=.returned (.tuple #[aj DB,.nilIface])/\gN W.heap.size tg w' DB MB p (dZ n) (dQ n) (dQ n) (Db n):=by
 refine(a0d E n c0 c1 c2 W hE hn hs hc).mono ?_;rintro e w' ⟨hb,DB,MB,tg,p,rfl,hd⟩;have h1:=Wu n 1 0 hc;have h2:=Mg n 1 0 hc;exact⟨hb,DB,MB,tg,p,rfl,hd,Wd.new n (Wo n 1 0 hc),Cd.new n,by omega,hb.size⟩
section
variable {M:Dm}{r:Int->Nat}
end
end
section
open Go.RowKit Go.Shelf
set_option maxHeartbeats 4000000
set_option maxRecDepth 20000
section
variable {B:Nat}{tg:kE}{W:World}{DB MB:Nat}{p:Int->Option Nat}{M:Dm}{nx c:Nat}{r:Int->Nat}
end
def WtG (x:Rl):Prop:=∀V,ak 185 #[.agg #[bV x.wh]] V fun e w'=>e=.returned (aa (Ye x.wh:Nat))/\Below V.heap.size V w'
def RlG (x:Rl):Prop:=LM x/\WtG x/\∀(B:Nat) (tg:kE) (W:World) (DB MB:Nat) (p:Int->Option Nat) (M:Dm) (nx c:Nat) (r:Int->Nat),bG B tg W DB MB p M nx c->Wd M r->MW M->∀(nm:Bs) (n:Int),dH n->∀P1 P2 P3:Nat,W.cell? (ag P1 0)=some (bV nm)->W.cell? (ag P2 0)=some (aj DB)->W.cell? (ag P3 0)=some (aa n)->
 ak 137 #[rlV x,aj P1,aj P2,aj P3] W fun e w'=>e=.returned (.bool (qE M nm n x))/\Below W.heap.size W w'
theorem Gg (l:List Rl)(hok:∀x∈l,WtG x)(pf:Rl->Bool)(B0:Nat)(v:Value)(W:World)(h:W.ownsRow B0 110 3 v l.length (fH l))(P1 P2 P3:Nat)
  (hg:∀x V,x∈l->Below W.heap.size W V->ak 137 #[rlV x,aj P1,aj P2,aj P3] V fun e w'=>e=.returned (.bool (pf x))/\Below V.heap.size V w'):
  ak 136 #[v,.func (.func 137) #[] #[aj P1,aj P2,aj P3]] W fun e w'=>e=.returned (.tuple #[bV (yH pf l).1,.bool (yH pf l).2.1])/\Below W.heap.size W w':=by
 obtain⟨o,cap,Js,h1,h2,h3,h5⟩:=bA h;have hlen:(l.length:Int)<=9223372036854775807:=by rw[aQ] at h2;omega
 have hcap:(l.length:Int)<=(cap:Int):=by omega
 have HR:Hid (W.ownsRow B0 110 3 v l.length (fH l)):=h;have HG:Hid _:=hg;have HK:Hid (∀x∈l,WtG x):=hok;have H5:Hid (∀g,v.ownBlock=some g->o=some ⟨g,0,none⟩):=h5;subst Js;clear h hg h5 h3 hok;go_enter func136,ntmps136;go_wp2_with fail
 go_loopw [4,5,6,12] (fun a b m y wr=>∃k:Nat,k<=l.length/\y=aa k/\a=bV (yH pf (l.take k)).1/\b=.bool (yH pf (l.take k)).2.1/\m=aa (yH pf (l.take k)).2.2/\Below W.heap.size W wr) (fun _ _ _ y _=>l.length-(intOf y).toNat)
 case atStart=>exact⟨0,Nat.zero_le _,rfl,rfl,rfl,rfl,Below.refl _ _⟩
 case round=>
  obtain⟨k,hk,rfl,rfl,rfl,rfl,hb⟩:=hrel;by_cases hlt:k<l.length
  ·have hlt':(k:Int)<(l.length:Int):=by omega
   obtain⟨x,hx⟩:∃x,l[k]? =some x:=⟨_,List.getElem?_eq_getElem hlt⟩;obtain⟨q0,q1,q2⟩:=Ev hx;obtain⟨g,hgb,c0⟩:=bJ (aK HR.out hb) _ _ q0;obtain⟨g1,a7O,c1⟩:=bJ (aK HR.out hb) _ _ q1;obtain⟨g2,a7P,c2⟩:=bJ (aK HR.out hb) _ _ q2;rw[hgb] at a7O a7P;cases a7O;cases a7P;have hog:=H5.out g hgb;subst hog;have hst:l.take (k+1)=l.take k++[x]:=by rw[List.take_add_one,hx];rfl
   have HST:Hid (yH pf (l.take (k+1))=j5 pf (yH pf (l.take k)) x):=(by rw[hst,Uf]:yH pf (l.take (k+1))=j5 pf (yH pf (l.take k)) x);have Tq:Hid (WtG x):=HK.out x (List.mem_of_getElem? hx);have GX:=fun V (hv:Below wr.heap.size wr V)=>HG.out x V (List.mem_of_getElem? hx) (az hb hv);have WX:=fun V=>Tq.out V;clear hst hx q0 q1 q2 hgb;obtain⟨A,hA⟩:∃A,yH pf (l.take k)=A:=⟨_,rfl⟩;rw[hA] at HST⊢;clear hA;obtain⟨av,af,am⟩:=A;obtain⟨wt,hwt⟩:∃t,Ye x.wh=t:=⟨_,rfl⟩;simp only[hwt] at WX;have HWT:Hid (Ye x.wh=wt):=hwt;clear hwt;have W1:=WX (wr.alloc (.cells #[bV x.wh,bV x.nm,bV x.vl] 110));have n3:=dh wr #[bV x.wh,bV x.nm,bV x.vl] 110;have b3:=aW wr (.cells #[bV x.wh,bV x.nm,bV x.vl] 110);go_upto_region 5 with fail;obtain⟨V3,hV3⟩:∃V,wr.alloc (.cells #[bV x.wh,bV x.nm,bV x.vl] 110)=V:=⟨_,rfl⟩;rw[hV3] at W1 n3 b3⊢;clear hV3 WX;have p0:=aA n3 0 _ rfl;go_upto_region 6 with(go_at_call 185;refine W1.mono ?_;rintro e w4 ⟨rfl,b4⟩);clear W1 p0;have n4:=OZ b4 n3;have B4:=az b3 b4;have p0:=aA n4 0 _ rfl;have p1:=aA n4 1 _ rfl;have p2:=aA n4 2 _ rfl;by_cases hle:am<=wt
   ·have hle':(am:Int)<=(wt:Int):=by omega
    have GX4:=GX w4 B4;clear GX;cases hp:pf x with
    |true=>
     rw[hp] at GX4;have JM:yH pf (l.take (k+1))=(x.vl,true,wt):=by rw[HST.out,zY (by rw[HWT.out];exact hle) hp,HWT.out]
     have HS2:Hid (yH pf (l.take (k+1))=(x.vl,true,wt)):=JM;clear JM hp;go_upto_region 7 with(go_at_call 137;refine GX4.mono ?_;rintro e w5 ⟨rfl,b5⟩);have r2:=aA (OZ b5 n4) 2 _ rfl;go_wp2_with fail
     go_roundw
     case rel=>exact⟨k+1,by omega,by go_num,by rw[HS2.out],by rw[HS2.out],by rw[HS2.out],az hb (az B4 b5)⟩
     case measure=>simp[intOf];omega
    |false=>
     rw[hp] at GX4;have JM:yH pf (l.take (k+1))=(av,af,am):=by rw[HST.out,DJ hp]
     have HS2:Hid (yH pf (l.take (k+1))=(av,af,am)):=JM;clear JM hp;go_wp2_with(go_at_call 137;refine GX4.mono ?_;rintro e w5 ⟨rfl,b5⟩)
     go_roundw
     case rel=>exact⟨k+1,by omega,by go_num,by rw[HS2.out],by rw[HS2.out],by rw[HS2.out],az hb (az B4 b5)⟩
     case measure=>simp[intOf];omega
   ·have hle':¬(am:Int)<=(wt:Int):=by omega
    have JM:yH pf (l.take (k+1))=(av,af,am):=by rw[HST.out,zX (by rw[HWT.out];exact hle)]
    have HS2:Hid (yH pf (l.take (k+1))=(av,af,am)):=JM;clear JM;go_wp2_with fail
    go_roundw
    case rel=>exact⟨k+1,by omega,by go_num,by rw[HS2.out],by rw[HS2.out],by rw[HS2.out],az hb B4⟩
    case measure=>simp[intOf];omega
  ·obtain rfl:k=l.length:=by omega
   have hge:¬(l.length:Int)<(l.length:Int):=by omega
   have htk:l.take l.length=l:=List.take_length;have HTK:Hid (l.take l.length=l):=htk;clear htk;rw[HTK.out];go_wp2_with fail
   go_ret2
   exact⟨rfl,hb⟩
section
variable {B:Nat}{tg:kE}{W:World}{DB MB:Nat}{p:Int->Option Nat}{M:Dm}{nx c:Nat}{r:Int->Nat}
def tdR:Option Bs->Value
 |none=>.tuple #[.string ⟨#[]⟩,.bool false]
 |some v=>.tuple #[bV v,.bool true]
theorem BA (pf:Rl->Bool):∀(l:List Rl) (a:Bs×Bool×Nat),(a.2.1=false->a.1=[])->(l.foldl (j5 pf) a).2.1=false->(l.foldl (j5 pf) a).1=[]
 |[],_,ha,h=>ha h
 |x::l,a,ha,h=>by
  rw[List.foldl_cons] at h⊢;refine BA pf l _ (fun h1=>?_) h;unfold j5 at h1⊢;split
  ·next hc=>rw[if_pos hc] at h1;cases h1
  ·next hc=>rw[if_neg hc] at h1;exact ha h1
theorem Ww (h:bG B tg W DB MB p M nx c)(hw:Wd M r)(hF:MW M)(l:List Rl)(hok:∀x∈l,RlG x)(B0:Nat)(v:Value)(hl:W.ownsRow B0 110 3 v l.length (fH l))(nm:Bs)(n:Int)(hn:dH n):
  ak 92 #[aj DB,v,aa n,bV nm] W fun e w'=>e=.returned (tdR (sM M l nm n))/\Below W.heap.size W w':=by
 obtain⟨k0,k1,k2, -,b0⟩:=vM W (.cells #[aj DB] 52) (.cells #[aa n] 3) (.cells #[bV nm] 9);obtain⟨ov,kv,hvv⟩:=aI hl;subst hvv;have HD:Hid (bG B tg W DB MB p M nx c):=h;have HL:Hid (W.ownsRow B0 110 3 (.slice ov l.length kv) l.length (fH l)):=hl;have HK:Hid (∀x∈l,RlG x):=hok;clear h hl hok;obtain⟨res,hres⟩:∃x,sM M l nm n=x:=⟨_,rfl⟩;have hR:=hres;unfold sM at hR;rw[hres];clear hres;have AT:=fun V (hv:Below W.heap.size W V)=>l8 (HD.out.below hv) n hn nm;have hat:VD M n nm=atM M n nm:=rfl;simp only[hat] at AT;clear hat;go_enter func92,ntmps92;go_upto_region 1 with fail;obtain⟨V,hV⟩:∃V,((W.alloc (.cells #[aj DB] 52)).alloc (.cells #[aa n] 3)).alloc (.cells #[bV nm] 9)=V:=⟨_,rfl⟩;rw[hV] at k0 k1 k2 b0⊢;clear hV;have d0:=qQ k0;have d1:=qQ k1;have d2:=qQ k2;have N7:=AT V b0;clear AT;cases ha:atM M n nm with
 |some av=>
  rw[ha] at hR N7;subst hR;simp only[Option.getD_some,Option.isSome_some] at N7;go_wp2_with(go_at_call 17;refine N7.mono ?_;rintro e w1 ⟨rfl,b1⟩)
  go_ret2
  exact⟨rfl,az b0 b1⟩
 |none=>
  rw[ha] at hR N7;simp only[Option.getD_none,Option.isSome_none] at N7;go_upto_region 4 with(go_at_call 17;refine N7.mono ?_;rintro e w1 ⟨rfl,b1⟩);have B1:=az b0 b1;have HV:=Gg l (fun x hx=>(HK.out x hx).2.1) (qE M nm n) B0 (.slice ov l.length kv) w1 (aK HL.out B1) (W.heap.size+1+1) W.heap.size (W.heap.size+1) (fun x X hx hX=>(HK.out x hx).2.2 _ _ _ _ _ _ _ _ _ _ (HD.out.below (az B1 hX)) hw hF nm n hn _ _ _ (((az b1 hX).cell (ax d2)).trans d2) (((az b1 hX).cell (ax d0)).trans d0) (((az b1 hX).cell (ax d1)).trans d1));have hun:=BA (qE M nm n) l ([],false,0) (fun _=>rfl);have hun':(yH (qE M nm n) l).2.1=false->(yH (qE M nm n) l).1=[]:=hun;obtain⟨A,hA⟩:∃A,yH (qE M nm n) l=A:=⟨_,rfl⟩;rw[hA] at HV hR hun';clear hA hun;obtain⟨hv,hf,hm⟩:=A;have HRR:Hid ((if hf=true then some hv else none)=res):=hR;have HUN:Hid (hf=false->hv=[]):=hun';clear hR hun' N7;go_wp2_with(go_at_call 136;refine HV.mono ?_;rintro e w2 ⟨rfl,b2⟩)
  go_ret2
  refine⟨?_,az B1 b2⟩;rw[<- HRR.out];cases hf with
  |true=>rfl
  |false=>rw[HUN.out rfl];rfl
end
end
section
open Go.RowKit Go.Shelf
set_option maxHeartbeats 4000000
set_option maxRecDepth 20000
section
variable {B:Nat}{tg:kE}{W:World}{DB MB:Nat}{p:Int->Option Nat}{M:Dm}{nx c:Nat}{r:Int->Nat}
theorem Wx (h:bG B tg W DB MB p M nx c)(n:Int):dH (qC M n):=by
 unfold qC;cases hm:M n with
 |none=>exact WalkArith.wf_i64 (by decide)
 |some e=>exact(h.wf n e hm).1
theorem a3L (h:bG B tg W DB MB p M nx c)(hw:Wd M r)(hF:MW M)(l:List Rl)(hok:∀x∈l,RlG x)(B0:Nat)(v:Value)(hl:W.ownsRow B0 110 3 v l.length (fH l))(n:Int)(hn:dH n)(nm:Bs):
  ak 50 #[aj DB,v,aa n,bV nm] W fun e w'=>e=.returned (bV (ofM M l nm n))/\Below W.heap.size W w':=by
 obtain⟨ov,kv,hvv⟩:=aI hl;subst hvv;have NA:=nG h n hn;have IN:=JD nm W;have HD:Hid (bG B tg W DB MB p M nx c):=h;have HL:Hid (W.ownsRow B0 110 3 (.slice ov l.length kv) l.length (fH l)):=hl;have HK:Hid (∀x∈l,RlG x):=hok;have HF:Hid (MW M):=hF;have HW:Hid (Wd M r):=hw;clear h hl hok hw hF;cases hm:M n with
 |none=>
  rw[hm] at NA;have ho:ofM M l nm n=[]:=by unfold ofM;rw[hm];rfl
  rw[ho];clear ho hm;go_enter func50,ntmps50;go_wp2_with(go_at_call 90;refine NA.mono ?_;rintro e w1 ⟨rfl,h⟩;rw[h];clear h);go_ret;exact⟨rfl,Below.refl _ _⟩
 |some e0=>
  rw[hm] at NA;have hne:=(HF.out n e0 hm).1;have hq:=eH e0.name [];have hq1:(e0.name==[])=false:=by simpa using hne
  rw[hq1] at hq;cases hN:a1P nm with
  |false=>
   rw[hN] at IN;have ho:ofM M l nm n=[]:=by unfold ofM;rw[hN];simp
   rw[ho];clear ho hm;go_enter func50,ntmps50;go_wp2_with(first|(go_at_call 90;refine NA.mono ?_;rintro e w1 ⟨rfl,h⟩;rw[h];clear h)|(go_at_call 79;refine IN.mono ?_;rintro e w1 ⟨rfl,h⟩;rw[h];clear h));go_ret;exact⟨rfl,Below.refl _ _⟩
  |true=>
   rw[hN] at IN;have ho:=a2r (l:=l) hm hN;rw[ho];obtain⟨res,hres⟩:∃x,DR M l nm 12 n=x:=⟨_,rfl⟩;rw[hres];have HRS:Hid (DR M l nm 12 n=res):=hres;have HN0:Hid (M n=some e0):=hm;have hrn:=(HW.out.rb n e0 hm).2;clear ho hres hm;go_enter func50,ntmps50;go_upto_region 3 with(first|(go_at_call 90;refine NA.mono ?_;rintro e w1 ⟨rfl,h⟩;rw[h];clear h)|(go_at_call 79;refine IN.mono ?_;rintro e w1 ⟨rfl,h⟩;rw[h];clear h));clear NA IN
   go_loopw [2] (fun y wr=>∃(f:Nat) (k:Int),y=aa k/\dH k/\DR M l nm f k=res/\(k<0\/∃e,M k=some e/\r k<=f)/\Below W.heap.size W wr) (fun y _=>if intOf y<0 then 0 else r (intOf y))
   case atStart=>exact⟨12,n,rfl,hn,HRS.out,.inr ⟨e0,HN0.out,by omega⟩,Below.refl _ _⟩
   case round=>
    obtain⟨f,k,rfl,a7Q,hof,hin,hb⟩:=hrel;have HOF:Hid (DR M l nm f k=res):=hof;have HIN:Hid (k<0\/∃e,M k=some e/\r k<=f):=hin;clear hof hin;have FO:=fun V=>ym nm V;by_cases hk:k<0
    ·have hk':¬(0:Int)<=k:=by omega
     have hre:res=firstM nm:=by rw[<- HOF.out,YS l nm f hk]
     subst hre;have FO1:=FO wr;go_wp2_with(go_at_call 94;refine FO1.mono ?_;rintro e w1 ⟨rfl,h⟩;rw[h];clear h);go_ret;exact⟨rfl,hb⟩
    ·have hk':(0:Int)<=k:=by omega
     have hin:∃e,M k=some e/\r k<=f:=by
      rcases HIN.out with h|h
      ·exact absurd h hk
      ·exact h
     obtain⟨ek,hek,hrf⟩:=hin;have hr1:=(HW.out.rb k ek hek).1;obtain⟨f,rfl⟩:∃g,f=g+1:=⟨f-1,by omega⟩;have HEK:Hid (M k=some ek):=hek;clear hek;have TD:=Ww (HD.out.below hb) HW.out HF.out l HK.out B0 _ (aK HL.out hb) nm k a7Q;cases ht:sM M l nm k with
     |some tv=>
      rw[ht] at TD;unfold tdR at TD;have hre:res=tv:=by rw[<- HOF.out,Ui f hk' ht]
      subst hre;clear ht;go_wp2_with(go_at_call 92;refine TD.mono ?_;rintro e w1 ⟨rfl,b1⟩);go_ret;exact⟨rfl,az hb b1⟩
     |none=>
      rw[ht] at TD;unfold tdR at TD;have HT:Hid (sM M l nm k=none):=ht;clear ht;go_upto_region 8 with(go_at_call 92;refine TD.mono ?_;rintro e w1 ⟨rfl,b1⟩);have IH:=R9 nm w1;have PA:ak 91 #[aj DB,aa k] w1 fun r w'=>r=.returned (aa (qC M k))/\w'=w1:=Mj (HD.out.below (az hb b1)) k a7Q;have FO1:=FO w1;cases hi:DI nm with
      |false=>
       rw[hi] at IH;have hre:res=firstM nm:=by rw[<- HOF.out,YT f hk' HT.out hi]
       subst hre;clear hi;go_wp2_with(first|(go_at_call 93;refine IH.mono ?_;rintro e w2 ⟨rfl,h⟩;rw[h];clear h)|(go_at_call 94;refine FO1.mono ?_;rintro e w1 ⟨rfl,h⟩;rw[h];clear h));go_ret;exact⟨rfl,az hb b1⟩
      |true=>
       rw[hi] at IH;have hre:DR M l nm f (qC M k)=res:=by rw[<- HOF.out,a2q f hk' HT.out hi]
       have ZL:(qC M k<0)\/((0<=qC M k)/\∃q,M (qC M k)=some q/\r k=r (qC M k)+1):=by
        by_cases h0:k=0
        ·subst h0;rw[HW.out.Uh];exact .inl (by decide)
        ·obtain⟨q,hq,hr⟩:=HW.out.a2p HEK.out h0;exact .inr ⟨HW.out.pos hq,q,hq,hr⟩
       have a7R:=Wx HD.out k;obtain⟨pk,hpk⟩:∃x,qC M k=x:=⟨_,rfl⟩;rw[hpk] at hre ZL a7R PA;have HRE:Hid (DR M l nm f pk=res):=hre;have HPP:Hid ((pk<0)\/((0<=pk)/\∃q,M pk=some q/\r k=r pk+1)):=ZL;clear hi hpk hre ZL;go_wp2_with(first|(go_at_call 93;refine IH.mono ?_;rintro e w2 ⟨rfl,h⟩;rw[h];clear h)|(go_at_call 91;refine PA.mono ?_;rintro e w1 ⟨rfl,h⟩;rw[h];clear h))
       go_roundw
       case rel=>
        refine⟨f,pk,rfl,a7R,HRE.out,?_,az hb b1⟩;rcases HPP.out with h|⟨_,q,hq,hr⟩
        ·exact .inl h
        ·exact .inr ⟨q,hq,by omega⟩
       case measure=>
        have hkn:¬k<0:=by omega
        show(if pk<0 then 0 else r pk)<(if k<0 then 0 else r k);rw[if_neg hkn];rcases HPP.out with h|⟨h1,q,hq,hr⟩
        ·rw[if_pos h];omega
        ·rw[if_neg (show¬pk<0 by omega)];omega
end
end
section
open Go.RowKit Go.Shelf
set_option maxHeartbeats 4000000
structure NE (E:Nat->Addr)(w:World):Prop where
  c1:w.cell? (ag 1 0)=some (eV (E 1))
  c2:w.cell? (ag 0 0)=some (eV (E 2))
  c3:w.cell? (ag 3 0)=some (eV (E 3))
  c7:w.cell? (ag 2 0)=some (eV (E 7))
  c9:w.cell? (ag 5 0)=some (eV (E 9))
  c10:w.cell? (ag 8 0)=some (eV (E 10))
  sy:∃a,w.cell? (ag 12 0)=some (eV a)
  rg:∃a,w.cell? (ag 13 0)=some (eV a)
  tab:Lib.TabIs prog w "internal/strconv.uint64pow10" .u64 Lib.pow10Tab
  blk:∀k,1<=k->k<=10->∃c t,w.heap[(E k).block]? =some (.cells c t (0,0))
  ne:∀j k,1<=j->j<=10->1<=k->k<=10->j≠k->E j≠E k
theorem aN {w:World}{b:Nat}{o:Obj}(h:w.heap[b]? =some o):b<w.heap.size:=(Array.getElem?_eq_some_iff.1 h).1
def BB (E:Nat->Addr)(c:Nat)(v:Value)(w:World):Prop:=1<=c/\c<=10/\(v=eV (E c)\/∃pb po,v=.iface 113 (.pointer (some ⟨pb,po,none⟩))/\w.cell? (ag pb (po+1))=some (eV (E c)))
def Tz (E:Nat->Addr)(f:Ft)(base:Nat)(v:Value)(w:World):Prop:=∃pb,base<=pb/\v=.iface 113 (aj pb)/\w.heap[pb]? =some (.cells #[aa f.pl,eV (E f.code)] 115)
theorem a0e {E:Nat->Addr}{w:World}{c:Nat}{v:Value}(h:NE E w)(hv:BB E c v w):
    ak 146 #[v,eV (E 2)] w fun e w'=>e=.returned (.bool (decide (c=2)))/\w'=w:=by
  obtain⟨h1,h2,hv⟩:=hv;obtain⟨cc,ct,hc⟩:=h.blk c h1 h2;obtain⟨c',t',hc'⟩:=h.blk 2 (by omega) (by omega);rcases hv with rfl|⟨pb,po,rfl,hp⟩
  · by_cases e:c=2
    · subst e;simp only[decide_true];exact ZJ _ _
    · simp only[e,decide_false];exact Vt _ _ _ _ _ _ _ (h.ne c 2 h1 h2 (by omega) (by omega) e) hc hc'
  · by_cases e:c=2
    · subst e;simp only[decide_true];exact CO _ _ _ _ hp
    · simp only[e,decide_false];exact AB _ _ _ _ _ _ _ _ _ hp (h.ne c 2 h1 h2 (by omega) (by omega) e) hc hc'
theorem iV {E:Nat->Addr}{w:World}{c:Nat}{v:Value}(h:NE E w)(hv:BB E c v w)(n:Int):
    ak 98 #[aa n,v] w fun e w'=>∃u,e=.returned u/\Tz E ⟨tF c,n⟩ w.heap.size u w'/\Below w.heap.size w w':=by
  have IB:=a0e h hv;have e2:=h.c2;have e10:=h.c10;clear h hv;unfold tF;by_cases hc:c=2
  · simp only[hc,decide_true,if_true] at IB⊢
    go_enter func98,ntmps98;go_wp2_with(go_at_call 146;refine IB.mono ?_;rintro e w1 ⟨rfl,rfl⟩);go_ret;exact⟨_,rfl,⟨_,Nat.le_refl _,rfl,World.alloc_heap_new _ _⟩,(Below.refl _ _).alloc eU _⟩
  · simp only[hc,decide_false,if_false] at IB⊢
    go_enter func98,ntmps98;go_wp2_with(go_at_call 146;refine IB.mono ?_;rintro e w1 ⟨rfl,rfl⟩);go_ret;exact⟨_,rfl,⟨_,Nat.le_refl _,rfl,World.alloc_heap_new _ _⟩,(Below.refl _ _).alloc eU _⟩
def aU (w:World)(p:Option Nat):List (Int×Mv)->Prop
  |[]=>p=none
  |(n,m)::r=>∃b q,p=some b/\w.heap[b]? =some (.cells #[aa n,.pointer (q.map fun x=>⟨x,0,none⟩),aa m.a.n,aa m.a.d,aa m.b.n,aa m.b.d,aa m.c.n,aa m.c.d,aa m.d.n,aa m.d.d,aa m.e.n,aa m.e.d,aa m.f.n,aa m.f.d] 132)/\aU w q r
abbrev pV (p:Option Nat):Value:=.pointer (p.map fun x=>⟨x,0,none⟩)
theorem aU.keep {w w':World}(hk:∀(b:Nat) (t:Obj),w.heap[b]? =some t->(∃c,t=.cells c 132)->w'.heap[b]? =some t):∀{p:Option Nat} {l:List (Int×Mv)},aU w p l->aU w' p l
  |_,[],h=>h
  |_,(_,_)::_,⟨b,q,h1,h2,h3⟩=>⟨b,q,h1,hk b _ h2 ⟨_,rfl⟩,aU.keep hk h3⟩
def WiR (n:Int)(l:List (Int×Mv))(w:World)(e:Ending)(w':World):Prop:=e=.returned (.bool (decide (n∈l.map Prod.fst)))/\w'=w
def WiL (n:Int)(l:List (Int×Mv))(w:World)(g:Nat)(y:Value)(wr:World):Prop:=∃(p:Option Nat) (r:List (Int×Mv)),y=pV p/\aU w p r/\(n∈l.map Prod.fst↔n∈r.map Prod.fst)/\r.length<=g/\wr=w
theorem iN (w:World)(p:Option Nat)(l:List (Int×Mv))(n:Int)(h:aU w p l):
    ak 95 #[pV p,aa n] w fun e w'=>WiR n l w e w':=by
  have H0:Hid (aU w p l):=h;clear h;go_enter func95,ntmps95;go_upto_region 1 with fail
  go_loopg [0] l.length (fun g y wr=>WiL n l w g y wr)
  case atStart=>exact⟨p,l,rfl,H0.out,Iff.rfl,Nat.le_refl _,rfl⟩
  case round=>
    obtain⟨p,r,rfl,hP,hiff,hlen,rfl⟩:=hrel;have HI:Hid (n∈l.map Prod.fst↔n∈r.map Prod.fst):=hiff;clear hiff
    match r,hP,hlen,HI with
    |[],hP,hlen,HI=>
      obtain rfl:p=none:=hP;have hd:Hid (decide (n∈l.map Prod.fst)=false):=decide_eq_false (fun h=>by have:=HI.out.1 h;simp at this);clear hP;simp only[pV,Option.map_none];go_wp2;go_ret;exact⟨by rw[hd.out];rfl,rfl⟩
    |(k,m)::r,⟨b,q,hp,hb,hq⟩,hlen,HI=>
      subst hp;have c0:=aA hb 0 _ rfl;have c1:=aA hb 1 _ rfl;have HQ:Hid (aU wr q r):=hq;clear hb hq;simp only[pV,Option.map_some];by_cases hk:k=n
      · have hd:Hid (decide (n∈l.map Prod.fst)=true):=decide_eq_true (HI.out.2 (by simp[hk]))
        have hkz:(k==n)=true:=by simpa using hk
        clear hk;go_wp2;go_ret;exact⟨by rw[hd.out];rfl,rfl⟩
      · have hkz:(k==n)=false:=by simpa using hk
        obtain⟨pq,hpq⟩:∃x,(Option.map (fun x=>(⟨x,0,none⟩:Addr)) q)=x:=⟨_,rfl⟩;rw[hpq] at c1;go_wp2
        go_roundg r.length
        case measure=>simp at hlen;omega
        case rel=>
          rw[<- hpq];refine⟨q,r,rfl,HQ.out,HI.out.trans ?_,Nat.le_refl _,rfl⟩;simp[Ne.symm hk]
end
end Go.Proofs.YtjfiehbcamfdfaaGreatDoor

/- Parts of the proof. -/
import Derived.Test.YtjfiehbcamfdfaaGreatDoorQz11
import Derived.Shelf.Spec.SlicesInsertGrow
import Derived.Test.YtjfiehbcamfdfaaGreatDoorQz5
namespace Go.Proofs.YtjfiehbcamfdfaaGreatDoor
open Go.Proofs.Tryz
set_option maxHeartbeats 8000000
section
open Go.RowKit
set_option maxRecDepth 20000
theorem VT {w:ag}{B B' k n:Nat}{e:TypeId}{v:ah}{xs:List ah}(h:w.ownsRow B e k v n xs)(hb:B'<=B):w.ownsRow B' e k v n xs:=by
 obtain⟨h1,h2⟩:=h;refine⟨h1,?_⟩;rcases h2 with h2|⟨g,cap,cur,h3,h4,h5⟩
 ·exact .inl h2
 ·exact .inr ⟨g,cap,cur,h3,Nat.le_trans hb h4,h5⟩
def ug (tg:bf)(i:Int)(v:ah):bf:=fun x=>if v.ownBlock=some x then some (.kids i) else tg x
theorem gX.at {w:ag}{o:Option Addr}{ks:List Nd}{i:Nat}{kid:Nd}(h:gX w o 0 ks)(hx:ks[i]? =some kid):∃b off c0 c1 c2,o=some ⟨b,off,none⟩/\w.cell? (ak b (off+i*3))=some c0/\w.cell? (ak b (off+i*3+1))=some c1/\w.cell? (ak b (off+i*3+2))=some c2/\jX w c0 c1 c2 kid:=by
 obtain⟨b,off,c0,c1,c2,h1,h2,h3,h4,h5⟩:=h.get hx;rw[Nat.zero_add] at h2 h3 h4;exact⟨b,off,c0,c1,c2,h1,h2,h3,h4,h5⟩
theorem aO.kid {B:Nat}{tg:bf}{w w7:ag}{DB MB:Nat}{p:Int->Option Nat}{M:Dm}{nx c EB:Nat}{i:Int}{e:dO}{va vk v7:ah}{k:Int}{o:Obj}(h:aO B tg w DB MB p M nx c)(hi:M i=some e)(hp:p i=some EB)(he:wu B tg w i EB e va vk)(hk:bA k)
  (kF:w7.ownsRow B 3 1 v7 (e.kids.length+1) (bD e.kids++[aa k])) (lH:(w.alloc o).grownBy w7 vk.ownBlock) (Dc:v7.ownBlock=vk.ownBlock\/v7.ownBlock=some (w.alloc o).heap.size):
  aO B (ug tg i v7) (w7.setCell ⟨EB,3,none⟩ v7) DB MB p (bJ M i ⟨e.name,e.ats,e.parent,e.kids++[k]⟩) nx c/\(∀x,x<w.heap.size->ug tg i v7 x=tg x)/\(∀x,x<w.heap.size->x≠EB->vk.ownBlock≠some x->(w7.setCell ⟨EB,3,none⟩ v7).heap[x]? =w.heap[x]?)/\w.heap.size<=(w7.setCell ⟨EB,3,none⟩ v7).heap.size/\(w7.setCell ⟨EB,3,none⟩ v7).os=w.os/\(w7.setCell ⟨EB,3,none⟩ v7).tape=w.tape/\(w7.setCell ⟨EB,3,none⟩ v7).output=w.output:=by
 have Uj:=aM he.cells;have hsz:(w.alloc o).heap.size=w.heap.size+1:=by simp
 have hz:w.heap.size+1<=w7.heap.size:=by have:=lH.size;rw[<- hsz];exact this
 have hset:=(Below.refl EB w7).setCell (p:=⟨EB,3,none⟩) ai v7;have ZT:vk.ownBlock≠some EB:=fun e1=>by have h1:=he.gD EB e1;rw[he.tag] at h1;cases h1
 have ne7:v7.ownBlock≠some EB:=fun e1=>by
  rcases Dc with h1|h1
  ·exact ZT (h1.symm.trans e1)
  ·rw[h1] at e1;cases e1;omega
 have old:∀x,x<w.heap.size->vk.ownBlock≠some x->w7.heap[x]? =w.heap[x]? :=fun x hx hne=>by
  have h1:=lH.block x (by show x<(w.alloc o).heap.size;omega) (fun e1=>hne e1.symm);exact h1.trans ((di w o).block x hx)
 have tk:∀x,x<w.heap.size->ug tg i v7 x=tg x:=fun x hx=>by
  unfold ug;split
  ·rename_i h1;rcases Dc with h2|h2
   ·exact(he.gD x (h2.symm.trans h1)).symm
   ·rw[h2] at h1;cases h1;omega
  ·rfl
 have blk:∀x,x<w.heap.size->x≠EB->vk.ownBlock≠some x->(w7.setCell ⟨EB,3,none⟩ v7).heap[x]? =w.heap[x]? :=fun x hx h1 h2=>(Below.heap_setCell _ _ _ x h1).trans (old x hx h2);have YC:w.heap.size<=(w7.setCell ⟨EB,3,none⟩ v7).heap.size:=by have:=hset.size;omega
 refine⟨h.put hi hp (va:=va) (vk:=v7) ⟨?_,?_,?_,?_,?_,?_⟩ YC ⟨(h.wf i e hi).1,fun j hj=>?_⟩ tk ?_ ?_ ?_,tk,blk,YC,hset.os.trans lH.os,hset.tape.trans lH.tape,hset.output.trans lH.output⟩
 ·have h1:=(old EB Uj ZT).trans he.cells;rw[heap_setCell_same w7 EB 3 _ _ _ h1];rfl
 ·rw[tk EB Uj];exact he.tag
 ·exact bT he.ats fun g hg=>blk g (he.ats.lt g hg).2 (fun e1=>by have h1:=he.jH g hg;rw[e1,he.tag] at h1;cases h1) (fun e1=>by have h1:=he.jH g hg;rw[he.gD g e1] at h1;cases h1)
 ·intro g hg;rw[tk g (he.ats.lt g hg).2];exact he.jH g hg
 ·have:=bT (w':=w7.setCell ⟨EB,3,none⟩ v7) kF fun g hg=>Below.heap_setCell _ _ _ g (fun e1=>ne7 (by rw[hg,e1]));rw[EA,List.length_append];exact this
 ·intro g hg;unfold ug;rw[if_pos hg]
 ·rcases List.mem_append.1 hj with hj|hj
  ·exact(h.wf i e hi).2 j hj
  ·rw[List.mem_singleton.1 hj];exact hk
 ·intro x t ht;unfold ug at ht;split at ht
  ·rename_i h1;have h2:=kF.lt x h1;have:=hset.size;omega
  ·have:=h.low x t ht;omega
 ·intro x hx;unfold ug;split
  ·exact .inr (.inr (.inr rfl))
  ·exact .inl (h.new hx)
 ·intro x t ht h1 h2 h3;exact blk x (h.low x t ht).2 (fun e1=>by rw[e1,he.tag] at ht;cases ht;exact h1 rfl) (fun e1=>by rw[he.gD x e1] at ht;cases ht;exact h3 rfl)
theorem Pj:∀(l:List Nd) (k:Nat),(rP k l).length=l.length
 |[],_=>rfl
 |n::l,k=>by rw[rP,List.length_cons,List.length_cons,Pj l]
theorem Pk:∀l:List Nd,l.length<=jd l
 |[]=>Nat.le_refl _
 |n::l=>by have h1:=Pk l;have h2:=Oz n;rw[jd,List.length_cons];omega
theorem K2.FQ {r n k:Nat}{A B:ag}(h:K2 r n (A.drewN k) B):K2 r n A B:=⟨h.os,h.tape,h.output,h.size,h.block⟩
theorem Rz {B:Nat}{tg:bf}{wr U1 w4 w7:ag}{DB MB EB:Nat}{i:Int}{e:dO}{va vk:ah}{o:Obj}(he:wu B tg wr i EB e va vk)(bU:Below wr.heap.size wr U1)(k4:K2 DB MB U1 w4)(hd:EB≠DB/\EB≠MB)(lH:(w4.alloc o).grownBy w7 vk.ownBlock):w7.heap[EB]? =some (.cells #[.string ⟨e.name.toArray⟩,va,aa e.parent,vk] 90):=by
 have h1:=aM he.cells;have h2:=bU.size;have h3:=k4.size;have h4:(w4.alloc o).heap.size=w4.heap.size+1:=by simp
 have h5:=lH.block EB (by show EB<(w4.alloc o).heap.size;omega) (fun e1=>by have h6:=he.gD EB e1.symm;rw[he.tag] at h6;cases h6);exact h5.trans (((di w4 o).block EB (by omega)).trans ((k4.block EB (by omega) hd.1 hd.2).trans ((bU.block EB h1).trans he.cells)))
def a6Z (W0:ag)(PD PP DB MB:Nat)(n:Nd):Prop:=∀(c0 c1 c2:ah) (parent:Int) (tg:bf) (W:ag) (p:Int->Option Nat) (M:Dm) (nx c:Nat),jX W0 c0 c1 c2 n->Ry n->Below W0.heap.size W0 W->W.cell? (ak PD 0)=some (ay DB)->W.cell? (ak PP 0)=some (.func (.func 41) #[] #[ay PD,ay PP])->
 aO W0.heap.size tg W DB MB p M nx c->tg PD=none->tg PP=none->bA parent->nx+gu n<=1000000->
 ax 41 #[.agg #[c0,c1,c2],aa parent,ay PD,ay PP] W fun e w'=>e=.returned (aa nx)/\K2 DB MB W w'/\∃gF p',(∀x,x<W.heap.size->gF x=tg x)/\(∀i,i<(nx:Int)->p' i=p i)/\aO W0.heap.size gF w' DB MB p' (iA M nx (oK nx parent n)) (nx+gu n) (c+gu n)
def ZU (W0 W:ag)(tg:bf)(p:Int->Option Nat)(M:Dm)(DB MB N EB nx c:Nat)(cs:Array ah)(nm:Bs)(ats:List (Bs×Bs))(parent:Int)(ks:List Nd)(wr:ag):Prop:=
 ∃kJ p1,K2 DB MB W wr/\wr.heap[N]? =some (.cells cs 25)/\kJ N=none/\(∀x,x<W.heap.size->kJ x=tg x)/\(∀j,j<(nx:Int)->p1 j=p j)/\p1 nx=some EB/\aO W0.heap.size kJ wr DB MB p1 (iA M nx (⟨nm,ats,parent,rP (nx+1) ks⟩::qb (nx+1) nx ks)) (nx+1+jd ks) (c+1+jd ks)
theorem VU {W0 W wr U1 w4 w7:ag}{tg kJ jM:bf}{p p1 p2:Int->Option Nat}{M:Dm}{DB MB N EB nx c:Nat}{cs:Array ah}{nm:Bs}{ats:List (Bs×Bs)}{parent:Int}{ks:List Nd}{kid:Nd}{i:Nat}{va vk v7:ah}{o:Obj}
  (hx:ks[i]? =some kid) (k1:K2 DB MB W wr) (hN:wr.heap[N]? =some (.cells cs 25)) (tN:kJ N=none) (ht1:∀x,x<W.heap.size->kJ x=tg x) (hp1:∀j,j<(nx:Int)->p1 j=p j) (hpE:p1 nx=some EB)
  (hd1:aO W0.heap.size kJ wr DB MB p1 (iA M nx (⟨nm,ats,parent,rP (nx+1) (ks.take i)⟩::qb (nx+1) nx (ks.take i))) (nx+1+jd (ks.take i)) (c+1+jd (ks.take i))) (he:wu W0.heap.size kJ wr nx EB ⟨nm,ats,parent,rP (nx+1) (ks.take i)⟩ va vk)
  (bU:Below wr.heap.size wr U1) (k4:K2 DB MB U1 w4) (ht2:∀x,x<U1.heap.size->jM x=kJ x) (hp2:∀j,j<((nx+1+jd (ks.take i):Nat):Int)->p2 j=p1 j) (hd0:aO W0.heap.size tg W DB MB p M nx c)
  (hd2:aO W0.heap.size jM w4 DB MB p2 (iA (iA M nx (⟨nm,ats,parent,rP (nx+1) (ks.take i)⟩::qb (nx+1) nx (ks.take i))) (nx+1+jd (ks.take i)) (oK (nx+1+jd (ks.take i)) nx kid)) (nx+1+jd (ks.take i)+gu kid) (c+1+jd (ks.take i)+gu kid))
  (kF:w7.ownsRow W0.heap.size 3 1 v7 ((rP (nx+1) (ks.take i)).length+1) (bD (rP (nx+1) (ks.take i))++[aa ((nx+1+jd (ks.take i):Nat):Int)])) (lH:(w4.alloc o).grownBy w7 vk.ownBlock) (Dc:v7.ownBlock=vk.ownBlock\/v7.ownBlock=some (w4.alloc o).heap.size):
  ZU W0 W tg p M DB MB N EB nx c cs nm ats parent (ks.take (i+1)) (w7.setCell ⟨EB,3,none⟩ v7):=by
 have hs1:=bU.size;have aaT:=aM he.cells;have hnew:W.heap.size<=EB:=by
  rcases Nat.lt_or_ge EB W.heap.size with h|h
  ·have h1:=he.tag;rw[ht1 EB h] at h1;have:=hd0.Pf EB nx (.inl h1);omega
  ·exact h
 have a7a:∀g,vk.ownBlock=some g->W.heap.size<=g:=fun g hg=>by
  rcases Nat.lt_or_ge g W.heap.size with h|h
  ·have h1:=he.gD g hg;rw[ht1 g h] at h1;have:=hd0.Pf g nx (.inr (.inr h1));omega
  ·exact h
 have ne:∀x t,kJ x=some t->t≠.doc->t≠.map->x≠DB/\x≠MB:=fun x t hxt h1 h2=>⟨fun e=>h1 (Option.some.inj (hxt.symm.trans (e▸hd1.jr))),fun e=>h2 (Option.some.inj (hxt.symm.trans (e▸hd1.jg)))⟩;have VV:∀x,x<wr.heap.size->x≠DB->x≠MB->w4.heap[x]? =wr.heap[x]? :=fun x h h1 h2=>(k4.block x (by omega) h1 h2).trans (bU.block x h);have he2:wu W0.heap.size jM w4 nx EB ⟨nm,ats,parent,rP (nx+1) (ks.take i)⟩ va vk:=he.turn fun g t ht hk=>by
  have hg:=(hd1.low g t ht).2;have hn:=ne g t ht (by rcases hk with rfl|rfl|rfl<;>simp) (by rcases hk with rfl|rfl|rfl<;>simp);exact⟨(ht2 g (by omega)).trans ht,VV g hg hn.1 hn.2⟩
 have hM:iA (iA M nx (⟨nm,ats,parent,rP (nx+1) (ks.take i)⟩::qb (nx+1) nx (ks.take i))) (nx+1+jd (ks.take i)) (oK (nx+1+jd (ks.take i)) nx kid)=iA M nx (⟨nm,ats,parent,rP (nx+1) (ks.take i)⟩::(qb (nx+1) nx (ks.take i)++oK (nx+1+jd (ks.take i)) nx kid)):=by
  have h1:=UR M nx (⟨nm,ats,parent,rP (nx+1) (ks.take i)⟩::qb (nx+1) nx (ks.take i)) (oK (nx+1+jd (ks.take i)) nx kid);rw[List.length_cons,Fv,show nx+(jd (ks.take i)+1)=nx+1+jd (ks.take i) from by omega] at h1;rw[h1,List.cons_append]
 rw[hM] at hd2;have a7b:p2 nx=some EB:=(hp2 nx (by omega)).trans hpE;obtain⟨r1,r2,r3,r4,r5,r6,r7⟩:=hd2.kid (k:=((nx+1+jd (ks.take i):Nat):Int)) (Oy M nx _ _) a7b he2 (WalkArith.wf_i64 (by have:=hd2.few;omega)) kF lH Dc;rw[QN] at r1;have hN4:N<wr.heap.size:=aM hN;have hNd:N≠DB/\N≠MB:=⟨fun e=>(by rw[e,hd1.jr] at tN;exact absurd tN (by simp)),fun e=>(by rw[e,hd1.jg] at tN;exact absurd tN (by simp))⟩;have hNE:N≠EB:=fun e=>by rw[e,he.tag] at tN;cases tN
 have hNk:vk.ownBlock≠some N:=fun e=>by rw[he.gD N e] at tN;cases tN
 have s4:=k4.size;refine⟨ug jM nx v7,p2,?_,?_,?_,fun x h=>?_,fun j hj=>?_,a7b,?_⟩
 ·have s1:=k1.size;refine⟨r5.trans (k4.os.trans (bU.os.trans k1.os)),r6.trans (k4.tape.trans (bU.tape.trans k1.tape)),r7.trans (k4.output.trans (bU.output.trans k1.output)),by omega,fun x h h1 h2=>?_⟩;exact(r3 x (by omega) (by omega) (fun e=>by have:=a7a x e;omega)).trans ((VV x (by omega) h1 h2).trans (k1.block x h h1 h2))
 ·exact(r3 N (by omega) hNE hNk).trans ((VV N hN4 hNd.1 hNd.2).trans hN)
 ·rw[r2 N (by omega),ht2 N (by omega)];exact tN
 ·have:=k1.size;rw[r2 x (by omega),ht2 x (by omega)];exact ht1 x h
 ·rw[hp2 j (by omega)];exact hp1 j hj
 ·rw[EC hx,Ie,Ig,zb,jd,jd];have e1:nx+1+(jd (ks.take i)+(gu kid+0))=nx+1+jd (ks.take i)+gu kid:=by omega
  have e2:c+1+(jd (ks.take i)+(gu kid+0))=c+1+jd (ks.take i)+gu kid:=by omega
  rw[e1,e2];exact r1
theorem aO.tell {B:Nat}{tg:bf}{w:ag}{DB MB:Nat}{p:Int->Option Nat}{M:Dm}{nx c EB:Nat}{i:Int}{e:dO}(h:aO B tg w DB MB p M nx c)(hi:M i=some e)(hp:p i=some EB):∃va o k,wu B tg w i EB e va (.slice o e.kids.length k):=by
 obtain⟨b,va,vk,h1,h2⟩:=h.els i e hi;obtain rfl:EB=b:=Option.some.inj (hp.symm.trans h1);obtain⟨o,cap,rfl⟩:=aH h2.kids;exact⟨va,o,cap,h2⟩
theorem ZV (W0:ag)(PD PP DB MB:Nat):∀n,a6Z W0 PD PP DB MB n:=by
 refine Nd.ind fun nm ats ks ih=>?_;intro c0 c1 c2 parent tg W p M nx c hn hlow hb cD cP hd tD tP hwp hnx;have hn':=hn;unfold jX at hn';obtain⟨rfl,hl,vC,ok,dW,rfl,hkc,hkm,hk0,hks⟩:=hn';have a7c:=vC;obtain⟨o1,dR,rfl, -⟩:=a7c;unfold Ry at hlow;obtain⟨hla,hlk⟩:=hlow;unfold fe at*;have A0:NB W.heap.size (.string ⟨nm.toArray⟩) (.slice o1 ats.length dR) (.slice ok ks.length dW) (W.alloc (.cells #[.string ⟨nm.toArray⟩,.slice o1 ats.length dR,.slice ok ks.length dW] 25)):=cZ W #[.string ⟨nm.toArray⟩,.slice o1 ats.length dR,.slice ok ks.length dW] 25;have b0:=di W (.cells #[.string ⟨nm.toArray⟩,.slice o1 ats.length dR,.slice ok ks.length dW] 25);have HKS:=aj hks;have IH:=aj ih;have HD:=aj hd;have HLK:=aj hlk;have hqD:PD≠DB/\PD≠MB:=⟨fun e=>(by rw[e,hd.jr] at tD;exact absurd tD (by simp)),fun e=>(by rw[e,hd.jg] at tD;exact absurd tD (by simp))⟩;have hqP:PP≠DB/\PP≠MB:=⟨fun e=>(by rw[e,hd.jr] at tP;exact absurd tP (by simp)),fun e=>(by rw[e,hd.jg] at tP;exact absurd tP (by simp))⟩;have lD:=hd.low _ _ hd.jr;have lM:=hd.low _ _ hd.jg;have lPD:=az cD;have lPP:=az cP;simp only at lPD lPP;clear hks ih hd hlk hn;have hsz:gu (.mk nm ats ks)=jd ks+1:=by rw[gu]
 rw[hsz] at hnx;go_enter func41,ntmps41;go_upto_region 1 with fail;obtain⟨V,hV⟩:∃V,W.alloc (.cells #[.string ⟨nm.toArray⟩,.slice o1 ats.length dR,.slice ok ks.length dW] 25)=V:=⟨_,rfl⟩;have sV:V.heap.size=W.heap.size+1:=by rw[<- hV];simp
 obtain⟨N,hN⟩:∃N,W.heap.size=N:=⟨_,rfl⟩;rw[hV] at A0 b0⊢;rw[hN] at A0⊢;have HN:=aj hN;have HV:Hid (V.heap.size=N+1):=(by rw[sV,hN]:V.heap.size=N+1);clear hV hN sV;have x0:=A0.c0;have x1:=A0.c1;have bV:=hb.trans (b0.mono hb.size);have CL:=fun V' (hv:Below V.heap.size V V')=>VS V' _ ats (vC.below (bV.trans (hv.mono bV.size))) (by omega)
 go_region_held3 (fun w'=>w'.cell? (ak N 0)=some (.string ⟨nm.toArray⟩)/\w'.cell? (ak N 1)=some (.slice o1 ats.length dR)) (refine⟨?_,?_⟩<;>first|assumption|exact dQ _ (by assumption)) (first|(go_at_call 42;refine(CL _ (Js 1 (Below.refl _ _))).mono ?_;rintro e w2 ⟨o2,n2,k2,rfl,Ls,b2⟩;have x0:=(b2.cell (az x0)).trans x0;have x1:=(b2.cell (az x1)).trans x1))
 have b2':Below V.heap.size V w2:=⟨b2.os,b2.tape,b2.output,b2.size,b2.block⟩;have VW:w2.ownsRow V.heap.size 65 2 (.slice o2 n2 k2) ats.length (aL ats):=Ls;have E0:=cZ w2 #[.string ⟨nm.toArray⟩,.slice o2 n2 k2,aa parent,.slice none 0 0] 90;have bE:=di w2 (.cells #[.string ⟨nm.toArray⟩,.slice o2 n2 k2,aa parent,.slice none 0 0] 90);have ED:=World.ownsRow.alloc VW (.cells #[.string ⟨nm.toArray⟩,.slice o2 n2 k2,aa parent,.slice none 0 0] 90);have lt2:=VW.lt;obtain⟨U,hU⟩:∃U,w2.alloc (.cells #[.string ⟨nm.toArray⟩,.slice o2 n2 k2,aa parent,.slice none 0 0] 90)=U:=⟨_,rfl⟩;obtain⟨EB,Uj⟩:∃EB,w2.heap.size=EB:=⟨_,rfl⟩;rw[hU] at E0 bE ED⊢;rw[Uj] at E0⊢;have hVE:V.heap.size<=EB:=by rw[<- Uj];exact b2'.size
 have HB2:Hid (∀g,(Value.slice o2 n2 k2).ownBlock=some g->V.heap.size<=g/\g<EB):=(fun g hg=>by rw[<- Uj];exact lt2 g hg:∀g,(Value.slice o2 n2 k2).ownBlock=some g->V.heap.size<=g/\g<EB);clear hU Uj x0 x1 CL b2 Ls VW lt2;have bU:Below V.heap.size V U:=aG b2' bE;clear b2' bE;have bWU:Below W.heap.size W U:=aG b0 bU;have HDU:Hid (aO W0.heap.size tg U DB MB p M nx c):=HD.out.below bWU;have hNE:N+1<=EB:=by have:=HV.out;omega
 have NE:Rx W0.heap.size tg U EB ⟨nm,ats,parent,[]⟩ (.slice o2 n2 k2) (.slice none 0 0):=⟨E0,by have:=HN.out;have:=hb.size;omega,HD.out.new (by have:=HN.out;omega),VT ED (Nat.le_trans hb.size b0.size),fun g hg=>by
   have:=HB2.out g hg;have h2:=HN.out;have h3:=HV.out;exact⟨HD.out.new (by omega),by omega⟩,World.ownsRow_nil _ _ _ _,fun g hg=>by cases hg⟩
 have KE:=Jv W0.heap.size tg U DB MB p M nx c EB ⟨nm,ats,parent,[]⟩ (.slice o2 n2 k2) (.slice none 0 0) HDU.out NE ⟨hwp,by simp⟩ (by omega);have AU:=(bU.block N (aM A0)).trans A0;have cDU:=(bWU.cell (az cD)).trans cD;have cPU:=(bWU.cell (az cP)).trans cP;have hND:N≠DB/\N≠MB:=by have:=HN.out;omega
 go_upto_region 3 with(go_at_call 43;refine KE.mono ?_;rintro e w3 ⟨rfl,k3,d3⟩);have A3:=(k3.block N (aM AU) hND.1 hND.2).trans AU;have y2:=NB.c2 A3;have a6S:(ks.length:Int)<=9223372036854775807:=by rw[bq] at hkm;omega
 have K3:K2 DB MB W w3:=(K2.of_below bWU).trans k3;have R0:ZU W0 W tg p M DB MB N EB nx c #[.string ⟨nm.toArray⟩,.slice o1 ats.length dR,.slice ok ks.length dW] nm ats parent (ks.take 0) w3:=by
  refine⟨jR tg nx EB (.slice o2 n2 k2) (.slice none 0 0),fun i=>if i=(nx:Int) then some EB else p i,K3,A3,?_,fun x hx=>?_,fun j hj=>?_,?_,?_⟩
  rotate_left 4
  ·rw[List.take_zero,rP,qb,UT];exact d3
  ·have h2:=HN.out;rw[xe (by omega) (fun e=>by have:=HB2.out N e;have:=HV.out;omega) (by simp[Value.ownBlock])];exact HD.out.new (by omega)
  ·have h2:=HN.out;exact xe (by omega) (fun e=>by have:=HB2.out x e;have:=HV.out;omega) (by simp[Value.ownBlock])
  ·simp only[if_neg (show¬j=(nx:Int) by omega)]
  ·simp
 have HR0:=aj R0;clear R0 d3 KE NE k3 cDU cPU;go_wp2_with fail
 go_loopw [25] (fun y wr=>∃i:Nat,i<=ks.length/\y=aa i/\ZU W0 W tg p M DB MB N EB nx c #[.string ⟨nm.toArray⟩,.slice o1 ats.length dR,.slice ok ks.length dW] nm ats parent (ks.take i) wr) (fun y _=>ks.length-(intOf y).toNat)
 case atStart=>exact⟨0,Nat.zero_le _,rfl,HR0.out⟩
 case round=>
  obtain⟨i,hi,rfl,kJ,p1,k1,hN1,tN1,ht1,hp1,hpE,hd1⟩:=hrel;by_cases hlt:i<ks.length
  ·have hlt':(i:Int)<(ks.length:Int):=by omega
   obtain⟨kid,hx, -⟩:=drop_at hlt;obtain⟨b',off',d0,d1,d2,rfl,e0,e1,e2,wY⟩:=HKS.out.at hx;have hmem:kid∈ks:=List.mem_of_getElem? hx;have HI:=IH.out kid hmem;have VX:=Jw HLK.out hmem;have Jq:=wY;obtain⟨yR,jT,ks'⟩:=kid;unfold jX at Jq;obtain⟨rfl, -,⟨o',cap',rfl, -⟩,ok',gY,rfl, -⟩:=Jq;have bR:Below W0.heap.size W0 wr:=hb.trans (k1.below lD.1 lM.1 hb.size);have f0:=(bR.cell (az e0)).trans e0;have f1:=(bR.cell (az e1)).trans e1;have f2:=(bR.cell (az e2)).trans e2;unfold fe at f0 f1 f2 wY;clear e0 e1 e2 hmem;have hsl:=Jy ks (i+1);rw[EC hx,zb,jd,jd] at hsl;generalize aiX:Nd.mk yR jT ks'=kid at hx HI VX wY hsl;obtain⟨KL,hKL⟩:∃KL,rP (nx+1) (ks.take i)=KL:=⟨_,rfl⟩;have aiY:KL.length<=1000000:=by
    rw[<- hKL,Pj];have:=Pk (ks.take i);omega
   obtain⟨NX,hNX⟩:∃NX,nx+1+jd (ks.take i)=NX:=⟨_,rfl⟩;rw[hNX] at hd1;have a3j:=hd1;rw[hKL] at a3j;obtain⟨va,ov,kv,he⟩:=a3j.tell (Oy M nx _ _) hpE;simp only at he;have c3:=he.c3;have cD1:=k1.cell cD hqD.1 hqD.2;have cP1:=k1.cell cP hqP.1 hqP.2;have s1:=k1.size;have hEd:EB≠DB/\EB≠MB:=by have:=HN.out;omega
   have bU:=di wr (.cells #[.string ⟨yR.toArray⟩,.slice o' jT.length cap',.slice ok' ks'.length gY] 25);have u0:=gP wr #[.string ⟨yR.toArray⟩,.slice o' jT.length cap',.slice ok' ks'.length gY] 25 0 (.string ⟨yR.toArray⟩) rfl;have u1:=gP wr #[.string ⟨yR.toArray⟩,.slice o' jT.length cap',.slice ok' ks'.length gY] 25 1 (.slice o' jT.length cap') rfl;have u2:=gP wr #[.string ⟨yR.toArray⟩,.slice o' jT.length cap',.slice ok' ks'.length gY] 25 2 (.slice ok' ks'.length gY) rfl;have cPU:=dQ (.cells #[.string ⟨yR.toArray⟩,.slice o' jT.length cap',.slice ok' ks'.length gY] 25) cP1;have cDU:=dQ (.cells #[.string ⟨yR.toArray⟩,.slice o' jT.length cap',.slice ok' ks'.length gY] 25) cD1;have c3U:=dQ (.cells #[.string ⟨yR.toArray⟩,.slice o' jT.length cap',.slice ok' ks'.length gY] 25) c3;have aaT:=aM he.cells;have aaX:wr.heap.size≠EB:=by omega
   have aaY:wr.heap.size≠DB/\wr.heap.size≠MB:=by omega
   have HC:=fun V' (hv:Below (wr.alloc (.cells #[.string ⟨yR.toArray⟩,.slice o' jT.length cap',.slice ok' ks'.length gY] 25)).heap.size (wr.alloc (.cells #[.string ⟨yR.toArray⟩,.slice o' jT.length cap',.slice ok' ks'.length gY] 25)) V')=>HI _ _ _ nx kJ V' p1 _ NX (c+1+jd (ks.take i)) wY VX (bR.trans ((aG bU hv).mono bR.size)) ((hv.cell (az cDU)).trans cDU) ((hv.cell (az cPU)).trans cPU) (hd1.below (aG bU hv)) ((ht1 PD lPD).trans tD) ((ht1 PP lPP).trans tP) (WalkArith.wf_i64 (by omega)) (by omega);have HST:Hid (K2 DB MB W wr/\kJ N=none/\(∀x,x<W.heap.size->kJ x=tg x)/\(∀j,j<(nx:Int)->p1 j=p j)/\p1 nx=some EB/\ks[i]? =some kid/\nx+1+jd (ks.take i)=NX/\rP (nx+1) (ks.take i)=KL):=⟨k1,tN1,ht1,hp1,hpE,hx,hNX,hKL⟩;have HD1:=aj hd1;have HEL:=aj he;have HOW:∀w4,K2 DB MB (wr.alloc (.cells #[.string ⟨yR.toArray⟩,.slice o' jT.length cap',.slice ok' ks'.length gY] 25)) w4->w4.ownsRow W0.heap.size 3 1 (.slice ov KL.length kv) KL.length (bD KL):=fun w4 k4=>bT he.kids fun g hg=>by
    have h1:=he.gD g hg;have h2:=(he.kids.lt g hg).2;exact(k4.block g (by have:=bU.size;omega) (fun e=>by rw[e,hd1.jr] at h1;cases h1) (fun e=>by rw[e,hd1.jg] at h1;cases h1)).trans (bU.block g h2)
   clear hd1 a3j he k1 tN1 ht1 hp1 hpE hx hNX hKL HI wY VX c3 cP1 cD1 cDU;obtain⟨i0,hi0,hz0,hz1,hz2⟩:=info_parts zi;go_upto_region 6 with fail;obtain⟨U1,ZW⟩:∃U,wr.alloc (.cells #[.string ⟨yR.toArray⟩,.slice o' jT.length cap',.slice ok' ks'.length gY] 25)=U:=⟨_,rfl⟩;obtain⟨KB,hKB⟩:∃KB,wr.heap.size=KB:=⟨_,rfl⟩;rw[ZW] at bU u0 u1 u2 cPU c3U HC HOW⊢;rw[hKB] at u0 u1 u2 aaX aaY⊢;have hBU:W0.heap.size<=U1.heap.size:=by have:=bU.size;have:=bR.size;omega
   clear ZW
   go_region_law (first|(refine step_append_lies _ rfl (.tmp 33) (.tmp 38) 42 rfl W0.heap.size 3 i0 (aa 0) 1 8 underlying42 hi0 hz0 hz1 hz2 rfl (by decide) (.slice ov KL.length kv) KL.length (bD KL) rfl (World.ownsRow.alloc Yy _) ⟨w4.heap.size,0,none⟩ 1 1 [aa NX] rfl rfl (World.news_of_block H04) (fun u hu=>by simp at hu;rcases hu with rfl;rfl) (by decide) (by rw[bq];omega) (by omega) (by simp;omega) _ rfl ?_;intro g7 tK w7 kF lH Zb a6y;have e7:=E7 lH;have e0:=aF e7 3 _ rfl;have ef:=aR e7)|(go_simp;go_wp2_with(first|(go_at_call 41;refine(HC _ (Js 1 (Below.refl _ _))).mono ?_;rintro e w4 ⟨rfl,k4,jM,p2,ht2,hp2,hd2⟩;have c34:=K2.cell k4 (by exact c3U) hEd.1 hEd.2;have aj1:=fun o=>dQ o c34;have Yy:=HOW _ (by exact K2.FQ k4);have H04:=cZ w4 #[aa NX] 3;have l4:W0.heap.size<=w4.heap.size:=(Nat.le_trans hBU k4.size);have E7:=fun{o:Obj} {w7:ag}=>Rz (o:=o) (w7:=w7) HEL.out bU (K2.FQ k4) hEd))))
   all_goals(
    have FIN:ZU W0 W tg p M DB MB N EB nx c #[.string ⟨nm.toArray⟩,.slice o1 ats.length dR,.slice (some ⟨b',off',none⟩) ks.length dW] nm ats parent (ks.take (i+1)) (w7.setCell ⟨EB,3,none⟩ (.slice (some ⟨g7,0,none⟩) (KL.length+1) tK)):=by
     obtain⟨k1,tN1,ht1,hp1,hpE,hx,hNX,hKL⟩:=HST.out;have hd1:=HD1.out;have he:=HEL.out;clear HC HOW;subst hNX;subst hKL;exact VU hx k1 hN1 tN1 ht1 hp1 hpE hd1 he bU (K2.FQ k4) ht2 hp2 HD.out hd2 kF lH (Zb.imp (fun h=>by rw[h];rfl) (fun h=>by rw[h];rfl))
    have ab0:=aj FIN;clear FIN kF lH hd2 ht2 hp2 k4 HC HOW;go_wp2_with fail
    go_roundw
    case rel=>exact⟨i+1,by omega,by go_num,ab0.out⟩
    case measure=>simp[intOf];omega)
  ·obtain rfl:i=ks.length:=by omega
   have hge:¬(ks.length:Int)<(ks.length:Int):=by omega
   rw[List.take_length] at hd1;have HD1:Hid (aO W0.heap.size kJ wr DB MB p1 (iA M nx (oK nx parent (.mk nm ats ks))) (nx+gu (.mk nm ats ks)) (c+gu (.mk nm ats ks))):=(by
    rw[oK,hsz,show nx+(jd ks+1)=nx+1+jd ks from by omega,show c+(jd ks+1)=c+1+jd ks from by omega];exact hd1:aO W0.heap.size kJ wr DB MB p1 (iA M nx (oK nx parent (.mk nm ats ks))) (nx+gu (.mk nm ats ks)) (c+gu (.mk nm ats ks)))
   clear hd1;go_wp2_with fail;go_ret;exact⟨rfl,k1,kJ,ht1,p1,hp1,HD1.out⟩
end
section
open Go.RowKit
set_option maxRecDepth 20000
def Mt (DB MB:Nat):bf:=fun x=>if x=DB then some .doc else if x=MB then some .map else none
theorem aO.made {B:Nat}{w:ag}{DB MB:Nat}(hd:w.heap[DB]? =some (.cells #[.map (some MB),aa 0] 85))(hm:eZ prog 3 w MB (fun _=>none) 0 0)(hne:MB≠DB)(h1:B<=DB)(h2:B<=MB):aO B (Mt DB MB) w DB MB (fun _=>none) (fun _=>none) 0 0 where
 doc:=hd
 jr:=by unfold Mt;rw[if_pos rfl]
 map:=hm
 jg:=by unfold Mt;rw[if_neg hne,if_pos rfl]
 els:=fun _ _ h=>by cases h
 non:=fun _ _=>rfl
 low:=fun b t ht=>by
  unfold Mt at ht;split at ht
  ·rename_i e;subst e;exact⟨h1,aM hd⟩
  ·split at ht
   ·rename_i e;subst e;exact⟨h2,hm.lt⟩
   ·cases ht
 dom:=fun _ _ h=>by cases h
 wf:=fun _ _ h=>by cases h
 few:=by omega
 Pf:=fun b i h=>by
  unfold Mt at h;split at h
  ·simp at h
  ·split at h<;>simp at h
def ab1 (E:Nat->Addr)(B:Nat)(n:Nd)(e:Ending)(w:ag):Prop:=
 ((iT n 1 0).1≠0/\∃pb,e=.returned (.tuple #[.pointer none,.iface 113 (ay pb)])/\w.cell? (ak pb 0)=some (aa (iT n 1 0).2)/\w.cell? (ak pb 1)=some (.iface 390 (.pointer (some (E (iT n 1 0).1)))))\/
 ((iT n 1 0).1=0/\∃DB MB tg p,e=.returned (.tuple #[ay DB,.nilIface])/\aO B tg w DB MB p (iA (fun _=>none) 0 (oK 0 (-1) n)) (gu n) (gu n))
attribute [local go_sem] oQ
theorem Pn (E:Nat->Addr)(n:Nd)(c0 c1 c2:ah)(W:ag)(hE:CE E W)(hn:jX W c0 c1 c2 n)(hs:gu n<=1000000):
  ax 23 #[.agg #[c0,c1,c2]] W fun e w'=>Below W.heap.size W w'/\ab1 E W.heap.size n e w':=by
 obtain⟨sa,oa,na,ka,xk,na',ka',rfl,rfl,rfl⟩:∃(sa:aD) (oa:Option Addr) (na ka:Nat) (xk:Option Addr) (na' ka':Nat),c0=.string sa/\c1=.slice oa na ka/\c2=.slice xk na' ka':=by
  obtain⟨nm,ats,ks⟩:=n;unfold jX at hn;obtain⟨rfl, -,⟨o,cap,rfl, -⟩,ok,dW,rfl, -⟩:=hn;exact⟨_,_,_,_,_,_,_,rfl,rfl,rfl⟩
 have A0:NB W.heap.size (.string sa) (.slice oa na ka) (.slice xk na' ka') (W.alloc (.cells #[.string sa,.slice oa na ka,.slice xk na' ka'] 25)):=cZ W #[.string sa,.slice oa na ka,.slice xk na' ka'] 25;have b0:=di W (.cells #[.string sa,.slice oa na ka,.slice xk na' ka'] 25);go_enter func23,ntmps23;go_upto_region 1 with fail;obtain⟨V,hV⟩:∃V,W.alloc (.cells #[.string sa,.slice oa na ka,.slice xk na' ka'] 25)=V:=⟨_,rfl⟩;obtain⟨N,hN⟩:∃N,W.heap.size=N:=⟨_,rfl⟩;rw[hV] at A0 b0⊢;rw[hN] at A0⊢;have HN:=aj hN;clear hV hN;have x0:=A0.c0;have x1:=A0.c1;have x2:=A0.c2;have CK:=Jr E n _ _ _ V (hE.below b0) (jX.below b0 n hn);by_cases hc:(iT n 1 0).1=0
 ·have CK1:=CK.mono (R':=fun e w'=>e=.returned .nilIface/\Below V.heap.size V w') (fun e w' h=>by
   refine⟨?_,h.1⟩;rcases h.2 with h2|h2
   ·exact h2.2
   ·exact absurd hc h2.1)
  have HC:=aj hc;clear CK hc;go_upto_region 4 with(go_at_call 37;refine CK1.mono ?_;rintro e w1 ⟨rfl,b1⟩);have B1:=aG b0 b1;have hsz1:=B1.size;have hmm:=@run_makeMap prog;go_upto_region 5 with fail;have U0:∃U MB,((w1.alloc (.map #[] 0)).alloc (.cells #[.map (some w1.heap.size),aa 0] 85)).alloc (.cells #[.pointer (some ⟨w1.heap.size+1,0,none⟩)] 52)=U/\w1.heap.size=MB/\U.heap[MB+1]? =some (.cells #[.map (some MB),aa 0] 85)/\eZ prog 3 U MB (fun _=>none) 0 0/\U.cell? (ak (MB+1+1) 0)=some (.pointer (some ⟨MB+1,0,none⟩))/\U.heap.size=MB+1+1+1/\Below w1.heap.size w1 U:=by
   refine⟨_,_,rfl,rfl,?_,?_,?_,by simp,?_⟩
   ·have h1:=cZ (w1.alloc (.map #[] 0)) #[.map (some w1.heap.size),aa 0] 85;have h2:=(di ((w1.alloc (.map #[] 0)).alloc (.cells #[.map (some w1.heap.size),aa 0] 85)) (.cells #[.pointer (some ⟨w1.heap.size+1,0,none⟩)] 52)).block _ (aM h1);simp only[World.size_alloc] at h1 h2;exact h2.trans h1
   ·exact((eZ.made w1 prog 3).kept (World.grownBy_alloc _ _ none) (by simp)).kept (World.grownBy_alloc _ _ none) (by simp)
   ·have h1:=gP ((w1.alloc (.map #[] 0)).alloc (.cells #[.map (some w1.heap.size),aa 0] 85)) #[.pointer (some ⟨w1.heap.size+1,0,none⟩)] 52 0 _ rfl;simp only[World.size_alloc] at h1;exact h1
   ·exact aG (aG (di _ _) (di _ _)) (di _ _)
  obtain⟨U,MB,hU,hMB,dU,pU,cDU,sU,bU⟩:=U0;rw[hU,hMB];have hMN:N<MB:=by have:=HN.out;have h2:=aM A0;have:=b1.size;omega
  clear hU;have BU:=aG B1 bU;have F0:=gP U #[.func (.func 41) #[] #[.pointer (some ⟨MB+1+1,0,none⟩),ay U.heap.size]] 102 0 (.func (.func 41) #[] #[.pointer (some ⟨MB+1+1,0,none⟩),ay U.heap.size]) rfl;have bF:=di U (.cells #[.func (.func 41) #[] #[.pointer (some ⟨MB+1+1,0,none⟩),ay U.heap.size]] 102);have AU:=((aG b1 bU).block N (aM A0)).trans A0;have D0:=aO.made (B:=W.heap.size) dU pU (by omega) (by have:=HN.out;omega) (by have:=HN.out;omega);go_upto_region 7 with fail;obtain⟨X,hX⟩:∃X,U.alloc (.cells #[.func (.func 41) #[] #[.pointer (some ⟨MB+1+1,0,none⟩),ay U.heap.size]] 102)=X:=⟨_,rfl⟩;obtain⟨PP,hPQ⟩:∃PP,MB+1+1+1=PP:=⟨_,rfl⟩;have Fj:U.heap.size=PP:=sU.trans hPQ;rw[Fj] at hX F0 bF;rw[hPQ,hX];rw[hX] at F0 bF;have D1:=D0.turn (w':=X) (fun g t ht=>bF.block g (by rw[<- Fj];exact(D0.low g t ht).2)) bF.size;have bX:Below U.heap.size U X:=by rw[Fj];exact bF
  have BX:=aG BU bX;have AX:=(bX.block N (aM AU)).trans AU;have cDX:=(bX.cell (az cDU)).trans cDU;have HP:=ZV W (MB+1+1) PP (MB+1) MB n _ _ _ (-1) _ X _ _ 0 0 hn (Pg n 1 0 HC.out) BX cDX F0 D1 (by unfold Mt;rw[if_neg (by omega),if_neg (by omega)]) (by unfold Mt;rw[if_neg (by omega),if_neg (by omega)]) (by decide) (by omega);rw[Nat.zero_add] at HP;have x0:=NB.c0 AX;have x1:=NB.c1 AX;have x2:=NB.c2 AX;have ab2:W.heap.size<=MB:=by have:=HN.out;omega
  clear hX D0 D1 AU;go_wp2_with(go_at_call 41;refine HP.mono ?_;rintro e w5 ⟨rfl,k5,tg5,p5, -, -,d5⟩;have cD5:=k5.cell cDX (by omega) (by omega))
  go_ret2
  exact⟨BX.trans ((k5.below (m:=W.heap.size) (by omega) ab2 BX.size)),.inr ⟨HC.out,MB+1,MB,tg5,p5,rfl,d5⟩⟩
 ·have CK1:=CK.mono (R':=fun e w'=>(∃pb,e=.returned (.iface 113 (ay pb))/\w'.cell? (ak pb 0)=some (aa (iT n 1 0).2)/\w'.cell? (ak pb 1)=some (.iface 390 (.pointer (some (E (iT n 1 0).1)))))/\Below V.heap.size V w') (fun e w' h=>by
   refine⟨?_,h.1⟩;rcases h.2 with h2|⟨-,pb, -,h3⟩
   ·exact absurd h2.1 hc
   ·exact⟨pb,h3⟩)
  clear CK;go_wp2_with(go_at_call 37;refine CK1.mono ?_;rintro e w1 ⟨⟨pb,rfl,h3,h4⟩,b1⟩)
  go_ret2
  exact⟨aG b0 b1,.inl ⟨hc,pb,rfl,h3,h4⟩⟩
end
section
open Go.RowKit
set_option maxRecDepth 20000
theorem Po {w:ag}{B k n:Nat}{e:TypeId}{v:ah}{xs:List ah}(h:w.ownsRow B e k v n xs):n<=9223372036854775807:=by
 obtain⟨o,cap, -,h1,h2, -⟩:=bS h;rw[bq] at h2;omega
theorem FT {α β:Type}(g:α->List β)(l:List α)(k:Nat):((l.take k).flatMap g).length<=(l.flatMap g).length:=by
 have h:=congrArg (fun x=>(List.flatMap g x).length) (List.take_append_drop k l);simp only[List.flatMap_append,List.length_append] at h;omega
theorem xm {B:Nat}{tg:bf}{Wd:ag}{DB MB:Nat}{p:Int->Option Nat}{M:Dm}{nx c:Nat}(hd:aO B tg Wd DB MB p M nx c)(G:Nat)(hcf:∀(av:Array ah) (w:ag),Sem.run prog (callFunc G av) w=.ok (.enter G av) w)(lb:Array ah)(I:List (Int×Int)->ag->Prop)(hI:∀done W,I done W->(∀b t,tg b=some t->W.heap[b]? =Wd.heap[b]?)/\Wd.heap.size<=W.heap.size)
  (hcall:∀done W i d,I done W->done.length<1000000->ax G (#[aa i,aa d]++lb) W fun e w'=>e=.returned (.tuple #[])/\I (done++[(i,d)]) w'):
  ∀(f:Nat) (n d:Int) (done:List (Int×Int)) (W:ag),Dp M f n->bA n->0<=d->d+f<=1000000->done.length+(pre M f n d).length<=1000000->I done W->
  ax 155 #[ay DB,aa n,aa d,.func (.func G) #[] lb] W fun e w'=>e=.returned (.tuple #[])/\I (done++pre M f n d) w'
 |0,_,_,_,_,hp,_,_,_,_,_=>hp.elim
 |f+1,n,d,done,W,hp,hn,hd0,hdf,hlen,hi=>by
  have IH:=xm hd G hcf lb I hI hcall f;have hs:=hI done W hi;have hw:=hd.turn hs.1 hs.2;have d0:=hw.d0;cases hm:M n with
  |none=>
   have hpn:=hd.non n hm;have hpre:pre M (f+1) n d=[]:=by rw[pre,hm]
   rw[hpre,List.append_nil];go_enter func155,ntmps155;go_wp2_with(at_lookup;refine iB _ rfl _ _ 83 rfl underlying3 underlying83 (aW _) rfl hw.map n rfl hn hpn ?_);refine bodyPost_ret (v:=.tuple #[]) (by simp[results,results155]) rfl ⟨rfl,hi⟩
  |some e=>
   have hpre:pre M (f+1) n d=(n,d)::e.kids.flatMap (fun k=>pre M f k (d+1)):=by rw[pre,hm]
   rw[hpre] at hlen⊢;rw[List.length_cons] at hlen;obtain⟨b,va,vk,hpn,he⟩:=hd.els n e hm;have he1:=he.turn (gF:=tg) (w':=W) fun g t ht _=>⟨ht,hs.1 g t ht⟩;have HCL:=hcall done W n d hi (by omega);obtain⟨ov,kv,hvk⟩:=aH he.kids;have HKD:Hid (∀k∈e.kids,Dp M f k/\bA k):=(fun k hk=>⟨hp e hm k hk,(hd.wf n e hm).2 k hk⟩:∀k∈e.kids,Dp M f k/\bA k);have HHI:=aj hI;have HIH:=aj IH;have hkl:e.kids.length<=9223372036854775807:=Po he.kids;clear hI IH hcall hi hp;go_enter func155,ntmps155;go_upto_region 3 with(first|(at_lookup;refine bu _ rfl _ _ 83 rfl underlying3 underlying83 (aW _) rfl hw.map n rfl hn b hpn ?_)|(refine HCL.mono ?_;rintro r w1 ⟨rfl,hi1⟩));subst hvk;have x3:=World.cell?_of_block ((HHI.out _ _ hi1).1 b _ he.tag)|>.trans he.c3
   have hd1:d<=999999:=by omega
   have HHE:=aj he;have HI1:=aj hi1;clear he he1 hi1 hw d0 hs HCL;go_wp2_with fail
   go_loopw [32] (fun y wr=>∃k:Nat,k<=e.kids.length/\y=aa k/\I (done++((n,d)::(e.kids.take k).flatMap (fun i=>pre M f i (d+1)))) wr) (fun y _=>e.kids.length-(intOf y).toNat)
   case atStart=>exact⟨0,Nat.zero_le _,rfl,HI1.out⟩
   case round=>
    obtain⟨k,hk,rfl,hi2⟩:=hrel;by_cases hlt:k<e.kids.length
    ·have hlt':(k:Int)<(e.kids.length:Int):=by omega
     obtain⟨kid,hx, -⟩:=drop_at hlt;obtain⟨g,hg,hc⟩:=bO HHE.out.kids k _ (kI hx);have hov:ov=some ⟨g,0,none⟩:=by
      obtain⟨o',cap',h1, -, -, -,h2⟩:=bS HHE.out.kids;cases h1;exact h2 g hg
     subst hov;have hcw:=World.cell?_of_block ((HHI.out _ _ hi2).1 g _ (HHE.out.gD g hg))|>.trans hc
     have hkd:=HKD.out kid (List.mem_of_getElem? hx);have htk:(e.kids.take (k+1)).flatMap (fun i=>pre M f i (d+1))=(e.kids.take k).flatMap (fun i=>pre M f i (d+1))++pre M f kid (d+1):=by
      rw[List.take_add_one,hx];simp
     have hle:=FT (fun i=>pre M f i (d+1)) e.kids (k+1);rw[htk,List.length_append] at hle;have HC:=HIH.out kid (d+1) _ wr hkd.1 hkd.2 (by omega) (by omega) (by rw[List.length_append,List.length_cons];omega) hi2;rw[List.append_assoc,List.cons_append,<- htk] at HC;clear hi2 hc hg hx htk hle;go_wp2_with(go_at_call 155;refine HC.mono ?_;rintro r w2 ⟨rfl,hi3⟩)
     go_roundw
     case rel=>exact⟨k+1,by omega,by go_num,hi3⟩
     case measure=>simp[intOf];omega
    ·obtain rfl:k=e.kids.length:=by omega
     have hge:¬(e.kids.length:Int)<(e.kids.length:Int):=by omega
     rw[List.take_length] at hi2;go_wp2_with fail;refine bodyPost_end (results_none rfl _ _ _) rfl ⟨rfl,hi2⟩
end
end Go.Proofs.YtjfiehbcamfdfaaGreatDoor
namespace Go.Proofs
open Go.Shelf
def Tryz.Jz:Go.Shelf.Ren:=⟨fun|10=>153|6=>208|n=>n,fun|22=>42|23=>3|25=>116|3=>3|4=>4|0=>0|n=>n,fun|n=>n⟩
theorem Tryz.ZX:Go.Proofs.SlLaysH.n10 prog Tryz.Jz:={
  mixed:=by kernel_rfl
  f6:=⟨Tryz.f208.name,by decide,func208.trans (congrArg some (by kernel_rfl))⟩
  f10:=⟨Tryz.f153.name,by decide,func153.trans (congrArg some (by kernel_rfl))⟩
  t0:=underlying0
  a0:=Tryz.isAgg0
  z0:=Tryz.sizeOf0
  v0:=Tryz.zeroValue0
  t3:=underlying3
  a3:=Tryz.isAgg3
  z3:=Tryz.sizeOf3
  v3:=Tryz.zeroValue3
  t4:=underlying4
  a4:=Tryz.isAgg4
  z4:=Tryz.sizeOf4
  v4:=Tryz.zeroValue4
  t22:=underlying42
  a22:=Tryz.isAgg42
  z22:=Tryz.sizeOf42
  v22:=Tryz.zeroValue42
  a23:=Tryz.isAgg3
  z23:=Tryz.sizeOf3
  t25:=underlying116
  a25:=Tryz.isAgg116
  z25:=Tryz.sizeOf116
  v25:=Tryz.zeroValue116}
def Tryz.nR:Go.Shelf.Ren:=⟨fun|21=>105|27=>151|28=>152|35=>207|39=>246|n=>n,fun|22=>42|3=>3|4=>4|0=>0|n=>n,fun|n=>n⟩
theorem Tryz.vD:Go.Proofs.Lays2.n21 prog Tryz.nR:={
  mixed:=by kernel_rfl
  f21:=func105.trans (congrArg some (by kernel_rfl))
  f27:=func151.trans (congrArg some (by kernel_rfl))
  f28:=func152.trans (congrArg some (by kernel_rfl))
  f35:=func207.trans (congrArg some (by kernel_rfl))
  f39:=func246.trans (congrArg some (by kernel_rfl))
  t0:=underlying0
  a0:=Tryz.isAgg0
  z0:=Tryz.sizeOf0
  v0:=Tryz.zeroValue0
  t3:=underlying3
  a3:=Tryz.isAgg3
  z3:=Tryz.sizeOf3
  v3:=Tryz.zeroValue3
  t4:=underlying4
  a4:=Tryz.isAgg4
  z4:=Tryz.sizeOf4
  v4:=Tryz.zeroValue4
  t22:=underlying42
  a22:=Tryz.isAgg42
  z22:=Tryz.sizeOf42
  v22:=Tryz.zeroValue42
  i3:=by kernel_rfl}
end Go.Proofs
namespace Go.Proofs.YtjfiehbcamfdfaaGreatDoor
open Go.Proofs.Tryz
set_option maxHeartbeats 8000000
section
open Go.RowKit
def VY (W:ag)(done:List (Int×Int))(Wc:ag):Prop:=Below W.heap.size W Wc/\∃o k,Wc.heap[W.heap.size]? =some (.cells #[.slice o done.length k] 42)/\Wc.ownsRow (W.heap.size+1) 3 1 (.slice o done.length k) done.length (bD (done.map Prod.fst))
theorem gather (W:ag)(done:List (Int×Int))(Wc:ag)(i d:Int)(h:VY W done Wc)(hl:done.length<1000000):
    ax 156 (#[aa i,aa d]++#[ay W.heap.size]) Wc fun e w'=>e=.returned (.tuple #[])/\VY W (done++[(i,d)]) w':=by
  obtain⟨hb,o,k,hc,ho⟩:=h;obtain⟨i0,hi0,hz0,hz1,hz2⟩:=info_parts zi;have c0:=aF hc 0 _ rfl;have hlt:=aM hc;have b1:=di Wc (.cells #[aa i] 3);have H0:=cZ Wc #[aa i] 3;have HB:=aj hb;clear hb;obtain⟨PL,ZY⟩:∃PL,W.heap.size=PL:=⟨_,rfl⟩;rw[ZY] at hc ho c0 hlt⊢;show ax 156 #[aa i,aa d,ay PL] Wc _;go_enter func156,ntmps156;go_wp2_with(at_builtin;refine wpList_append_own_at _ rfl _ _ 42 rfl (PL+1) 3 i0 (aa 0) 1 8 underlying42 hi0 hz0 hz1 hz2 rfl (by decide) _ _ _ rfl (World.ownsRow.alloc ho _) ⟨Wc.heap.size,0,none⟩ 1 1 [aa i] rfl rfl (World.news_of_block H0) (fun u hu=>by simp at hu;rcases hu with rfl;rfl) (by rw[bq];omega) (by omega) (by simp;omega) ?_;intro v7 w7 kF lH _ Dc;obtain⟨o7,k7,rfl⟩:=aH kF;have e7:=(lH.block PL (Nat.lt_of_lt_of_le hlt b1.size) (own_ne ho (Nat.lt_succ_self PL))).trans ((b1.block PL hlt).trans hc);have c7:=aF e7 0 _ rfl;have f7:=aR e7);refine bodyPost_end (results_none rfl _ _ _) rfl ⟨rfl,?_,o7,k7,?_,?_⟩
  · have h7:Below PL W w7:=by
      have hb:=HB.out;rw[ZY] at hb;refine⟨lH.os.trans (b1.os.trans hb.os),lH.tape.trans (b1.tape.trans hb.tape),lH.output.trans (b1.output.trans hb.output),Nat.le_trans hb.size (Nat.le_trans b1.size lH.size),fun j hj=>?_⟩;exact(lH.block j (by have:=b1.size;omega) (own_ne ho (by omega))).trans ((b1.block j (by omega)).trans (hb.block j hj))
    rw[ZY];exact h7.setCell ai _
  · rw[ZY,heap_setCell_same w7 PL 0 _ _ _ e7]
    simp
  · rw[ZY]
    have:=bT (w':=w7.setCell ⟨PL,0,none⟩ (.slice o7 (done.length+1) k7)) kF fun g hg=>Below.heap_setCell _ _ _ g (fun e1=>by have:=(kF.lt g hg).1;simp only at e1;omega);rw[List.map_append,EA,List.length_append];exact this
def dw (M:Dm)(f:Nat)(n:Int):List Int:=(pre M f n 1).map Prod.fst
theorem l8 {B:Nat}{tg:bf}{W:ag}{DB MB:Nat}{p:Int->Option Nat}{M:Dm}{nx c:Nat}(hd:aO B tg W DB MB p M nx c)(f:Nat)(n:Int)(hf:f<=900000)(hp:Dp M f n)(hn:bA n)(hl:(dw M f n).length<=1000000):
    ax 107 #[ay DB,aa n] W fun e w'=>∃o k,e=.returned (.slice o (dw M f n).length k)/\Below W.heap.size W w'/\w'.ownsRow (W.heap.size+1) 3 1 (.slice o (dw M f n).length k) (dw M f n).length (bD (dw M f n)):=by
  have HW:=xm hd _ (oJ _ _ func156 (by kernel_rfl) (by kernel_rfl)) #[ay W.heap.size] (VY W) (fun done Wc h=>⟨fun b t ht=>h.1.block b (hd.low b t ht).2,h.1.size⟩) (fun done Wc i d h hl=>gather W done Wc i d h hl) f n 1 [] (W.alloc (.cells #[.slice none 0 0] 42)) hp hn (by decide) (by omega) (by rw[List.length_nil];unfold dw at hl;rw[List.length_map] at hl;omega) ⟨di W _,none,0,cZ W _ _,World.ownsRow_nil _ _ _ _⟩;rw[List.nil_append] at HW;have hlm:(dw M f n).length=(pre M f n 1).length:=List.length_map ..;go_enter func107,ntmps107;go_wp2_with(go_at_call 155;refine HW.mono ?_;rintro e w1 ⟨rfl,h1⟩;obtain⟨hb1,o,k,hc1,ho1⟩:=h1;have c1:=aF hc1 0 _ rfl);go_ret;exact⟨o,k,by rw[hlm];rfl,hb1,by rw[hlm];exact ho1⟩
theorem sF (n x:Int)(PN:Nat)(W:ag)(hc:W.cell? (ak PN 0)=some (aa n)):FnGives prog 154 #[ay PN] #[aa x] (.bool (decide (x=n))) W:=by
  show ax 154 #[aa x,ay PN] W _;go_enter func154,ntmps154;go_wp2
  all_goals(go_ret;exact⟨by first|(simp_all;done)|(simp_all;rfl),0,rfl⟩)
theorem RH {w:ag}{blk:Nat}{cur:Array ah}{t:TypeId}(enc:Int->ah)(d:Array Int)(h:w.heap[blk]? =some (.cells cur t)):(Sort.putRow enc w blk 0 d).heap[blk]? =some (.cells (Sort.putCells enc 0 d cur) t):=by
  simp[Sort.putRow,Sort.mapBlock,Array.getElem?_modify,h,Sort.onCells]
theorem Mw {w:ag}{blk x:Nat}(enc:Int->ah)(d:Array Int)(h:x≠blk):(Sort.putRow enc w blk 0 d).heap[x]? =w.heap[x]? :=by
  simp[Sort.putRow,Sort.mapBlock,Array.getElem?_modify,Ne.symm h]
theorem De (F R:List Int)(cur:Array ah)(h:F.length<=cur.size):(Sort.putCells (Value.int .i64) 0 (F++R).toArray cur).toList.take F.length=bD F:=by
  apply List.ext_getElem?;intro k;rw[List.getElem?_take];unfold bD;rw[List.getElem?_map];split
  · rename_i hk
    have hkc:k<cur.size:=by omega
    rw[Array.getElem?_toList];unfold Sort.putCells;rw[Array.getElem?_mapIdx,Array.getElem?_eq_getElem hkc,Option.map_some,if_pos ⟨Nat.zero_le _,by simp;omega⟩];rw[List.getElem?_eq_getElem hk,Option.map_some,Nat.sub_zero];congr 2;rw[getElem!_pos _ k (by simp;omega)];simp[List.getElem_append_left hk]
  · rename_i hk
    rw[List.getElem?_eq_none (by omega)];rfl
theorem ab3 {B:Nat}{W:ag}{v:ah}{L:List Int}{n:Int}{PN:Nat}(ho:W.ownsRow B 3 1 v L.length (bD L))(hL:L≠[])(hc:W.cell? (ak PN 0)=some (aa n))(hne:v.ownBlock≠some PN):
    ax 153 #[v,.func (.func 154) #[] #[ay PN]] W fun e w'=>∃o k,e=.returned (.slice o (L.filter (fun x=> !decide (x=n))).length k)/\w'.ownsRow B 3 1 (.slice o (L.filter (fun x=> !decide (x=n))).length k) (L.filter (fun x=> !decide (x=n))).length (bD (L.filter (fun x=> !decide (x=n))))/\(Value.slice o (L.filter (fun x=> !decide (x=n))).length k).ownBlock=v.ownBlock/\W.grownBy w' v.ownBlock:=by
  have hl:=Po ho;obtain⟨h1,h2⟩:=ho;rcases h2 with⟨-,h2⟩|⟨g,cap,cur,rfl,h3,h4,h5,h6,h7,h8⟩
  · exact absurd (List.length_eq_zero_iff.1 h2) hL
  have hgn:g≠PN:=fun e=>hne (by rw[e];rfl);have hH:Sort.Holds (Value.int .i64) W g 0 L.toArray:=fun j hj=>by
    have hj':j<L.length:=by simpa using hj
    refine⟨?_,aR h4 _⟩;rw[Nat.zero_add];refine aF h4 j _ ?_;have hx:(bD L)[j]? =some (aa L[j]):=kI (List.getElem?_eq_getElem hj');rw[<- h8,Nat.mul_one,List.getElem?_take,if_pos hj',Array.getElem?_toList] at hx;rw[hx,getElem!_pos _ j hj];simp
  have hD:=AnyE.slices_DeleteFunc Tryz.ZX (Value.int .i64) (fun _=>rfl) (fun x=>decide (x=n)) 154 #[ay PN] (fun args w=>by kernel_rfl) 0 (fun w=>Tryz.zeroValue3 w) g 0 cap L.toArray W
    (fun W' x hb=>sF n x PN W' ((hb.cell (az hc)).trans hc))
    (fun m os dk x _=>sF n x PN _ (by
      unfold sortWorld;rw[Sort.cell?_grow _ _ _ (by show PN<(Sort.putRow _ _ _ _ _).heap.size;rw[Sort.size_putRow];exact az hc),Sort.cell?_putRow_other _ _ g 0 _ _ (Or.inl (fun e=>hgn e.symm))];exact hc)) hH (by simpa using hl) (by simpa using h5)
  have hs:L.toArray.size=L.length:=by simp
  rw[hs] at hD;refine hD.mono fun e w' ⟨he,q,hw⟩=>?_;have hF:(L.filter (fun x=> !decide (x=n))).length<=L.length:=List.length_filter_le _ _;refine⟨some ⟨g,0,none⟩,cap,he,?_,rfl,?_⟩
  · rw[hw]
    refine⟨by rw[qZ,Nat.mul_one],.inr ⟨g,cap,_,rfl,h3,RH (w:=Sort.ahead W q) _ _ h4,by omega,h6,?_,?_⟩⟩
    · unfold Sort.putCells
      rw[Array.size_mapIdx];exact h7
    · rw[Nat.mul_one]
      exact De _ _ cur (by omega)
  · rw[hw]
    exact⟨rfl,rfl,rfl,by rw[Sort.size_putRow];exact Nat.le_refl _,fun x _ hx=>Mw _ _ (fun e1=>hx (by rw[e1];rfl))⟩
end
section
open Go
def Df:Bs:=[98,111,120]
def sG:Bs:=[112,111,108,121]
def mq:Bs:=[103,114,111,117,112]
def JA:Bs:=[117,115,101]
def ZZ:Bs:=[110,111]
def sH:Bs:=[110,111,110,101]
def dY:Bs:=[109,111,118,101]
def vF:Bs:=[112,111,105,110,116,115]
def kOf:Bs:=[111,102]
def kId:Bs:=[105,100]
structure Pc where
  nd:Int
  pts:List Qt
  fill:Bs
  rule:Bs
  lv:Int
structure Ft where
  code:Nat
  pl:Int
def Dg (M:Dm)(n:Int):Bs:=match M n with|none=>[]|some e=>e.name
def FU (M:Dm)(n:Int)(nm:Bs):Bs:=(yP M n nm).getD []
def sI (M:Dm)(n:Int)(m:Mv):Except Nat Mv:=
  if(iL ⟨(FU M n dY).toArray⟩).2≠0 then .error (iL ⟨(FU M n dY).toArray⟩).2 else if(thenS (iL ⟨(FU M n dY).toArray⟩).1 m).2=0 then .ok (thenS (iL ⟨(FU M n dY).toArray⟩).1 m).1 else .error 2
def eP (M:Dm)(n:Int)(nm:Bs):R3:=match yP M n nm with|none=>⟨0,1,0⟩|some s=>rd s
def okB (l:List Qt):Bool:=decide (l.length<=30) && l.all (fun y=>gH y==0)
def nS (x y w h:R3):Except Nat (List Qt):=
  if(add x.n x.d w.n w.d).c=0/\(add y.n y.d h.n h.d).c=0/\okB (LV x.n x.d y.n y.d (add x.n x.d w.n w.d).n (add x.n x.d w.n w.d).d (add y.n y.d h.n h.d).n (add y.n y.d h.n h.d).d)=true
  then .ok (LV x.n x.d y.n y.d (add x.n x.d w.n w.d).n (add x.n x.d w.n w.d).d (add y.n y.d h.n h.d).n (add y.n y.d h.n h.d).d) else .error 2
def VZ (M:Dm)(n:Int):Except Nat (List Qt):=
  if(eP M n [120]).c≠0 then .error (eP M n [120]).c else if(eP M n [121]).c≠0 then .error (eP M n [121]).c else if(eP M n [119]).c≠0 then .error (eP M n [119]).c else if(eP M n [104]).c≠0 then .error (eP M n [104]).c
  else nS (eP M n [120]) (eP M n [121]) (eP M n [119]) (eP M n [104])
def ptM (w:Bs):Option Qt:=match behind 44 w with
  |none=>none
  |some b=>if(rd (ahead 44 w)).c=0/\(rd b).c=0 then some ⟨(rd (ahead 44 w)).n,(rd (ahead 44 w)).d,(rd b).n,(rd b).d⟩ else none
def AZ (s:Bs):Except Nat (List Qt):=
  if s=[] then .ok [] else match(words ⟨s.toArray⟩).mapM (fun w=>ptM w.toList) with
  |none=>.error 1
  |some l=>if okB l then .ok l else .error 2
def EE (M:Dm)(n:Int):Except Nat (List Qt):=AZ (FU M n vF)
def FV (m:Mv)(a:Qt):Qt:=⟨(bZ 0 m ⟨⟨a.xn,a.xd⟩,⟨a.yn,a.yd⟩⟩).1.x.n,(bZ 0 m ⟨⟨a.xn,a.xd⟩,⟨a.yn,a.yd⟩⟩).1.x.d,(bZ 0 m ⟨⟨a.xn,a.xd⟩,⟨a.yn,a.yd⟩⟩).1.y.n,(bZ 0 m ⟨⟨a.xn,a.xd⟩,⟨a.yn,a.yd⟩⟩).1.y.d⟩
def xq (m:Mv)(a:Qt):Bool:=decide ((bZ 0 m ⟨⟨a.xn,a.xd⟩,⟨a.yn,a.yd⟩⟩).2=0) && (jw (FV m a)==0)
def Uk (m:Mv)(l:List Qt):Option (List Qt):=if l.all (xq m) then some (l.map (FV m)) else none
def EG (s:Bs):Int:=match Lib.atoiAll s with
  | .ok v=>if 0<=v/\v<=999/\Lib.itoa v=s then v else 0
  |_=>0
def yA (c:Nat):Nat:=if c=2 then 2 else 10
def allM (M:Dm):List Int:=dw M 11 0
def FW (M:Dm)(n:Int):Option Int:=match yP M n kOf with
  |none=>none
  |some v=>(allM M).find? (fun k=>yP M k kId==some v)
def iH (M:Dm)(l:List Rl)(n:Int)(m:Mv)(x:Except Nat (List Qt))(st:Nat×List Pc):Except Ft (Nat×List Pc):=match x with
  | .error c=>.error ⟨yA c,n⟩
  | .ok q=>match Uk m q with
    |none=>.error ⟨2,n⟩
    |some q'=>if ofM M l uS n=sH then .ok st else .ok (st.1,st.2++[⟨n,q',ofM M l uS n,ofM M l yc n,EG (ofM M l tL n)⟩])
def nT (s:Bs):Bool:=s==Df||s==sG||s==mq||s==JA
def Ba (M:Dm)(l:List Rl)(n:Int):Bool:=nT (Dg M n) && !(ofM M l rY n==ZZ)
def dF (M:Dm)(l:List Rl):Nat->Int->List Int->Mv->Nat×List Pc->Except Ft (Nat×List Pc)
  |0,n,path,_,_=>if n∈path then .error ⟨9,n⟩ else .error ⟨7,n⟩
  |f+1,n,path,m,st=>
    if n∈path then .error ⟨9,n⟩ else if 100<=st.1 then .error ⟨7,n⟩ else
    if Ba M l n=false then .ok (st.1+1,st.2) else
    match sI M n m with
    | .error c=>.error ⟨yA c,n⟩
    | .ok m'=>
      if Dg M n=Df then iH M l n m' (VZ M n) (st.1+1,st.2) else
      if Dg M n=sG then iH M l n m' (EE M n) (st.1+1,st.2) else
      if Dg M n=mq then(Pp M n).foldlM (fun s k=>dF M l f k (n::path) m' s) (st.1+1,st.2) else
      match FW M n with
      |none=>.error ⟨10,n⟩
      |some k=>dF M l f k (n::path) m' (st.1+1,st.2)
where Pp (M:Dm) (n:Int):List Int:=match M n with|none=>[]|some e=>e.kids
def sJ (l:List Pc):List Pc:=(List.range 1000).flatMap (fun(k:Nat)=>l.filter (fun x=>x.lv==(k:Int)))
def eF (M:Dm)(l:List Rl):Except Ft (List Pc):=match dF M l 101 0 [-1] .one (0,[]) with
  | .error e=>.error e
  | .ok st=>.ok (sJ st.2)
end
end Go.Proofs.YtjfiehbcamfdfaaGreatDoor

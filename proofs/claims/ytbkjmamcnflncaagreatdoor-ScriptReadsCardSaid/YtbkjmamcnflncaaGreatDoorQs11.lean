import Derived.Test.YtbkjmamcnflncaaGreatDoorQs10
namespace Go.Proofs.YtbkjmamcnflncaaGreatDoor
open Go.Proofs.Tryz
set_option maxHeartbeats 8000000
variable{s:dm}{a q:Nat}
section
open Go.RowKit
set_option maxRecDepth 20000
theorem Py {w:ah}{B B' k n:Nat}{e:TypeId}{v:au}{d:List au}(h:w.ownsRow B e k v n d)(f:B'<=B):w.ownsRow B' e k v n d:=by
 obtain⟨i,a⟩:=h;refine⟨i,?_⟩;rcases a with a|⟨g,b,c,j,l,m⟩
 .exact .inl a
 .exact .inr ⟨g,b,c,j,bu f l,m⟩
def yM (s:dm)(i:Int)(v:au):dm:=λx=>if v.ownBlock=some x then some (.kids i) else s x
theorem mY.at {w:ah}{o:Option Addr}{e:List Nd}{i:Nat}{kid:Nd}(h:mY w o 0 e)(f:e[i]? =some kid):∃b off a c d,o=some ⟨b,off,none⟩/\w.cell? (aH b (off+i*3))=some a/\w.cell? (aH b (off+i*3+1))=some c/\w.cell? (aH b (off+i*3+2))=some d/\rJ w a c d kid:=by
 obtain⟨b,off,a,c,d,g,j,k,l,m⟩:=h.get f;grind
theorem bT.kid {B:Nat}{w w7:ah}{DB:Nat}{p:Int->Option Nat}{M:Dm}{nx c:Nat}{i:Int}{e:gP}{va vk v7:au}{k:Int}{o:Obj}(h:bT B s w DB a p M nx c)(hi:M i=some e)(hp:p i=some q)(he:AB B s w i q e va vk)(N:dV k)
  (J:w7.ownsRow B 3 1 v7 (e.kids.length+1) (bO e.kids++[ag k])) (v:(w.alloc o).grownBy w7 vk.ownBlock) (K:v7.ownBlock=vk.ownBlock\/v7.ownBlock=some (w.alloc o).heap.size):
  bT B (yM s i v7) (w7.setCell ⟨q,3,none⟩ v7) DB a p (dY M i ⟨e.name,e.ats,e.parent,e.kids++[k]⟩) nx c/\(∀x,x<w.heap.size->yM s i v7 x=s x)/\(∀x,x<w.heap.size->x≠q->vk.ownBlock≠some x->(w7.setCell ⟨q,3,none⟩ v7).heap[x]? =w.heap[x]?)/\w.heap.size<=(w7.setCell ⟨q,3,none⟩ v7).heap.size/\(w7.setCell ⟨q,3,none⟩ v7).os=w.os/\(w7.setCell ⟨q,3,none⟩ v7).tape=w.tape/\(w7.setCell ⟨q,3,none⟩ v7).output=w.output:=by
 have y:=aY he.cells;have E:(w.alloc o).heap.size=w.heap.size+1:=aG;have O:w.heap.size+1<=w7.heap.size:=by have:=v.size;rw[<- E];exact this
 have d:=(aQ q w7).setCell (p:=⟨q,3,none⟩) ay v7;have F:vk.ownBlock≠some q:=λf=>by have b:=he.jG q f;rw[he.tag] at b;cases b
 have H:v7.ownBlock≠some q:=λf=>by grind
 have z:∀x,x<w.heap.size->vk.ownBlock≠some x->w7.heap[x]? =w.heap[x]? :=λx r I=>by
  have b:=v.block x (by show x<(w.alloc o).heap.size;omega) (λf=>I f.symm);exact b.trans ((dI w o).block x r)
 have C:∀x,x<w.heap.size->yM s i v7 x=s x:=λx r=>by
  unfold yM;split
  .rename_i b;rcases K with u|u
   .exact(he.jG x (u.symm.trans b)).symm
   .grind
  .rfl
 have n:∀x,x<w.heap.size->x≠q->vk.ownBlock≠some x->(w7.setCell ⟨q,3,none⟩ v7).heap[x]? =w.heap[x]? :=λx r b u=>(bY _ _ _ x b).trans (z x r u);have A:w.heap.size<=(w7.setCell ⟨q,3,none⟩ v7).heap.size:=by have:=d.size;omega
 refine⟨h.put hi hp (va:=va) (vk:=v7) ⟨?_,?_,?_,?_,?_,?_⟩ A ⟨(h.wf i e hi).1,λj D=>?_⟩ C ?_ ?_ ?_,C,n,A,d.os.trans v.os,d.tape.trans v.tape,d.output.trans v.output⟩
 .have b:=(z q y F).trans he.cells;rw[heap_setCell_same w7 q 3 _ _ _ b];rfl
 .rw[C q y];exact he.tag
 .exact di he.ats λg l=>n g (he.ats.lt g l).2 (λf=>by have b:=he.nO g l;rw[f,he.tag] at b;cases b) (λf=>by have b:=he.nO g l;rw[he.jG g f] at b;cases b)
 .intro g l;rw[C g (he.ats.lt g l).2];exact he.nO g l
 .have:=di (w':=w7.setCell ⟨q,3,none⟩ v7) J λg l=>bY _ _ _ g (λf=>H (by rw[l,f]));rw[Bt,dJ];exact this
 .intro g l;unfold yM;rw[if_pos l]
 .rcases gT.1 D with D|D
  .exact(h.wf i e hi).2 j D
  .grind
 .intro x t m;unfold yM at m;split at m
  .rename_i b;have u:=J.lt x b;have:=d.size;omega
  .have:=h.low x t m;omega
 .intro x r;unfold yM;split
  .grind
  .exact .inl (h.new r)
 .intro x t m b u L;exact n x (h.low x t m).2 (λf=>by rw[f,he.tag] at m;cases m;exact b rfl) (λf=>by rw[he.jG x f] at m;cases m;exact L rfl)
theorem Wj:∀(l:List Nd) (k:Nat),(xH k l).length=l.length
 |[],_=>rfl
 |n::l,k=>by rw[xH,eP,eP,Wj l]
theorem Wl:∀l:List Nd,l.length<=nJ l
 |[]=>Nat.le_refl _
 |n::l=>by have a:=Wl l;have b:=Vy n;rw[nJ,eP];omega
theorem K2.Md {r n k:Nat}{A B:ah}(h:K2 r n (A.drewN k) B):K2 r n A B:=⟨h.os,h.tape,h.output,h.size,h.block⟩
theorem Yr {B:Nat}{wr U1 w4 w7:ah}{DB:Nat}{i:Int}{e:gP}{va vk:au}{o:Obj}(he:AB B s wr i q e va vk)(b:aD wr U1)(c:K2 DB a U1 w4)(d:q≠DB/\q≠a)(g:(w4.alloc o).grownBy w7 vk.ownBlock):w7.heap[q]? =some (ai #[ak ⟨e.name.toArray⟩,va,ag e.parent,vk] 147):=by
 have h:=aY he.cells;have l:=b.size;have m:=c.size;have n:(w4.alloc o).heap.size=w4.heap.size+1:=aG;have j:=g.block q (by show q<(w4.alloc o).heap.size;omega) (λk=>by have f:=he.jG q k.symm;rw[he.tag] at f;cases f);exact j.trans (((dI w4 o).block q aa).trans ((c.block q aa d.1 d.2).trans ((b.block q h).trans he.cells)))
def aeU (f:ah)(g h DB a:Nat)(n:Nd):Prop:=∀(j k l:au) (b:Int) (s:dm) (W:ah) (p:Int->Option Nat) (M:Dm) (d c:Nat),rJ f j k l n->Yq n->aD f W->W.cell? (aH g 0)=some (aI DB)->W.cell? (aH h 0)=some (.func (.func 69) #[] #[aI g,aI h])->
 bT f.heap.size s W DB a p M d c->s g=none->s h=none->dV b->d+je n<=1000000->
 aJ 69 #[.agg #[j,k,l],ag b,aI g,aI h] W λe m=>e=ax (ag d)/\K2 DB a W m/\∃o q,(∀x,x<W.heap.size->o x=s x)/\(∀i,i<(d:Int)->q i=p i)/\bT f.heap.size o m DB a q (kH M d (uK d b n)) (d+je n) (c+je n)
def a6f (g W:ah)(s:dm)(p:Int->Option Nat)(M:Dm)(DB a N q nx c:Nat)(cs:Array au)(nm:Bs)(ats:List (Bs×Bs))(b:Int)(d:List Nd)(wr:ah):Prop:=
 ∃e f,K2 DB a W wr/\wr.heap[N]? =some (ai cs 50)/\e N=none/\(∀x,x<W.heap.size->e x=s x)/\(∀j,j<(nx:Int)->f j=p j)/\f nx=some q/\bT g.heap.size e wr DB a f (kH M nx (⟨nm,ats,b,xH (nx+1) d⟩::vB (nx+1) nx d)) (nx+1+nJ d) (c+1+nJ d)
theorem a1D {W0 W wr U1 w4 w7:ah}{r D:dm}{p E F:Int->Option Nat}{M:Dm}{DB N nx c:Nat}{cs:Array au}{nm:Bs}{ats:List (Bs×Bs)}{b:Int}{d:List Nd}{kid:Nd}{i:Nat}{va vk v7:au}{o:Obj}
  (O:d[i]? =some kid) (v:K2 DB a W wr) (P:wr.heap[N]? =some (ai cs 50)) (m:r N=none) (w:∀x,x<W.heap.size->r x=s x) (Q:∀j,j<(nx:Int)->E j=p j) (R:E nx=some q)
  (l:bT W0.heap.size r wr DB a E (kH M nx (⟨nm,ats,b,xH (nx+1) (d.take i)⟩::vB (nx+1) nx (d.take i))) (nx+1+nJ (d.take i)) (c+1+nJ (d.take i))) (he:AB W0.heap.size r wr nx q ⟨nm,ats,b,xH (nx+1) (d.take i)⟩ va vk)
  (y:aD wr U1) (z:K2 DB a U1 w4) (S:∀x,x<U1.heap.size->D x=r x) (T:∀j,j<((nx+1+nJ (d.take i):Nat):Int)->F j=E j) (A:bT W0.heap.size s W DB a p M nx c)
  (n:bT W0.heap.size D w4 DB a F (kH (kH M nx (⟨nm,ats,b,xH (nx+1) (d.take i)⟩::vB (nx+1) nx (d.take i))) (nx+1+nJ (d.take i)) (uK (nx+1+nJ (d.take i)) nx kid)) (nx+1+nJ (d.take i)+je kid) (c+1+nJ (d.take i)+je kid))
  (U:w7.ownsRow W0.heap.size 3 1 v7 ((xH (nx+1) (d.take i)).length+1) (bO (xH (nx+1) (d.take i))++[ag ((nx+1+nJ (d.take i):Nat):Int)])) (V:(w4.alloc o).grownBy w7 vk.ownBlock) (X:v7.ownBlock=vk.ownBlock\/v7.ownBlock=some (w4.alloc o).heap.size):
  a6f W0 W s p M DB a N q nx c cs nm ats b (d.take (i+1)) (w7.setCell ⟨q,3,none⟩ v7):=by
 have Y:=y.size;have Z:=aY he.cells;have K:W.heap.size<=q:=by
  rcases Nat.lt_or_ge q W.heap.size with h|h
  .have f:=he.tag;rw[w q h] at f;have:=A.We q nx (.inl f);omega
  .exact h
 have H:∀g,vk.ownBlock=some g->W.heap.size<=g:=λg L=>by
  rcases Nat.lt_or_ge g W.heap.size with h|h
  .have f:=he.jG g L;rw[w g h] at f;have:=A.We g nx (.inr (.inr f));omega
  .exact h
 have ne:∀x t,r x=some t->t≠.doc->t≠.map->x≠DB/\x≠a:=λx t B f u=>⟨λe=>f (fF (B.symm.trans (e▸l.mH))),λe=>u (fF (B.symm.trans (e▸l.mJ)))⟩;have I:∀x,x<wr.heap.size->x≠DB->x≠a->w4.heap[x]? =wr.heap[x]? :=λx h f u=>(z.block x aa f u).trans (y.block x h);have J:AB W0.heap.size D w4 nx q ⟨nm,ats,b,xH (nx+1) (d.take i)⟩ va vk:=he.turn λg t ht hk=>by
  have L:=(l.low g t ht).2;grind
 have hM:kH (kH M nx (⟨nm,ats,b,xH (nx+1) (d.take i)⟩::vB (nx+1) nx (d.take i))) (nx+1+nJ (d.take i)) (uK (nx+1+nJ (d.take i)) nx kid)=kH M nx (⟨nm,ats,b,xH (nx+1) (d.take i)⟩::(vB (nx+1) nx (d.take i)++uK (nx+1+nJ (d.take i)) nx kid)):=by
  have f:=a0w M nx (⟨nm,ats,b,xH (nx+1) (d.take i)⟩::vB (nx+1) nx (d.take i)) (uK (nx+1+nJ (d.take i)) nx kid);rw[eP,Lu,show nx+(nJ (d.take i)+1)=nx+1+nJ (d.take i) from by omega] at f;grind
 rw[hM] at n;have C:F nx=some q:=by grind
 obtain⟨r1,r2,r3,r4,r5,r6,r7⟩:=n.kid (k:=((nx+1+nJ (d.take i):Nat):Int)) (Vx M nx _ _) C J (WalkArith.wf_i64 (by have:=n.few;omega)) U V X;rw[XG] at r1;have a4:N<wr.heap.size:=aY P;have a5:N≠DB/\N≠a:=⟨λe=>(by rw[e,l.mH] at m;exact absurd m aG),λe=>(by rw[e,l.mJ] at m;exact absurd m aG)⟩;have a6:N≠q:=λe=>by rw[e,he.tag] at m;cases m
 have a7:vk.ownBlock≠some N:=λe=>by rw[he.jG N e] at m;cases m
 have s4:=z.size;refine⟨yM D nx v7,F,?_,?_,?_,λx h=>?_,λj hj=>?_,C,?_⟩
 .have s1:=v.size;refine⟨r5.trans (z.os.trans (y.os.trans v.os)),r6.trans (z.tape.trans (y.tape.trans v.tape)),r7.trans (z.output.trans (y.output.trans v.output)),aa,λx h f u=>?_⟩;exact(r3 x aa aa (λe=>by have:=H x e;omega)).trans ((I x aa f u).trans (v.block x h f u))
 .grind
 .grind
 .grind
 .grind
 .rw[Ki O,NM,NP,Ep,nJ,nJ];grind
theorem bT.tell {B:Nat}{w:ah}{DB:Nat}{p:Int->Option Nat}{M:Dm}{nx c:Nat}{i:Int}{e:gP}(h:bT B s w DB a p M nx c)(hi:M i=some e)(hp:p i=some q):∃va o k,AB B s w i q e va (aj o e.kids.length k):=by
 obtain⟨b,va,j,d,f⟩:=h.els i e hi;obtain rfl:q=b:=fF (hp.symm.trans d);obtain⟨o,g,rfl⟩:=bg f.kids;grind
theorem a6g (w:ah)(PD PP DB a:Nat):∀n,aeU w PD PP DB a n:=by
 refine Nd.ind λl ats d ih=>?_;intro c0 c1 c2 b s W p M t c hn a7 hb cD cP P tD tP f4 f5;have b7:=hn;unfold rJ at b7;obtain⟨rfl,hl,Mc,ok,gK,rfl,i2,f6,i3,b8⟩:=b7;have f7:=Mc;obtain⟨X,Y,rfl, -⟩:=f7;unfold Yq at a7;obtain⟨i4,b9⟩:=a7;unfold jq at*;have A0:NB W.heap.size (ak ⟨l.toArray⟩) (aj X ats.length Y) (aj ok d.length gK) (W.alloc (ai #[ak ⟨l.toArray⟩,aj X ats.length Y,aj ok d.length gK] 50)):=dN W #[ak ⟨l.toArray⟩,aj X ats.length Y,aj ok d.length gK] 50;have b0:=dI W (ai #[ak ⟨l.toArray⟩,aj X ats.length Y,aj ok d.length gK] 50);have f8:=aA b8;have IH:=aA ih;have HD:=aA P;have f9:=aA b9;have c4:PD≠DB/\PD≠a:=⟨λe=>(by rw[e,P.mH] at tD;exact absurd tD aG),λe=>(by rw[e,P.mJ] at tD;exact absurd tD aG)⟩;have c5:PP≠DB/\PP≠a:=⟨λe=>(by rw[e,P.mH] at tP;exact absurd tP aG),λe=>(by rw[e,P.mJ] at tP;exact absurd tP aG)⟩;have lD:=P.low _ _ P.mH;have lM:=P.low _ _ P.mJ;have c6:=aK cD;have c7:=aK cP;simp only at c6 c7;clear b8 ih P b9 hn;have c8:je (.mk l ats d)=nJ d+1:=by rw[je]
 rw[c8] at f5;go_enter func69,ntmps69;go_upto_region 1 with fail;obtain⟨V,hV⟩:∃V,W.alloc (ai #[ak ⟨l.toArray⟩,aj X ats.length Y,aj ok d.length gK] 50)=V:=⟨_,rfl⟩;have sV:V.heap.size=W.heap.size+1:=by rw[<- hV];simp
 obtain⟨N,hN⟩:∃N,W.heap.size=N:=⟨_,rfl⟩;rw[hV] at A0 b0⊢;rw[hN] at A0⊢;have HN:=aA hN;have HV:Hid (V.heap.size=N+1):=(by rw[sV,hN]:V.heap.size=N+1);clear hV hN sV;have x0:=A0.c0;have x1:=A0.c1;have bV:=hb.trans (b0.mono hb.size);have CL:=λV' (hv:aD V V')=>TA V' _ ats (Mc.below (bV.trans (hv.mono bV.size))) aa
 go_region_held3 (λw'=>w'.cell? (aH N 0)=some (ak ⟨l.toArray⟩)/\w'.cell? (aH N 1)=some (aj X ats.length Y)) (refine⟨?_,?_⟩<;>first|assumption|exact dQ _ fC) (first|(go_at_call 70;refine(CL _ (G9 1 (aQ _ _))).mono ?_;rintro e w2 ⟨Q,R,S,rfl,Bz,b2⟩;have x0:=(b2.cell (aK x0)).trans x0;have x1:=(b2.cell (aK x1)).trans x1))
 have a8:aD V w2:=⟨b2.os,b2.tape,b2.output,b2.size,b2.block⟩;have a9:w2.ownsRow V.heap.size 145 2 (aj Q R S) ats.length (bG ats):=Bz;have E0:=dN w2 #[ak ⟨l.toArray⟩,aj Q R S,ag b,aj none 0 0] 147;have bE:=dI w2 (ai #[ak ⟨l.toArray⟩,aj Q R S,ag b,aj none 0 0] 147);have wY:=ig a9 (ai #[ak ⟨l.toArray⟩,aj Q R S,ag b,aj none 0 0] 147);have c9:=a9.lt;obtain⟨U,hU⟩:∃U,w2.alloc (ai #[ak ⟨l.toArray⟩,aj Q R S,ag b,aj none 0 0] 147)=U:=⟨_,rfl⟩;obtain⟨q,Z⟩:∃q,w2.heap.size=q:=⟨_,rfl⟩;rw[hU] at E0 bE wY⊢;rw[Z] at E0⊢;have i5:V.heap.size<=q:=by rw[<- Z];exact a8.size
 have b1:Hid (∀g,(Value.slice Q R S).ownBlock=some g->V.heap.size<=g/\g<q):=(λg hg=>by rw[<- Z];exact c9 g hg:∀g,(Value.slice Q R S).ownBlock=some g->V.heap.size<=g/\g<q);clear hU Z x0 x1 CL b2 Bz a9 c9;have E:aD V U:=aW a8 bE;clear a8 bE;have a4:aD W U:=aW b0 E;have g0:Hid (bT w.heap.size s U DB a p M t c):=HD.out.below a4;have i6:N+1<=q:=by have:=HV.out;omega
 have NE:Yp w.heap.size s U q ⟨l,ats,b,[]⟩ (aj Q R S) (aj none 0 0):=⟨E0,by have:=HN.out;have:=hb.size;omega,HD.out.new (by have:=HN.out;omega),Py wY (bu hb.size b0.size),λg hg=>by
   have:=b1.out g hg;have h2:=HN.out;have h3:=HV.out;exact⟨HD.out.new aa,aa⟩,gp _ _ _ _,λg hg=>by cases hg⟩
 have KE:=Pv w.heap.size s U DB a p M t c q ⟨l,ats,b,[]⟩ (aj Q R S) (aj none 0 0) g0.out NE ⟨f4,aG⟩ aa;have AU:=(E.block N (aY A0)).trans A0;have F:=(a4.cell (aK cD)).trans cD;have H:=(a4.cell (aK cP)).trans cP;have d4:N≠DB/\N≠a:=by have:=HN.out;omega
 go_upto_region 3 with(go_at_call 71;refine KE.mono ?_;rintro e w3 ⟨rfl,k3,d3⟩);have A3:=(k3.block N (aY AU) d4.1 d4.2).trans AU;have y2:=NB.c2 A3;have i7:(d.length:Int)<=9223372036854775807:=by rw[dh] at f6;omega
 have K3:K2 DB a W w3:=(K2.of_below a4).trans k3;have R0:a6f w W s p M DB a N q t c #[ak ⟨l.toArray⟩,aj X ats.length Y,aj ok d.length gK] l ats b (d.take 0) w3:=by
  refine⟨ou s t q (aj Q R S) (aj none 0 0),λi=>if i=(t:Int) then some q else p i,K3,A3,?_,λx hx=>?_,λj hj=>?_,?_,?_⟩
  rotate_left 4
  .rw[List.take_zero,xH,vB,a0x];exact d3
  .have h2:=HN.out;rw[Bu aa (λe=>by have:=b1.out N e;have:=HV.out;omega) (by simp[Value.ownBlock])];exact HD.out.new aa
  .have h2:=HN.out;exact Bu aa (λe=>by have:=b1.out x e;have:=HV.out;omega) (by simp[Value.ownBlock])
  .simp only[if_neg (show¬j=(t:Int) by omega)]
  .simp
 have g1:=aA R0;clear R0 d3 KE NE k3 F H;go_wp2_with fail
 go_loopw [25] (λy wr=>∃i:Nat,i<=d.length/\y=ag i/\a6f w W s p M DB a N q t c #[ak ⟨l.toArray⟩,aj X ats.length Y,aj ok d.length gK] l ats b (d.take i) wr) (λy _=>d.length-(intOf y).toNat)
 case atStart=>exact⟨0,bf _,rfl,g1.out⟩
 case round=>
  obtain⟨i,hi,rfl,wX,p1,k1,g2,a5,v,I,J,m⟩:=hrel;by_cases g3:i<d.length
  .have i1:(i:Int)<(d.length:Int):=aa;obtain⟨kid,hx, -⟩:=drop_at g3;obtain⟨b',d6,d0,d1,d2,rfl,e0,e1,e2,rZ⟩:=f8.out.at hx;have K:kid∈d:=gN hx;have HI:=IH.out kid K;have b3:=Pw f9.out K;have Da:=rZ;obtain⟨z,A,k⟩:=kid;unfold rJ at Da;obtain⟨rfl, -,⟨C,f,rfl, -⟩,r,D,rfl, -⟩:=Da;have bR:aD w wr:=hb.trans (k1.below lD.1 lM.1 hb.size);have f0:=(bR.cell (aK e0)).trans e0;have f1:=(bR.cell (aK e1)).trans e1;have f2:=(bR.cell (aK e2)).trans e2;unfold jq at f0 f1 f2 rZ;clear e0 e1 e2 K;have d7:=Px d (i+1);rw[Ki hx,Ep,nJ,nJ] at d7;generalize aqR:Nd.mk z A k=kid at hx HI b3 rZ d7;obtain⟨L,B⟩:∃L,xH (t+1) (d.take i)=L:=⟨_,rfl⟩;have i8:L.length<=1000000:=by
    rw[<- B,Wj];have:=Wl (d.take i);omega
   obtain⟨NX,O⟩:∃NX,t+1+nJ (d.take i)=NX:=⟨_,rfl⟩;rw[O] at m;have b4:=m;rw[B] at b4;obtain⟨va,ov,kv,T⟩:=b4.tell (Vx M t _ _) J;simp only at T;have c3:=T.c3;have d8:=k1.cell cD c4.1 c4.2;have d9:=k1.cell cP c5.1 c5.2;have s1:=k1.size;have b5:q≠DB/\q≠a:=by have:=HN.out;omega
   have E:=dI wr (ai #[ak ⟨z.toArray⟩,aj C A.length f,aj r k.length D] 50);have u0:=jZ wr #[ak ⟨z.toArray⟩,aj C A.length f,aj r k.length D] 50 0 (ak ⟨z.toArray⟩) rfl;have u1:=jZ wr #[ak ⟨z.toArray⟩,aj C A.length f,aj r k.length D] 50 1 (aj C A.length f) rfl;have u2:=jZ wr #[ak ⟨z.toArray⟩,aj C A.length f,aj r k.length D] 50 2 (aj r k.length D) rfl;have H:=dQ (ai #[ak ⟨z.toArray⟩,aj C A.length f,aj r k.length D] 50) d9;have F:=dQ (ai #[ak ⟨z.toArray⟩,aj C A.length f,aj r k.length D] 50) d8;have e3:=dQ (ai #[ak ⟨z.toArray⟩,aj C A.length f,aj r k.length D] 50) c3;have i9:=aY T.cells;have g4:wr.heap.size≠q:=aa;have g5:wr.heap.size≠DB/\wr.heap.size≠a:=aa;have HC:=λV' (hv:Below (wr.alloc (ai #[ak ⟨z.toArray⟩,aj C A.length f,aj r k.length D] 50)).heap.size (wr.alloc (ai #[ak ⟨z.toArray⟩,aj C A.length f,aj r k.length D] 50)) V')=>HI _ _ _ t wX V' p1 _ NX (c+1+nJ (d.take i)) rZ b3 (bR.trans ((aW E hv).mono bR.size)) ((hv.cell (aK F)).trans F) ((hv.cell (aK H)).trans H) (m.below (aW E hv)) ((v PD c6).trans tD) ((v PP c7).trans tP) (WalkArith.wf_i64 aa) aa;have g6:Hid (K2 DB a W wr/\wX N=none/\(∀x,x<W.heap.size->wX x=s x)/\(∀j,j<(t:Int)->p1 j=p j)/\p1 t=some q/\d[i]? =some kid/\t+1+nJ (d.take i)=NX/\xH (t+1) (d.take i)=L):=⟨k1,a5,v,I,J,hx,O,B⟩;have b6:=aA m;have e4:=aA T;have a6:∀w4,K2 DB a (wr.alloc (ai #[ak ⟨z.toArray⟩,aj C A.length f,aj r k.length D] 50)) w4->w4.ownsRow w.heap.size 3 1 (aj ov L.length kv) L.length (bO L):=λw4 k4=>di T.kids λg hg=>by
    have h1:=T.jG g hg;have h2:=(T.kids.lt g hg).2;exact(k4.block g (by have:=E.size;omega) (λe=>by rw[e,m.mH] at h1;cases h1) (λe=>by rw[e,m.mJ] at h1;cases h1)).trans (E.block g h2)
   clear m b4 T k1 a5 v I J hx O B HI rZ b3 c3 d9 d8 F;obtain⟨i0,g8,g9,h0,h4⟩:=info_parts zY;go_upto_region 6 with fail;obtain⟨U1,e5⟩:∃U,wr.alloc (ai #[ak ⟨z.toArray⟩,aj C A.length f,aj r k.length D] 50)=U:=⟨_,rfl⟩;obtain⟨KB,h5⟩:∃KB,wr.heap.size=KB:=⟨_,rfl⟩;rw[e5] at E u0 u1 u2 H e3 HC a6⊢;rw[h5] at u0 u1 u2 g4 g5⊢;have h6:w.heap.size<=U1.heap.size:=by have:=E.size;have:=bR.size;omega
   clear e5
   go_region_law (first|(refine step_append_lies _ rfl (.tmp 33) (.tmp 38) 35 rfl w.heap.size 3 i0 (ag 0) 1 8 underlying35 g8 g9 h0 h4 rfl aC (aj ov L.length kv) L.length (bO L) rfl (ig TC _) ⟨w4.heap.size,0,none⟩ 1 1 [ag NX] rfl rfl (World.news_of_block h7) (λu hu=>by simp at hu;rcases hu with rfl;rfl) aC (by rw[dh];omega) aa aX _ rfl ?_;intro g7 xJ w7 kz l9 TE j0;have e7:=E7 l9;have e0:=aO e7 3 _ rfl;have ef:=bq e7)|(go_simp;go_wp2_with(first|(go_at_call 69;refine(HC _ (G9 1 (aQ _ _))).mono ?_;rintro e w4 ⟨rfl,k4,Ev,p2,e6,e8,e9⟩;have h8:=K2.cell k4 (by exact e3) b5.1 b5.2;have j1:=λo=>dQ o h8;have TC:=a6 _ (by exact K2.Md k4);have h7:=dN w4 #[ag NX] 3;have l4:w.heap.size<=w4.heap.size:=(bu h6 k4.size);have E7:=λ{o:Obj} {w7:ah}=>Yr (o:=o) (w7:=w7) e4.out E (K2.Md k4) b5))))
   all_goals(
    have f3:a6f w W s p M DB a N q t c #[ak ⟨l.toArray⟩,aj X ats.length Y,aj (some ⟨b',d6,none⟩) d.length gK] l ats b (d.take (i+1)) (w7.setCell ⟨q,3,none⟩ (aj (some ⟨g7,0,none⟩) (L.length+1) xJ)):=by
     obtain⟨k1,a5,v,I,J,hx,O,B⟩:=g6.out;have m:=b6.out;have T:=e4.out;clear HC a6;subst O;subst B;exact a1D hx k1 g2 a5 v I J m T E (K2.Md k4) e6 e8 HD.out e9 kz l9 (TE.imp (λh=>by rw[h];rfl) (λh=>by rw[h];rfl))
    have h9:=aA f3;clear f3 kz l9 e9 e6 e8 k4 HC a6;go_wp2_with fail
    go_roundw
    case rel=>exact⟨i+1,aa,by go_num,h9.out⟩
    case measure=>simp[intOf];omega)
  .obtain rfl:i=d.length:=aa;have j2:¬(d.length:Int)<(d.length:Int):=aa;rw[gq] at m;have b6:Hid (bT w.heap.size wX wr DB a p1 (kH M t (uK t b (.mk l ats d))) (t+je (.mk l ats d)) (c+je (.mk l ats d))):=(by
    rw[uK,c8,show t+(nJ d+1)=t+1+nJ d from by omega,show c+(nJ d+1)=c+1+nJ d from by omega];exact m:bT w.heap.size wX wr DB a p1 (kH M t (uK t b (.mk l ats d))) (t+je (.mk l ats d)) (c+je (.mk l ats d)))
   clear m;go_wp2_with fail;go_ret;exact⟨rfl,k1,wX,v,p1,I,b6.out⟩
end
section
open Go.RowKit
set_option maxRecDepth 20000
def TF (DB a:Nat):dm:=λx=>if x=DB then some .doc else if x=a then some .map else none
theorem bT.made {B:Nat}{w:ah}{DB:Nat}(d:w.heap[DB]? =some (ai #[.map (some a),ag 0] 140))(f:iK prog 3 w a (λ_=>none) 0 0)(hne:a≠DB)(g:B<=DB)(j:B<=a):bT B (TF DB a) w DB a (λ_=>none) (λ_=>none) 0 0 where
 doc:=d
 mH:=by unfold TF;rw[if_pos rfl]
 map:=f
 mJ:=by unfold TF;rw[if_neg hne,if_pos rfl]
 els:=λ_ _ h=>by cases h
 non:=λ_ _=>rfl
 low:=λb t c=>by
  unfold TF at c;split at c
  .rename_i e;subst e;exact⟨g,aY d⟩
  .split at c
   .rename_i e;subst e;exact⟨j,f.lt⟩
   .cases c
 dom:=λ_ _ h=>by cases h
 wf:=λ_ _ h=>by cases h
 few:=aa
 We:=λb i h=>by
  unfold TF at h;grind
def aj5 (E:Nat->Addr)(B:Nat)(n:Nd)(e:Ending)(w:ah):Prop:=
 ((iT n 1 0).1≠0/\∃b,e=ax (aF #[.pointer none,aP 67 (aI b)])/\w.cell? (aH b 0)=some (ag (iT n 1 0).2)/\w.cell? (aH b 1)=some (aP 453 (.pointer (some (E (iT n 1 0).1)))))\/
 ((iT n 1 0).1=0/\∃c a s p,e=ax (aF #[aI c,aU])/\bT B s w c a p (kH (λ_=>none) 0 (uK 0 (-1) n)) (je n) (je n))
attribute [local go_sem] uP
theorem a6j (E:Nat->Addr)(n:Nd)(K L M:au)(W:ah)(hE:CE E W)(D:rJ W K L M n)(hs:je n<=1000000):
  aJ 37 #[.agg #[K,L,M]] W λe w'=>Below W.heap.size W w'/\aj5 E W.heap.size n e w':=by
 obtain⟨j,k,l,p,q,c,d,rfl,rfl,rfl⟩:∃(j:aM) (k:Option Addr) (l p:Nat) (q:Option Addr) (c d:Nat),K=ak j/\L=aj k l p/\M=aj q c d:=by
  obtain⟨nm,ats,ks⟩:=n;unfold rJ at D;obtain⟨rfl, -,⟨o,a7,rfl, -⟩,ok,gK,rfl, -⟩:=D;exact⟨_,_,_,_,_,_,_,rfl,rfl,rfl⟩
 have i:NB W.heap.size (ak j) (aj k l p) (aj q c d) (W.alloc (ai #[ak j,aj k l p,aj q c d] 50)):=dN W #[ak j,aj k l p,aj q c d] 50;have v:=dI W (ai #[ak j,aj k l p,aj q c d] 50);go_enter func37,ntmps37;go_upto_region 1 with fail;obtain⟨V,hV⟩:∃V,W.alloc (ai #[ak j,aj k l p,aj q c d] 50)=V:=⟨_,rfl⟩;obtain⟨N,O⟩:∃N,W.heap.size=N:=⟨_,rfl⟩;rw[hV] at i v⊢;rw[O] at i⊢;have F:=aA O;clear hV O;have x0:=i.c0;have x1:=i.c1;have x2:=i.c2;have H:=FW E n _ _ _ V (hE.below v) (rJ.below v n D);by_cases w:(iT n 1 0).1=0
 .have r:=H.mono (R':=λe w'=>e=ax aU/\Below V.heap.size V w') (λe w' h=>by
   refine⟨?_,h.1⟩;rcases h.2 with f|f
   .exact f.2
   .exact absurd w f.1)
  have HC:=aA w;clear H w;go_upto_region 4 with(go_at_call 68;refine r.mono ?_;rintro e b ⟨rfl,x⟩);have B1:=aW v x;have a6:=B1.size;have a8:=@run_makeMap prog;go_upto_region 5 with fail;have U0:∃U a,((b.alloc (.map #[] 0)).alloc (ai #[.map (some b.heap.size),ag 0] 140)).alloc (ai #[.pointer (some ⟨b.heap.size+1,0,none⟩)] 74)=U/\b.heap.size=a/\U.heap[a+1]? =some (ai #[.map (some a),ag 0] 140)/\iK prog 3 U a (λ_=>none) 0 0/\U.cell? (aH (a+1+1) 0)=some (.pointer (some ⟨a+1,0,none⟩))/\U.heap.size=a+1+1+1/\Below b.heap.size b U:=by
   refine⟨_,_,rfl,rfl,?_,?_,?_,aG,?_⟩
   .have u:=dN (b.alloc (.map #[] 0)) #[.map (some b.heap.size),ag 0] 140;have f:=(dI ((b.alloc (.map #[] 0)).alloc (ai #[.map (some b.heap.size),ag 0] 140)) (ai #[.pointer (some ⟨b.heap.size+1,0,none⟩)] 74)).block _ (aY u);simp only[dK] at u f;exact f.trans u
   .exact((iK.made b prog 3).kept (qY _ _ none) aG).kept (qY _ _ none) aG
   .have u:=jZ ((b.alloc (.map #[] 0)).alloc (ai #[.map (some b.heap.size),ag 0] 140)) #[.pointer (some ⟨b.heap.size+1,0,none⟩)] 74 0 _ rfl;simp only[dK] at u;exact u
   .exact aW (aW (dI _ _) (dI _ _)) (dI _ _)
  obtain⟨U,a,hU,P,dU,pU,y,sU,bU⟩:=U0;rw[hU,P];have a9:N<a:=by have:=F.out;have f:=aY i;have:=x.size;omega
  clear hU;have BU:=aW B1 bU;have Q:=jZ U #[.func (.func 69) #[] #[.pointer (some ⟨a+1+1,0,none⟩),aI U.heap.size]] 141 0 (.func (.func 69) #[] #[.pointer (some ⟨a+1+1,0,none⟩),aI U.heap.size]) rfl;have z:=dI U (ai #[.func (.func 69) #[] #[.pointer (some ⟨a+1+1,0,none⟩),aI U.heap.size]] 141);have R:=((aW x bU).block N (aY i)).trans i;have S:=bT.made (B:=W.heap.size) dU pU aa (by have:=F.out;omega) (by have:=F.out;omega);go_upto_region 7 with fail;obtain⟨X,I⟩:∃X,U.alloc (ai #[.func (.func 69) #[] #[.pointer (some ⟨a+1+1,0,none⟩),aI U.heap.size]] 141)=X:=⟨_,rfl⟩;obtain⟨J,A⟩:∃J,a+1+1+1=J:=⟨_,rfl⟩;have Me:U.heap.size=J:=sU.trans A;unfold aD at z;rw[Me] at I Q z;rw[A,I];rw[I] at Q z;have D1:=S.turn (w':=X) (λg t ht=>z.block g (by rw[<- Me];exact(S.low g t ht).2)) z.size;have T:Below U.heap.size U X:=by rw[Me];exact z
  have Y:=aW BU T;have Z:=(T.block N (aY R)).trans R;have C:=(T.cell (aK y)).trans y;have HP:=a6g W (a+1+1) J (a+1) a n _ _ _ (-1) _ X _ _ 0 0 D (Wh n 1 0 HC.out) Y C Q D1 (by unfold TF;rw[if_neg aa,if_neg aa]) (by unfold TF;rw[if_neg aa,if_neg aa]) aC aa;rw[fZ] at HP;have x0:=NB.c0 Z;have x1:=NB.c1 Z;have x2:=NB.c2 Z;have a4:W.heap.size<=a:=by have:=F.out;omega
  clear I S D1 R;go_wp2_with(go_at_call 69;refine HP.mono ?_;rintro e w5 ⟨rfl,k5,a5,p5, -, -,d5⟩;have b2:=k5.cell C aa aa)
  go_ret2
  exact⟨Y.trans ((k5.below (m:=W.heap.size) aa a4 Y.size)),.inr ⟨HC.out,a+1,a,a5,p5,rfl,d5⟩⟩
 .have r:=H.mono (R':=λe w'=>(∃s,e=ax (aP 67 (aI s))/\w'.cell? (aH s 0)=some (ag (iT n 1 0).2)/\w'.cell? (aH s 1)=some (aP 453 (.pointer (some (E (iT n 1 0).1)))))/\Below V.heap.size V w') (λe w' h=>by
   refine⟨?_,h.1⟩;rcases h.2 with f|⟨-,s, -,h3⟩
   .exact absurd f.1 w
   .exact⟨s,h3⟩)
  clear H;go_wp2_with(go_at_call 68;refine r.mono ?_;rintro e b ⟨⟨s,rfl,h3,h4⟩,x⟩)
  go_ret2
  exact⟨aW v x,.inl ⟨w,s,rfl,h3,h4⟩⟩
end
open Go.RowKit
set_option maxRecDepth 20000
theorem Wm {w:ah}{B k n:Nat}{e:TypeId}{v:au}{a:List au}(h:w.ownsRow B e k v n a):n<=9223372036854775807:=by
 obtain⟨o,b, -,d,c, -⟩:=eT h;rw[dh] at c;omega
theorem Mf {a β:Type}(g:a->List β)(l:List a)(k:Nat):((l.take k).flatMap g).length<=(l.flatMap g).length:=by
 have h:=congrArg (λx=>(List.flatMap g x).length) (jJ k l);simp only[List.flatMap_append,dJ] at h;omega
theorem BA {B:Nat}{Wd:ah}{DB:Nat}{p:Int->Option Nat}{M:Dm}{nx c:Nat}(D:bT B s Wd DB a p M nx c)(G:Nat)(R:∀(av:Array au) (w:ah),Sem.run prog (callFunc G av) w=.ok (.enter G av) w)(lb:Array au)(I:List (Int×Int)->ah->Prop)(K:∀h W,I h W->(∀b t,s b=some t->W.heap[b]? =Wd.heap[b]?)/\Wd.heap.size<=W.heap.size)
  (j:∀h W i d,I h W->h.length<1000000->aJ G (#[ag i,ag d]++lb) W λe w'=>e=ax (aF #[])/\I (h++[(i,d)]) w'):
  ∀(f:Nat) (n d:Int) (h:List (Int×Int)) (W:ah),Dp M f n->dV n->0<=d->d+f<=1000000->h.length+(pre M f n d).length<=1000000->I h W->
  aJ 230 #[aI DB,ag n,ag d,.func (.func G) #[] lb] W λe w'=>e=ax (aF #[])/\I (h++pre M f n d) w'
 |0,_,_,_,_,L,_,_,_,_,_=>L.elim
 |f+1,n,d,h,W,L,hn,a8,a9,o,N=>by
  have IH:=BA D G R lb I K j f;have O:=K h W N;have P:=D.turn O.1 O.2;have d0:=P.d0;cases C:M n with
  |none=>
   have q:=D.non n C;have l:pre M (f+1) n d=[]:=by rw[pre,C]
   rw[l,List.append_nil];go_enter func230,ntmps230;go_wp2_with(at_lookup;refine jW _ rfl _ _ 138 rfl underlying3 underlying138 (cO _) rfl P.map n rfl hn q ?_);refine bodyPost_ret (v:=aF #[]) (by simp[results,results230]) rfl ⟨rfl,N⟩
  |some e=>
   have l:pre M (f+1) n d=(n,d)::e.kids.flatMap (λk=>pre M f k (d+1)):=by rw[pre,C]
   rw[l] at o⊢;rw[eP] at o;obtain⟨b,va,vk,q,u⟩:=D.els n e C;have S:=u.turn (mG:=s) (w':=W) λg t ht _=>⟨ht,O.1 g t ht⟩;have E:=j h W n d N aa;obtain⟨ov,kv,T⟩:=bg u.kids;have U:Hid (∀k∈e.kids,Dp M f k/\dV k):=(λk V=>⟨L e C k V,(D.wf n e C).2 k V⟩:∀k∈e.kids,Dp M f k/\dV k);have F:=aA K;have X:=aA IH;have b0:e.kids.length<=9223372036854775807:=Wm u.kids;clear K IH j N L;go_enter func230,ntmps230;go_upto_region 3 with(first|(at_lookup;refine dA _ rfl _ _ 138 rfl underlying3 underlying138 (cO _) rfl P.map n rfl hn b q ?_)|(refine E.mono ?_;rintro r w1 ⟨rfl,x⟩));subst T;have x3:=qg ((F.out _ _ x).1 b _ u.tag)|>.trans u.c3
   have b1:d<=999999:=aa;have z:=aA u;have Y:=aA x;clear u S x P d0 O E;go_wp2_with fail
   go_loopw [32] (λy wr=>∃k:Nat,k<=e.kids.length/\y=ag k/\I (h++((n,d)::(e.kids.take k).flatMap (λi=>pre M f i (d+1)))) wr) (λy _=>e.kids.length-(intOf y).toNat)
   case atStart=>exact⟨0,bf _,rfl,Y.out⟩
   case round=>
    obtain⟨k,V,rfl,m⟩:=hrel;by_cases Z:k<e.kids.length
    .have a6:(k:Int)<(e.kids.length:Int):=aa;obtain⟨kid,Q, -⟩:=drop_at Z;obtain⟨g,hg,hc⟩:=dO z.out.kids k _ (pQ Q);have a4:ov=some ⟨g,0,none⟩:=by
      obtain⟨o',a7,h1, -, -, -,h2⟩:=eT z.out.kids;cases h1;exact h2 g hg
     subst a4;have b2:=qg ((F.out _ _ m).1 g _ (z.out.jG g hg))|>.trans hc
     have H:=U.out kid (gN Q);have A:(e.kids.take (k+1)).flatMap (λi=>pre M f i (d+1))=(e.kids.take k).flatMap (λi=>pre M f i (d+1))++pre M f kid (d+1):=by
      rw[dS,Q];simp
     have J:=Mf (λi=>pre M f i (d+1)) e.kids (k+1);rw[A,dJ] at J;have HC:=X.out kid (d+1) _ wr H.1 H.2 aa aa (by rw[dJ,eP];omega) m;rw[kV,fV,<- A] at HC;clear m hc hg Q A J;go_wp2_with(go_at_call 230;refine HC.mono ?_;rintro r w2 ⟨rfl,a5⟩)
     go_roundw
     case rel=>exact⟨k+1,aa,by go_num,a5⟩
     case measure=>simp[intOf];omega
    .obtain rfl:k=e.kids.length:=aa;have b3:¬(e.kids.length:Int)<(e.kids.length:Int):=aa;rw[gq] at m;go_wp2_with fail;refine bodyPost_end (results_none rfl _ _ _) rfl ⟨rfl,m⟩

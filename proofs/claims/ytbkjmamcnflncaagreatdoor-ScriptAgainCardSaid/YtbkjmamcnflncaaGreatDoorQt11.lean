import Derived.Test.YtbkjmamcnflncaaGreatDoorQt10
namespace Go.Proofs.YtbkjmamcnflncaaGreatDoor
open Go.Proofs.Tryz
set_option maxHeartbeats 8000000
variable{w:ai}{B DB a nx c q:Nat}{s:dG}{p:Int->Option Nat}{M:Dm}{va vk:ax}
section
open Go.RowKit
set_option maxRecDepth 20000
theorem Qu {B' k n:Nat}{e:TypeId}{v:ax}{d:List ax}(h:w.ownsRow B e k v n d)(f:B'<=B):w.ownsRow B' e k v n d:=by
 obtain⟨i,a⟩:=h;refine⟨i,?_⟩;rcases a with a|⟨g,b,c,j,l,m⟩
 .exact .inl a
 .exact .inr ⟨g,b,c,j,bO f l,m⟩
def zz (s:dG)(i:Int)(v:ax):dG:=λx=>if v.ownBlock=some x then some (.kids i) else s x
theorem nJ.at {w:ai}{o:Option Addr}{e:List Nd}{i:Nat}{kid:Nd}(h:nJ w o 0 e)(f:e[i]? =some kid):∃b off a c d,o=some ⟨b,off,none⟩/\w.cell? (aJ b (off+i*3))=some a/\w.cell? (aJ b (off+i*3+1))=some c/\w.cell? (aJ b (off+i*3+2))=some d/\sS w a c d kid:=by
 obtain⟨b,off,a,c,d,g,j,k,l,m⟩:=h.get f;grind
theorem dm.kid {w7:ai}{i:Int}{e:ig}{v7:ax}{k:Int}{o:Obj}(h:dm B s w DB a p M nx c)(hi:M i=some e)(hp:p i=some q)(he:BK B s w i q e va vk)(N:eH k)
  (J:w7.ownsRow B 3 1 v7 (e.kids.length+1) (di e.kids++[ag k])) (v:(w.alloc o).grownBy w7 vk.ownBlock) (K:v7.ownBlock=vk.ownBlock\/v7.ownBlock=some (w.alloc o).heap.size):
  dm B (zz s i v7) (w7.setCell ⟨q,3,none⟩ v7) DB a p (eP M i ⟨e.name,e.ats,e.parent,e.kids++[k]⟩) nx c/\(∀x,x<w.heap.size->zz s i v7 x=s x)/\(∀x,x<w.heap.size->x≠q->vk.ownBlock≠some x->(w7.setCell ⟨q,3,none⟩ v7).heap[x]? =w.heap[x]?)/\w.heap.size<=(w7.setCell ⟨q,3,none⟩ v7).heap.size/\(w7.setCell ⟨q,3,none⟩ v7).os=w.os/\(w7.setCell ⟨q,3,none⟩ v7).tape=w.tape/\(w7.setCell ⟨q,3,none⟩ v7).output=w.output:=by
 have y:=bu he.cells;have E:(w.alloc o).heap.size=w.heap.size+1:=aI;have O:w.heap.size+1<=w7.heap.size:=by have:=v.size;rw[<- E];exact this
 have d:=(aW q w7).setCell (p:=⟨q,3,none⟩) az v7;have F:vk.ownBlock≠some q:=λf=>by have b:=he.jQ q f;rw[he.tag] at b;cases b
 have H:v7.ownBlock≠some q:=λf=>by grind
 have z:∀x,x<w.heap.size->vk.ownBlock≠some x->w7.heap[x]? =w.heap[x]? :=λx r I=>by
  have b:=v.block x (by show x<(w.alloc o).heap.size;omega) (λf=>I f.symm);exact b.trans ((dR w o).block x r)
 have C:∀x,x<w.heap.size->zz s i v7 x=s x:=λx r=>by
  unfold zz;split
  .rename_i b;rcases K with u|u
   .exact(he.jQ x (u.symm.trans b)).symm
   .grind
  .rfl
 have n:∀x,x<w.heap.size->x≠q->vk.ownBlock≠some x->(w7.setCell ⟨q,3,none⟩ v7).heap[x]? =w.heap[x]? :=λx r b u=>(dw _ _ _ x b).trans (z x r u);have A:w.heap.size<=(w7.setCell ⟨q,3,none⟩ v7).heap.size:=by have:=d.size;omega
 refine⟨h.put hi hp (va:=va) (vk:=v7) ⟨?_,?_,?_,?_,?_,?_⟩ A ⟨(h.wf i e hi).1,λj D=>?_⟩ C ?_ ?_ ?_,C,n,A,d.os.trans v.os,d.tape.trans v.tape,d.output.trans v.output⟩
 .have b:=(z q y F).trans he.cells;rw[heap_setCell_same w7 q 3 _ _ _ b];rfl
 .rw[C q y];exact he.tag
 .exact dF he.ats λg l=>n g (he.ats.lt g l).2 (λf=>by have b:=he.oC g l;rw[f,he.tag] at b;cases b) (λf=>by have b:=he.oC g l;rw[he.jQ g f] at b;cases b)
 .intro g l;rw[C g (he.ats.lt g l).2];exact he.oC g l
 .have:=dF (w':=w7.setCell ⟨q,3,none⟩ v7) J λg l=>dw _ _ _ g (λf=>H (by rw[l,f]));rw[Cn,dO];exact this
 .intro g l;unfold zz;rw[aR l]
 .rcases iw.1 D with D|D
  .exact(h.wf i e hi).2 j D
  .grind
 .intro x t m;unfold zz at m;split at m
  .rename_i b;have u:=J.lt x b;have:=d.size;omega
  .have:=h.low x t m;omega
 .intro x r;unfold zz;split
  .grind
  .exact .inl (h.new r)
 .intro x t m b u L;exact n x (h.low x t m).2 (λf=>by rw[f,he.tag] at m;cases m;exact b rfl) (λf=>by rw[he.jQ x f] at m;cases m;exact L rfl)
theorem Xe:∀(l:List Nd) (k:Nat),(ym k l).length=l.length
 |[],_=>rfl
 |n::l,k=>by rw[ym,eZ,eZ,Xe l]
theorem Xf:∀l:List Nd,l.length<=og l
 |[]=>bJ _
 |n::l=>by have a:=Xf l;have b:=Ws n;rw[og,eZ];omega
theorem K2.N9 {r n k:Nat}{A B:ai}(h:K2 r n (A.drewN k) B):K2 r n A B:=⟨h.os,h.tape,h.output,h.size,h.block⟩
theorem Z6 {wr U1 w4 w7:ai}{i:Int}{e:ig}{o:Obj}(he:BK B s wr i q e va vk)(b:aD wr U1)(c:K2 DB a U1 w4)(d:q≠DB/\q≠a)(g:(w4.alloc o).grownBy w7 vk.ownBlock):w7.heap[q]? =some (ak #[au ⟨e.name.toArray⟩,va,ag e.parent,vk] 147):=by
 have h:=bu he.cells;have l:=b.size;have m:=c.size;have n:(w4.alloc o).heap.size=w4.heap.size+1:=aI;have j:=g.block q (by show q<(w4.alloc o).heap.size;omega) (λk=>by have f:=he.jQ q k.symm;rw[he.tag] at f;cases f);exact j.trans (((dR w4 o).block q aa).trans ((c.block q aa d.1 d.2).trans ((b.block q h).trans he.cells)))
def afE (d:ai)(f g DB a:Nat)(n:Nd):Prop:=∀(h j k:ax) (b:Int) (s:dG) (W:ai) (p:Int->Option Nat) (M:Dm) (nx c:Nat),sS d h j k n->Z5 n->aD d W->W.cell? (aJ f 0)=some (aK DB)->W.cell? (aJ g 0)=some (.func (.func 69) #[] #[aK f,aK g])->
 dm d.heap.size s W DB a p M nx c->s f=none->s g=none->eH b->nx+jq n<=1000000->
 aL 69 #[.agg #[h,j,k],ag b,aK f,aK g] W λe l=>e=ay (ag nx)/\K2 DB a W l/\∃m o,(∀x,x<W.heap.size->m x=s x)/\(∀i,i<(nx:Int)->o i=p i)/\dm d.heap.size m l DB a o (kV M nx (vG nx b n)) (nx+jq n) (c+jq n)
def a6X (g W:ai)(s:dG)(p:Int->Option Nat)(M:Dm)(DB a N q nx c:Nat)(cs:Array ax)(nm:Bs)(ats:List (Bs×Bs))(b:Int)(d:List Nd)(wr:ai):Prop:=
 ∃e f,K2 DB a W wr/\wr.heap[N]? =some (ak cs 50)/\e N=none/\(∀x,x<W.heap.size->e x=s x)/\(∀j,j<(nx:Int)->f j=p j)/\f nx=some q/\dm g.heap.size e wr DB a f (kV M nx (⟨nm,ats,b,ym (nx+1) d⟩::wB (nx+1) nx d)) (nx+1+og d) (c+1+og d)
theorem a2r {W0 W wr U1 w4 w7:ai}{r D:dG}{E F:Int->Option Nat}{N:Nat}{cs:Array ax}{nm:Bs}{ats:List (Bs×Bs)}{b:Int}{d:List Nd}{kid:Nd}{i:Nat}{v7:ax}{o:Obj}
  (O:d[i]? =some kid) (v:K2 DB a W wr) (P:wr.heap[N]? =some (ak cs 50)) (m:r N=none) (w:∀x,x<W.heap.size->r x=s x) (Q:∀j,j<(nx:Int)->E j=p j) (R:E nx=some q)
  (l:dm W0.heap.size r wr DB a E (kV M nx (⟨nm,ats,b,ym (nx+1) (d.take i)⟩::wB (nx+1) nx (d.take i))) (nx+1+og (d.take i)) (c+1+og (d.take i))) (he:BK W0.heap.size r wr nx q ⟨nm,ats,b,ym (nx+1) (d.take i)⟩ va vk)
  (y:aD wr U1) (z:K2 DB a U1 w4) (S:∀x,x<U1.heap.size->D x=r x) (T:∀j,j<((nx+1+og (d.take i):Nat):Int)->F j=E j) (A:dm W0.heap.size s W DB a p M nx c)
  (n:dm W0.heap.size D w4 DB a F (kV (kV M nx (⟨nm,ats,b,ym (nx+1) (d.take i)⟩::wB (nx+1) nx (d.take i))) (nx+1+og (d.take i)) (vG (nx+1+og (d.take i)) nx kid)) (nx+1+og (d.take i)+jq kid) (c+1+og (d.take i)+jq kid))
  (U:w7.ownsRow W0.heap.size 3 1 v7 ((ym (nx+1) (d.take i)).length+1) (di (ym (nx+1) (d.take i))++[ag ((nx+1+og (d.take i):Nat):Int)])) (V:(w4.alloc o).grownBy w7 vk.ownBlock) (X:v7.ownBlock=vk.ownBlock\/v7.ownBlock=some (w4.alloc o).heap.size):
  a6X W0 W s p M DB a N q nx c cs nm ats b (d.take (i+1)) (w7.setCell ⟨q,3,none⟩ v7):=by
 have Y:=y.size;have Z:=bu he.cells;have K:W.heap.size<=q:=by
  rcases Nat.lt_or_ge q W.heap.size with h|h
  .have f:=he.tag;rw[w q h] at f;have:=A.Xa q nx (.inl f);omega
  .exact h
 have H:∀g,vk.ownBlock=some g->W.heap.size<=g:=λg L=>by
  rcases Nat.lt_or_ge g W.heap.size with h|h
  .have f:=he.jQ g L;rw[w g h] at f;have:=A.Xa g nx (.inr (.inr f));omega
  .exact h
 have ne:∀x t,r x=some t->t≠.doc->t≠.map->x≠DB/\x≠a:=λx t B f u=>⟨λe=>f (fT (B.symm.trans (e▸l.mY))),λe=>u (fT (B.symm.trans (e▸l.mZ)))⟩;have I:∀x,x<wr.heap.size->x≠DB->x≠a->w4.heap[x]? =wr.heap[x]? :=λx h f u=>(z.block x aa f u).trans (y.block x h);have J:BK W0.heap.size D w4 nx q ⟨nm,ats,b,ym (nx+1) (d.take i)⟩ va vk:=he.turn λg t ht hk=>by
  have L:=(l.low g t ht).2;grind
 have hM:kV (kV M nx (⟨nm,ats,b,ym (nx+1) (d.take i)⟩::wB (nx+1) nx (d.take i))) (nx+1+og (d.take i)) (vG (nx+1+og (d.take i)) nx kid)=kV M nx (⟨nm,ats,b,ym (nx+1) (d.take i)⟩::(wB (nx+1) nx (d.take i)++vG (nx+1+og (d.take i)) nx kid)):=by
  have f:=a1f M nx (⟨nm,ats,b,ym (nx+1) (d.take i)⟩::wB (nx+1) nx (d.take i)) (vG (nx+1+og (d.take i)) nx kid);rw[eZ,Ms,show nx+(og (d.take i)+1)=nx+1+og (d.take i) from by omega] at f;grind
 rw[hM] at n;have C:F nx=some q:=by grind
 obtain⟨r1,r2,r3,r4,r5,r6,r7⟩:=n.kid (k:=((nx+1+og (d.take i):Nat):Int)) (Wq M nx _ _) C J (WalkArith.wf_i64 (by have:=n.few;omega)) U V X;rw[Ym] at r1;have a4:N<wr.heap.size:=bu P;have a5:N≠DB/\N≠a:=⟨λe=>(by rw[e,l.mY] at m;exact absurd m aI),λe=>(by rw[e,l.mZ] at m;exact absurd m aI)⟩;have a6:N≠q:=λe=>by rw[e,he.tag] at m;cases m
 have a7:vk.ownBlock≠some N:=λe=>by rw[he.jQ N e] at m;cases m
 have s4:=z.size;refine⟨zz D nx v7,F,?_,?_,?_,λx h=>?_,λj hj=>?_,C,?_⟩
 .have s1:=v.size;refine⟨r5.trans (z.os.trans (y.os.trans v.os)),r6.trans (z.tape.trans (y.tape.trans v.tape)),r7.trans (z.output.trans (y.output.trans v.output)),aa,λx h f u=>?_⟩;exact(r3 x aa aa (λe=>by have:=H x e;omega)).trans ((I x aa f u).trans (v.block x h f u))
 .grind
 .grind
 .grind
 .grind
 .rw[Li O,OA,OB,Fg,og,og];grind
theorem dm.tell {i:Int}{e:ig}(h:dm B s w DB a p M nx c)(hi:M i=some e)(hp:p i=some q):∃va o k,BK B s w i q e va (aj o e.kids.length k):=by
 obtain⟨b,va,vk,d,f⟩:=h.els i e hi;obtain rfl:q=b:=fT (hp.symm.trans d);obtain⟨o,g,rfl⟩:=bD f.kids;grind
theorem a6Y (v:ai)(PD PP DB a:Nat):∀n,afE v PD PP DB a n:=by
 refine Nd.ind λl ats d ih=>?_;intro c0 c1 c2 b s W p M nx c hn a6 hb cD cP O tD tP f3 f4;have b6:=hn;unfold sS at b6;obtain⟨rfl,hl,N8,ok,gX,rfl,i1,f5,i2,b7⟩:=b6;have f6:=N8;obtain⟨T,X,rfl, -⟩:=f6;unfold Z5 at a6;obtain⟨i3,b8⟩:=a6;unfold jD at*;have A0:NB W.heap.size (au ⟨l.toArray⟩) (aj T ats.length X) (aj ok d.length gX) (W.alloc (ak #[au ⟨l.toArray⟩,aj T ats.length X,aj ok d.length gX] 50)):=dY W #[au ⟨l.toArray⟩,aj T ats.length X,aj ok d.length gX] 50;have b0:=dR W (ak #[au ⟨l.toArray⟩,aj T ats.length X,aj ok d.length gX] 50);have f7:=aF b7;have IH:=aF ih;have HD:=aF O;have f8:=aF b8;have b9:PD≠DB/\PD≠a:=⟨λe=>(by rw[e,O.mY] at tD;exact absurd tD aI),λe=>(by rw[e,O.mZ] at tD;exact absurd tD aI)⟩;have c4:PP≠DB/\PP≠a:=⟨λe=>(by rw[e,O.mY] at tP;exact absurd tP aI),λe=>(by rw[e,O.mZ] at tP;exact absurd tP aI)⟩;have lD:=O.low _ _ O.mY;have lM:=O.low _ _ O.mZ;have c5:=aM cD;have c6:=aM cP;simp only at c5 c6;clear b7 ih O b8 hn;have c7:jq (.mk l ats d)=og d+1:=by rw[jq]
 rw[c7] at f4;go_enter func69,ntmps69;go_upto_region 1 with fail;obtain⟨V,hV⟩:∃V,W.alloc (ak #[au ⟨l.toArray⟩,aj T ats.length X,aj ok d.length gX] 50)=V:=⟨_,rfl⟩;have sV:V.heap.size=W.heap.size+1:=by rw[<- hV];simp
 obtain⟨N,hN⟩:∃N,W.heap.size=N:=⟨_,rfl⟩;rw[hV] at A0 b0⊢;rw[hN] at A0⊢;have HN:=aF hN;have HV:Hid (V.heap.size=N+1):=(by rw[sV,hN]:V.heap.size=N+1);clear hV hN sV;have x0:=A0.c0;have x1:=A0.c1;have bV:=hb.trans (b0.mono hb.size);have CL:=λV' (hv:aD V V')=>Uo V' _ ats (N8.below (bV.trans (hv.mono bV.size))) aa
 go_region_held3 (λw'=>w'.cell? (aJ N 0)=some (au ⟨l.toArray⟩)/\w'.cell? (aJ N 1)=some (aj T ats.length X)) (refine⟨?_,?_⟩<;>first|assumption|exact eD _ gm) (first|(go_at_call 70;refine(CL _ (GN 1 (aW _ _))).mono ?_;rintro e w2 ⟨P,Q,R,rfl,Cr,b2⟩;have x0:=(b2.cell (aM x0)).trans x0;have x1:=(b2.cell (aM x1)).trans x1))
 have a7:aD V w2:=⟨b2.os,b2.tape,b2.output,b2.size,b2.block⟩;have a8:w2.ownsRow V.heap.size 145 2 (aj P Q R) ats.length (bZ ats):=Cr;have E0:=dY w2 #[au ⟨l.toArray⟩,aj P Q R,ag b,aj none 0 0] 147;have bE:=dR w2 (ak #[au ⟨l.toArray⟩,aj P Q R,ag b,aj none 0 0] 147);have yP:=iF a8 (ak #[au ⟨l.toArray⟩,aj P Q R,ag b,aj none 0 0] 147);have c8:=a8.lt;obtain⟨U,hU⟩:∃U,w2.alloc (ak #[au ⟨l.toArray⟩,aj P Q R,ag b,aj none 0 0] 147)=U:=⟨_,rfl⟩;obtain⟨q,Y⟩:∃q,w2.heap.size=q:=⟨_,rfl⟩;rw[hU] at E0 bE yP⊢;rw[Y] at E0⊢;have i4:V.heap.size<=q:=by rw[<- Y];exact a7.size
 have a9:Hid (∀g,(Value.slice P Q R).ownBlock=some g->V.heap.size<=g/\g<q):=(λg hg=>by rw[<- Y];exact c8 g hg:∀g,(Value.slice P Q R).ownBlock=some g->V.heap.size<=g/\g<q);clear hU Y x0 x1 CL b2 Cr a8 c8;have D:aD V U:=bf a7 bE;clear a7 bE;have Z:aD W U:=bf b0 D;have f9:Hid (dm v.heap.size s U DB a p M nx c):=HD.out.below Z;have i5:N+1<=q:=by have:=HV.out;omega
 have NE:Z4 v.heap.size s U q ⟨l,ats,b,[]⟩ (aj P Q R) (aj none 0 0):=⟨E0,by have:=HN.out;have:=hb.size;omega,HD.out.new (by have:=HN.out;omega),Qu yP (bO hb.size b0.size),λg hg=>by
   have:=a9.out g hg;have h2:=HN.out;have h3:=HV.out;exact⟨HD.out.new aa,aa⟩,gp _ _ _ _,λg hg=>by cases hg⟩
 have KE:=Qq v.heap.size s U DB a p M nx c q ⟨l,ats,b,[]⟩ (aj P Q R) (aj none 0 0) f9.out NE ⟨f3,aI⟩ aa;have AU:=(D.block N (bu A0)).trans A0;have E:=(Z.cell (aM cD)).trans cD;have F:=(Z.cell (aM cP)).trans cP;have c9:N≠DB/\N≠a:=by have:=HN.out;omega
 go_upto_region 3 with(go_at_call 71;refine KE.mono ?_;rintro e w3 ⟨rfl,k3,d3⟩);have A3:=(k3.block N (bu AU) c9.1 c9.2).trans AU;have y2:=NB.c2 A3;have i6:(d.length:Int)<=9223372036854775807:=by rw[dD] at f5;omega
 have K3:K2 DB a W w3:=(K2.of_below Z).trans k3;have R0:a6X v W s p M DB a N q nx c #[au ⟨l.toArray⟩,aj T ats.length X,aj ok d.length gX] l ats b (d.take 0) w3:=by
  refine⟨pz s nx q (aj P Q R) (aj none 0 0),λi=>if i=(nx:Int) then some q else p i,K3,A3,?_,λx hx=>?_,λj hj=>?_,?_,?_⟩
  rotate_left 4
  .rw[List.take_zero,ym,wB,a1g];exact d3
  .have h2:=HN.out;rw[Co aa (λe=>by have:=a9.out N e;have:=HV.out;omega) (by simp[Value.ownBlock])];exact HD.out.new aa
  .have h2:=HN.out;exact Co aa (λe=>by have:=a9.out x e;have:=HV.out;omega) (by simp[Value.ownBlock])
  .simp only[aG (show¬j=(nx:Int) by omega)]
  .simp
 have g0:=aF R0;clear R0 d3 KE NE k3 E F;go_wp2_with fail
 go_loopw [25] (λy wr=>∃i:Nat,i<=d.length/\y=ag i/\a6X v W s p M DB a N q nx c #[au ⟨l.toArray⟩,aj T ats.length X,aj ok d.length gX] l ats b (d.take i) wr) (λy _=>d.length-(intOf y).toNat)
 case atStart=>exact⟨0,bA _,rfl,g0.out⟩
 case round=>
  obtain⟨i,hi,rfl,xO,p1,k1,g1,a4,t,H,I,m⟩:=hrel;by_cases g2:i<d.length
  .have h9:(i:Int)<(d.length:Int):=aa;obtain⟨kid,hx, -⟩:=drop_at g2;obtain⟨b',d4,d0,d1,d2,rfl,e0,e1,e2,tV⟩:=f7.out.at hx;have J:kid∈d:=ic hx;have HI:=IH.out kid J;have b1:=Qr f8.out J;have E5:=tV;obtain⟨w,z,k⟩:=kid;unfold sS at E5;obtain⟨rfl, -,⟨B,f,rfl, -⟩,r,C,rfl, -⟩:=E5;have bR:aD v wr:=hb.trans (k1.below lD.1 lM.1 hb.size);have f0:=(bR.cell (aM e0)).trans e0;have f1:=(bR.cell (aM e1)).trans e1;have f2:=(bR.cell (aM e2)).trans e2;unfold jD at f0 f1 f2 tV;clear e0 e1 e2 J;have d6:=Qs d (i+1);rw[Li hx,Fg,og,og] at d6;generalize arB:Nd.mk w z k=kid at hx HI b1 tV d6;obtain⟨K,A⟩:∃K,ym (nx+1) (d.take i)=K:=⟨_,rfl⟩;have i7:K.length<=1000000:=by
    rw[<- A,Xe];have:=Xf (d.take i);omega
   obtain⟨NX,L⟩:∃NX,nx+1+og (d.take i)=NX:=⟨_,rfl⟩;rw[L] at m;have b3:=m;rw[A] at b3;obtain⟨va,ov,kv,S⟩:=b3.tell (Wq M nx _ _) I;simp only at S;have c3:=S.c3;have d7:=k1.cell cD b9.1 b9.2;have d8:=k1.cell cP c4.1 c4.2;have s1:=k1.size;have b4:q≠DB/\q≠a:=by have:=HN.out;omega
   have D:=dR wr (ak #[au ⟨w.toArray⟩,aj B z.length f,aj r k.length C] 50);have u0:=kJ wr #[au ⟨w.toArray⟩,aj B z.length f,aj r k.length C] 50 0 (au ⟨w.toArray⟩) rfl;have u1:=kJ wr #[au ⟨w.toArray⟩,aj B z.length f,aj r k.length C] 50 1 (aj B z.length f) rfl;have u2:=kJ wr #[au ⟨w.toArray⟩,aj B z.length f,aj r k.length C] 50 2 (aj r k.length C) rfl;have F:=eD (ak #[au ⟨w.toArray⟩,aj B z.length f,aj r k.length C] 50) d8;have E:=eD (ak #[au ⟨w.toArray⟩,aj B z.length f,aj r k.length C] 50) d7;have d9:=eD (ak #[au ⟨w.toArray⟩,aj B z.length f,aj r k.length C] 50) c3;have i8:=bu S.cells;have g3:wr.heap.size≠q:=aa;have g4:wr.heap.size≠DB/\wr.heap.size≠a:=aa;have HC:=λV' (hv:Below (wr.alloc (ak #[au ⟨w.toArray⟩,aj B z.length f,aj r k.length C] 50)).heap.size (wr.alloc (ak #[au ⟨w.toArray⟩,aj B z.length f,aj r k.length C] 50)) V')=>HI _ _ _ nx xO V' p1 _ NX (c+1+og (d.take i)) tV b1 (bR.trans ((bf D hv).mono bR.size)) ((hv.cell (aM E)).trans E) ((hv.cell (aM F)).trans F) (m.below (bf D hv)) ((t PD c5).trans tD) ((t PP c6).trans tP) (WalkArith.wf_i64 aa) aa;have g5:Hid (K2 DB a W wr/\xO N=none/\(∀x,x<W.heap.size->xO x=s x)/\(∀j,j<(nx:Int)->p1 j=p j)/\p1 nx=some q/\d[i]? =some kid/\nx+1+og (d.take i)=NX/\ym (nx+1) (d.take i)=K):=⟨k1,a4,t,H,I,hx,L,A⟩;have b5:=aF m;have e3:=aF S;have a5:∀w4,K2 DB a (wr.alloc (ak #[au ⟨w.toArray⟩,aj B z.length f,aj r k.length C] 50)) w4->w4.ownsRow v.heap.size 3 1 (aj ov K.length kv) K.length (di K):=λw4 k4=>dF S.kids λg hg=>by
    have h1:=S.jQ g hg;have h2:=(S.kids.lt g hg).2;exact(k4.block g (by have:=D.size;omega) (λe=>by rw[e,m.mY] at h1;cases h1) (λe=>by rw[e,m.mZ] at h1;cases h1)).trans (D.block g h2)
   clear m b3 S k1 a4 t H I hx L A HI tV b1 c3 d8 d7 E;obtain⟨i0,g6,g8,g9,h0⟩:=info_parts AB;go_upto_region 6 with fail;obtain⟨U1,e4⟩:∃U,wr.alloc (ak #[au ⟨w.toArray⟩,aj B z.length f,aj r k.length C] 50)=U:=⟨_,rfl⟩;obtain⟨KB,h4⟩:∃KB,wr.heap.size=KB:=⟨_,rfl⟩;rw[e4] at D u0 u1 u2 F d9 HC a5⊢;rw[h4] at u0 u1 u2 g3 g4⊢;have h5:v.heap.size<=U1.heap.size:=by have:=D.size;have:=bR.size;omega
   clear e4
   go_region_law (first|(refine step_append_lies _ rfl (.tmp 33) (.tmp 38) 35 rfl v.heap.size 3 i0 (ag 0) 1 8 underlying35 g6 g8 g9 h0 rfl aC (aj ov K.length kv) K.length (di K) rfl (iF Qw _) ⟨w4.heap.size,0,none⟩ 1 1 [ag NX] rfl rfl (World.news_of_block h6) (λu hu=>by simp at hu;rcases hu with rfl;rfl) aC (by rw[dD];omega) aa bq _ rfl ?_;intro g7 yt w7 kN lJ Ur i9;have e7:=E7 lJ;have e0:=aQ e7 3 _ rfl;have ef:=bG e7)|(go_simp;go_wp2_with(first|(go_at_call 69;refine(HC _ (GN 1 (aW _ _))).mono ?_;rintro e w4 ⟨rfl,k4,Fq,p2,e5,e6,e8⟩;have h7:=K2.cell k4 (by exact d9) b4.1 b4.2;have j0:=λo=>eD o h7;have Qw:=a5 _ (by exact K2.N9 k4);have h6:=dY w4 #[ag NX] 3;have l4:v.heap.size<=w4.heap.size:=(bO h5 k4.size);have E7:=λ{o:Obj} {w7:ai}=>Z6 (o:=o) (w7:=w7) e3.out D (K2.N9 k4) b4))))
   all_goals(
    have e9:a6X v W s p M DB a N q nx c #[au ⟨l.toArray⟩,aj T ats.length X,aj (some ⟨b',d4,none⟩) d.length gX] l ats b (d.take (i+1)) (w7.setCell ⟨q,3,none⟩ (aj (some ⟨g7,0,none⟩) (K.length+1) yt)):=by
     obtain⟨k1,a4,t,H,I,hx,L,A⟩:=g5.out;have m:=b5.out;have S:=e3.out;clear HC a5;subst L;subst A;exact a2r hx k1 g1 a4 t H I m S D (K2.N9 k4) e5 e6 HD.out e8 kN lJ (Ur.imp (λh=>by rw[h];rfl) (λh=>by rw[h];rfl))
    have h8:=aF e9;clear e9 kN lJ e8 e5 e6 k4 HC a5;go_wp2_with fail
    go_roundw
    case rel=>exact⟨i+1,aa,by go_num,h8.out⟩
    case measure=>simp[intOf];omega)
  .obtain rfl:i=d.length:=aa;have j1:¬(d.length:Int)<(d.length:Int):=aa;rw[gJ] at m;have b5:Hid (dm v.heap.size xO wr DB a p1 (kV M nx (vG nx b (.mk l ats d))) (nx+jq (.mk l ats d)) (c+jq (.mk l ats d))):=(by
    rw[vG,c7,show nx+(og d+1)=nx+1+og d from by omega,show c+(og d+1)=c+1+og d from by omega];exact m:dm v.heap.size xO wr DB a p1 (kV M nx (vG nx b (.mk l ats d))) (nx+jq (.mk l ats d)) (c+jq (.mk l ats d)))
   clear m;go_wp2_with fail;go_ret;exact⟨rfl,k1,xO,t,p1,H,b5.out⟩
end
section
open Go.RowKit
set_option maxRecDepth 20000
def Us (DB a:Nat):dG:=λx=>if x=DB then some .doc else if x=a then some .map else none
theorem dm.made {B:Nat}(d:w.heap[DB]? =some (ak #[.map (some a),ag 0] 140))(f:iZ prog 3 w a (λ_=>none) 0 0)(hne:a≠DB)(g:B<=DB)(j:B<=a):dm B (Us DB a) w DB a (λ_=>none) (λ_=>none) 0 0 where
 doc:=d
 mY:=by unfold Us;rw[aR rfl]
 map:=f
 mZ:=by unfold Us;rw[aG hne,aR rfl]
 els:=λ_ _ h=>by cases h
 non:=λ_ _=>rfl
 low:=λb t c=>by
  unfold Us at c;split at c
  .rename_i e;subst e;exact⟨g,bu d⟩
  .split at c
   .rename_i e;subst e;exact⟨j,f.lt⟩
   .cases c
 dom:=λ_ _ h=>by cases h
 wf:=λ_ _ h=>by cases h
 few:=aa
 Xa:=λb i h=>by
  unfold Us at h;grind
def ajN (E:Nat->Addr)(B:Nat)(n:Nd)(e:Ending)(w:ai):Prop:=
 ((je n 1 0).1≠0/\∃b,e=ay (aH #[.pointer none,aU 67 (aK b)])/\w.cell? (aJ b 0)=some (ag (je n 1 0).2)/\w.cell? (aJ b 1)=some (aU 453 (.pointer (some (E (je n 1 0).1)))))\/
 ((je n 1 0).1=0/\∃DB a s p,e=ay (aH #[aK DB,aY])/\dm B s w DB a p (kV (λ_=>none) 0 (vG 0 (-1) n)) (jq n) (jq n))
attribute [local go_sem] vM
theorem a7b (E:Nat->Addr)(n:Nd)(K L M:ax)(W:ai)(hE:CE E W)(D:sS W K L M n)(hs:jq n<=1000000):
  aL 37 #[.agg #[K,L,M]] W λe w'=>Below W.heap.size W w'/\ajN E W.heap.size n e w':=by
 obtain⟨j,k,l,p,q,c,d,rfl,rfl,rfl⟩:∃(j:aO) (k:Option Addr) (l p:Nat) (q:Option Addr) (c d:Nat),K=au j/\L=aj k l p/\M=aj q c d:=by
  obtain⟨nm,ats,ks⟩:=n;unfold sS at D;obtain⟨rfl, -,⟨o,a7,rfl, -⟩,ok,gX,rfl, -⟩:=D;exact⟨_,_,_,_,_,_,_,rfl,rfl,rfl⟩
 have i:NB W.heap.size (au j) (aj k l p) (aj q c d) (W.alloc (ak #[au j,aj k l p,aj q c d] 50)):=dY W #[au j,aj k l p,aj q c d] 50;have v:=dR W (ak #[au j,aj k l p,aj q c d] 50);go_enter func37,ntmps37;go_upto_region 1 with fail;obtain⟨V,hV⟩:∃V,W.alloc (ak #[au j,aj k l p,aj q c d] 50)=V:=⟨_,rfl⟩;obtain⟨N,O⟩:∃N,W.heap.size=N:=⟨_,rfl⟩;rw[hV] at i v⊢;rw[O] at i⊢;have F:=aF O;clear hV O;have x0:=i.c0;have x1:=i.c1;have x2:=i.c2;have H:=GG E n _ _ _ V (hE.below v) (sS.below v n D);by_cases w:(je n 1 0).1=0
 .have r:=H.mono (R':=λe w'=>e=ay aY/\Below V.heap.size V w') (λe w' h=>by
   refine⟨?_,h.1⟩;rcases h.2 with f|f
   .exact f.2
   .exact absurd w f.1)
  have HC:=aF w;clear H w;go_upto_region 4 with(go_at_call 68;refine r.mono ?_;rintro e b ⟨rfl,x⟩);have B1:=bf v x;have a6:=B1.size;have a8:=@run_makeMap prog;go_upto_region 5 with fail;have U0:∃U a,((b.alloc (.map #[] 0)).alloc (ak #[.map (some b.heap.size),ag 0] 140)).alloc (ak #[.pointer (some ⟨b.heap.size+1,0,none⟩)] 74)=U/\b.heap.size=a/\U.heap[a+1]? =some (ak #[.map (some a),ag 0] 140)/\iZ prog 3 U a (λ_=>none) 0 0/\U.cell? (aJ (a+1+1) 0)=some (.pointer (some ⟨a+1,0,none⟩))/\U.heap.size=a+1+1+1/\Below b.heap.size b U:=by
   refine⟨_,_,rfl,rfl,?_,?_,?_,aI,?_⟩
   .have u:=dY (b.alloc (.map #[] 0)) #[.map (some b.heap.size),ag 0] 140;have f:=(dR ((b.alloc (.map #[] 0)).alloc (ak #[.map (some b.heap.size),ag 0] 140)) (ak #[.pointer (some ⟨b.heap.size+1,0,none⟩)] 74)).block _ (bu u);simp only[dV] at u f;exact f.trans u
   .exact((iZ.made b prog 3).kept (rZ _ _ none) aI).kept (rZ _ _ none) aI
   .have u:=kJ ((b.alloc (.map #[] 0)).alloc (ak #[.map (some b.heap.size),ag 0] 140)) #[.pointer (some ⟨b.heap.size+1,0,none⟩)] 74 0 _ rfl;simp only[dV] at u;exact u
   .exact bf (bf (dR _ _) (dR _ _)) (dR _ _)
  obtain⟨U,a,hU,P,dU,pU,y,sU,bU⟩:=U0;rw[hU,P];have a9:N<a:=by have:=F.out;have f:=bu i;have:=x.size;omega
  clear hU;have BU:=bf B1 bU;have Q:=kJ U #[.func (.func 69) #[] #[.pointer (some ⟨a+1+1,0,none⟩),aK U.heap.size]] 141 0 (.func (.func 69) #[] #[.pointer (some ⟨a+1+1,0,none⟩),aK U.heap.size]) rfl;have z:=dR U (ak #[.func (.func 69) #[] #[.pointer (some ⟨a+1+1,0,none⟩),aK U.heap.size]] 141);have R:=((bf x bU).block N (bu i)).trans i;have S:=dm.made (B:=W.heap.size) dU pU aa (by have:=F.out;omega) (by have:=F.out;omega);go_upto_region 7 with fail;obtain⟨X,I⟩:∃X,U.alloc (ak #[.func (.func 69) #[] #[.pointer (some ⟨a+1+1,0,none⟩),aK U.heap.size]] 141)=X:=⟨_,rfl⟩;obtain⟨J,A⟩:∃J,a+1+1+1=J:=⟨_,rfl⟩;have Na:U.heap.size=J:=sU.trans A;unfold aD at z;rw[Na] at I Q z;rw[A,I];rw[I] at Q z;have D1:=S.turn (w':=X) (λg t ht=>z.block g (by rw[<- Na];exact(S.low g t ht).2)) z.size;have T:Below U.heap.size U X:=by rw[Na];exact z
  have Y:=bf BU T;have Z:=(T.block N (bu R)).trans R;have C:=(T.cell (aM y)).trans y;have HP:=a6Y W (a+1+1) J (a+1) a n _ _ _ (-1) _ X _ _ 0 0 D (Xb n 1 0 HC.out) Y C Q D1 (by unfold Us;rw[aG aa,aG aa]) (by unfold Us;rw[aG aa,aG aa]) aC aa;rw[gq] at HP;have x0:=NB.c0 Z;have x1:=NB.c1 Z;have x2:=NB.c2 Z;have a4:W.heap.size<=a:=by have:=F.out;omega
  clear I S D1 R;go_wp2_with(go_at_call 69;refine HP.mono ?_;rintro e w5 ⟨rfl,k5,a5,p5, -, -,d5⟩;have b2:=k5.cell C aa aa)
  go_ret2
  exact⟨Y.trans ((k5.below (m:=W.heap.size) aa a4 Y.size)),.inr ⟨HC.out,a+1,a,a5,p5,rfl,d5⟩⟩
 .have r:=H.mono (R':=λe w'=>(∃s,e=ay (aU 67 (aK s))/\w'.cell? (aJ s 0)=some (ag (je n 1 0).2)/\w'.cell? (aJ s 1)=some (aU 453 (.pointer (some (E (je n 1 0).1)))))/\Below V.heap.size V w') (λe w' h=>by
   refine⟨?_,h.1⟩;rcases h.2 with f|⟨-,s, -,h3⟩
   .exact absurd f.1 w
   .exact⟨s,h3⟩)
  clear H;go_wp2_with(go_at_call 68;refine r.mono ?_;rintro e b ⟨⟨s,rfl,h3,h4⟩,x⟩)
  go_ret2
  exact⟨bf v x,.inl ⟨w,s,rfl,h3,h4⟩⟩
end
open Go.RowKit
set_option maxRecDepth 20000
theorem Xg {k n:Nat}{e:TypeId}{v:ax}{a:List ax}(h:w.ownsRow B e k v n a):n<=9223372036854775807:=by
 obtain⟨o,b, -,d,c, -⟩:=eT h;rw[dD] at c;omega
theorem Nb {α β:Type}(g:α->List β)(l:List α)(k:Nat):((l.take k).flatMap g).length<=(l.flatMap g).length:=by
 have h:=congrArg (λx=>(List.flatMap g x).length) (jS k l);simp only[List.flatMap_append,dO] at h;omega
theorem Cs {Wd:ai}(D:dm B s Wd DB a p M nx c)(G:Nat)(R:∀(av:Array ax) (w:ai),Sem.run prog (callFunc G av) w=.ok (.enter G av) w)(lb:Array ax)(I:List (Int×Int)->ai->Prop)(K:∀h W,I h W->(∀b t,s b=some t->W.heap[b]? =Wd.heap[b]?)/\Wd.heap.size<=W.heap.size)
  (j:∀h W i d,I h W->h.length<1000000->aL G (#[ag i,ag d]++lb) W λe w'=>e=ay (aH #[])/\I (h++[(i,d)]) w'):
  ∀(f:Nat) (n d:Int) (h:List (Int×Int)) (W:ai),Dp M f n->eH n->0<=d->d+f<=1000000->h.length+(pre M f n d).length<=1000000->I h W->
  aL 230 #[aK DB,ag n,ag d,.func (.func G) #[] lb] W λe w'=>e=ay (aH #[])/\I (h++pre M f n d) w'
 |0,_,_,_,_,L,_,_,_,_,_=>L.elim
 |f+1,n,d,h,W,L,hn,a8,a9,o,N=>by
  have IH:=Cs D G R lb I K j f;have O:=K h W N;have P:=D.turn O.1 O.2;have d0:=P.d0;cases C:M n with
  |none=>
   have q:=D.non n C;have l:pre M (f+1) n d=[]:=by rw[pre,C]
   rw[l,List.append_nil];go_enter func230,ntmps230;go_wp2_with(at_lookup;refine kG _ rfl _ _ 138 rfl underlying3 underlying138 (dA _) rfl P.map n rfl hn q ?_);refine bg (v:=aH #[]) (by simp[results,results230]) rfl ⟨rfl,N⟩
  |some e=>
   have l:pre M (f+1) n d=(n,d)::e.kids.flatMap (λk=>pre M f k (d+1)):=by rw[pre,C]
   rw[l] at o⊢;rw[eZ] at o;obtain⟨b,va,vk,q,u⟩:=D.els n e C;have S:=u.turn (mX:=s) (w':=W) λg t ht _=>⟨ht,O.1 g t ht⟩;have E:=j h W n d N aa;obtain⟨ov,kv,T⟩:=bD u.kids;have U:Hid (∀k∈e.kids,Dp M f k/\eH k):=(λk V=>⟨L e C k V,(D.wf n e C).2 k V⟩:∀k∈e.kids,Dp M f k/\eH k);have F:=aF K;have X:=aF IH;have b0:e.kids.length<=9223372036854775807:=Xg u.kids;clear K IH j N L;go_enter func230,ntmps230;go_upto_region 3 with(first|(at_lookup;refine dJ _ rfl _ _ 138 rfl underlying3 underlying138 (dA _) rfl P.map n rfl hn b q ?_)|(refine E.mono ?_;rintro r w1 ⟨rfl,x⟩));subst T;have x3:=qL ((F.out _ _ x).1 b _ u.tag)|>.trans u.c3
   have b1:d<=999999:=aa;have z:=aF u;have Y:=aF x;clear u S x P d0 O E;go_wp2_with fail
   go_loopw [32] (λy wr=>∃k:Nat,k<=e.kids.length/\y=ag k/\I (h++((n,d)::(e.kids.take k).flatMap (λi=>pre M f i (d+1)))) wr) (λy _=>e.kids.length-(intOf y).toNat)
   case atStart=>exact⟨0,bA _,rfl,Y.out⟩
   case round=>
    obtain⟨k,V,rfl,m⟩:=hrel;by_cases Z:k<e.kids.length
    .have a6:(k:Int)<(e.kids.length:Int):=aa;obtain⟨kid,Q, -⟩:=drop_at Z;obtain⟨g,hg,hc⟩:=eF z.out.kids k _ (qH Q);have a4:ov=some ⟨g,0,none⟩:=by
      obtain⟨o',a7,h1, -, -, -,h2⟩:=eT z.out.kids;cases h1;exact h2 g hg
     subst a4;have b2:=qL ((F.out _ _ m).1 g _ (z.out.jQ g hg))|>.trans hc
     have H:=U.out kid (ic Q);have A:(e.kids.take (k+1)).flatMap (λi=>pre M f i (d+1))=(e.kids.take k).flatMap (λi=>pre M f i (d+1))++pre M f kid (d+1):=by
      rw[eX,Q];simp
     have J:=Nb (λi=>pre M f i (d+1)) e.kids (k+1);rw[A,dO] at J;have HC:=X.out kid (d+1) _ wr H.1 H.2 aa aa (by rw[dO,eZ];omega) m;rw[lF,gH,<- A] at HC;clear m hc hg Q A J;go_wp2_with(go_at_call 230;refine HC.mono ?_;rintro r w2 ⟨rfl,a5⟩)
     go_roundw
     case rel=>exact⟨k+1,aa,by go_num,a5⟩
     case measure=>simp[intOf];omega
    .obtain rfl:k=e.kids.length:=aa;have b3:¬(e.kids.length:Int)<(e.kids.length:Int):=aa;rw[gJ] at m;go_wp2_with fail;refine bodyPost_end (results_none rfl _ _ _) rfl ⟨rfl,m⟩

/- Parts of the proof. -/
import Derived.Test.YtecneflbncjhpaaGreatDoorQp13
namespace Go.Proofs.YtecneflbncjhpaaGreatDoor
open Go.Proofs.Tryz
set_option maxHeartbeats 8000000
section
open Go.RowKit
theorem Cj:∀l:List (Bs×Bs),(bJ l).length=l.length*2
 |[]=>rfl
 |x::r=>by simp[bJ,Cj r];omega
theorem vv:∀(l:List (Bs×Bs)) (j:Nat) (u:ah),(bJ l)[j]? =some u->∃i x,l[i]? =some x/\((j=i*2/\u=.string ⟨x.1.toArray⟩)\/(j=i*2+1/\u=.string ⟨x.2.toArray⟩))
 |[],j,u,h=>by simp[bJ] at h
 |x::r,0,u,h=>by
  simp[bJ] at h;exact⟨0,x,rfl,.inl ⟨rfl,h.symm⟩⟩
 |x::r,1,u,h=>by
  simp[bJ] at h;exact⟨0,x,rfl,.inr ⟨rfl,h.symm⟩⟩
 |x::r,j+2,u,h=>by
  have h':(bJ r)[j]? =some u:=by simpa[bJ] using h
  obtain⟨i,y,h1,h2⟩:=vv r j u h';exact⟨i+1,y,by simpa using h1,h2.imp (fun h=>⟨by omega,h.2⟩) (fun h=>⟨by omega,h.2⟩)⟩
theorem Od (l:List (Bs×Bs)):∀u∈bJ l,u.oneCell'=true:=fun u hu=>by
 obtain⟨j,hj⟩:=List.getElem?_of_mem hu;obtain⟨i,x, -,⟨-,rfl⟩|⟨-,rfl⟩⟩:=vv l j u hj<;>rfl
theorem XI {w:ag}{a:Addr}{ats:List (Bs×Bs)}(h:BV w (some a) ats):∀j u,(bJ ats)[j]? =some u->w.cell? (a.add j)=some u:=fun j u hu=>by
 obtain⟨i,x,hx,h2⟩:=vv ats j u hu;obtain⟨b,off,h3,h4,h5, -⟩:=h i x hx;cases h3;have hadd:∀k,(⟨b,off,none⟩:Addr).add k=⟨b,off+k,none⟩:=fun k=>by unfold Addr.add;split<;>simp_all
 rw[hadd];rcases h2 with⟨rfl,rfl⟩|⟨rfl,rfl⟩
 ·exact h4
 ·rw[<- Nat.add_assoc];exact h5
theorem Oe (w:ag)(v:ah)(ats:List (Bs×Bs))(h:mY w v ats)(hl:ats.length<=1000000):
  au 41 #[v] w fun e w'=>∃o n k,e=.returned (.slice o n k)/\w'.ownsRow w.heap.size 100 2 (.slice o n k) ats.length (bJ ats)/\Below w.heap.size w w':=by
 obtain⟨o,cap,rfl,h1,h2,h3,h4⟩:=h;have q22:∀(w:ag) (a:Option Addr) (n c n' c':Nat),(binOp .eql 33 (.slice a n c) (.slice none n' c')).run prog w=.ok (.bool a.isNone) w:=fun w a n c n' c'=>Lib.run_eql_slice_nil w _ _ a n c n' c' underlying33;obtain⟨i0,hi,hz0,hz1,hz2⟩:=info_parts Cg;cases o with
 |none=>
  have hc:=h3 rfl;have hz:ats=[]:=iC.1 (by omega);subst hz;go_enter func41,ntmps41;go_wp2_with fail;go_ret;exact⟨none,0,0,rfl,eH _ _ _ _,aG _ _⟩
 |some a=>
  have HN:Hid (∀j u,(bJ ats)[j]? =some u->w.cell? (a.add j)=some u):=XI h4;have HO:Hid (∀u∈bJ ats,u.oneCell'=true):=Od ats;clear h4;go_enter func41,ntmps41;go_wp2_with(at_builtin;refine wpList_append_own _ rfl _ _ 33 rfl w.heap.size 100 i0 (.agg #[.string ⟨#[]⟩,.string ⟨#[]⟩]) 2 32 underlying33 hi hz0 hz1 hz2 rfl (by decide) _ _ _ rfl (World.ownsRow_made w #[] 0 ai (aP _) (by simp)) a ats.length cap (bJ ats) rfl (Cj ats) (fun j u hj=>bK _ (HN.out j u hj)) HO.out (by rw[bq];omega) (by omega) (by simp) ?_;intro v7 w7 kN jS _;obtain⟨o7,tK,rfl⟩:=aM kN);go_ret;exact⟨o7,_,tK,rfl,by simpa using kN,((aG _ w).alloc ai _).grown jS (by simp) (fun k hk=>by have hk':some w.heap.size=some k:=hk;cases hk';exact Nat.le_refl _)⟩
mutual
def U5:Nd->Prop
 | .mk _ ats ks=>ats.length<=12/\Og ks
def Og:List Nd->Prop
 |[]=>True
 |k::l=>U5 k/\Og l
end
theorem Lj:∀{l:List Nd} {k:Nd},Og l->k∈l->U5 k
 |[],_,_,h=>by simp at h
 |a::l,k,h,hk=>by
  unfold Og at h;rcases List.mem_cons.1 hk with rfl|hk
  ·exact h.1
  ·exact Lj h.2 hk
mutual
theorem QM:∀(n:Nd) (deep ahead:Nat),(ig n deep ahead).1=0->U5 n
 | .mk nm ats ks,deep,ahead,h=>by
  unfold ig at h;split at h
  ·rename_i h1;unfold U5;exact⟨(Cf h1).2.1,QN ks _ _ h⟩
  ·rename_i h1;exact(h1 h).elim
theorem QN:∀(l:List Nd) (deep ahead:Nat),(sH l deep ahead).1=0->Og l
 |[],_,_,_=>by unfold Og;trivial
 |k::l,deep,ahead,h=>by
  by_cases h1:(ig k deep ahead).1=0
  ·rw[nV h1] at h;unfold Og;exact⟨QM k deep ahead h1,QN l _ _ h⟩
  ·rw[wM h1] at h;exact(h1 h).elim
end
theorem Ll (ks:List Nd)(i:Nat):jK (ks.take i)<=jK ks:=by
 have:=A8 (ks.take i) (ks.drop i);rw[List.take_append_drop] at this;omega
theorem FX {ks:List Nd}{i:Nat}{k:Nd}(h:ks[i]? =some k):ks.take (i+1)=ks.take i++[k]:=by
 rw[List.take_add_one,h];rfl
end
section
open Go.RowKit
set_option maxRecDepth 20000
theorem XJ {w:ag}{B B' k n:Nat}{e:TypeId}{v:ah}{xs:List ah}(h:w.ownsRow B e k v n xs)(hb:B'<=B):w.ownsRow B' e k v n xs:=by
 obtain⟨h1,h2⟩:=h;refine⟨h1,?_⟩;rcases h2 with h2|⟨g,cap,cur,h3,h4,h5⟩
 ·exact .inl h2
 ·exact .inr ⟨g,cap,cur,h3,aJ hb h4,h5⟩
def vw (tg:bP)(i:Int)(v:ah):bP:=fun x=>if v.ownBlock=some x then some (.kids i) else tg x
theorem jV.at {w:ag}{o:Option Addr}{ks:List Nd}{i:Nat}{kid:Nd}(h:jV w o 0 ks)(hx:ks[i]? =some kid):∃b off c0 c1 c2,o=some ⟨b,off,none⟩/\w.cell? (ak b (off+i*3))=some c0/\w.cell? (ak b (off+i*3+1))=some c1/\w.cell? (ak b (off+i*3+2))=some c2/\nG w c0 c1 c2 kid:=by
 obtain⟨b,off,c0,c1,c2,h1,h2,h3,h4,h5⟩:=h.get hx;rw[Nat.zero_add] at h2 h3 h4;exact⟨b,off,c0,c1,c2,h1,h2,h3,h4,h5⟩
theorem aX.kid {B:Nat}{tg:bP}{w w7:ag}{DB MB:Nat}{p:Int->Option Nat}{M:Dm}{nx c EB:Nat}{i:Int}{e:gH}{va vk v7:ah}{k:Int}{o:Obj}(h:aX B tg w DB MB p M nx c)(hi:M i=some e)(hp:p i=some EB)(he:xX B tg w i EB e va vk)(hk:dR k)
  (kN:w7.ownsRow B 3 1 v7 (e.kids.length+1) (aU e.kids++[aa k])) (jS:(w.alloc o).grownBy w7 vk.ownBlock) (Es:v7.ownBlock=vk.ownBlock\/v7.ownBlock=some (w.alloc o).heap.size):
  aX B (vw tg i v7) (w7.setCell ⟨EB,3,none⟩ v7) DB MB p (dZ M i ⟨e.name,e.ats,e.parent,e.kids++[k]⟩) nx c/\(∀x,x<w.heap.size->vw tg i v7 x=tg x)/\(∀x,x<w.heap.size->x≠EB->vk.ownBlock≠some x->(w7.setCell ⟨EB,3,none⟩ v7).heap[x]? =w.heap[x]?)/\w.heap.size<=(w7.setCell ⟨EB,3,none⟩ v7).heap.size/\(w7.setCell ⟨EB,3,none⟩ v7).os=w.os/\(w7.setCell ⟨EB,3,none⟩ v7).tape=w.tape/\(w7.setCell ⟨EB,3,none⟩ v7).output=w.output:=by
 have VB:=aI he.cells;have hsz:(w.alloc o).heap.size=w.heap.size+1:=by simp
 have hz:w.heap.size+1<=w7.heap.size:=by have:=jS.size;rw[<- hsz];exact this
 have hset:=(aG EB w7).setCell (p:=⟨EB,3,none⟩) ai v7;have neE:vk.ownBlock≠some EB:=fun e1=>by have h1:=he.iO EB e1;rw[he.tag] at h1;cases h1
 have ne7:v7.ownBlock≠some EB:=fun e1=>by
  rcases Es with h1|h1
  ·exact neE (h1.symm.trans e1)
  ·rw[h1] at e1;cases e1;omega
 have old:∀x,x<w.heap.size->vk.ownBlock≠some x->w7.heap[x]? =w.heap[x]? :=fun x hx hne=>by
  have h1:=jS.block x (by show x<(w.alloc o).heap.size;omega) (fun e1=>hne e1.symm);exact h1.trans ((bT w o).block x hx)
 have tk:∀x,x<w.heap.size->vw tg i v7 x=tg x:=fun x hx=>by
  unfold vw;split
  ·rename_i h1;rcases Es with h2|h2
   ·exact(he.iO x (h2.symm.trans h1)).symm
   ·rw[h2] at h1;cases h1;omega
  ·rfl
 have blk:∀x,x<w.heap.size->x≠EB->vk.ownBlock≠some x->(w7.setCell ⟨EB,3,none⟩ v7).heap[x]? =w.heap[x]? :=fun x hx h1 h2=>(aY _ _ _ x h1).trans (old x hx h2);have hz8:w.heap.size<=(w7.setCell ⟨EB,3,none⟩ v7).heap.size:=by have:=hset.size;omega
 refine⟨h.put hi hp (va:=va) (vk:=v7) ⟨?_,?_,?_,?_,?_,?_⟩ hz8 ⟨(h.wf i e hi).1,fun j hj=>?_⟩ tk ?_ ?_ ?_,tk,blk,hz8,hset.os.trans jS.os,hset.tape.trans jS.tape,hset.output.trans jS.output⟩
 ·have h1:=(old EB VB neE).trans he.cells;rw[heap_setCell_same w7 EB 3 _ _ _ h1];rfl
 ·rw[tk EB VB];exact he.tag
 ·exact bS he.ats fun g hg=>blk g (he.ats.lt g hg).2 (fun e1=>by have h1:=he.kZ g hg;rw[e1,he.tag] at h1;cases h1) (fun e1=>by have h1:=he.kZ g hg;rw[he.iO g e1] at h1;cases h1)
 ·intro g hg;rw[tk g (he.ats.lt g hg).2];exact he.kZ g hg
 ·have:=bS (w':=w7.setCell ⟨EB,3,none⟩ v7) kN fun g hg=>aY _ _ _ g (fun e1=>ne7 (by rw[hg,e1]));rw[FW,List.length_append];exact this
 ·intro g hg;unfold vw;rw[if_pos hg]
 ·rcases List.mem_append.1 hj with hj|hj
  ·exact(h.wf i e hi).2 j hj
  ·rw[List.mem_singleton.1 hj];exact hk
 ·intro x t ht;unfold vw at ht;split at ht
  ·rename_i h1;have h2:=kN.lt x h1;have:=hset.size;omega
  ·have:=h.low x t ht;omega
 ·intro x hx;unfold vw;split
  ·exact .inr (.inr (.inr rfl))
  ·exact .inl (h.new hx)
 ·intro x t ht h1 h2 h3;exact blk x (h.low x t ht).2 (fun e1=>by rw[e1,he.tag] at ht;cases ht;exact h1 rfl) (fun e1=>by rw[he.iO x e1] at ht;cases ht;exact h3 rfl)
theorem QO:∀(l:List Nd) (k:Nat),(tL k l).length=l.length
 |[],_=>rfl
 |n::l,k=>by rw[tL,List.length_cons,List.length_cons,QO l]
theorem QS:∀l:List Nd,l.length<=jK l
 |[]=>Nat.le_refl _
 |n::l=>by have h1:=QS l;have h2:=Qm n;rw[jK,List.length_cons];omega
theorem K2.Hy {r n k:Nat}{A B:ag}(h:K2 r n (A.drewN k) B):K2 r n A B:=⟨h.os,h.tape,h.output,h.size,h.block⟩
theorem U6 {B:Nat}{tg:bP}{wr U1 w4 w7:ag}{DB MB EB:Nat}{i:Int}{e:gH}{va vk:ah}{o:Obj}(he:xX B tg wr i EB e va vk)(bU:Below wr.heap.size wr U1)(k4:K2 DB MB U1 w4)(hd:EB≠DB/\EB≠MB)(jS:(w4.alloc o).grownBy w7 vk.ownBlock):w7.heap[EB]? =some (.cells #[.string ⟨e.name.toArray⟩,va,aa e.parent,vk] 102):=by
 have h1:=aI he.cells;have h2:=bU.size;have h3:=k4.size;have h4:(w4.alloc o).heap.size=w4.heap.size+1:=by simp
 have h5:=jS.block EB (by show EB<(w4.alloc o).heap.size;omega) (fun e1=>by have h6:=he.iO EB e1.symm;rw[he.tag] at h6;cases h6);exact h5.trans (((bT w4 o).block EB (by omega)).trans ((k4.block EB (by omega) hd.1 hd.2).trans ((bU.block EB h1).trans he.cells)))
def a9s (W0:ag)(PD PP DB MB:Nat)(n:Nd):Prop:=∀(c0 c1 c2:ah) (parent:Int) (tg:bP) (W:ag) (p:Int->Option Nat) (M:Dm) (nx c:Nat),nG W0 c0 c1 c2 n->U5 n->Below W0.heap.size W0 W->W.cell? (ak PD 0)=some (ay DB)->W.cell? (ak PP 0)=some (.func (.func 40) #[] #[ay PD,ay PP])->
 aX W0.heap.size tg W DB MB p M nx c->tg PD=none->tg PP=none->dR parent->nx+gz n<=1000000->
 au 40 #[.agg #[c0,c1,c2],aa parent,ay PD,ay PP] W fun e w'=>e=.returned (aa nx)/\K2 DB MB W w'/\∃kR p',(∀x,x<W.heap.size->kR x=tg x)/\(∀i,i<(nx:Int)->p' i=p i)/\aX W0.heap.size kR w' DB MB p' (iU M nx (qo nx parent n)) (nx+gz n) (c+gz n)
def a1x (W0 W:ag)(tg:bP)(p:Int->Option Nat)(M:Dm)(DB MB N EB nx c:Nat)(cs:Array ah)(nm:Bs)(ats:List (Bs×Bs))(parent:Int)(ks:List Nd)(wr:ag):Prop:=
 ∃sJ p1,K2 DB MB W wr/\wr.heap[N]? =some (.cells cs 36)/\sJ N=none/\(∀x,x<W.heap.size->sJ x=tg x)/\(∀j,j<(nx:Int)->p1 j=p j)/\p1 nx=some EB/\aX W0.heap.size sJ wr DB MB p1 (iU M nx (⟨nm,ats,parent,tL (nx+1) ks⟩::qU (nx+1) nx ks)) (nx+1+jK ks) (c+1+jK ks)
theorem XK {W0 W wr U1 w4 w7:ag}{tg sJ vR:bP}{p p1 p2:Int->Option Nat}{M:Dm}{DB MB N EB nx c:Nat}{cs:Array ah}{nm:Bs}{ats:List (Bs×Bs)}{parent:Int}{ks:List Nd}{kid:Nd}{i:Nat}{va vk v7:ah}{o:Obj}
  (hx:ks[i]? =some kid) (k1:K2 DB MB W wr) (hN:wr.heap[N]? =some (.cells cs 36)) (tN:sJ N=none) (ht1:∀x,x<W.heap.size->sJ x=tg x) (hp1:∀j,j<(nx:Int)->p1 j=p j) (hpE:p1 nx=some EB)
  (hd1:aX W0.heap.size sJ wr DB MB p1 (iU M nx (⟨nm,ats,parent,tL (nx+1) (ks.take i)⟩::qU (nx+1) nx (ks.take i))) (nx+1+jK (ks.take i)) (c+1+jK (ks.take i))) (he:xX W0.heap.size sJ wr nx EB ⟨nm,ats,parent,tL (nx+1) (ks.take i)⟩ va vk)
  (bU:Below wr.heap.size wr U1) (k4:K2 DB MB U1 w4) (ht2:∀x,x<U1.heap.size->vR x=sJ x) (hp2:∀j,j<((nx+1+jK (ks.take i):Nat):Int)->p2 j=p1 j) (hd0:aX W0.heap.size tg W DB MB p M nx c)
  (hd2:aX W0.heap.size vR w4 DB MB p2 (iU (iU M nx (⟨nm,ats,parent,tL (nx+1) (ks.take i)⟩::qU (nx+1) nx (ks.take i))) (nx+1+jK (ks.take i)) (qo (nx+1+jK (ks.take i)) nx kid)) (nx+1+jK (ks.take i)+gz kid) (c+1+jK (ks.take i)+gz kid))
  (kN:w7.ownsRow W0.heap.size 3 1 v7 ((tL (nx+1) (ks.take i)).length+1) (aU (tL (nx+1) (ks.take i))++[aa ((nx+1+jK (ks.take i):Nat):Int)])) (jS:(w4.alloc o).grownBy w7 vk.ownBlock) (Es:v7.ownBlock=vk.ownBlock\/v7.ownBlock=some (w4.alloc o).heap.size):
  a1x W0 W tg p M DB MB N EB nx c cs nm ats parent (ks.take (i+1)) (w7.setCell ⟨EB,3,none⟩ v7):=by
 have hs1:=bU.size;have ads:=aI he.cells;have hnew:W.heap.size<=EB:=by
  rcases Nat.lt_or_ge EB W.heap.size with h|h
  ·have h1:=he.tag;rw[ht1 EB h] at h1;have:=hd0.Nh EB nx (.inl h1);omega
  ·exact h
 have a9t:∀g,vk.ownBlock=some g->W.heap.size<=g:=fun g hg=>by
  rcases Nat.lt_or_ge g W.heap.size with h|h
  ·have h1:=he.iO g hg;rw[ht1 g h] at h1;have:=hd0.Nh g nx (.inr (.inr h1));omega
  ·exact h
 have ne:∀x t,sJ x=some t->t≠.doc->t≠.map->x≠DB/\x≠MB:=fun x t hxt h1 h2=>⟨fun e=>h1 (dP (hxt.symm.trans (e▸hd1.ji))),fun e=>h2 (dP (hxt.symm.trans (e▸hd1.jk)))⟩;have XL:∀x,x<wr.heap.size->x≠DB->x≠MB->w4.heap[x]? =wr.heap[x]? :=fun x h h1 h2=>(k4.block x (by omega) h1 h2).trans (bU.block x h);have he2:xX W0.heap.size vR w4 nx EB ⟨nm,ats,parent,tL (nx+1) (ks.take i)⟩ va vk:=he.turn fun g t ht hk=>by
  have hg:=(hd1.low g t ht).2;have hn:=ne g t ht (by rcases hk with rfl|rfl|rfl<;>simp) (by rcases hk with rfl|rfl|rfl<;>simp);exact⟨(ht2 g (by omega)).trans ht,XL g hg hn.1 hn.2⟩
 have hM:iU (iU M nx (⟨nm,ats,parent,tL (nx+1) (ks.take i)⟩::qU (nx+1) nx (ks.take i))) (nx+1+jK (ks.take i)) (qo (nx+1+jK (ks.take i)) nx kid)=iU M nx (⟨nm,ats,parent,tL (nx+1) (ks.take i)⟩::(qU (nx+1) nx (ks.take i)++qo (nx+1+jK (ks.take i)) nx kid)):=by
  have h1:=Ws M nx (⟨nm,ats,parent,tL (nx+1) (ks.take i)⟩::qU (nx+1) nx (ks.take i)) (qo (nx+1+jK (ks.take i)) nx kid);rw[List.length_cons,GN,show nx+(jK (ks.take i)+1)=nx+1+jK (ks.take i) from by omega] at h1;rw[h1,List.cons_append]
 rw[hM] at hd2;have a9u:p2 nx=some EB:=(hp2 nx (by omega)).trans hpE;obtain⟨r1,r2,r3,r4,r5,r6,r7⟩:=hd2.kid (k:=((nx+1+jK (ks.take i):Nat):Int)) (Ql M nx _ _) a9u he2 (WalkArith.wf_i64 (by have:=hd2.few;omega)) kN jS Es;rw[T9] at r1;have hN4:N<wr.heap.size:=aI hN;have hNd:N≠DB/\N≠MB:=⟨fun e=>(by rw[e,hd1.ji] at tN;exact absurd tN (by simp)),fun e=>(by rw[e,hd1.jk] at tN;exact absurd tN (by simp))⟩;have hNE:N≠EB:=fun e=>by rw[e,he.tag] at tN;cases tN
 have hNk:vk.ownBlock≠some N:=fun e=>by rw[he.iO N e] at tN;cases tN
 have s4:=k4.size;refine⟨vw vR nx v7,p2,?_,?_,?_,fun x h=>?_,fun j hj=>?_,a9u,?_⟩
 ·have s1:=k1.size;refine⟨r5.trans (k4.os.trans (bU.os.trans k1.os)),r6.trans (k4.tape.trans (bU.tape.trans k1.tape)),r7.trans (k4.output.trans (bU.output.trans k1.output)),by omega,fun x h h1 h2=>?_⟩;exact(r3 x (by omega) (by omega) (fun e=>by have:=a9t x e;omega)).trans ((XL x (by omega) h1 h2).trans (k1.block x h h1 h2))
 ·exact(r3 N (by omega) hNE hNk).trans ((XL N hN4 hNd.1 hNd.2).trans hN)
 ·rw[r2 N (by omega),ht2 N (by omega)];exact tN
 ·have:=k1.size;rw[r2 x (by omega),ht2 x (by omega)];exact ht1 x h
 ·rw[hp2 j (by omega)];exact hp1 j hj
 ·rw[FX hx,JF,JG,A8,jK,jK];have e1:nx+1+(jK (ks.take i)+(gz kid+0))=nx+1+jK (ks.take i)+gz kid:=by omega
  have e2:c+1+(jK (ks.take i)+(gz kid+0))=c+1+jK (ks.take i)+gz kid:=by omega
  rw[e1,e2];exact r1
theorem aX.tell {B:Nat}{tg:bP}{w:ag}{DB MB:Nat}{p:Int->Option Nat}{M:Dm}{nx c EB:Nat}{i:Int}{e:gH}(h:aX B tg w DB MB p M nx c)(hi:M i=some e)(hp:p i=some EB):∃va o k,xX B tg w i EB e va (.slice o e.kids.length k):=by
 obtain⟨b,va,vk,h1,h2⟩:=h.els i e hi;obtain rfl:EB=b:=dP (hp.symm.trans h1);obtain⟨o,cap,rfl⟩:=aM h2.kids;exact⟨va,o,cap,h2⟩
theorem a1y (W0:ag)(PD PP DB MB:Nat):∀n,a9s W0 PD PP DB MB n:=by
 refine Nd.ind fun nm ats ks ih=>?_;intro c0 c1 c2 parent tg W p M nx c hn hlow hb cD cP hd tD tP hwp hnx;have hn':=hn;unfold nG at hn';obtain⟨rfl,hl,Hu,ok,eT,rfl,hkc,hkm,hk0,hks⟩:=hn';have a9v:=Hu;obtain⟨o1,fo,rfl, -⟩:=a9v;unfold U5 at hlow;obtain⟨hla,hlk⟩:=hlow;unfold gT at*;have A0:NB W.heap.size (.string ⟨nm.toArray⟩) (.slice o1 ats.length fo) (.slice ok ks.length eT) (W.alloc (.cells #[.string ⟨nm.toArray⟩,.slice o1 ats.length fo,.slice ok ks.length eT] 36)):=dw W #[.string ⟨nm.toArray⟩,.slice o1 ats.length fo,.slice ok ks.length eT] 36;have b0:=bT W (.cells #[.string ⟨nm.toArray⟩,.slice o1 ats.length fo,.slice ok ks.length eT] 36);have HKS:=aj hks;have IH:=aj ih;have HD:=aj hd;have HLK:=aj hlk;have hqD:PD≠DB/\PD≠MB:=⟨fun e=>(by rw[e,hd.ji] at tD;exact absurd tD (by simp)),fun e=>(by rw[e,hd.jk] at tD;exact absurd tD (by simp))⟩;have hqP:PP≠DB/\PP≠MB:=⟨fun e=>(by rw[e,hd.ji] at tP;exact absurd tP (by simp)),fun e=>(by rw[e,hd.jk] at tP;exact absurd tP (by simp))⟩;have lD:=hd.low _ _ hd.ji;have lM:=hd.low _ _ hd.jk;have lPD:=az cD;have lPP:=az cP;simp only at lPD lPP;clear hks ih hd hlk hn;have hsz:gz (.mk nm ats ks)=jK ks+1:=by rw[gz]
 rw[hsz] at hnx;go_enter func40,ntmps40;go_upto_region 1 with fail;obtain⟨V,hV⟩:∃V,W.alloc (.cells #[.string ⟨nm.toArray⟩,.slice o1 ats.length fo,.slice ok ks.length eT] 36)=V:=⟨_,rfl⟩;have sV:V.heap.size=W.heap.size+1:=by rw[<- hV];simp
 obtain⟨N,hN⟩:∃N,W.heap.size=N:=⟨_,rfl⟩;rw[hV] at A0 b0⊢;rw[hN] at A0⊢;have HN:=aj hN;have HV:Hid (V.heap.size=N+1):=(by rw[sV,hN]:V.heap.size=N+1);clear hV hN sV;have x0:=A0.c0;have x1:=A0.c1;have bV:=hb.trans (b0.mono hb.size);have CL:=fun V' (hv:Below V.heap.size V V')=>Oe V' _ ats (Hu.below (bV.trans (hv.mono bV.size))) (by omega)
 go_region_held3 (fun w'=>w'.cell? (ak N 0)=some (.string ⟨nm.toArray⟩)/\w'.cell? (ak N 1)=some (.slice o1 ats.length fo)) (refine⟨?_,?_⟩<;>first|assumption|exact bK _ (by assumption)) (first|(go_at_call 41;refine(CL _ (zu 1 (aG _ _))).mono ?_;rintro e w2 ⟨o2,n2,k2,rfl,yc,b2⟩;have x0:=(b2.cell (az x0)).trans x0;have x1:=(b2.cell (az x1)).trans x1))
 have b2':Below V.heap.size V w2:=⟨b2.os,b2.tape,b2.output,b2.size,b2.block⟩;have XM:w2.ownsRow V.heap.size 100 2 (.slice o2 n2 k2) ats.length (bJ ats):=yc;have E0:=dw w2 #[.string ⟨nm.toArray⟩,.slice o2 n2 k2,aa parent,.slice none 0 0] 102;have bE:=bT w2 (.cells #[.string ⟨nm.toArray⟩,.slice o2 n2 k2,aa parent,.slice none 0 0] 102);have zT:=World.ownsRow.alloc XM (.cells #[.string ⟨nm.toArray⟩,.slice o2 n2 k2,aa parent,.slice none 0 0] 102);have lt2:=XM.lt;obtain⟨U,hU⟩:∃U,w2.alloc (.cells #[.string ⟨nm.toArray⟩,.slice o2 n2 k2,aa parent,.slice none 0 0] 102)=U:=⟨_,rfl⟩;obtain⟨EB,VB⟩:∃EB,w2.heap.size=EB:=⟨_,rfl⟩;rw[hU] at E0 bE zT⊢;rw[VB] at E0⊢;have hVE:V.heap.size<=EB:=by rw[<- VB];exact b2'.size
 have HB2:Hid (∀g,(Value.slice o2 n2 k2).ownBlock=some g->V.heap.size<=g/\g<EB):=(fun g hg=>by rw[<- VB];exact lt2 g hg:∀g,(Value.slice o2 n2 k2).ownBlock=some g->V.heap.size<=g/\g<EB);clear hU VB x0 x1 CL b2 yc XM lt2;have bU:Below V.heap.size V U:=aH b2' bE;clear b2' bE;have bWU:Below W.heap.size W U:=aH b0 bU;have HDU:Hid (aX W0.heap.size tg U DB MB p M nx c):=HD.out.below bWU;have hNE:N+1<=EB:=by have:=HV.out;omega
 have NE:U4 W0.heap.size tg U EB ⟨nm,ats,parent,[]⟩ (.slice o2 n2 k2) (.slice none 0 0):=⟨E0,by have:=HN.out;have:=hb.size;omega,HD.out.new (by have:=HN.out;omega),XJ zT (aJ hb.size b0.size),fun g hg=>by
   have:=HB2.out g hg;have h2:=HN.out;have h3:=HV.out;exact⟨HD.out.new (by omega),by omega⟩,eH _ _ _ _,fun g hg=>by cases hg⟩
 have KE:=Li W0.heap.size tg U DB MB p M nx c EB ⟨nm,ats,parent,[]⟩ (.slice o2 n2 k2) (.slice none 0 0) HDU.out NE ⟨hwp,by simp⟩ (by omega);have AU:=(bU.block N (aI A0)).trans A0;have cDU:=(bWU.cell (az cD)).trans cD;have cPU:=(bWU.cell (az cP)).trans cP;have hND:N≠DB/\N≠MB:=by have:=HN.out;omega
 go_upto_region 3 with(go_at_call 42;refine KE.mono ?_;rintro e w3 ⟨rfl,k3,d3⟩);have A3:=(k3.block N (aI AU) hND.1 hND.2).trans AU;have y2:=NB.c2 A3;have a9j:(ks.length:Int)<=9223372036854775807:=by rw[bq] at hkm;omega
 have K3:K2 DB MB W w3:=(K2.of_below bWU).trans k3;have R0:a1x W0 W tg p M DB MB N EB nx c #[.string ⟨nm.toArray⟩,.slice o1 ats.length fo,.slice ok ks.length eT] nm ats parent (ks.take 0) w3:=by
  refine⟨kS tg nx EB (.slice o2 n2 k2) (.slice none 0 0),fun i=>if i=(nx:Int) then some EB else p i,K3,A3,?_,fun x hx=>?_,fun j hj=>?_,?_,?_⟩
  rotate_left 4
  ·rw[List.take_zero,tL,qU,Wt];exact d3
  ·have h2:=HN.out;rw[xY (by omega) (fun e=>by have:=HB2.out N e;have:=HV.out;omega) (by simp[Value.ownBlock])];exact HD.out.new (by omega)
  ·have h2:=HN.out;exact xY (by omega) (fun e=>by have:=HB2.out x e;have:=HV.out;omega) (by simp[Value.ownBlock])
  ·simp only[if_neg (show¬j=(nx:Int) by omega)]
  ·simp
 have HR0:=aj R0;clear R0 d3 KE NE k3 cDU cPU;go_wp2_with fail
 go_loopw [25] (fun y wr=>∃i:Nat,i<=ks.length/\y=aa i/\a1x W0 W tg p M DB MB N EB nx c #[.string ⟨nm.toArray⟩,.slice o1 ats.length fo,.slice ok ks.length eT] nm ats parent (ks.take i) wr) (fun y _=>ks.length-(intOf y).toNat)
 case atStart=>exact⟨0,aP _,rfl,HR0.out⟩
 case round=>
  obtain⟨i,hi,rfl,sJ,p1,k1,hN1,tN1,ht1,hp1,hpE,hd1⟩:=hrel;by_cases hlt:i<ks.length
  ·have hlt':(i:Int)<(ks.length:Int):=by omega
   obtain⟨kid,hx, -⟩:=drop_at hlt;obtain⟨b',off',d0,d1,d2,rfl,e0,e1,e2,nZ⟩:=HKS.out.at hx;have hmem:kid∈ks:=fV hx;have HI:=IH.out kid hmem;have XN:=Lj HLK.out hmem;have zo:=nZ;obtain⟨vQ,jF,ks'⟩:=kid;unfold nG at zo;obtain⟨rfl, -,⟨o',cap',rfl, -⟩,ok',gK,rfl, -⟩:=zo;have bR:Below W0.heap.size W0 wr:=hb.trans (k1.below lD.1 lM.1 hb.size);have f0:=(bR.cell (az e0)).trans e0;have f1:=(bR.cell (az e1)).trans e1;have f2:=(bR.cell (az e2)).trans e2;unfold gT at f0 f1 f2 nZ;clear e0 e1 e2 hmem;have hsl:=Ll ks (i+1);rw[FX hx,A8,jK,jK] at hsl;generalize akD:Nd.mk vQ jF ks'=kid at hx HI XN nZ hsl;obtain⟨KL,hKL⟩:∃KL,tL (nx+1) (ks.take i)=KL:=⟨_,rfl⟩;have akE:KL.length<=1000000:=by
    rw[<- hKL,QO];have:=QS (ks.take i);omega
   obtain⟨NX,hNX⟩:∃NX,nx+1+jK (ks.take i)=NX:=⟨_,rfl⟩;rw[hNX] at hd1;have a5D:=hd1;rw[hKL] at a5D;obtain⟨va,ov,kv,he⟩:=a5D.tell (Ql M nx _ _) hpE;simp only at he;have c3:=he.c3;have cD1:=k1.cell cD hqD.1 hqD.2;have cP1:=k1.cell cP hqP.1 hqP.2;have s1:=k1.size;have hEd:EB≠DB/\EB≠MB:=by have:=HN.out;omega
   have bU:=bT wr (.cells #[.string ⟨vQ.toArray⟩,.slice o' jF.length cap',.slice ok' ks'.length gK] 36);have u0:=iJ wr #[.string ⟨vQ.toArray⟩,.slice o' jF.length cap',.slice ok' ks'.length gK] 36 0 (.string ⟨vQ.toArray⟩) rfl;have u1:=iJ wr #[.string ⟨vQ.toArray⟩,.slice o' jF.length cap',.slice ok' ks'.length gK] 36 1 (.slice o' jF.length cap') rfl;have u2:=iJ wr #[.string ⟨vQ.toArray⟩,.slice o' jF.length cap',.slice ok' ks'.length gK] 36 2 (.slice ok' ks'.length gK) rfl;have cPU:=bK (.cells #[.string ⟨vQ.toArray⟩,.slice o' jF.length cap',.slice ok' ks'.length gK] 36) cP1;have cDU:=bK (.cells #[.string ⟨vQ.toArray⟩,.slice o' jF.length cap',.slice ok' ks'.length gK] 36) cD1;have c3U:=bK (.cells #[.string ⟨vQ.toArray⟩,.slice o' jF.length cap',.slice ok' ks'.length gK] 36) c3;have ads:=aI he.cells;have adu:wr.heap.size≠EB:=by omega
   have adv:wr.heap.size≠DB/\wr.heap.size≠MB:=by omega
   have HC:=fun V' (hv:Below (wr.alloc (.cells #[.string ⟨vQ.toArray⟩,.slice o' jF.length cap',.slice ok' ks'.length gK] 36)).heap.size (wr.alloc (.cells #[.string ⟨vQ.toArray⟩,.slice o' jF.length cap',.slice ok' ks'.length gK] 36)) V')=>HI _ _ _ nx sJ V' p1 _ NX (c+1+jK (ks.take i)) nZ XN (bR.trans ((aH bU hv).mono bR.size)) ((hv.cell (az cDU)).trans cDU) ((hv.cell (az cPU)).trans cPU) (hd1.below (aH bU hv)) ((ht1 PD lPD).trans tD) ((ht1 PP lPP).trans tP) (WalkArith.wf_i64 (by omega)) (by omega);have HST:Hid (K2 DB MB W wr/\sJ N=none/\(∀x,x<W.heap.size->sJ x=tg x)/\(∀j,j<(nx:Int)->p1 j=p j)/\p1 nx=some EB/\ks[i]? =some kid/\nx+1+jK (ks.take i)=NX/\tL (nx+1) (ks.take i)=KL):=⟨k1,tN1,ht1,hp1,hpE,hx,hNX,hKL⟩;have HD1:=aj hd1;have HEL:=aj he;have HOW:∀w4,K2 DB MB (wr.alloc (.cells #[.string ⟨vQ.toArray⟩,.slice o' jF.length cap',.slice ok' ks'.length gK] 36)) w4->w4.ownsRow W0.heap.size 3 1 (.slice ov KL.length kv) KL.length (aU KL):=fun w4 k4=>bS he.kids fun g hg=>by
    have h1:=he.iO g hg;have h2:=(he.kids.lt g hg).2;exact(k4.block g (by have:=bU.size;omega) (fun e=>by rw[e,hd1.ji] at h1;cases h1) (fun e=>by rw[e,hd1.jk] at h1;cases h1)).trans (bU.block g h2)
   clear hd1 a5D he k1 tN1 ht1 hp1 hpE hx hNX hKL HI nZ XN c3 cP1 cD1 cDU;obtain⟨i0,hi0,hz0,hz1,hz2⟩:=info_parts sI;go_upto_region 6 with fail;obtain⟨U1,hU1⟩:∃U,wr.alloc (.cells #[.string ⟨vQ.toArray⟩,.slice o' jF.length cap',.slice ok' ks'.length gK] 36)=U:=⟨_,rfl⟩;obtain⟨KB,hKB⟩:∃KB,wr.heap.size=KB:=⟨_,rfl⟩;rw[hU1] at bU u0 u1 u2 cPU c3U HC HOW⊢;rw[hKB] at u0 u1 u2 adu adv⊢;have hBU:W0.heap.size<=U1.heap.size:=by have:=bU.size;have:=bR.size;omega
   clear hU1
   go_region_law (first|(refine step_append_lies _ rfl (.tmp 33) (.tmp 38) 22 rfl W0.heap.size 3 i0 (aa 0) 1 8 underlying22 hi0 hz0 hz1 hz2 rfl (by decide) (.slice ov KL.length kv) KL.length (aU KL) rfl (World.ownsRow.alloc Wq _) ⟨w4.heap.size,0,none⟩ 1 1 [aa NX] rfl rfl (World.news_of_block H04) (fun u hu=>by simp at hu;rcases hu with rfl;rfl) (by decide) (by rw[bq];omega) (by omega) (by simp;omega) _ rfl ?_;intro g7 tK w7 kN jS NP a4M;have e7:=E7 jS;have e0:=aD e7 3 _ rfl;have ef:=aR e7)|(go_simp;go_wp2_with(first|(go_at_call 40;refine(HC _ (zu 1 (aG _ _))).mono ?_;rintro e w4 ⟨rfl,k4,vR,p2,ht2,hp2,hd2⟩;have c34:=K2.cell k4 (by exact c3U) hEd.1 hEd.2;have akH:=fun o=>bK o c34;have Wq:=HOW _ (by exact K2.Hy k4);have H04:=dw w4 #[aa NX] 3;have l4:W0.heap.size<=w4.heap.size:=(aJ hBU k4.size);have E7:=fun{o:Obj} {w7:ag}=>U6 (o:=o) (w7:=w7) HEL.out bU (K2.Hy k4) hEd))))
   all_goals(
    have FIN:a1x W0 W tg p M DB MB N EB nx c #[.string ⟨nm.toArray⟩,.slice o1 ats.length fo,.slice (some ⟨b',off',none⟩) ks.length eT] nm ats parent (ks.take (i+1)) (w7.setCell ⟨EB,3,none⟩ (.slice (some ⟨g7,0,none⟩) (KL.length+1) tK)):=by
     obtain⟨k1,tN1,ht1,hp1,hpE,hx,hNX,hKL⟩:=HST.out;have hd1:=HD1.out;have he:=HEL.out;clear HC HOW;subst hNX;subst hKL;exact XK hx k1 hN1 tN1 ht1 hp1 hpE hd1 he bU (K2.Hy k4) ht2 hp2 HD.out hd2 kN jS (NP.imp (fun h=>by rw[h];rfl) (fun h=>by rw[h];rfl))
    have a5E:=aj FIN;clear FIN kN jS hd2 ht2 hp2 k4 HC HOW;go_wp2_with fail
    go_roundw
    case rel=>exact⟨i+1,by omega,by go_num,a5E.out⟩
    case measure=>simp[intOf];omega)
  ·obtain rfl:i=ks.length:=by omega
   have hge:¬(ks.length:Int)<(ks.length:Int):=by omega
   rw[List.take_length] at hd1;have HD1:Hid (aX W0.heap.size sJ wr DB MB p1 (iU M nx (qo nx parent (.mk nm ats ks))) (nx+gz (.mk nm ats ks)) (c+gz (.mk nm ats ks))):=(by
    rw[qo,hsz,show nx+(jK ks+1)=nx+1+jK ks from by omega,show c+(jK ks+1)=c+1+jK ks from by omega];exact hd1:aX W0.heap.size sJ wr DB MB p1 (iU M nx (qo nx parent (.mk nm ats ks))) (nx+gz (.mk nm ats ks)) (c+gz (.mk nm ats ks)))
   clear hd1;go_wp2_with fail;go_ret;exact⟨rfl,k1,sJ,ht1,p1,hp1,HD1.out⟩
end
section
open Go.RowKit
set_option maxRecDepth 20000
def Oh (DB MB:Nat):bP:=fun x=>if x=DB then some .doc else if x=MB then some .map else none
theorem aX.made {B:Nat}{w:ag}{DB MB:Nat}(hd:w.heap[DB]? =some (.cells #[.map (some MB),aa 0] 95))(hm:gq prog 3 w MB (fun _=>none) 0 0)(hne:MB≠DB)(h1:B<=DB)(h2:B<=MB):aX B (Oh DB MB) w DB MB (fun _=>none) (fun _=>none) 0 0 where
 doc:=hd
 ji:=by unfold Oh;rw[if_pos rfl]
 map:=hm
 jk:=by unfold Oh;rw[if_neg hne,if_pos rfl]
 els:=fun _ _ h=>by cases h
 non:=fun _ _=>rfl
 low:=fun b t ht=>by
  unfold Oh at ht;split at ht
  ·rename_i e;subst e;exact⟨h1,aI hd⟩
  ·split at ht
   ·rename_i e;subst e;exact⟨h2,hm.lt⟩
   ·cases ht
 dom:=fun _ _ h=>by cases h
 wf:=fun _ _ h=>by cases h
 few:=by omega
 Nh:=fun b i h=>by
  unfold Oh at h;split at h
  ·simp at h
  ·split at h<;>simp at h
def adw (E:Nat->Addr)(B:Nat)(n:Nd)(e:Ending)(w:ag):Prop:=
 ((ig n 1 0).1≠0/\∃pb,e=.returned (.tuple #[.pointer none,.iface 90 (ay pb)])/\w.cell? (ak pb 0)=some (aa (ig n 1 0).2)/\w.cell? (ak pb 1)=some (.iface 401 (.pointer (some (E (ig n 1 0).1)))))\/
 ((ig n 1 0).1=0/\∃DB MB tg p,e=.returned (.tuple #[ay DB,.nilIface])/\aX B tg w DB MB p (iU (fun _=>none) 0 (qo 0 (-1) n)) (gz n) (gz n))
attribute [local go_sem] qy
theorem a1A (E:Nat->Addr)(n:Nd)(c0 c1 c2:ah)(W:ag)(hE:CE E W)(hn:nG W c0 c1 c2 n)(hs:gz n<=1000000):
  au 19 #[.agg #[c0,c1,c2]] W fun e w'=>Below W.heap.size W w'/\adw E W.heap.size n e w':=by
 obtain⟨sa,oa,na,ka,Ck,na',ka',rfl,rfl,rfl⟩:∃(sa:aC) (oa:Option Addr) (na ka:Nat) (Ck:Option Addr) (na' ka':Nat),c0=.string sa/\c1=.slice oa na ka/\c2=.slice Ck na' ka':=by
  obtain⟨nm,ats,ks⟩:=n;unfold nG at hn;obtain⟨rfl, -,⟨o,cap,rfl, -⟩,ok,eT,rfl, -⟩:=hn;exact⟨_,_,_,_,_,_,_,rfl,rfl,rfl⟩
 have A0:NB W.heap.size (.string sa) (.slice oa na ka) (.slice Ck na' ka') (W.alloc (.cells #[.string sa,.slice oa na ka,.slice Ck na' ka'] 36)):=dw W #[.string sa,.slice oa na ka,.slice Ck na' ka'] 36;have b0:=bT W (.cells #[.string sa,.slice oa na ka,.slice Ck na' ka'] 36);go_enter func19,ntmps19;go_upto_region 1 with fail;obtain⟨V,hV⟩:∃V,W.alloc (.cells #[.string sa,.slice oa na ka,.slice Ck na' ka'] 36)=V:=⟨_,rfl⟩;obtain⟨N,hN⟩:∃N,W.heap.size=N:=⟨_,rfl⟩;rw[hV] at A0 b0⊢;rw[hN] at A0⊢;have HN:=aj hN;clear hV hN;have x0:=A0.c0;have x1:=A0.c1;have x2:=A0.c2;have CK:=C9 E n _ _ _ V (hE.below b0) (nG.below b0 n hn);by_cases hc:(ig n 1 0).1=0
 ·have CK1:=CK.mono (R':=fun e w'=>e=.returned .nilIface/\Below V.heap.size V w') (fun e w' h=>by
   refine⟨?_,h.1⟩;rcases h.2 with h2|h2
   ·exact h2.2
   ·exact absurd hc h2.1)
  have HC:=aj hc;clear CK hc;go_upto_region 4 with(go_at_call 18;refine CK1.mono ?_;rintro e w1 ⟨rfl,b1⟩);have B1:=aH b0 b1;have hsz1:=B1.size;have hmm:=@run_makeMap prog;go_upto_region 5 with fail;have U0:∃U MB,((w1.alloc (.map #[] 0)).alloc (.cells #[.map (some w1.heap.size),aa 0] 95)).alloc (.cells #[.pointer (some ⟨w1.heap.size+1,0,none⟩)] 55)=U/\w1.heap.size=MB/\U.heap[MB+1]? =some (.cells #[.map (some MB),aa 0] 95)/\gq prog 3 U MB (fun _=>none) 0 0/\U.cell? (ak (MB+1+1) 0)=some (.pointer (some ⟨MB+1,0,none⟩))/\U.heap.size=MB+1+1+1/\Below w1.heap.size w1 U:=by
   refine⟨_,_,rfl,rfl,?_,?_,?_,by simp,?_⟩
   ·have h1:=dw (w1.alloc (.map #[] 0)) #[.map (some w1.heap.size),aa 0] 95;have h2:=(bT ((w1.alloc (.map #[] 0)).alloc (.cells #[.map (some w1.heap.size),aa 0] 95)) (.cells #[.pointer (some ⟨w1.heap.size+1,0,none⟩)] 55)).block _ (aI h1);simp only[dB] at h1 h2;exact h2.trans h1
   ·exact((gq.made w1 prog 3).kept (World.grownBy_alloc _ _ none) (by simp)).kept (World.grownBy_alloc _ _ none) (by simp)
   ·have h1:=iJ ((w1.alloc (.map #[] 0)).alloc (.cells #[.map (some w1.heap.size),aa 0] 95)) #[.pointer (some ⟨w1.heap.size+1,0,none⟩)] 55 0 _ rfl;simp only[dB] at h1;exact h1
   ·exact aH (aH (bT _ _) (bT _ _)) (bT _ _)
  obtain⟨U,MB,hU,hMB,dU,pU,cDU,sU,bU⟩:=U0;rw[hU,hMB];have hMN:N<MB:=by have:=HN.out;have h2:=aI A0;have:=b1.size;omega
  clear hU;have BU:=aH B1 bU;have F0:=iJ U #[.func (.func 40) #[] #[.pointer (some ⟨MB+1+1,0,none⟩),ay U.heap.size]] 96 0 (.func (.func 40) #[] #[.pointer (some ⟨MB+1+1,0,none⟩),ay U.heap.size]) rfl;have bF:=bT U (.cells #[.func (.func 40) #[] #[.pointer (some ⟨MB+1+1,0,none⟩),ay U.heap.size]] 96);have AU:=((aH b1 bU).block N (aI A0)).trans A0;have D0:=aX.made (B:=W.heap.size) dU pU (by omega) (by have:=HN.out;omega) (by have:=HN.out;omega);go_upto_region 7 with fail;obtain⟨X,hX⟩:∃X,U.alloc (.cells #[.func (.func 40) #[] #[.pointer (some ⟨MB+1+1,0,none⟩),ay U.heap.size]] 96)=X:=⟨_,rfl⟩;obtain⟨PP,hPQ⟩:∃PP,MB+1+1+1=PP:=⟨_,rfl⟩;have GD:U.heap.size=PP:=sU.trans hPQ;rw[GD] at hX F0 bF;rw[hPQ,hX];rw[hX] at F0 bF;have D1:=D0.turn (w':=X) (fun g t ht=>bF.block g (by rw[<- GD];exact(D0.low g t ht).2)) bF.size;have bX:Below U.heap.size U X:=by rw[GD];exact bF
  have BX:=aH BU bX;have AX:=(bX.block N (aI AU)).trans AU;have cDX:=(bX.cell (az cDU)).trans cDU;have HP:=a1y W (MB+1+1) PP (MB+1) MB n _ _ _ (-1) _ X _ _ 0 0 hn (QM n 1 0 HC.out) BX cDX F0 D1 (by unfold Oh;rw[if_neg (by omega),if_neg (by omega)]) (by unfold Oh;rw[if_neg (by omega),if_neg (by omega)]) (by decide) (by omega);rw[Nat.zero_add] at HP;have x0:=NB.c0 AX;have x1:=NB.c1 AX;have x2:=NB.c2 AX;have adx:W.heap.size<=MB:=by have:=HN.out;omega
  clear hX D0 D1 AU;go_wp2_with(go_at_call 40;refine HP.mono ?_;rintro e w5 ⟨rfl,k5,tg5,p5, -, -,d5⟩;have cD5:=k5.cell cDX (by omega) (by omega))
  go_ret2
  exact⟨BX.trans ((k5.below (m:=W.heap.size) (by omega) adx BX.size)),.inr ⟨HC.out,MB+1,MB,tg5,p5,rfl,d5⟩⟩
 ·have CK1:=CK.mono (R':=fun e w'=>(∃pb,e=.returned (.iface 90 (ay pb))/\w'.cell? (ak pb 0)=some (aa (ig n 1 0).2)/\w'.cell? (ak pb 1)=some (.iface 401 (.pointer (some (E (ig n 1 0).1)))))/\Below V.heap.size V w') (fun e w' h=>by
   refine⟨?_,h.1⟩;rcases h.2 with h2|⟨-,pb, -,h3⟩
   ·exact absurd h2.1 hc
   ·exact⟨pb,h3⟩)
  clear CK;go_wp2_with(go_at_call 18;refine CK1.mono ?_;rintro e w1 ⟨⟨pb,rfl,h3,h4⟩,b1⟩)
  go_ret2
  exact⟨aH b0 b1,.inl ⟨hc,pb,rfl,h3,h4⟩⟩
end
section
open Go.RowKit
set_option maxRecDepth 20000
theorem QT {w:ag}{B k n:Nat}{e:TypeId}{v:ah}{xs:List ah}(h:w.ownsRow B e k v n xs):n<=9223372036854775807:=by
 obtain⟨o,cap, -,h1,h2, -⟩:=dL h;rw[bq] at h2;omega
theorem Hz {α β:Type}(g:α->List β)(l:List α)(k:Nat):((l.take k).flatMap g).length<=(l.flatMap g).length:=by
 have h:=congrArg (fun x=>(List.flatMap g x).length) (List.take_append_drop k l);simp only[List.flatMap_append,List.length_append] at h;omega
theorem FY {B:Nat}{tg:bP}{Wd:ag}{DB MB:Nat}{p:Int->Option Nat}{M:Dm}{nx c:Nat}(hd:aX B tg Wd DB MB p M nx c)(G:Nat)(hcf:∀(av:Array ah) (w:ag),Sem.run prog (callFunc G av) w=.ok (.enter G av) w)(lb:Array ah)(I:List (Int×Int)->ag->Prop)(hI:∀done W,I done W->(∀b t,tg b=some t->W.heap[b]? =Wd.heap[b]?)/\Wd.heap.size<=W.heap.size)
  (hcall:∀done W i d,I done W->done.length<1000000->au G (#[aa i,aa d]++lb) W fun e w'=>e=.returned (.tuple #[])/\I (done++[(i,d)]) w'):
  ∀(f:Nat) (n d:Int) (done:List (Int×Int)) (W:ag),Dp M f n->dR n->0<=d->d+f<=1000000->done.length+(pre M f n d).length<=1000000->I done W->
  au 152 #[ay DB,aa n,aa d,.func (.func G) #[] lb] W fun e w'=>e=.returned (.tuple #[])/\I (done++pre M f n d) w'
 |0,_,_,_,_,hp,_,_,_,_,_=>hp.elim
 |f+1,n,d,done,W,hp,hn,hd0,hdf,hlen,hi=>by
  have IH:=FY hd G hcf lb I hI hcall f;have hs:=hI done W hi;have hw:=hd.turn hs.1 hs.2;have d0:=hw.d0;cases hm:M n with
  |none=>
   have hpn:=hd.non n hm;have hpre:pre M (f+1) n d=[]:=by rw[pre,hm]
   rw[hpre,List.append_nil];go_enter func152,ntmps152;go_wp2_with(at_lookup;refine lC _ rfl _ _ 93 rfl underlying3 underlying93 (eD _) rfl hw.map n rfl hn hpn ?_);refine bodyPost_ret (v:=.tuple #[]) (by simp[results,results152]) rfl ⟨rfl,hi⟩
  |some e=>
   have hpre:pre M (f+1) n d=(n,d)::e.kids.flatMap (fun k=>pre M f k (d+1)):=by rw[pre,hm]
   rw[hpre] at hlen⊢;rw[List.length_cons] at hlen;obtain⟨b,va,vk,hpn,he⟩:=hd.els n e hm;have he1:=he.turn (kR:=tg) (w':=W) fun g t ht _=>⟨ht,hs.1 g t ht⟩;have HCL:=hcall done W n d hi (by omega);obtain⟨ov,kv,hvk⟩:=aM he.kids;have HKD:Hid (∀k∈e.kids,Dp M f k/\dR k):=(fun k hk=>⟨hp e hm k hk,(hd.wf n e hm).2 k hk⟩:∀k∈e.kids,Dp M f k/\dR k);have HHI:=aj hI;have HIH:=aj IH;have hkl:e.kids.length<=9223372036854775807:=QT he.kids;clear hI IH hcall hi hp;go_enter func152,ntmps152;go_upto_region 3 with(first|(at_lookup;refine fq _ rfl _ _ 93 rfl underlying3 underlying93 (eD _) rfl hw.map n rfl hn b hpn ?_)|(refine HCL.mono ?_;rintro r w1 ⟨rfl,hi1⟩));subst hvk;have x3:=World.cell?_of_block ((HHI.out _ _ hi1).1 b _ he.tag)|>.trans he.c3
   have hd1:d<=999999:=by omega
   have HHE:=aj he;have HI1:=aj hi1;clear he he1 hi1 hw d0 hs HCL;go_wp2_with fail
   go_loopw [32] (fun y wr=>∃k:Nat,k<=e.kids.length/\y=aa k/\I (done++((n,d)::(e.kids.take k).flatMap (fun i=>pre M f i (d+1)))) wr) (fun y _=>e.kids.length-(intOf y).toNat)
   case atStart=>exact⟨0,aP _,rfl,HI1.out⟩
   case round=>
    obtain⟨k,hk,rfl,hi2⟩:=hrel;by_cases hlt:k<e.kids.length
    ·have hlt':(k:Int)<(e.kids.length:Int):=by omega
     obtain⟨kid,hx, -⟩:=drop_at hlt;obtain⟨g,hg,hc⟩:=dF HHE.out.kids k _ (og hx);have hov:ov=some ⟨g,0,none⟩:=by
      obtain⟨o',cap',h1, -, -, -,h2⟩:=dL HHE.out.kids;cases h1;exact h2 g hg
     subst hov;have hcw:=World.cell?_of_block ((HHI.out _ _ hi2).1 g _ (HHE.out.iO g hg))|>.trans hc
     have hkd:=HKD.out kid (fV hx);have htk:(e.kids.take (k+1)).flatMap (fun i=>pre M f i (d+1))=(e.kids.take k).flatMap (fun i=>pre M f i (d+1))++pre M f kid (d+1):=by
      rw[List.take_add_one,hx];simp
     have hle:=Hz (fun i=>pre M f i (d+1)) e.kids (k+1);rw[htk,List.length_append] at hle;have HC:=HIH.out kid (d+1) _ wr hkd.1 hkd.2 (by omega) (by omega) (by rw[List.length_append,List.length_cons];omega) hi2;rw[List.append_assoc,List.cons_append,<- htk] at HC;clear hi2 hc hg hx htk hle;go_wp2_with(go_at_call 152;refine HC.mono ?_;rintro r w2 ⟨rfl,hi3⟩)
     go_roundw
     case rel=>exact⟨k+1,by omega,by go_num,hi3⟩
     case measure=>simp[intOf];omega
    ·obtain rfl:k=e.kids.length:=by omega
     have hge:¬(e.kids.length:Int)<(e.kids.length:Int):=by omega
     rw[List.take_length] at hi2;go_wp2_with fail;refine bodyPost_end (results_none rfl _ _ _) rfl ⟨rfl,hi2⟩
end
end Go.Proofs.YtecneflbncjhpaaGreatDoor

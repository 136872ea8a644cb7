import Derived.Test.YtbkjmamcnflncaaGreatDoorQs12
namespace Go.Proofs.YtbkjmamcnflncaaGreatDoor
open Go.Proofs.Tryz
set_option maxHeartbeats 4000000
variable{d:dm}
section
open Go.RowKit Go.Maps
set_option maxRecDepth 20000
theorem iK.run_get {P:Program}{K T E:TypeId}{w:ah}{B n c:Nat}{p:Int->Option Nat}(h:iK P K w B p n c)(d:P.underlying K=some (.int .i64))(f:P.underlying T=some (.map K E))(g:(zeroValue E).run P w=.ok (.pointer none) w){k:Int}{b:Nat}(i:(Lit.int .i64 k).wf=true)(j:p k=some b):
  (Instr.lookup T (.map (some B)) (.int .i64 k) false).run P w=.ok (aI b) w:=by
 obtain⟨D,l, -,m⟩:=h;obtain⟨v,o,a,e⟩:=l.lookup (zd:=.lit (.int .i64 (-1))) (int_keyed d) f g (zp:=[]) rfl (keyOf_int_mk d i);rw[(m k).2 b j] at e;rw[a,zV e]
theorem iK.a6D {P:Program}{K T E:TypeId}{w:ah}{B n c:Nat}{p:Int->Option Nat}(h:iK P K w B p n c)(b:P.underlying K=some (.int .i64))(e:P.underlying T=some (.map K E))(f:(zeroValue E).run P w=.ok (.pointer none) w){k:Int}(g:(Lit.int .i64 k).wf=true)(l:p k=none):
  (Instr.lookup T (.map (some B)) (.int .i64 k) false).run P w=.ok (.pointer none) w:=by
 obtain⟨D,i, -,m⟩:=h;obtain⟨v,o,a,d⟩:=i.lookup (zd:=.lit (.int .i64 (-1))) (int_keyed b) e f (zp:=[]) rfl (keyOf_int_mk b g);have j:Maps.has D (.int .i64 k)=false:=by grind
 rw[atKey_of_not_has j] at d;rw[a,Bp d]
abbrev woL (L:List Int)(n:Int):List Int:=L.filter (λx=> !decide (x=n))
theorem bT.kids {B:Nat}{w w7:ah}{DB E:Nat}{p:Int->Option Nat}{M:Dm}{nx c j:Nat}{i:Int}{e:gP}{va vk v7:au}{L:List Int}(h:bT B d w DB E p M nx c)(hi:M i=some e)(hp:p i=some j)(he:AB B d w i j e va vk)(H:∀k∈L,dV k)
  (F:w7.ownsRow B 3 1 v7 L.length (bO L)) (r:w.grownBy w7 vk.ownBlock) (I:v7.ownBlock=vk.ownBlock\/∀g,v7.ownBlock=some g->w.heap.size<=g):
  bT B (yM d i v7) (w7.setCell ⟨j,3,none⟩ v7) DB E p (dY M i ⟨e.name,e.ats,e.parent,L⟩) nx c/\(∀x,x<w.heap.size->yM d i v7 x=d x)/\KT d w (w7.setCell ⟨j,3,none⟩ v7):=by
 have s:=aY he.cells;have K:=r.size;have f:=(aQ j w7).setCell (p:=⟨j,3,none⟩) ay v7;have A:vk.ownBlock≠some j:=λa=>by have b:=he.jG j a;rw[he.tag] at b;cases b
 have C:v7.ownBlock≠some j:=λa=>by grind
 have u:∀x,x<w.heap.size->vk.ownBlock≠some x->w7.heap[x]? =w.heap[x]? :=λx n D=>r.block x n (λa=>D a.symm);have y:∀x,x<w.heap.size->yM d i v7 x=d x:=λx n=>by
  unfold yM;split
  .rename_i b;rcases I with q|q
   .exact(he.jG x (q.symm.trans b)).symm
   .grind
  .rfl
 have o:∀x,x<w.heap.size->x≠j->vk.ownBlock≠some x->(w7.setCell ⟨j,3,none⟩ v7).heap[x]? =w.heap[x]? :=λx n b q=>(bY _ _ _ x b).trans (u x n q);have v:w.heap.size<=(w7.setCell ⟨j,3,none⟩ v7).heap.size:=by have:=f.size;omega
 refine⟨h.put hi hp (va:=va) (vk:=v7) ⟨?_,?_,?_,?_,?_,?_⟩ v ⟨(h.wf i e hi).1,H⟩ y ?_ ?_ ?_,y,⟨f.os.trans r.os,f.tape.trans r.tape,f.output.trans r.output,v,λx n z=>?_⟩⟩
 .have b:=(u j s A).trans he.cells;rw[heap_setCell_same w7 j 3 _ _ _ b];rfl
 .rw[y j s];exact he.tag
 .exact di he.ats λg l=>o g (he.ats.lt g l).2 (λa=>by have b:=he.nO g l;rw[a,he.tag] at b;cases b) (λa=>by have b:=he.nO g l;rw[he.jG g a] at b;cases b)
 .intro g l;rw[y g (he.ats.lt g l).2];exact he.nO g l
 .exact di (w':=w7.setCell ⟨j,3,none⟩ v7) F λg l=>bY _ _ _ g (λa=>C (by rw[l,a]))
 .intro g l;unfold yM;rw[if_pos l]
 .intro x t m;unfold yM at m;split at m
  .rename_i b;have q:=F.lt x b;have:=f.size;omega
  .have:=h.low x t m;omega
 .intro x n;unfold yM;split
  .grind
  .exact .inl (h.new n)
 .intro x t m b q J;exact o x (h.low x t m).2 (λa=>by rw[a,he.tag] at m;cases m;exact b rfl) (λa=>by rw[he.jG x a] at m;cases m;exact J rfl)
 .exact o x n (λa=>by rw[a,he.tag] at z;cases z) (λa=>by rw[he.jG x a] at z;cases z)
theorem Dl {B:Nat}{W:ah}{DB z:Nat}{p:Int->Option Nat}{M:Dm}{nx c:Nat}(f:bT B d W DB z p M nx c)(n:Int)(e q:gP)(C:M n=some e)(D:M e.parent=some q)(E:q.kids≠[]):
  aJ 206 #[aI DB,.int .i64 n] W λr w'=>r=ax (.tuple #[])/\KT d W w'/\∃mG,(∀x,x<W.heap.size->mG x=d x)/\bT B mG w' DB z p (dY M e.parent ⟨q.name,q.ats,q.parent,woL q.kids n⟩) nx c:=by
 have F:=f.i64 C;have H:=(f.wf n e C).1;obtain⟨EB,va,vk,I,Z⟩:=f.els n e C;obtain⟨h,J,qk,m,a⟩:=f.els e.parent q D;obtain⟨o,s,rfl⟩:=bg a.kids;have l:=dI W (ai #[.int .i64 n] 3);have K:=jZ W #[.int .i64 n] 3 0 _ rfl;have L:d W.heap.size=none:=f.new ay;obtain⟨V,N⟩:∃V,W.alloc (ai #[.int .i64 n] 3)=V:=⟨_,rfl⟩;rw[N] at l K;have A:=f.below l;have O:=Z.turn (mG:=d) (w':=V) λg t i _=>⟨i,l.block g (f.low g t i).2⟩;have b:=a.turn (mG:=d) (w':=V) λg t i _=>⟨i,l.block g (f.low g t i).2⟩;have x0:=A.d0;have x2:=O.c2;have y3:=b.c3;have g1:=iK.run_get (w:=V.drew) (T:=138) (A.map.same rfl) underlying3 underlying138 (cO _) F I;have g2:=iK.run_get (w:=V.drew) (T:=138) (A.map.same rfl) underlying3 underlying138 (cO _) H m;obtain⟨PN,j⟩:∃PN,W.heap.size=PN:=⟨_,rfl⟩;rw[j] at K L;have P:(Value.slice o q.kids.length s).ownBlock≠some PN:=λu=>by have:=a.jG PN u;rw[L] at this;cases this
 have a4:h≠PN:=λu=>by have:=a.tag;rw[u,L] at this;cases this
 have DF:=aj7 (W:=V.drew) (n:=n) (PN:=PN) (di b.kids (λ_ _=>rfl)) E K P;go_enter func206,ntmps206;go_upto_region 1 with fail
 try rw[N]
 try rw[j]
 clear N j;have Q:Hid (AB B d V.drew e.parent h q J (.slice o q.kids.length s)):=(b.turn λg t i _=>⟨i,rfl⟩:AB B d V.drew e.parent h q J (.slice o q.kids.length s));have R:Hid (bT B d V.drew DB z p M nx c):=(A.turn (λ_ _ _=>rfl) ay:bT B d V.drew DB z p M nx c);have S:some h≠(Value.slice o q.kids.length s).ownBlock:=λu=>by have X:=a.jG h u.symm;rw[a.tag] at X;cases X
 have lQ:h<V.heap.size:=aY b.cells;have cQ:V.drew.heap[h]? =some (ai #[.string ⟨q.name.toArray⟩,J,.int .i64 q.parent,.slice o q.kids.length s] 147):=b.cells;go_region;go_wp2_with(go_at_call 100;refine DF.mono ?_;rintro r w5 ⟨o5,k5,rfl,vv,U,v⟩;have Y:=(v.block h lQ S).trans cQ;have c5:=aO Y 3 _ rfl;have f5:=bq Y);obtain⟨r1,r2,y⟩:=R.out.kids D m Q.out (λk E=>(f.wf e.parent q D).2 k (lU.1 E).1) vv v (.inl U);refine bodyPost_end (results_none rfl _ _ _) rfl ⟨rfl,?_,_,λx hx=>?_,r1⟩
 .exact KT.trans (KT.of_below l) (mG:=d) (⟨y.os,y.tape,y.output,y.size,y.block⟩) (λ_ _=>rfl)
 .exact r2 x (dP hx l.size)
def su (M:Dm)(l:List Int):Dm:=λi=>if i∈l then none else M i
theorem YH (M:Dm)(l:List Int)(k:Int):su M (l++[k])=NL (su M l) k:=by
 funext i;unfold su NL;grind
theorem bT.cut {B:Nat}{w w':ah}{DB j:Nat}{p:Int->Option Nat}{M:Dm}{nx c:Nat}{k:Int}(h:bT B d w DB j p M nx c)(q:iK prog 3 w' j (λi=>if i=k then none else p i) nx (c-1))(l:w.mapTurned w' j):bT B d w' DB j (λi=>if i=k then none else p i) (NL M k) nx (c-1) where
 doc:=(l.grown.block DB (aY h.doc) (λe=>h.ne (fF e).symm)).trans h.doc
 mH:=h.mH
 map:=q
 mJ:=h.mJ
 els:=λi e a=>by
  unfold NL at a;by_cases f:i=k
  .grind
  .rw[if_neg f] at a;obtain⟨b,r,s,u,v⟩:=h.els i e a;refine⟨b,r,s,by simp only[if_neg f];exact u,v.turn λg t m z=>⟨m,l.grown.block g (h.low g t m).2 (λx=>?_)⟩⟩;have y:=fF x;rw[y,h.mJ] at m;grind
 non:=λi f=>by
  unfold NL at f;by_cases n:i=k
  .grind
  .rw[if_neg n] at f;simp only[if_neg n];exact h.non i f
 low:=λb t o=>⟨(h.low b t o).1,dP (h.low b t o).2 l.grown.size⟩
 dom:=λi e a=>by
  unfold NL at a;split at a
  .cases a
  .exact h.dom i e a
 wf:=λi e a=>by
  unfold NL at a;split at a
  .cases a
  .exact h.wf i e a
 few:=h.few
 We:=h.We
end
open Go.RowKit
theorem YI (l:List Int):∀u∈bO l,u.oneCell'=true:=λu a=>by
 unfold bO at a;obtain⟨k,_,rfl⟩:=gu.1 a;rfl
theorem a2b {B:Nat}(w:ah)(v:au)(L:List Int)(h:w.ownsRow B 3 1 v L.length (bO L))(Q:L.length<=1000000):
  aJ 89 #[v] w λe w'=>∃o k,e=ax (aj o L.length k)/\w'.ownsRow w.heap.size 3 1 (aj o L.length k) L.length (bO L)/\aD w w':=by
 have x:∀(w:ah) (a:Option Addr) (n c i l:Nat),(binOp .eql 35 (aj a n c) (aj none i l)).run prog w=.ok (.bool a.isNone) w:=λw a n c i l=>Lib.run_eql_slice_nil w _ _ a n c i l underlying35;obtain⟨y,z,m,p,q⟩:=info_parts zY;have d:∀g b,v=aj (some ⟨g,0,none⟩) L.length b->∀j u,(bO L)[j]? =some u->w.cell? ((⟨g,0,none⟩:Addr).add j)=some u:=λg b A j u C=>by
  obtain⟨R,t,D⟩:=dO h j u C;rw[A] at t;have f:(⟨g,0,none⟩:Addr).add j=⟨g,0+j,none⟩:=by unfold Addr.add;split<;>simp_all
  cases t;rw[f,fZ];exact D
 rcases h.2 with⟨rfl,E⟩|⟨g,b,F,rfl,_,_,S,T,_,_⟩
 .have H:L=[]:=lS.1 E;subst H;go_enter func89,ntmps89;go_wp2_with fail;go_ret;exact⟨none,0,rfl,gp _ _ _ _,aQ _ _⟩
 .have I:Hid (∀j u,(bO L)[j]? =some u->w.cell? ((⟨g,0,none⟩:Addr).add j)=some u):=d g b rfl;have J:Hid (∀u∈bO L,u.oneCell'=true):=YI L;clear d;go_enter func89,ntmps89;go_wp2_with(at_builtin;refine wpList_append_own _ rfl _ _ 35 rfl w.heap.size 3 y (ag 0) 1 8 underlying35 z m p q rfl aC _ _ _ rfl (World.ownsRow_made w #[] 0 ay (bf _) aG) ⟨g,0,none⟩ L.length b (bO L) rfl (by rw[pO,Nat.mul_one]) (λj u K=>dQ _ (I.out j u K)) J.out (by rw[dh];omega) aa aG ?_;intro U V r M _;obtain⟨N,O,rfl⟩:=bg r);go_ret;rw[fZ,gF] at r;exact⟨N,O,rfl,r,((aQ _ w).alloc ay _).grown M aG (λk P=>by have s:some w.heap.size=some k:=P;cases s;exact Nat.le_refl _)⟩
def qG (M:Dm)(n:Int):List Int:=match M n with|none=>[]|some e=>e.kids
theorem Qb {B:Nat}{w:ah}{DB q:Nat}{p:Int->Option Nat}{M:Dm}{nx c:Nat}(h:bT B d w DB q p M nx c)(n:Int)(m:dV n)(a:(qG M n).length<=1000000):
  aJ 47 #[aI DB,ag n] w λr w'=>∃o k,r=ax (aj o (qG M n).length k)/\w'.ownsRow w.heap.size 3 1 (aj o (qG M n).length k) (qG M n).length (bO (qG M n))/\aD w w':=by
 have v:=h.d0;unfold qG at a⊢;cases f:M n with
 |none=>
  have g:=h.non n f;go_enter func47,ntmps47;go_wp2_with(at_lookup;refine jW _ rfl _ _ 138 rfl underlying3 underlying138 (cO _) rfl h.map n rfl m g ?_);go_ret;exact⟨none,0,rfl,gp _ _ _ _,aQ _ _⟩
 |some e=>
  rw[f] at a;obtain⟨b,x,y,g,i⟩:=h.els n e f;have z:=i.c3;obtain⟨A,C,rfl⟩:=bg i.kids;have s:=a2b w _ e.kids i.kids a;go_enter func47,ntmps47;go_wp2_with(first|(at_lookup;refine dA _ rfl _ _ 138 rfl underlying3 underlying138 (cO _) rfl h.map n rfl m b g ?_)|(go_at_call 89;refine s.mono ?_;rintro D E ⟨t,u,rfl,j,l⟩));go_ret;exact⟨t,u,rfl,j,l⟩
theorem Wy {B:Nat}{W:ah}{DB g:Nat}{p:Int->Option Nat}{M:Dm}{nx c:Nat}(h:bT B d W DB g p M nx c)(f:Nat)(i:f<=900000)(hp:Dp M f 0)(j:(dM M f 0).length<=1000000):
  aJ 101 #[aI DB] W λe w'=>∃o k,e=ax (aj o (dM M f 0).length k)/\aD W w'/\w'.ownsRow (W.heap.size+1) 3 1 (aj o (dM M f 0).length k) (dM M f 0).length (bO (dM M f 0)):=by
 have l:=qD h f 0 i hp aC j;go_enter func101,ntmps101;go_wp2_with(go_at_call 164;refine l.mono ?_;rintro q r ⟨m,n,rfl,a,b⟩);go_ret;exact⟨m,n,rfl,a,b⟩

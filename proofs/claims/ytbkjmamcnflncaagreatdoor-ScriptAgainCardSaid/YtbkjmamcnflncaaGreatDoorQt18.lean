import Derived.Test.YtbkjmamcnflncaaGreatDoorQt12
namespace Go.Proofs.YtbkjmamcnflncaaGreatDoor
open Go.Proofs.Tryz
set_option maxHeartbeats 4000000
variable{B c DB m nx:Nat}{p:Int->Option Nat}{d:dG}{M:Dm}
section
open Go.RowKit Go.Maps
set_option maxRecDepth 20000
theorem iZ.run_get {P:Program}{K T E:TypeId}{w:ai}{n:Nat}(h:iZ P K w B p n c)(d:P.underlying K=some (.int .i64))(f:P.underlying T=some (.map K E))(g:(zeroValue E).run P w=.ok (.pointer none) w){k:Int}{b:Nat}(i:(Lit.int .i64 k).wf=true)(j:p k=some b):
  (Instr.lookup T (.map (some B)) (.int .i64 k) false).run P w=.ok (aK b) w:=by
 obtain⟨D,l, -,m⟩:=h;obtain⟨v,o,a,e⟩:=l.lookup (zd:=.lit (.int .i64 (-1))) (int_keyed d) f g (zp:=[]) rfl (keyOf_int_mk d i);rw[(m k).2 b j] at e;rw[a,Ay e]
theorem iZ.a7w {P:Program}{K T E:TypeId}{w:ai}{n:Nat}(h:iZ P K w B p n c)(b:P.underlying K=some (.int .i64))(e:P.underlying T=some (.map K E))(f:(zeroValue E).run P w=.ok (.pointer none) w){k:Int}(g:(Lit.int .i64 k).wf=true)(l:p k=none):
  (Instr.lookup T (.map (some B)) (.int .i64 k) false).run P w=.ok (.pointer none) w:=by
 obtain⟨D,i, -,m⟩:=h;obtain⟨v,o,a,d⟩:=i.lookup (zd:=.lit (.int .i64 (-1))) (int_keyed b) e f (zp:=[]) rfl (keyOf_int_mk b g);have j:Maps.has D (.int .i64 k)=false:=by grind
 rw[atKey_of_not_has j] at d;rw[a,Ck d]
abbrev woL (L:List Int)(n:Int):List Int:=L.filter (λx=> !decide (x=n))
theorem dm.kids {w w7:ai}{j:Nat}{i:Int}{e:ig}{va vk v7:ax}{L:List Int}(h:dm B d w DB m p M nx c)(hi:M i=some e)(hp:p i=some j)(he:BK B d w i j e va vk)(H:∀k∈L,eH k)
  (F:w7.ownsRow B 3 1 v7 L.length (di L)) (s:w.grownBy w7 vk.ownBlock) (I:v7.ownBlock=vk.ownBlock\/∀g,v7.ownBlock=some g->w.heap.size<=g):
  dm B (zz d i v7) (w7.setCell ⟨j,3,none⟩ v7) DB m p (eP M i ⟨e.name,e.ats,e.parent,L⟩) nx c/\(∀x,x<w.heap.size->zz d i v7 x=d x)/\KT d w (w7.setCell ⟨j,3,none⟩ v7):=by
 have u:=bu he.cells;have K:=s.size;have f:=(aW j w7).setCell (p:=⟨j,3,none⟩) az v7;have C:vk.ownBlock≠some j:=λa=>by have b:=he.jQ j a;rw[he.tag] at b;cases b
 have D:v7.ownBlock≠some j:=λa=>by grind
 have v:∀x,x<w.heap.size->vk.ownBlock≠some x->w7.heap[x]? =w.heap[x]? :=λx o E=>s.block x o (λa=>E a.symm);have z:∀x,x<w.heap.size->zz d i v7 x=d x:=λx o=>by
  unfold zz;split
  .rename_i b;rcases I with r|r
   .exact(he.jQ x (r.symm.trans b)).symm
   .grind
  .rfl
 have q:∀x,x<w.heap.size->x≠j->vk.ownBlock≠some x->(w7.setCell ⟨j,3,none⟩ v7).heap[x]? =w.heap[x]? :=λx o b r=>(dw _ _ _ x b).trans (v x o r);have y:w.heap.size<=(w7.setCell ⟨j,3,none⟩ v7).heap.size:=by have:=f.size;omega
 refine⟨h.put hi hp (va:=va) (vk:=v7) ⟨?_,?_,?_,?_,?_,?_⟩ y ⟨(h.wf i e hi).1,H⟩ z ?_ ?_ ?_,z,⟨f.os.trans s.os,f.tape.trans s.tape,f.output.trans s.output,y,λx o A=>?_⟩⟩
 .have b:=(v j u C).trans he.cells;rw[heap_setCell_same w7 j 3 _ _ _ b];rfl
 .rw[z j u];exact he.tag
 .exact dF he.ats λg l=>q g (he.ats.lt g l).2 (λa=>by have b:=he.oC g l;rw[a,he.tag] at b;cases b) (λa=>by have b:=he.oC g l;rw[he.jQ g a] at b;cases b)
 .intro g l;rw[z g (he.ats.lt g l).2];exact he.oC g l
 .exact dF (w':=w7.setCell ⟨j,3,none⟩ v7) F λg l=>dw _ _ _ g (λa=>D (by rw[l,a]))
 .intro g l;unfold zz;rw[aR l]
 .intro x t n;unfold zz at n;split at n
  .rename_i b;have r:=F.lt x b;have:=f.size;omega
  .have:=h.low x t n;omega
 .intro x o;unfold zz;split
  .grind
  .exact .inl (h.new o)
 .intro x t n b r J;exact q x (h.low x t n).2 (λa=>by rw[a,he.tag] at n;cases n;exact b rfl) (λa=>by rw[he.jQ x a] at n;cases n;exact J rfl)
 .exact q x o (λa=>by rw[a,he.tag] at A;cases A) (λa=>by rw[he.jQ x a] at A;cases A)
theorem Ej {W:ai}(f:dm B d W DB m p M nx c)(n:Int)(e q:ig)(C:M n=some e)(D:M e.parent=some q)(E:q.kids≠[]):
  aL 206 #[aK DB,.int .i64 n] W λr w'=>r=ay (.tuple #[])/\KT d W w'/\∃mX,(∀x,x<W.heap.size->mX x=d x)/\dm B mX w' DB m p (eP M e.parent ⟨q.name,q.ats,q.parent,woL q.kids n⟩) nx c:=by
 have F:=f.i64 C;have H:=(f.wf n e C).1;obtain⟨EB,va,vk,I,Z⟩:=f.els n e C;obtain⟨h,J,qk,o,a⟩:=f.els e.parent q D;obtain⟨s,u,rfl⟩:=bD a.kids;have l:=dR W (ak #[.int .i64 n] 3);have K:=kJ W #[.int .i64 n] 3 0 _ rfl;have L:d W.heap.size=none:=f.new az;obtain⟨V,N⟩:∃V,W.alloc (ak #[.int .i64 n] 3)=V:=⟨_,rfl⟩;rw[N] at l K;have A:=f.below l;have O:=Z.turn (mX:=d) (w':=V) λg t i _=>⟨i,l.block g (f.low g t i).2⟩;have b:=a.turn (mX:=d) (w':=V) λg t i _=>⟨i,l.block g (f.low g t i).2⟩;have x0:=A.d0;have x2:=O.c2;have y3:=b.c3;have g1:=iZ.run_get (w:=V.drew) (T:=138) (A.map.same rfl) underlying3 underlying138 (dA _) F I;have g2:=iZ.run_get (w:=V.drew) (T:=138) (A.map.same rfl) underlying3 underlying138 (dA _) H o;obtain⟨PN,j⟩:∃PN,W.heap.size=PN:=⟨_,rfl⟩;rw[j] at K L;have P:(Value.slice s q.kids.length u).ownBlock≠some PN:=λv=>by have:=a.jQ PN v;rw[L] at this;cases this
 have a4:h≠PN:=λv=>by have:=a.tag;rw[v,L] at this;cases this
 have DF:=ajP (W:=V.drew) (n:=n) (PN:=PN) (dF b.kids (λ_ _=>rfl)) E K P;go_enter func206,ntmps206;go_upto_region 1 with fail
 try rw[N]
 try rw[j]
 clear N j;have Q:Hid (BK B d V.drew e.parent h q J (.slice s q.kids.length u)):=(b.turn λg t i _=>⟨i,rfl⟩:BK B d V.drew e.parent h q J (.slice s q.kids.length u));have R:Hid (dm B d V.drew DB m p M nx c):=(A.turn (λ_ _ _=>rfl) az:dm B d V.drew DB m p M nx c);have S:some h≠(Value.slice s q.kids.length u).ownBlock:=λv=>by have X:=a.jQ h v.symm;rw[a.tag] at X;cases X
 have lQ:h<V.heap.size:=bu b.cells;have cQ:V.drew.heap[h]? =some (ak #[.string ⟨q.name.toArray⟩,J,.int .i64 q.parent,.slice s q.kids.length u] 147):=b.cells;go_region;go_wp2_with(go_at_call 100;refine DF.mono ?_;rintro r w5 ⟨o5,k5,rfl,vN,U,y⟩;have Y:=(y.block h lQ S).trans cQ;have c5:=aQ Y 3 _ rfl;have f5:=bG Y);obtain⟨r1,r2,z⟩:=R.out.kids D o Q.out (λk E=>(f.wf e.parent q D).2 k (mD.1 E).1) vN y (.inl U);refine bodyPost_end (results_none rfl _ _ _) rfl ⟨rfl,?_,_,λx hx=>?_,r1⟩
 .exact KT.trans (KT.of_below l) (mX:=d) (⟨z.os,z.tape,z.output,z.size,z.block⟩) (λ_ _=>rfl)
 .exact r2 x (fK hx l.size)
def tY (M:Dm)(l:List Int):Dm:=λi=>if i∈l then none else M i
theorem Zl (M:Dm)(l:List Int)(k:Int):tY M (l++[k])=Oz (tY M l) k:=by
 funext i;unfold tY Oz;grind
theorem dm.cut {w w':ai}{k:Int}(h:dm B d w DB m p M nx c)(q:iZ prog 3 w' m (λi=>if i=k then none else p i) nx (c-1))(j:w.mapTurned w' m):dm B d w' DB m (λi=>if i=k then none else p i) (Oz M k) nx (c-1) where
 doc:=(j.grown.block DB (bu h.doc) (λe=>h.ne (fT e).symm)).trans h.doc
 mY:=h.mY
 map:=q
 mZ:=h.mZ
 els:=λi e a=>by
  unfold Oz at a;by_cases f:i=k
  .grind
  .rw[aG f] at a;obtain⟨b,r,s,u,v⟩:=h.els i e a;refine⟨b,r,s,by simp only[aG f];exact u,v.turn λg t l z=>⟨l,j.grown.block g (h.low g t l).2 (λx=>?_)⟩⟩;have y:=fT x;rw[y,h.mZ] at l;grind
 non:=λi f=>by
  unfold Oz at f;by_cases n:i=k
  .grind
  .rw[aG n] at f;simp only[aG n];exact h.non i f
 low:=λb t o=>⟨(h.low b t o).1,fK (h.low b t o).2 j.grown.size⟩
 dom:=λi e a=>by
  unfold Oz at a;split at a
  .cases a
  .exact h.dom i e a
 wf:=λi e a=>by
  unfold Oz at a;split at a
  .cases a
  .exact h.wf i e a
 few:=h.few
 Xa:=h.Xa
end
open Go.RowKit
theorem Zm (l:List Int):∀u∈di l,u.oneCell'=true:=λu a=>by
 unfold di at a;obtain⟨k,_,rfl⟩:=gL.1 a;rfl
theorem a2P (w:ai)(v:ax)(L:List Int)(h:w.ownsRow B 3 1 v L.length (di L))(Q:L.length<=1000000):
  aL 89 #[v] w λe w'=>∃o k,e=ay (aj o L.length k)/\w'.ownsRow w.heap.size 3 1 (aj o L.length k) L.length (di L)/\aD w w':=by
 have x:∀(w:ai) (a:Option Addr) (n c i l:Nat),(binOp .eql 35 (aj a n c) (aj none i l)).run prog w=.ok (.bool a.isNone) w:=λw a n c i l=>Lib.run_eql_slice_nil w _ _ a n c i l underlying35;obtain⟨y,z,m,p,q⟩:=info_parts AB;have d:∀g b,v=aj (some ⟨g,0,none⟩) L.length b->∀j u,(di L)[j]? =some u->w.cell? ((⟨g,0,none⟩:Addr).add j)=some u:=λg b A j u C=>by
  obtain⟨R,t,D⟩:=eF h j u C;rw[A] at t;have f:(⟨g,0,none⟩:Addr).add j=⟨g,0+j,none⟩:=by unfold Addr.add;split<;>simp_all
  cases t;rw[f,gq];exact D
 rcases h.2 with⟨rfl,E⟩|⟨g,b,F,rfl,_,_,S,T,_,_⟩
 .have H:L=[]:=lu.1 E;subst H;go_enter func89,ntmps89;go_wp2_with fail;go_ret;exact⟨none,0,rfl,gp _ _ _ _,aW _ _⟩
 .have I:Hid (∀j u,(di L)[j]? =some u->w.cell? ((⟨g,0,none⟩:Addr).add j)=some u):=d g b rfl;have J:Hid (∀u∈di L,u.oneCell'=true):=Zm L;clear d;go_enter func89,ntmps89;go_wp2_with(at_builtin;refine wpList_append_own _ rfl _ _ 35 rfl w.heap.size 3 y (ag 0) 1 8 underlying35 z m p q rfl aC _ _ _ rfl (World.ownsRow_made w #[] 0 az (bA _) aI) ⟨g,0,none⟩ L.length b (di L) rfl (by rw[qG,Nat.mul_one]) (λj u K=>eD _ (I.out j u K)) J.out (by rw[dD];omega) aa aI ?_;intro U V r M _;obtain⟨N,O,rfl⟩:=bD r);go_ret;rw[gq,gK] at r;exact⟨N,O,rfl,r,((aW _ w).alloc az _).grown M aI (λk P=>by have s:some w.heap.size=some k:=P;cases s;exact bJ _)⟩
def ru (M:Dm)(n:Int):List Int:=match M n with|none=>[]|some e=>e.kids
theorem QM {w:ai}(h:dm B d w DB m p M nx c)(n:Int)(q:eH n)(a:(ru M n).length<=1000000):
  aL 47 #[aK DB,ag n] w λr w'=>∃o k,r=ay (aj o (ru M n).length k)/\w'.ownsRow w.heap.size 3 1 (aj o (ru M n).length k) (ru M n).length (di (ru M n))/\aD w w':=by
 have v:=h.d0;unfold ru at a⊢;cases f:M n with
 |none=>
  have g:=h.non n f;go_enter func47,ntmps47;go_wp2_with(at_lookup;refine kG _ rfl _ _ 138 rfl underlying3 underlying138 (dA _) rfl h.map n rfl q g ?_);go_ret;exact⟨none,0,rfl,gp _ _ _ _,aW _ _⟩
 |some e=>
  rw[f] at a;obtain⟨b,x,y,g,i⟩:=h.els n e f;have z:=i.c3;obtain⟨A,C,rfl⟩:=bD i.kids;have s:=a2P w _ e.kids i.kids a;go_enter func47,ntmps47;go_wp2_with(first|(at_lookup;refine dJ _ rfl _ _ 138 rfl underlying3 underlying138 (dA _) rfl h.map n rfl q b g ?_)|(go_at_call 89;refine s.mono ?_;rintro D E ⟨t,u,rfl,j,l⟩));go_ret;exact⟨t,u,rfl,j,l⟩
theorem Xt {W:ai}(g:dm B d W DB m p M nx c)(f:Nat)(h:f<=900000)(hp:Dp M f 0)(i:(dZ M f 0).length<=1000000):
  aL 101 #[aK DB] W λe w'=>∃o k,e=ay (aj o (dZ M f 0).length k)/\aD W w'/\w'.ownsRow (W.heap.size+1) 3 1 (aj o (dZ M f 0).length k) (dZ M f 0).length (di (dZ M f 0)):=by
 have j:=qZ g f 0 h hp aC i;go_enter func101,ntmps101;go_wp2_with(go_at_call 164;refine j.mono ?_;rintro q r ⟨l,n,rfl,a,b⟩);go_ret;exact⟨l,n,rfl,a,b⟩

import Derived.Test.YtbkjmamcnflncaaGreatDoorQs34
namespace Go.Proofs.YtbkjmamcnflncaaGreatDoor
open Go.Proofs.Tryz
set_option maxHeartbeats 8000000
variable{left:Lit->Bool}
section
open Go.RowKit
section
variable {B:Nat}{C:dm}{w w':ah}{DB A:Nat}{p:Int->Option Nat}{M:Dm}{nx c:Nat}
theorem bT.agn (h:bT B C w DB A p M nx c){k:Int}(z:0<=k)(D:k<nx){b:Nat}{e:gP}{va vk:au}(a:Yp B C w b e va vk)(K:dV e.parent/\∀k∈e.kids,dV k)
  (E:iK prog 3 w' A (λi=>if i=k then some b else p i) nx (c+1))
  (hs:∀x,x≠A->w'.heap[x]? =w.heap[x]?) (F:w.heap.size<=w'.heap.size):bT B (ou C k b va vk) w' DB A (λi=>if i=k then some b else p i) (dY M k e) nx (c+1):=by
 have q:∀x t,C x=some t->ou C k b va vk x=some t:=λx t n=>Ga n a.tag (λg d=>(a.nO g d).1) (λg d=>(a.jG g d).1);have H:∀x t,C x=some t->t≠.map->x≠A:=λx t n s e=>s (fF (n.symm.trans (e▸h.mJ)));have r:∀x,C x=none->x≠A:=λx y e=>(by rw[e,h.mJ] at y;exact absurd y aG);refine⟨(hs DB (H _ _ h.mH aG)).trans h.doc,q _ _ h.mH,E,q _ _ h.mJ,λi f l=>?_,λi m=>?_,λx t n=>?_,λi f l=>?_,λi f l=>?_,h.few,λx j o=>?_⟩
 .unfold dY at l;by_cases m:i=k
  .rw[if_pos m] at l;cases l;subst m;refine⟨b,va,vk,aG,⟨(hs b (r b a.tag)).trans a.cells,by unfold ou;rw[if_pos rfl],di a.ats λg d=>?_,λg d=>?_,di a.kids λg d=>?_,λg d=>?_⟩⟩
   .exact hs g (r g (a.nO g d).1)
   .unfold ou;rw[if_neg (a.nO g d).2,if_pos d]
   .exact hs g (r g (a.jG g d).1)
   .unfold ou;rw[if_neg (a.jG g d).2.1,if_neg (a.jG g d).2.2,if_pos d]
  .rw[if_neg m] at l;obtain⟨I,u,v,J,s⟩:=h.els i f l;refine⟨I,u,v,by simp only[if_neg m];exact J,s.turn λg t n L=>⟨q g t n,?_⟩⟩;grind
 .unfold dY at m;by_cases o:i=k
  .grind
  .rw[if_neg o] at m;simp only[if_neg o];exact h.non i m
 .unfold ou at n;split at n
  .rename_i e;subst e;exact⟨a.low,dP (aY a.cells) F⟩
  .split at n
   .rename_i e;have:=a.ats.lt x e;omega
   .split at n
    .rename_i e;have:=a.kids.lt x e;omega
    .have:=h.low x t n;omega
 .unfold dY at l;by_cases m:i=k
  .omega
  .rw[if_neg m] at l;exact h.dom i f l
 .unfold dY at l;by_cases m:i=k
  .grind
  .rw[if_neg m] at l;exact h.wf i f l
 .unfold ou at o;split at o
  .grind
  .split at o
   .grind
   .split at o
    .grind
    .exact h.We x j o
end
def sO (M:Dm)(left:Lit->Bool):Dm:=λi=>if left (.int .i64 i) then none else M i
theorem V7 {M:Dm}{k:Int}{e:gP}(a:M k=some e):sO M (λz=>left z && !z.sameKey (.int .i64 k))=dY (sO M left) k e:=by
 funext i;unfold sO dY;by_cases h:i=k
 .subst h;simp[Lit.sameKey,a]
 .have:(Lit.int .i64 i).sameKey (.int .i64 k)=false:=by simp[Lit.sameKey,h]
  simp[this,h]
theorem Cd.put {M:Dm}{c:Nat}(h:Cd M c){k:Int}(a:M k=none)(e:gP):Cd (dY M k e) (c+1):=by
 obtain⟨l,b,d,f⟩:=h;refine⟨k::l,qi.2 ⟨λg=>(f k).1 g a,b⟩,by simp[d],λx=>?_⟩;unfold dY;grind
theorem Cd.uniq {M:Dm}{c d:Nat}(h:Cd M c)(k:Cd M d):c=d:=by
 obtain⟨l,a,rfl,b⟩:=h;obtain⟨m,e,rfl,f⟩:=k;exact List.Perm.length_eq ((List.perm_ext_iff_of_nodup a e).2 λx=>(b x).trans (f x).symm)
theorem Cd.acd {M L:Dm}{c d:Nat}(h:Cd L c)(k:Cd M d)(hs:∀i f,L i=some f->∃g,M i=some g){x:Int}(r:L x=none)(s:∃e,M x=some e):c+1<=d:=by
 obtain⟨l,j,rfl,n⟩:=h;obtain⟨m,t,rfl,o⟩:=k;have p:x ∉ l:=by grind
 refine Ey (x::l) m (qi.2 ⟨p,j⟩) λy a=>(o y).2 ?_;rcases gD.1 a with rfl|a
 .grind
 .cases b:L y with
  |none=>exact absurd b ((n y).1 a)
  |some f=>obtain⟨g,q⟩:=hs y f b;rw[q];simp
end
section
open Go.RowKit Go.Maps
set_option maxRecDepth 20000
def agp (M:Dm):Prop:=∀i e,M i=some e->e.ats.length<=1000000/\e.kids.length<=1000000/\∀a∈e.ats,a.1.length<=maxLen/\a.2.length<=maxLen
theorem Ii {w:ah}{B:Nat}{v:au}{l:List (Bs×Bs)}(h:w.ownsRow B 145 2 v l.length (bG l))(q:∀a∈l,a.1.length<=maxLen/\a.2.length<=maxLen):qU w v l:=by
 obtain⟨o,b,c,d,e,f,r⟩:=eT h;refine⟨o,b,c,d,e,f,λi x j=>?_⟩;obtain⟨k,m⟩:=yK l i x j;obtain⟨g,n,s⟩:=dO h _ _ k;obtain⟨t,p,u⟩:=dO h _ _ m;grind
theorem ZB {w0:ah}{N nx:Nat}{M:Dm}(d:w0.heap[N+1]? =some (ai #[.map (some N),.int .i64 nx] 140))(f:iK prog 3 w0 N (λ_=>none) 0 0)(c:∀i,M i=none)(g:nx<=1000000)(k:N+1<w0.heap.size):
  bT N (λx=>if x=N then some .map else if x=N+1 then some .doc else none) w0 (N+1) N (λ_=>none) M nx 0 where
 doc:=d
 mH:=by rw[if_neg aa,if_pos rfl]
 map:=by
  obtain⟨D,h,j⟩:=f;exact⟨D,h.mono (bf _),j⟩
 mJ:=by rw[if_pos rfl]
 els:=λi e a=>by rw[c i] at a;cases a
 non:=λi _=>rfl
 low:=λb t l=>by grind
 dom:=λi e a=>by rw[c i] at a;cases a
 wf:=λi e a=>by rw[c i] at a;cases a
 few:=g
 We:=λb i m=>by grind
theorem iK.a7L {P:Program}{K T E:TypeId}{w:ah}{B n c:Nat}{p:Int->Option Nat}(h:iK P K w B p n c)(f:P.underlying K=some (.int .i64))(o:P.underlying T=some (.map K E))(q:n<maxLen){k:Int}(r:(Lit.int .i64 k).wf=true)(b:Nat)(y:p k=none):
  ∃w',(Instr.mapUpdate T (.map (some B)) (.int .i64 k) (aI b)).run P w=.ok () w'/\iK P K w' B (λi=>if i=k then some b else p i) (n+1) (c+1)/\w.mapTurned w' B:=by
 obtain⟨D,e,s,g⟩:=h;obtain⟨w',t,u,v⟩:=e.store (int_keyed f) o q (keyOf_int_mk f r) (Kc b);refine⟨w',t,⟨_,u,?_,λi=>?_⟩,v⟩
 .have x:Maps.has D (.int .i64 k)=false:=by grind
  rw[size_put (e.tidy (int_keyed f)),x,s];rfl
 .by_cases j:i=k
  .subst j;simp only[if_pos];exact⟨has_put_same e.isMap (Es i) _,λl a m=>by cases a;exact atKey_put_same e.isMap (Es i) _ _⟩
  .simp only[if_neg j];have d:(Lit.int .i64 i)≠(Lit.int .i64 k):=by grind
   exact⟨(has_put_other d _).trans (g i).1,λl a m=>(atKey_put_other d _ _).trans ((g i).2 l a m)⟩
def CS5 (N b:Nat)(nm:Bs)(va:au)(a:Int)(vk:au)(w:ah):Prop:=w.cell? (aH (N+1) 0)=some (.map (some N))/\w.cell? (aH b 0)=some (.string ⟨nm.toArray⟩)/\w.cell? (aH b 1)=some va/\w.cell? (aH b 2)=some (.int .i64 a)/\w.cell? (aH b 3)=some vk
theorem CS5.keep {N b:Nat}{nm:Bs}{va:au}{c:Int}{vk:au}{w w':ah}(h:CS5 N b nm va c vk w)(a:aD w w'):CS5 N b nm va c vk w':=by
 obtain⟨d,e,f,g,i⟩:=h;exact⟨(a.cell (aK d)).trans d,(a.cell (aK e)).trans e,(a.cell (aK f)).trans f,(a.cell (aK g)).trans g,(a.cell (aK i)).trans i⟩
theorem Ro {P:Program}{k:TypeId}{R:au->Option (DataW Unit×List MemPlace)}{w w':ah}{b r n:Nat}{D:DataW Unit}{a:Nat}(h:w.ranges P k R b r n D left a)(c:w'.heap[b]? =w.heap[b]?)(d:w'.heap[r]? =w.heap[r]?):w'.ranges P k R b r n D left a:=by
 obtain⟨e,f,g,i,j,l,m,o,p,q,s⟩:=h;exact⟨e,f,g,i,j,c.trans l,m,o,p,d.trans q,s⟩
theorem ala (v:au)(y:DataW Unit×List MemPlace)(h:uY v=some y):∃a:Option Addr,v=.pointer a:=by
 cases v<;>try cases h
 exact⟨_,rfl⟩
theorem ZC {B:Nat}{tg:dm}{W:ah}{DB E:Nat}{p:Int->Option Nat}{M:Dm}{nx c:Nat}(h:bT B tg W DB E p M nx c)(hC:Cd M c)(r:agp M):
  aJ 83 #[aI DB] W λe w'=>aD W w'/\∃vw e4 mG p',e=ax (aI vw)/\bT W.heap.size mG w' vw e4 p' M nx c:=by
 have i2:=@run_makeMap prog;obtain⟨D,a6,i3,hD⟩:=id h.map;have d0:=h.d0;have d1:=h.d1;have s:((W.alloc (.map #[] 0)).alloc (ai #[.map (some W.heap.size),.int .i64 nx] 140)).heap.size=W.heap.size+1+1:=aG;have b2:aD W ((W.alloc (.map #[] 0)).alloc (ai #[.map (some W.heap.size),.int .i64 nx] 140)):=((aQ _ _).alloc ay _).alloc aG _;have b1:=(a6.alloc (.map #[] 0)).alloc (ai #[.map (some W.heap.size),.int .i64 nx] 140);have i4:=((dI W (.map #[] 0)).cell (aK d1)).trans d1;have i5:=(b2.cell (aK d0)).trans d0;go_enter func83,ntmps83;go_wp2_with(first
  |(at_range;refine wpList_range_own _ rfl _ 138 rfl 3 142 (int_keyed underlying3) underlying138 uY E nx D rfl b1 ?_;intro w0 a7 b3 e6)
  |go_in)
 go_frame
 rw[s] at a7 e6⊢
 go_loopw [4] (λ_ wr=>∃(left:Lit->Bool) (b4:Nat) (mG:dm) (p':Int->Option Nat) (U:Nat),wr.ranges prog 3 uY E (W.heap.size+1+1) nx D left b4/\(∀z,left z=true->Maps.has D z=true)/\bT W.heap.size mG wr (W.heap.size+1) W.heap.size p' (sO M left) nx U/\Cd (sO M left) U/\mG (W.heap.size+1+1)=none/\iK prog 3 wr W.heap.size p' U U/\aD W wr)
  (λ_ wr=>wr.rangeLeft E (W.heap.size+1+1))
 case atStart=>
  have c3:∀i,sO M (Maps.has D) i=none:=λi=>by
   unfold sO;split
   .rfl
   .next hh=>
    cases hm:M i with
    |none=>rfl
    |some e=>
     obtain⟨b,va,vk,hp, -⟩:=h.els i e hm;rw[(hD i).1,hp] at hh;exact absurd rfl hh
  have k1:w0.heap[W.heap.size+1]? =some (ai #[.map (some W.heap.size),.int .i64 nx] 140):=by
   rw[b3.block _ (by rw[s];omega) aG];have:=dN (W.alloc (.map #[] 0)) #[.map (some W.heap.size),.int .i64 nx] 140;simpa using this
  have pm:=((iK.made W prog 3).kept (qY _ (ai #[.map (some W.heap.size),.int .i64 nx] 140) none) aG).kept b3 aG;exact⟨_,_,_,_,0,a7,λz hz=>hz,ZB k1 pm c3 h.few aa,⟨[],List.nodup_nil,rfl,λx=>by simp[c3 x]⟩,by rw[if_neg aa,if_neg aa],pm,b2.grown b3 (by rw[s];omega) (λj H=>by cases H)⟩
 case round=>
  obtain⟨left,b4,mG,p',U,c4,c5,hd,X,c6,b5,hb⟩:=hrel;go_wp2_with(first
   |(at_next;refine wpList_next_ranges _ rfl _ rfl 3 (int_keyed underlying3) uY (Value.int .i64) Value.pointer (λi6 kl I=>by obtain⟨x,rfl,_⟩:=Maps.keyOf_int_inv underlying3 I;exact⟨x,rfl⟩) ala E (W.heap.size+1+1) nx D left b4 rfl c4 ?_ ?_)
   |go_in)
  .intro i7 e7;go_wp2_with fail;go_ret;have q:sO M left=M:=by
    funext i;unfold sO;rw[e7,if_neg aG]
   rw[q] at hd X;obtain rfl:=X.uniq hC;exact⟨hb,_,_,mG,p',rfl,hd⟩
  .intro x ca kl y1 y2 J a8 I c7 hv c8 a9 e8 c9 i8 i9;obtain⟨k,ek,e9,f0⟩:=Maps.keyOf_int_inv underlying3 I;cases ek;subst e9;have f1:(p x).isSome=true:=by rw[<- (hD x).1];exact c5 _ c7
   obtain⟨b,Y⟩:=Option.isSome_iff_exists.1 f1;have Z:=c8 (.map []);rw[(hD x).2 b Y] at Z;subst Z;have f2:=zV hv;cases f2;obtain⟨e,y⟩:∃e,M x=some e:=by
    cases hm:M x with
    |none=>rw[h.non x hm] at Y;cases Y
    |some e=>exact⟨e,rfl⟩
   obtain⟨b',va,vk,d2,q⟩:=h.els x e y;rw[Y] at d2;cases d2;obtain⟨f3,f4,f5⟩:=r x e y;have b0:=h.dom x e y;have f6:=h.wf x e y;have u:aD W J:=hb.grown c9 hb.size (λj H=>by cases H;omega);have a4:∀j,j<wr.heap.size->j≠W.heap.size+1+1->J.heap[j]? =wr.heap[j]? :=λj H hn=>c9.block j H (λs=>hn (fF s));have A:bT W.heap.size mG J (W.heap.size+1) W.heap.size p' (sO M left) nx U:=hd.turn (λg t ht=>a4 g (hd.low g t ht).2 (λs=>by rw[s,c6] at ht;cases ht)) aa;have d3:iK prog 3 J W.heap.size p' U U:=b5.same (a4 _ b5.lt aa);have b6:sO M left x=none:=by unfold sO;rw[c7];rfl
   have j0:U+1<=c:=X.acd hC (λi f hf=>by unfold sO at hf;split at hf;cases hf;exact⟨f,hf⟩) b6 ⟨e,y⟩;have j1:=h.map.size_le;obtain⟨d4,d6,f7⟩:=bg q.ats;obtain⟨d7,d8,f8⟩:=bg q.kids;subst f7 f8;have hS:CS5 W.heap.size b e.name (.slice d4 e.ats.length d6) e.parent (.slice d7 e.kids.length d8) J.drew:=⟨A.d0,(u.cell (aK q.c0)).trans q.c0,(u.cell (aK q.c1)).trans q.c1,(u.cell (aK q.c2)).trans q.c2,(u.cell (aK q.c3)).trans q.c3⟩;have CA:=TA J.drew _ e.ats (Ii (bD q.ats (below_drewN u 1)) f5) f3;have CI:=λV (hV:aD W V)=>a2b V _ e.kids (bD q.kids hV) f4;have b7:=aA u;have f9:=aA q;clear u q hd b5 a4 c8;go_upto_region 5 with fail;refine Ib (CS5 W.heap.size b e.name (.slice d4 e.ats.length d6) e.parent (.slice d7 e.kids.length d8)) 25 az ?_;refine dH (v:=?v0) 0 rfl az az az az (λ_ _ _ h=>h) hS (.inl ⟨rfl,λw a=>?hy0⟩) ?hr0
   case hy0=>obtain⟨d,l,m,n,o⟩:=a;go_simp;try with_reducible rfl
   simp only[Act.put,List.setIfInBounds_toArray];refine dH (v:=?v1) 1 rfl az az az az (λ_ _ _ h=>h) hS (.inl ⟨rfl,λw a=>?Z⟩) ?a4
   case Z=>obtain⟨d,l,m,n,o⟩:=a;go_simp;try with_reducible rfl
   simp only[Act.put];refine dH (v:=?v2) 2 rfl az az az az (λ_ _ _ h=>h) hS (.inl ⟨rfl,λw a=>?hy2⟩) ?hr2
   case hy2=>obtain⟨d,l,m,n,o⟩:=a;go_simp;try with_reducible rfl
   simp only[Act.put];refine dH (v:=?v3) 3 rfl az az az az (λ_ _ _ h=>h) hS (.inl ⟨rfl,λw a=>?hy3⟩) ?hr3
   case hy3=>obtain⟨d,l,m,n,o⟩:=a;go_simp;try with_reducible rfl
   simp only[Act.put];refine dH (v:=?v4) 4 rfl az az az az (λ_ _ _ h=>h) hS (.inl ⟨rfl,λw a=>?hy4⟩) ?hr4
   case hy4=>obtain⟨d,l,m,n,o⟩:=a;go_simp;try with_reducible rfl
   simp only[Act.put];refine dH (v:=?v5) 5 rfl az az az az (λ_ _ _ h=>h) hS (.inl ⟨rfl,λw a=>?hy5⟩) ?hr5
   case hy5=>obtain⟨d,l,m,n,o⟩:=a;go_simp;try with_reducible rfl
   simp only[Act.put];refine dH (v:=?v6) 6 rfl az az az az (λ_ _ _ h=>h) hS (.inl ⟨rfl,λw a=>?hy6⟩) ?hr6
   case hy6=>obtain⟨d,l,m,n,o⟩:=a;go_simp;try with_reducible rfl
   simp only[Act.put];refine dH (v:=?v7) 7 rfl az az az az (λ_ _ _ h=>h) hS (.inl ⟨rfl,λw a=>?hy7⟩) ?hr7
   case hy7=>obtain⟨d,l,m,n,o⟩:=a;go_simp;try with_reducible rfl
   simp only[Act.put];refine dH (v:=?v8) 8 rfl az az az az (λ_ _ _ h=>h) hS (.inl ⟨rfl,λw a=>?hy8⟩) ?hr8
   case hy8=>obtain⟨d,l,m,n,o⟩:=a;go_simp;try with_reducible rfl
   simp only[Act.put];refine dH (v:=?v9) 9 rfl az az az az (λ_ _ _ h=>h) hS (.inl ⟨rfl,λw a=>?hy9⟩) ?hr9
   case hy9=>obtain⟨d,l,m,n,o⟩:=a;go_simp;try with_reducible rfl
   simp only[Act.put];refine dH (v:=?v10) 10 rfl az az az az (λ_ _ _ h=>h) hS (.inl ⟨rfl,λw a=>?abG⟩) ?akN
   case abG=>obtain⟨d,l,m,n,o⟩:=a;go_simp;try with_reducible rfl
   simp only[Act.put];refine dH (v:=?v11) 11 rfl az az az az (λ_ _ _ h=>h) hS (.inl ⟨rfl,λw a=>?abH⟩) ?akO
   case abH=>obtain⟨d,l,m,n,o⟩:=a;go_simp;try with_reducible rfl
   simp only[Act.put];refine dH (v:=?v12) 12 rfl az az az az (λ_ _ _ h=>h) hS (.inl ⟨rfl,λw a=>?abI⟩) ?akP
   case abI=>obtain⟨d,l,m,n,o⟩:=a;go_simp;try with_reducible rfl
   simp only[Act.put];refine dH (v:=?v14) 14 rfl az az az az (λ_ _ _ h=>h) hS (.inl ⟨rfl,λw a=>?abJ⟩) ?akR
   case abJ=>obtain⟨d,l,m,n,o⟩:=a;go_simp;try with_reducible rfl
   simp only[Act.put];refine dH (v:=?v15) 15 rfl az az az az (λ_ _ _ h=>h) hS (.inl ⟨rfl,λw a=>?abK⟩) ?akS
   case abK=>obtain⟨d,l,m,n,o⟩:=a;go_simp;try with_reducible rfl
   simp only[Act.put];refine dH (v:=?v16) 16 rfl az az az az (λ_ _ _ h=>h) hS (.inl ⟨rfl,λw a=>?abL⟩) ?akT
   case abL=>obtain⟨d,l,m,n,o⟩:=a;go_simp;try with_reducible rfl
   simp only[Act.put];refine dH (v:=?v17) 17 rfl az az az az (λ_ _ _ h=>h) hS (.inl ⟨rfl,λw a=>?abM⟩) ?akU
   case abM=>obtain⟨d,l,m,n,o⟩:=a;go_simp;try with_reducible rfl
   simp only[Act.put];refine dH (v:=?v18) 18 rfl az az az az (λ_ _ _ h=>h) hS (.inl ⟨rfl,λw a=>?abN⟩) ?akV
   case abN=>obtain⟨d,l,m,n,o⟩:=a;go_simp;try with_reducible rfl
   simp only[Act.put];refine dH (v:=?v19) 19 rfl az az az az (λ_ _ _ h=>h) hS (.inl ⟨rfl,λw a=>?ald⟩) ?atx
   case ald=>obtain⟨d,l,m,n,o⟩:=a;go_simp;try with_reducible rfl
   simp only[Act.put];refine dH (v:=?v20) 20 rfl az az az az (λ_ _ _ h=>h) hS (.inl ⟨rfl,λw a=>?abO⟩) ?akW
   case abO=>obtain⟨d,l,m,n,o⟩:=a;go_simp;try with_reducible rfl
   simp only[Act.put];refine dH (v:=?v21) 21 rfl az az az az (λ_ _ _ h=>h) hS (.inl ⟨rfl,λw a=>?abP⟩) ?akX
   case abP=>obtain⟨d,l,m,n,o⟩:=a;go_simp;try with_reducible rfl
   simp only[Act.put];refine nG 13 az rfl (λK r=>?_);go_simp;go_wp2_with(go_at_call 70;refine CA.mono ?_;rintro e2 w2 ⟨N,O,P,rfl,Bz,C⟩);have b8:aD J w2:=⟨C.os,C.tape,C.output,C.size,C.block⟩;have d9:=hS.keep C;refine r.out _ _ (λ_=>d9) ?_;clear r;have g0:=CI w2 (aW b7.out b8);refine nG 22 az rfl (λK r=>?_);go_simp;go_wp2_with(go_at_call 89;refine g0.mono ?_;rintro e3 F ⟨Q,R,rfl,wY,rE⟩);have b9:=d9.keep rE;refine r.out _ _ (λ_=>b9) ?_;clear r;have g6:=aW b8 rE;refine nG 23 az rfl (λK r=>?_);go_simp;refine r.out _ _ (λ_=>b9) ?_;clear r;refine nG 24 az rfl (λK r=>?_);go_simp;have g7:=b9.keep (dI F (ai #[.string ⟨e.name.toArray⟩,.slice N O P,.int .i64 e.parent,.slice Q e.kids.length R] 147));refine r.out _ _ (λ_=>g7) ?_;clear r;have L:=aW g6 (dI F (ai #[.string ⟨e.name.toArray⟩,.slice N O P,.int .i64 e.parent,.slice Q e.kids.length R] 147));have g8:=d3.same (L.block _ d3.lt);obtain⟨w5,i1,e0,a5⟩:=iK.a7L (T:=138) g8 underlying3 underlying138 (by have:=h.few;simp only[maxLen];omega) f0 F.heap.size (A.non x b6);refine nG 25 az rfl (λK r=>?_);go_simp;refine r.out _ _ (λh=>absurd rfl h) ?_;clear r;refine UX az ?_ _;have g9:W.heap.size+1+1<J.heap.size:=by
    obtain⟨es,cl,si,se,c0, -, -, -, -,h5, -⟩:=a9;exact aY h5
   have j2:E<W.heap.size:=a6.lt;have q:=f9.out;have j3:=L.size;have e5:∀j,j≠W.heap.size->w5.heap[j]? =(F.alloc (ai #[.string ⟨e.name.toArray⟩,.slice N O P,.int .i64 e.parent,.slice Q e.kids.length R] 147)).heap[j]? :=λj H=>by
    rcases Nat.lt_or_ge j (F.alloc (ai #[.string ⟨e.name.toArray⟩,.slice N O P,.int .i64 e.parent,.slice Q e.kids.length R] 147)).heap.size with h1|h1
    .exact a5.grown.block j h1 (λs=>H (fF s))
    .obtain⟨es,cl,j4,j7,h2,h3⟩:=a5;rw[h3,qd h1,qd];simpa[ChangeMaps.setBlock] using h1
   have c1:∀j,j<J.heap.size->j≠W.heap.size->w5.heap[j]? =J.heap[j]? :=λj H hn=>(e5 j hn).trans (L.block j H);have RG:w5.ranges prog 3 uY E (W.heap.size+1+1) nx D (λz=>left z && !z.sameKey (.int .i64 x)) a8:=Ro a9 (c1 E aa aa) (c1 _ g9 aa);have h0:=bD Bz (aW rE (dI F (ai #[.string ⟨e.name.toArray⟩,.slice N O P,.int .i64 e.parent,.slice Q e.kids.length R] 147)));have h7:=bD wY (dI F (ai #[.string ⟨e.name.toArray⟩,.slice N O P,.int .i64 e.parent,.slice Q e.kids.length R] 147));have l2:∀g,(Value.slice N O P).ownBlock=some g->J.heap.size<=g/\g<w2.heap.size:=λg S=>Bz.lt g S;have l3:∀g,(Value.slice Q e.kids.length R).ownBlock=some g->w2.heap.size<=g/\g<F.heap.size:=λg S=>wY.lt g S;have j8:=b8.size;have j9:=rE.size;have sW:=b7.out.size;have NE:Yp W.heap.size mG (F.alloc (ai #[.string ⟨e.name.toArray⟩,.slice N O P,.int .i64 e.parent,.slice Q e.kids.length R] 147)) F.heap.size e (.slice N O P) (.slice Q e.kids.length R):=
    ⟨dN F _ _,aa,A.new aa,fO h0 sW,λg S=>⟨A.new (l2 g S).1,by have:=l2 g S;omega⟩,fO h7 aa,λg S=>⟨A.new (by have:=l3 g S;omega),by have:=l3 g S;omega,λs=>by have:=l2 g s;have:=l3 g S;omega⟩⟩
   have DW:=(A.below L).agn b0.1 b0.2 NE f6 (w':=w5) (e0.mono aa) e5 a5.grown.size;have c2:=X.put b6 e;rw[<- V7 y] at DW c2;have TG:ou mG x F.heap.size (.slice N O P) (.slice Q e.kids.length R) (W.heap.size+1+1)=none:=by
    unfold ou;rw[if_neg aa,if_neg (λs=>by have:=l2 _ s;omega),if_neg (λs=>by have:=l3 _ s;omega)];exact c6
   have h8:Hid (_/\_/\_/\_/\_/\_):=And.intro RG (And.intro DW (And.intro c2 (And.intro TG (And.intro e0 ((b7.out.trans (L.mono sW)).grown a5.grown aa (λj H=>by cases H;exact Nat.le_refl _))))));have h9:Hid (w5.rangeLeft E (W.heap.size+1+1)<wr.rangeLeft E (W.heap.size+1+1)):=(by rw[RG.left_eq,c4.left_eq];exact e8:w5.rangeLeft E (W.heap.size+1+1)<wr.rangeLeft E (W.heap.size+1+1));have i0:∀z,(left z && !z.sameKey (.int .i64 x))=true->Maps.has D z=true:=λz hz=>c5 z (by simp only[iW] at hz;exact hz.1);clear RG DW c2 TG NE e5 c1;go_wp2_with fail
   go_roundw
   case rel=>
    obtain⟨h1,h2,h3,h4,h5,h6⟩:=h8.out;exact⟨_,a8,_,_,_,h1,i0,h2,h3,h4,h5,h6⟩
   case measure=>exact h9.out
end
open Go.RowKit
def V8 (a:dm)(DB b:Nat):dm:=λx=>if x=DB then some .doc else if x=b then none else a x
theorem bT.home {B B':Nat}{d:dm}{w Z:ah}{DB j f:Nat}{p:Int->Option Nat}{M:Dm}{nx c:Nat}(h:bT B d w j f p M nx c)(n:B'<=DB)(o:DB<B)(q:∀b,B<=b->Z.heap[b]? =w.heap[b]?)(l:Z.heap[DB]? =some (ai #[.map (some f),ag nx] 140))(hs:w.heap.size<=Z.heap.size):bT B' (V8 d DB j) Z DB f p M nx c:=by
 have m:∀g t,d g=some t->t≠.doc->V8 d DB j g=some t/\Z.heap[g]? =w.heap[g]? :=λg t a r=>by
  have k:=(h.low g t a).1;refine⟨?_,q g k⟩;unfold V8;rw[if_neg aa,if_neg (λe=>by rw[e,h.mH] at a;cases a;exact r rfl)];exact a
 obtain⟨s,u⟩:=m f _ h.mJ aG;refine⟨l,by unfold V8;rw[if_pos rfl],h.map.same u,s,λi e v=>?_,h.non,λb t a=>?_,h.dom,h.wf,h.few,λb i x=>?_⟩
 .obtain⟨b,y,z,k,A⟩:=h.els i e v;exact⟨b,y,z,k,(A.turn λg t a C=>m g t a (by rcases C with rfl|rfl|rfl<;>simp)).a3C aa⟩
 .unfold V8 at a;split at a
  .rename_i e;subst e;exact⟨n,aY l⟩
  .split at a
   .cases a
   .have:=h.low b t a;omega
 .refine h.We b i ?_;unfold V8 at x;grind
structure Ed where
 kd:Bs
 n:Int
 m:Int
 ea:Int
 nm:Bs
 vl:Bs
abbrev rO (x:Ed):Array au:=#[ak ⟨x.kd.toArray⟩,ag x.n,ag x.m,ag x.ea,ak ⟨x.nm.toArray⟩,ak ⟨x.vl.toArray⟩]
structure EdC (w:ah)(b:Nat)(x:Ed):Prop where
 c0:w.cell? (aH b 0)=some (ak ⟨x.kd.toArray⟩)
 c1:w.cell? (aH b 1)=some (ag x.n)
 c2:w.cell? (aH b 2)=some (ag x.m)
 c3:w.cell? (aH b 3)=some (ag x.ea)
 c4:w.cell? (aH b 4)=some (ak ⟨x.nm.toArray⟩)
 c5:w.cell? (aH b 5)=some (ak ⟨x.vl.toArray⟩)
theorem EdC.of {w:ah}{b:Nat}{x:Ed}{t:TypeId}(h:w.heap[b]? =some (ai (rO x) t)):EdC w b x:=⟨aO h 0 _ rfl,aO h 1 _ rfl,aO h 2 _ rfl,aO h 3 _ rfl,aO h 4 _ rfl,aO h 5 _ rfl⟩
def gU:Bs:=[115,104,101,101,116]
theorem ace {a b:Bs}(h:a≠b):(a==b)=false:=dL.2 h
theorem V9 (x:Ed)(b:x.kd≠gU)(o:Option Addr)(n cp:Nat)(W:ah):
  aJ 85 #[aj o n cp,.agg (rO x)] W λe w'=>e=ax (aF #[aj o n cp,aU])/\aD W w':=by
 have a:=EdC.of (dN W (rO x) 94);have d:=a.c0;have c:=ace b;unfold gU at c;clear a;go_enter func85,ntmps85;go_wp2_with fail
 go_ret2
 exact⟨rfl,dI _ _⟩
theorem eG.cl {B:Nat}{g:dm}{W:ah}{DB j:Nat}{p:Int->Option Nat}{M:Dm}{nx c:Nat}{r:Int->Nat}(h:eG M)(k:j5 B g W DB j p M nx c r):agp M:=λi e b=>by
 obtain⟨-,l,d⟩:=h i e b;have m:=k.few b;refine⟨aa,aa,λa f=>?_⟩;have n:=lC (d.1 a f).1;have o:=pM (d.1 a f).2;simp only[maxLen];omega
set_option maxRecDepth 20000
abbrev ZE (a b:List fq)(h:Nat):List Int:=(sM (a.map fq.pc) (b.map fq.pc) h).map λ(y:Nat)=>(y:Int)
def Ci (E:Nat->Addr)(M:Dm)(rl:List Rl)(v:au)(w:ah):Prop:=∃a n,v=.iface 67 (aI a)/\w.cell? (aH a 0)=some (ag n)/\
 ((∃b,eH M rl=.error b/\w.cell? (aH a 1)=some (eV (E b.code)))\/(∃q x t,eH M rl=.ok (q++x::t)/\(∀y∈q,jU (gX y))/\¬jU (gX x)/\w.cell? (aH a 1)=some (.iface 453 (.pointer (some (C9 (E 2) (E 3) (E 10) (gX x).pts))))))
theorem Ci.no {E:Nat->Addr}{M:Dm}{rl:List Rl}{v:au}{w:ah}(h:Ci E M rl v w):¬JA M rl:=λ⟨l,b,c⟩=>by
 obtain⟨d,n, -, -,⟨e,a, -⟩|⟨q,x,t,a, -,f, -⟩⟩:=h
 .grind
 .grind
def DoK (W:ah)(LB B:Nat)(C:dm)(DB D:Nat)(p:Int->Option Nat)(M:Dm)(nx c:Nat)(r:Int->Nat)(rl:List Rl)(F:au)(l:List fq)(pv:au)(w h:Nat)(H:au)(E:Nat->Addr)(I:au->Prop)(J:au->ah->Prop)(x:Prop)(y:Dm->Nat->Nat->(Int->Nat)->Prop)(a:List Rl)(e:Ending)(w':ah):Prop:=
 ((∃t u,e=.returned (.tuple #[.slice none 0 0,.iface t u])/\(I (.iface t u)\/J (.iface t u) w'\/(x/\∃d i j k,y d i j k/\Ci E d a (.iface t u) w')))/\aD W w'/\LvS w' LB B C DB D p M nx c r rl F l pv w h H)\/
 (x/\∃z m K d i j k q s v f o n A,y d i j k/\JA d a/\K2 LB DB W w'/\e=.returned (.tuple #[.slice o n A,.nilIface])/\w'.ownsRow W.heap.size 3 1 (.slice o n A) (ZE l s h).length (bO (ZE l s h))/\LvS w' LB B z DB m K d i j k a q s v w h f/\(∀b,b<W.heap.size->b≠DB->z b=none)/\∀g,f.ownBlock=some g->W.heap.size<=g)
variable {E:Nat->Addr}{W:ah}{LB B:Nat}{C:dm}{DB A:Nat}{p:Int->Option Nat}{M:Dm}{nx c:Nat}{r:Int->Nat}{rl:List Rl}{H:au}{F:List fq}{pv:au}{w h:Nat}{I:au}
structure ZF (Y:ah)(LB:Nat)(cs:Array au)(t:TypeId)(Z:ah):Prop where
 lb:Z.heap[LB]? =some (.cells cs t)
 ne:∀b,b≠LB->Z.heap[b]? =Y.heap[b]?
 sz:Z.heap.size=Y.heap.size
 os:Z.os=Y.os
 tape:Z.tape=Y.tape
 out:Z.output=Y.output
theorem ZF.set {Y Z:ah}{LB:Nat}{cs:Array au}{t:TypeId}{i:Nat}{v:au}(h:ZF Y LB cs t Z):ZF Y LB (cs.setIfInBounds i v) t (Z.setCell ⟨LB,i,none⟩ v):=by
 have a:=(aQ LB Z).setCell (p:=⟨LB,i,none⟩) ay v;exact⟨heap_setCell_same Z LB i _ _ _ h.lb,λb c=>(bY _ _ _ b c).trans (h.ne b c),(mO _ _ _).trans h.sz,a.os.trans h.os,a.tape.trans h.tape,a.output.trans h.out⟩
theorem ZF.drew {Y Z:ah}{LB:Nat}{cs:Array au}{t:TypeId}(h:ZF Y LB cs t Z):ZF Y LB cs t Z.drew:=⟨h.lb,h.ne,h.sz,h.os,h.tape,h.out⟩
theorem ZF.self {Y:ah}{LB:Nat}{cs:Array au}{t:TypeId}(h:Y.heap[LB]? =some (.cells cs t)):ZF Y LB cs t Y:=⟨h,λ_ _=>rfl,rfl,rfl,rfl,rfl⟩
theorem Ik {w w':ah}{a k n:Nat}{t:TypeId}{v:au}{b:List au}(h:w.ownsRow a t k v n b)(hs:∀(g:Nat) (cs:Array au) (f:Nat×Nat),w.heap[g]? =some (Obj.cells cs t f)->w'.heap[g]? =w.heap[g]?):w'.ownsRow a t k v n b:=
 di h λg c=>by obtain⟨cs,f,d, -⟩:=fM h g c;exact hs g cs f d
theorem a7N {x:fq}(h:jU (gX x.pc)):x.pts.length<=1000:=by
 have a:x.pts.length<=30:=h.1.1;omega
theorem acf (a b:List fq)(y:Nat):(!decide ((Ce (a.map fq.pc) y).map sJ=(Ce (b.map fq.pc) y).map sJ))=false↔sP ((a.map fq.p5).filter λx=>bA x.s.pts y)=sP ((b.map fq.p5).filter λx=>bA x.s.pts y):=by
 have d:∀l:List fq,sP ((l.map fq.p5).filter λx=>bA x.s.pts y)=(Ce (l.map fq.pc) y).map gX:=λl=>by
  rw[<- UO,List.filter_map,List.map_map,sP,List.map_map,List.filter_map];rfl
 rw[d,d];simp only[Bool.not_eq_false',kZ];constructor
 .exact λc=>X9 c
 .intro c;have e:∀l:List Pc,l.map sJ=(l.map gX).map λs=>(s.fill.toList,s.rule.toList,s.pts):=λl=>by
   rw[List.map_map];refine List.map_congr_left λx _=>?_;simp[sJ,gX,gz]
  rw[e,e,c]
theorem a7O (hE:LE E W)(hl:LvS W LB B C DB A p M nx c r rl H F pv w h I)(f6:1<=w)(hw:w<=40)(Aa:1<=h)(hh:h<=40)(x:Ed)(AE:au->Prop)(RE:au->ah->Prop)(RO:Prop)(AO:Dm->Nat->Nat->(Int->Nat)->Prop)(j:List Rl)(f7:∀y∈j,RlG y)
  (f8:∀N V wX Ij S p1,W.heap.size<=N->aD W V->j5 N wX V Ij S p1 M nx c r->aJ 84 #[aI Ij,.agg (rO x)] V λe w'=>Below N V w'/\((∃t u,AE (.iface t u)/\e=.returned (.iface t u))\/(e=.returned .nilIface/\∃Ev p2 M2 oH c2 r2,AO M2 oH c2 r2/\eG M2/\j5 N Ev w' Ij S p2 M2 oH c2 r2)))
  (f9:∀V,aD W V->aJ 85 #[H,.agg (rO x)] V λe w'=>aD V w'/\((∃u t y,RE (.iface t y) w'/\e=.returned (.tuple #[u,.iface t y]))\/(RO/\∃o n cp,e=.returned (.tuple #[.slice o n cp,.nilIface])/\w'.ownsRow B 150 3 (.slice o n cp) j.length (fE j)))):
  aJ 44 #[aI LB,.agg (rO x)] W λe w'=>DoK W LB B C DB A p M nx c r rl H F pv w h I E AE RE RO AO j e w':=by
 obtain⟨UR,UT,YF⟩:=bg hl.row;obtain⟨c0,c1,i2⟩:=bg hl.pc.own;obtain⟨a8,a9,i3⟩:=bg hl.Xc;subst YF i2 i3;have b0:=dI W (.cells (rO x) 94);have kb:=dN W (rO x) 94;go_enter func44,ntmps44;go_upto_region 1 with fail;obtain⟨U,hU⟩:∃U,W.alloc (.cells (rO x) 94)=U:=⟨_,rfl⟩;rw[hU] at b0 kb⊢;clear hU;have b7:=hl.below b0;have l0:=aO b7.lb 0 _ rfl;have CL:aJ 83 #[aI DB] U λe w1=>∃Ij S wX p1,e=.returned (aI Ij)/\aD U w1/\Hid (j5 U.heap.size wX w1 Ij S p1 M nx c r):=(ZC b7.ds.w b7.ds.n (hl.ok.cl hl.ds)).mono λe w1 ⟨a,Ij,S,wX,p1,d,i⟩=>⟨Ij,S,wX,p1,d,a,i,hl.ds.d,hl.ds.n,hl.ds.le,a.size⟩;go_upto_region 2 with(go_at_call 83;refine CL.mono ?_;rintro e w1 ⟨Ij,S,wX,p1,rfl,b1,g0⟩);have yU:=aW b0 b1;have AP:=f8 U.heap.size w1 wX Ij S p1 b0.size yU g0.out;have c3:=(b1.block _ (aY kb)).trans kb;obtain⟨e0,e1,e2,e3,e4,e5⟩:=EdC.of c3;clear l0 CL b7 f8 g0;go_upto_region 3 with(go_at_call 84;refine AP.mono ?_;rintro e w2 ⟨b2,d⟩;obtain⟨v2,rfl,i4⟩:∃v,e=.returned v/\((∃t u,AE (.iface t u)/\v=.iface t u)\/(v=.nilIface/\∃Ev p2 M2 oH c2 r2,AO M2 oH c2 r2/\eG M2/\j5 U.heap.size Ev w2 Ij S p2 M2 oH c2 r2)):=(by rcases d with⟨t,u,k1,k2⟩|⟨k1,k2⟩;exact⟨_,k2,.inl ⟨t,u,k1,rfl⟩⟩;exact⟨_,k1,.inr ⟨rfl,k2⟩⟩);clear d);clear AP e0 e1 e2 e3 e4 e5;have NG:aD W w2:=yU.trans (b2.mono b0.size);rcases i4 with⟨t,u,ha,rfl⟩|⟨rfl,Ev,p2,M2,oH,c2,r2,c7,a4,g1⟩
 .go_wp2_with fail
  go_ret2
  exact .inl ⟨⟨t,u,rfl,.inl ha⟩,NG,hl.below NG⟩
 have sU:=aY kb;have i5:w2.heap[W.heap.size]? =some (.cells (rO x) 94):=(b2.block _ sU).trans c3;have k2:=EdC.of i5;have i6:=(NG.block _ (aY hl.lb)).trans hl.lb;have RB:=(f9 w2.drew (below_drewN NG 1)).mono (R':=λe w3=>∃v u,e=.returned (.tuple #[v,u])/\aD w2 w3/\((∃t y,RE (.iface t y) w3/\u=.iface t y)\/(RO/\u=.nilIface/\∃o n cp,v=.slice o n cp/\w3.ownsRow B 150 3 (.slice o n cp) j.length (fE j)))) λe w3 ⟨q1,q2⟩=>by
  have g2:aD w2 w3:=⟨q1.os,q1.tape,q1.output,q1.size,q1.block⟩;rcases q2 with⟨u,t,y,q2,q3⟩|⟨ro,o,n,cp,q3,q4⟩
  .exact⟨_,_,q3,g2,.inl ⟨t,y,q2,rfl⟩⟩
  .exact⟨_,_,q3,g2,.inr ⟨ro,rfl,o,n,cp,rfl,q4⟩⟩
 obtain⟨e0,e1,e2,e3,e4,e5⟩:=k2;have l1:=aO i6 1 _ rfl;have g3:=aA g1;have s:=aA hl;clear f9 g1 hl kb c3;go_upto_region 5 with fail
 go_cut [8,9] from 24 to 32 (λv u wx=>aD w2 wx/\((∃t y,RE (.iface t y) wx/\u=.iface t y)\/(RO/\u=.nilIface/\∃o n cp,v=.slice o n cp/\wx.ownsRow B 150 3 (.slice o n cp) j.length (fE j))))
 case first=>
  go_region_with (go_at_call 85;refine RB.mono ?_;rintro e w3 ⟨v3,u3,rfl,b3,i⟩)
  all_goals go_wp2_with fail
  all_goals go_meet
  all_goals exact⟨b3,i⟩
 case rest=>
  clear RB l1 e0 e1 e2 e3 e4 e5;obtain⟨b3,i⟩:=hcut;have ym:=aW NG b3;rcases i with⟨t,y,i7,rfl⟩|⟨c8,rfl,o3,n3,a5,rfl,wY⟩
  .go_wp2_with fail
   go_ret2
   exact .inl ⟨⟨t,y,rfl,.inr (.inl i7)⟩,ym,s.out.below ym⟩
  have i8:=g3.out.below b3;have PI:=zf (l:=j) (B0:=B) ⟨i8,(hE.below ym).ne,a4.fit.1,a4.fit.2,f7,wY⟩;obtain⟨pm,c9⟩:∃x,eH M2 j=x:=⟨_,rfl⟩;rw[c9] at PI;have ZG:=aA c9;clear c9;cases pm with
  |error ft=>
   have d0:=PI.mono (R':=λe T=>∃J,e=.returned (.tuple #[.slice none 0 0,.iface 67 (aI J)])/\Hid (T.cell? (aH J 0)=some (ag ft.pl)/\T.cell? (aH J 1)=some (eV (E ft.code)))/\aD wc T) λe T ⟨⟨u,a,J,_,d,i⟩,h4⟩=>⟨J,by rw[a,d],⟨aO i 0 _ rfl,aO i 1 _ rfl⟩,h4⟩;clear PI;go_wp2_with(go_at_call 40;refine d0.mono ?_;rintro e T ⟨J,rfl,g4,b4⟩)
   go_ret2
   have P:=aW ym b4;exact .inl ⟨⟨_,_,rfl,.inr (.inr ⟨c8,M2,oH,c2,r2,c7,J,ft.pl,rfl,g4.out.1,.inl ⟨ft,ZG.out,g4.out.2⟩⟩)⟩,P,s.out.below P⟩
  |ok l=>
   have d0:=PI.mono (R':=λe T=>∃k o4 n4 c4,e=.returned (.tuple #[.slice o4 n4 c4,.nilIface])/\Hid (k.map fq.pc=l)/\xM T wc.heap.size (.slice o4 n4 c4) k/\aD wc T) λe w' ⟨⟨F,v,a,d,i,h4,h5⟩,h6⟩=>by
    obtain⟨o,cp,rfl⟩:=bg i;exact⟨F,o,_,cp,d,a,⟨i,h4,h5⟩,h6⟩
   clear PI;go_upto_region 11 with(go_at_call 40;refine d0.mono ?_;rintro e T ⟨k,o4,n4,c4,rfl,q4,p4,b4⟩);have P:=aW ym b4;have g5:=(P.block _ (aY s.out.lb)).trans s.out.lb;have l2:=aO g5 2 _ rfl;have l4:=aO g5 4 _ rfl;have d1:k.length<=1000:=by have a:=uF ZG.out;rw[<- q4.out,dF] at a;exact a
   have i9:∀y∈k.map fq.p5,y.s.pts.length<=1000:=λy hy=>by
    obtain⟨z,L,rfl⟩:=gu.1 hy;have a:=Yv ZG.out z.pc (by rw[<- q4.out];exact List.mem_map_of_mem L);exact bu a aa
   have j0:∀y∈F.map fq.p5,y.s.pts.length<=1000:=λy hy=>by
    obtain⟨z,L,rfl⟩:=gu.1 hy;exact a7N (s.out.pk z L)
   have CR:aJ 86 #[.slice c0 F.length c1,.slice o4 n4 c4,ag h] T.drew λe w5=>∃o n cp,e=.returned (.slice o n cp)/\w5.ownsRow T.heap.size 3 1 (.slice o n cp) (ZE F k h).length (bO (ZE F k h))/\aD T w5:=by
    obtain⟨oA,cA,j1,j2,j3⟩:=(s.out.pc.below (below_drewN P 1)).row;obtain⟨oB,cB,d2,d3,d4⟩:=(p4.below (below_drewN (aQ _ _) 1)).row;change Value.slice _ _ _=_ at j1;change Value.slice _ _ _=_ at d2;rw[j1,d2];refine(Ef (E 2) (E 3) (E 3) _ _ oA oB cA cB h (λy=> !decide ((Ce (F.map fq.pc) y).map sJ=(Ce (k.map fq.pc) y).map sJ)) T.drew (by rw[dF];exact s.out.ql) (by rw[dF];exact d1) j2 d3 j3 d4 j0 i9 (hE.below (below_drewN P 1)).ep.e3 aa (acf F k)).mono λe w5 ⟨v,a,d,i⟩=>?_;obtain⟨o,cp,rfl⟩:=bg d;exact⟨o,_,cp,a,d,⟨i.os,i.tape,i.output,i.size,i.block⟩⟩
   go_cut [11] from 45 to 55 (λv wx=>∃o n cp,v=.slice o n cp/\wx.ownsRow T.heap.size 3 1 (.slice o n cp) (ZE F k h).length (bO (ZE F k h))/\aD T wx)
   case first=>
    go_region_with (go_at_call 86;refine CR.mono ?_;rintro e w5 ⟨o5,n5,c5,rfl,vv,b5⟩)
    all_goals go_wp2_with fail
    all_goals go_meet
    all_goals exact⟨_,_,_,rfl,vv,b5⟩
   case rest=>
    obtain⟨o5,n5,c5,rfl,vv,b5⟩:=hcut;clear CR l2 l4;have Q:=aW P b5;have d6:=(Q.block _ (aY s.out.lb)).trans s.out.lb;have l3:=aO d6 3 _ rfl;have l4:=aO d6 4 _ rfl;have l5:=aO d6 5 _ rfl;have j4:=UQ (F.map fq.pc) (k.map fq.pc) h;have PA:aJ 87 #[.agg #[ag w,ag h,.slice a8 (w*h) a9],.slice o4 n4 c4,.slice o5 n5 c5] wc λe D=>aD wc D/\(((∀x∈k,jU (gX x.pc))/\∃g cp,e=.returned (.tuple #[.agg #[ag w,ag h,.slice (some ⟨g,0,none⟩) (w*h) cp],.nilIface])/\Hid (D.ownsRow wc.heap.size 9 1 (.slice (some ⟨g,0,none⟩) (w*h) cp) (w*h) ((ng bA ((k.map fq.pc).map gX) w h).map .string)))\/((¬∀x∈k,jU (gX x.pc))/\∃J,e=.returned (.tuple #[.agg #[ag 0,ag 0,.slice none 0 0],.iface 67 (aI J)])/\Hid (Jq (E 2) (E 3) (E 10) (k.map fq.p5) wc.heap.size J D))):=by
     obtain⟨oB,cB,d2,d3,d4⟩:=(p4.below b5).row;rw[d2];refine(Ee (E 2) (E 3) (E 3) (E 10) (k.map fq.p5) oB cB w h _ B (.slice a8 (w*h) a9) (sM (F.map fq.pc) (k.map fq.pc) h) T.heap.size (.slice o5 n5 c5) wc f6 hw Aa hh (by rw[dF];exact d1) d3 d4 (hE.below Q).ep (bD s.out.Xc Q) (lH _ _ _ _) (by simpa using vv) (bu (List.length_filter_le _ _) (by rw[List.length_range];omega)) j4.2).mono λe D ⟨a,d⟩=>⟨d,?_⟩;have g7:nD (k.map fq.p5)↔∀x∈k,jU (gX x.pc):=by
      unfold nD;constructor
      .intro hh x hx;exact hh _ (List.mem_map_of_mem hx)
      .intro hh x hx;obtain⟨y,hy,rfl⟩:=gu.1 hx;exact hh y hy
     rcases a with⟨i,v,h4,h5⟩|⟨i,J,h4,h5⟩
     .obtain⟨g,cp,rfl, -, -⟩:=h5.form (Nat.mul_pos f6 Aa);rw[a9w,<- L8,a3g] at h5;exact .inl ⟨g7.1 i,g,cp,h4,h5⟩
     .exact .inr ⟨λhh=>i (g7.2 hh),J,h5,h4⟩
    by_cases hk:∀x∈k,jU (gX x.pc)
    .have d7:=PA.mono (R':=λe D=>∃g cp,e=.returned (.tuple #[.agg #[ag w,ag h,.slice (some ⟨g,0,none⟩) (w*h) cp],.nilIface])/\aD wc D/\Hid (D.ownsRow wc.heap.size 9 1 (.slice (some ⟨g,0,none⟩) (w*h) cp) (w*h) ((ng bA ((k.map fq.pc).map gX) w h).map .string))) λe D ⟨a,d⟩=>by
      rcases d with⟨-,g,cp,i,h4⟩|⟨d, -⟩
      .exact⟨g,cp,i,a,h4⟩
      .exact absurd hk d
     have HK:=aA hk;clear PA hk;go_upto_region 15 with(go_at_call 87;refine d7.mono ?_;rintro e D ⟨g6,c6,rfl,b6,Zu⟩);have bX:=dI D (.cells #[ag w,ag h,.slice (some ⟨g6,0,none⟩) (w*h) c6] 81);have pX:=dN D #[ag w,ag h,.slice (some ⟨g6,0,none⟩) (w*h) c6] 81;obtain⟨X,hX⟩:∃X,D.alloc (.cells #[ag w,ag h,.slice (some ⟨g6,0,none⟩) (w*h) c6] 81)=X:=⟨_,rfl⟩;rw[hX] at bX pX⊢;have d8:=aW b6 bX;have d9:=aW b5 d8;have g8:=aW b4 d9;have R:=aW Q d8;have a6:=(R.block _ (aY s.out.lb)).trans s.out.lb;have K:=(R.block _ (aY s.out.ds.w.doc)).trans s.out.ds.w.doc;have dX:=g3.out.below (aW b3 g8);have b8:=dX.w.doc;have g9:LB≠DB:=λe1=>by rw[e1,K] at a6;cases a6
     have k5:=aY s.out.lb;have k6:=aY s.out.ds.w.doc;have j7:W.heap.size<=D.heap.size:=(aW Q b6).size;obtain⟨PB,h0⟩:∃PB,D.heap.size=PB:=⟨_,rfl⟩;rw[h0] at pX j7⊢;have x0:X.drew.cell? (aH LB 0)=some (aI DB):=aO a6 0 _ rfl;have x1:X.drew.cell? (aH Ij 0)=some (.map (some S)):=aO b8 0 _ rfl;have x2:X.drew.cell? (aH Ij 1)=some (ag oH):=aO b8 1 _ rfl;have x3:X.drew.cell? (aH DB 0)=some (.map (some A)):=aO K 0 _ rfl;have x5:X.drew.frozen? ⟨DB,0,none⟩=false:=bq K 0;have y1:X.cell? (aH Ij 0)=some (.map (some S)):=aO b8 0 _ rfl;have y2:X.cell? (aH Ij 1)=some (ag oH):=aO b8 1 _ rfl;have y3:X.cell? (aH DB 0)=some (.map (some A)):=aO K 0 _ rfl;have y4:X.cell? (aH DB 1)=some (ag nx):=aO K 1 _ rfl;have y5:X.frozen? ⟨DB,0,none⟩=false:=bq K 0;have y6:X.frozen? ⟨DB,1,none⟩=false:=bq K 1;clear hX h0;go_region;have yz:∃O,ZF X DB O 140 ((X.setCell ⟨DB,0,none⟩ (.map (some S))).setCell ⟨DB,1,none⟩ (ag oH)).drew/\O=#[.map (some S),ag oH]:=⟨_,((ZF.self K).set.set).drew,rfl⟩;obtain⟨k7,yz,h7⟩:=yz;subst h7;obtain⟨Y,hY⟩:∃Y,((X.setCell ⟨DB,0,none⟩ (.map (some S))).setCell ⟨DB,1,none⟩ (ag oH)).drew=Y:=⟨_,rfl⟩;rw[hY] at yz⊢;clear hY x0 x1 x2 x3 x5 y1 y2 y3 y4 y5 y6;have m:=(yz.ne LB g9).trans a6;have pY:=(yz.ne PB aa).trans pX;have h8:∀Z,ZF Y LB #[aI DB,.slice o3 n3 a5,.slice o4 n4 c4,ag w,ag h,.slice (some ⟨g6,0,none⟩) (w*h) c6] 88 Z->DoK W LB B C DB A p M nx c r rl (.slice UR rl.length UT) F (.slice c0 F.length c1) w h (.slice a8 (w*h) a9) E AE RE RO AO j (.returned (.tuple #[.slice o5 n5 c5,.nilIface])) Z:=λZ L=>by
      have zn:∀b,b≠LB->b≠DB->Z.heap[b]? =X.heap[b]? :=λb a d=>(L.ne b a).trans (yz.ne b d);have zs:Z.heap.size=X.heap.size:=L.sz.trans yz.sz;have a7:∀(g:Nat) (O:Array au) (t:TypeId) (f:Nat×Nat),X.heap[g]? =some (Obj.cells O t f)->t≠88->t≠140->Z.heap[g]? =X.heap[g]? :=λg O t f a d i=>zn g (λe1=>by rw[e1,a6] at a;cases a;exact d rfl) (λe1=>by rw[e1,K] at a;cases a;exact i rfl);have j8:Z.heap[DB]? =some (.cells #[.map (some S),ag oH] 140):=(L.ne DB (λe1=>g9 e1.symm)).trans yz.lb;have b9:B<=W.heap.size:=by have a:=s.out.base;omega
      have j9:=(s.out.ds.w.low _ _ s.out.ds.w.mH).1;have zk:K2 LB DB W Z:=⟨L.os.trans (yz.os.trans R.os),L.tape.trans (yz.tape.trans R.tape),L.out.trans (yz.out.trans R.output),by rw[zs];exact R.size,λb hb a d=>(zn b a d).trans (R.block b hb)⟩;have hw:=dX.w.home (B':=B) (Z:=Z) (DB:=DB) j9 (by have:=b0.size;omega) (λb hb=>zn b (by have:=b0.size;omega) (by have:=b0.size;omega)) j8 (by rw[zs];exact Nat.le_refl _);refine .inr ⟨c8,_,S,p2,M2,oH,c2,r2,.slice o3 n3 a5,k,.slice o4 n4 c4,.slice (some ⟨g6,0,none⟩) (w*h) c6,o5,n5,c5,c7,⟨l,ZG.out,λy hy=>?_⟩,zk,rfl,?_,⟨L.lb,s.out.base,⟨hw,dX.d,dX.n,dX.le,by rw[zs];exact bu b9 R.size⟩,a4,f7,?_,⟨?_,λy hy=>?_,p4.rt⟩,by rw[q4.out];exact ZG.out,HK.out,d1,?_⟩,λb k8 k0=>?_,λg hg=>bu Q.size (Zu.out.lt g hg).1⟩
      .rw[<- q4.out] at hy;obtain⟨z,f0,rfl⟩:=gu.1 hy;exact HK.out z f0
      .exact fO (Ik (bD vv d8) λg O f hg=>a7 g O _ f hg aC aC) P.size
      .exact Ik (bD wY g8) λg O f hg=>a7 g O _ f hg aC aC
      .exact fO (Ik (bD p4.own d9) λg O f hg=>a7 g O _ f hg aC aC) (bu b9 ym.size)
      .exact fO (Ik (bD (p4.pts y hy) d9) λg O f hg=>a7 g O _ f hg aC aC) (bu b9 ym.size)
      .exact fO (Ik (bD Zu.out bX) λg O f hg=>a7 g O _ f hg aC aC) (bu b9 Q.size)
      .have k9:=b0.size;unfold V8;rw[if_neg k0];split
       .rfl
       .cases ht:Ev b with
        |none=>rfl
        |some t=>have:=(dX.w.low b t ht).1;omega
     have h9:=aA h8;clear h8;have y1:=aO m 1 _ rfl;have y2:=aO m 2 _ rfl;have y3:=aO m 3 _ rfl;have y4:=aO m 4 _ rfl;have y5:=aO m 5 _ rfl;have f1:=bq m 1;have f2:=bq m 2;have f3:=bq m 3;have f4:=bq m 4;have f5:=bq m 5;have p1:=aO pY 0 _ rfl;have p2:=aO pY 1 _ rfl;have p3:=aO pY 2 _ rfl;go_upto_region 16 with fail;go_region;have L:∃O,ZF Y LB O 88 (((((Y.setCell ⟨LB,1,none⟩ (.slice o3 n3 a5)).setCell ⟨LB,2,none⟩ (.slice o4 n4 c4)).setCell ⟨LB,3,none⟩ (ag w)).setCell ⟨LB,4,none⟩ (ag h)).setCell ⟨LB,5,none⟩ (.slice (some ⟨g6,0,none⟩) (w*h) c6)).drew/\O=#[aI DB,.slice o3 n3 a5,.slice o4 n4 c4,ag w,ag h,.slice (some ⟨g6,0,none⟩) (w*h) c6]:=⟨_,((ZF.self m).set.set.set.set.set).drew,rfl⟩;obtain⟨l7,L,i0⟩:=L;subst i0;have HZ:Hid (DoK W LB B C DB A p M nx c r rl (.slice UR rl.length UT) F (.slice c0 F.length c1) w h (.slice a8 (w*h) a9) E AE RE RO AO j (.returned (.tuple #[.slice o5 n5 c5,.nilIface])) (((((Y.setCell ⟨LB,1,none⟩ (.slice o3 n3 a5)).setCell ⟨LB,2,none⟩ (.slice o4 n4 c4)).setCell ⟨LB,3,none⟩ (ag w)).setCell ⟨LB,4,none⟩ (ag h)).setCell ⟨LB,5,none⟩ (.slice (some ⟨g6,0,none⟩) (w*h) c6)).drew):=h9.out _ L;clear L h9;go_wp2_with fail
     go_ret2
     exact HZ.out
    .have d7:=PA.mono (R':=λe D=>∃J,e=.returned (.tuple #[.agg #[ag 0,ag 0,.slice none 0 0],.iface 67 (aI J)])/\Hid (Jq (E 2) (E 3) (E 10) (k.map fq.p5) wc.heap.size J D)/\aD wc D) λe D ⟨a,d⟩=>by
      rcases d with⟨d, -⟩|⟨-,J,i,h4⟩
      .exact absurd d hk
      .exact⟨J,i,h4,a⟩
     clear PA hk;go_wp2_with(go_at_call 87;refine d7.mono ?_;rintro e D ⟨J,rfl,k3,b6⟩)
     go_ret2
     have bm:=dI D (.cells #[ag 0,ag 0,.slice none 0 0] 81);have i1:=aW Q (aW b6 bm);obtain⟨q,y,t,e1,e2,e3, -,⟨n0,e4⟩,e5⟩:=k3.out;obtain⟨q',l2,k4,e6,e7⟩:=List.map_eq_append_iff.1 e1;obtain⟨y',t',rfl,e8,e9⟩:=List.map_eq_cons_iff.1 e7;subst e6 e8 e9 k4;refine .inl ⟨⟨_,_,rfl,.inr (.inr ⟨c8,M2,oH,c2,r2,c7,J,n0,rfl,(bm.cell (aK e4)).trans e4,.inr ⟨q'.map fq.pc,y'.pc,t'.map fq.pc,?_,λz L=>?_,e3,(bm.cell (aK e5)).trans e5⟩⟩)⟩,i1,s.out.below i1⟩
     .rw[ZG.out,<- q4.out];simp
     .obtain⟨z',f0,rfl⟩:=gu.1 L;exact e2 _ (List.mem_map_of_mem f0)

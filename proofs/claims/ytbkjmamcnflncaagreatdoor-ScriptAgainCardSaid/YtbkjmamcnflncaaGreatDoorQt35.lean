import Derived.Test.YtbkjmamcnflncaaGreatDoorQt34
namespace Go.Proofs.YtbkjmamcnflncaaGreatDoor
open Go.Proofs.Tryz
set_option maxHeartbeats 8000000
variable{left:Lit->Bool}{t:TypeId}
section
open Go.RowKit
section
variable {B:Nat}{C:dG}{w w':ai}{DB A:Nat}{p:Int->Option Nat}{M:Dm}{nx c:Nat}
theorem dm.ah6 (h:dm B C w DB A p M nx c){k:Int}(z:0<=k)(D:k<nx){b:Nat}{e:ig}{va vk:ax}(a:Z4 B C w b e va vk)(K:eH e.parent/\∀k∈e.kids,eH k)
  (E:iZ prog 3 w' A (λi=>if i=k then some b else p i) nx (c+1))
  (hs:∀x,x≠A->w'.heap[x]? =w.heap[x]?) (F:w.heap.size<=w'.heap.size):dm B (pz C k b va vk) w' DB A (λi=>if i=k then some b else p i) (eP M k e) nx (c+1):=by
 have q:∀x t,C x=some t->pz C k b va vk x=some t:=λx t n=>GQ n a.tag (λg d=>(a.oC g d).1) (λg d=>(a.jQ g d).1);have H:∀x t,C x=some t->t≠.map->x≠A:=λx t n s e=>s (fT (n.symm.trans (e▸h.mZ)));have r:∀x,C x=none->x≠A:=λx y e=>(by rw[e,h.mZ] at y;exact absurd y aI);refine⟨(hs DB (H _ _ h.mY aI)).trans h.doc,q _ _ h.mY,E,q _ _ h.mZ,λi f l=>?_,λi m=>?_,λx t n=>?_,λi f l=>?_,λi f l=>?_,h.few,λx j o=>?_⟩
 .unfold eP at l;by_cases m:i=k
  .rw[aR m] at l;cases l;subst m;refine⟨b,va,vk,aI,⟨(hs b (r b a.tag)).trans a.cells,by unfold pz;rw[aR rfl],dF a.ats λg d=>?_,λg d=>?_,dF a.kids λg d=>?_,λg d=>?_⟩⟩
   .exact hs g (r g (a.oC g d).1)
   .unfold pz;rw[aG (a.oC g d).2,aR d]
   .exact hs g (r g (a.jQ g d).1)
   .unfold pz;rw[aG (a.jQ g d).2.1,aG (a.jQ g d).2.2,aR d]
  .rw[aG m] at l;obtain⟨I,u,v,J,s⟩:=h.els i f l;refine⟨I,u,v,by simp only[aG m];exact J,s.turn λg t n L=>⟨q g t n,?_⟩⟩;grind
 .unfold eP at m;by_cases o:i=k
  .grind
  .rw[aG o] at m;simp only[aG o];exact h.non i m
 .unfold pz at n;split at n
  .rename_i e;subst e;exact⟨a.low,fK (bu a.cells) F⟩
  .split at n
   .rename_i e;have:=a.ats.lt x e;omega
   .split at n
    .rename_i e;have:=a.kids.lt x e;omega
    .have:=h.low x t n;omega
 .unfold eP at l;by_cases m:i=k
  .omega
  .rw[aG m] at l;exact h.dom i f l
 .unfold eP at l;by_cases m:i=k
  .grind
  .rw[aG m] at l;exact h.wf i f l
 .unfold pz at o;split at o
  .grind
  .split at o
   .grind
   .split at o
    .grind
    .exact h.Xa x j o
end
def uw (M:Dm)(left:Lit->Bool):Dm:=λi=>if left (.int .i64 i) then none else M i
theorem VI {M:Dm}{k:Int}{e:ig}(a:M k=some e):uw M (λz=>left z && !z.sameKey (.int .i64 k))=eP (uw M left) k e:=by
 funext i;unfold uw eP;by_cases h:i=k
 .subst h;simp[Lit.sameKey,a]
 .have:(Lit.int .i64 i).sameKey (.int .i64 k)=false:=by simp[Lit.sameKey,h]
  simp[this,h]
theorem Cd.put {M:Dm}{c:Nat}(h:Cd M c){k:Int}(a:M k=none)(e:ig):Cd (eP M k e) (c+1):=by
 obtain⟨l,b,d,f⟩:=h;refine⟨k::l,qN.2 ⟨λg=>(f k).1 g a,b⟩,by simp[d],λx=>?_⟩;unfold eP;grind
theorem Cd.uniq {M:Dm}{c d:Nat}(h:Cd M c)(k:Cd M d):c=d:=by
 obtain⟨l,a,rfl,b⟩:=h;obtain⟨m,e,rfl,f⟩:=k;exact List.Perm.length_eq ((List.perm_ext_iff_of_nodup a e).2 λx=>(b x).trans (f x).symm)
theorem Cd.ad2 {M L:Dm}{c d:Nat}(h:Cd L c)(k:Cd M d)(hs:∀i f,L i=some f->∃g,M i=some g){x:Int}(r:L x=none)(s:∃e,M x=some e):c+1<=d:=by
 obtain⟨l,j,rfl,n⟩:=h;obtain⟨m,t,rfl,o⟩:=k;have p:x ∉ l:=by grind
 refine Fv (x::l) m (qN.2 ⟨p,j⟩) λy a=>(o y).2 ?_;rcases gP.1 a with rfl|a
 .grind
 .cases b:L y with
  |none=>exact absurd b ((n y).1 a)
  |some f=>obtain⟨g,q⟩:=hs y f b;rw[q];simp
end
section
open Go.RowKit Go.Maps
set_option maxRecDepth 20000
def ah7 (M:Dm):Prop:=∀i e,M i=some e->e.ats.length<=1000000/\e.kids.length<=1000000/\∀a∈e.ats,a.1.length<=maxLen/\a.2.length<=maxLen
theorem Ja {w:ai}{B:Nat}{v:ax}{l:List (Bs×Bs)}(h:w.ownsRow B 145 2 v l.length (bZ l))(q:∀a∈l,a.1.length<=maxLen/\a.2.length<=maxLen):rU w v l:=by
 obtain⟨o,b,c,d,e,f,r⟩:=eT h;refine⟨o,b,c,d,e,f,λi x j=>?_⟩;obtain⟨k,m⟩:=zx l i x j;obtain⟨g,n,s⟩:=eF h _ _ k;obtain⟨t,p,u⟩:=eF h _ _ m;grind
theorem a0f {w0:ai}{N nx:Nat}{M:Dm}(d:w0.heap[N+1]? =some (ak #[.map (some N),.int .i64 nx] 140))(f:iZ prog 3 w0 N (λ_=>none) 0 0)(c:∀i,M i=none)(g:nx<=1000000)(k:N+1<w0.heap.size):
  dm N (λx=>if x=N then some .map else if x=N+1 then some .doc else none) w0 (N+1) N (λ_=>none) M nx 0 where
 doc:=d
 mY:=by rw[aG aa,aR rfl]
 map:=by
  obtain⟨D,h,j⟩:=f;exact⟨D,h.mono (bA _),j⟩
 mZ:=by rw[aR rfl]
 els:=λi e a=>by rw[c i] at a;cases a
 non:=λi _=>rfl
 low:=λb t l=>by grind
 dom:=λi e a=>by rw[c i] at a;cases a
 wf:=λi e a=>by rw[c i] at a;cases a
 few:=g
 Xa:=λb i m=>by grind
theorem iZ.a8C {P:Program}{K T E:TypeId}{w:ai}{B n c:Nat}{p:Int->Option Nat}(h:iZ P K w B p n c)(f:P.underlying K=some (.int .i64))(o:P.underlying T=some (.map K E))(q:n<maxLen){k:Int}(r:(Lit.int .i64 k).wf=true)(b:Nat)(y:p k=none):
  ∃w',(Instr.mapUpdate T (.map (some B)) (.int .i64 k) (aK b)).run P w=.ok () w'/\iZ P K w' B (λi=>if i=k then some b else p i) (n+1) (c+1)/\w.mapTurned w' B:=by
 obtain⟨D,e,s,g⟩:=h;obtain⟨w',t,u,v⟩:=e.store (int_keyed f) o q (keyOf_int_mk f r) (Le b);refine⟨w',t,⟨_,u,?_,λi=>?_⟩,v⟩
 .have x:Maps.has D (.int .i64 k)=false:=by grind
  rw[size_put (e.tidy (int_keyed f)),x,s];rfl
 .by_cases j:i=k
  .subst j;simp only[aR];exact⟨has_put_same e.isMap (Fh i) _,λl a m=>by cases a;exact atKey_put_same e.isMap (Fh i) _ _⟩
  .simp only[aG j];have d:(Lit.int .i64 i)≠(Lit.int .i64 k):=by grind
   exact⟨(has_put_other d _).trans (g i).1,λl a m=>(atKey_put_other d _ _).trans ((g i).2 l a m)⟩
def CS5 (N b:Nat)(nm:Bs)(va:ax)(a:Int)(vk:ax)(w:ai):Prop:=w.cell? (aJ (N+1) 0)=some (.map (some N))/\w.cell? (aJ b 0)=some (.string ⟨nm.toArray⟩)/\w.cell? (aJ b 1)=some va/\w.cell? (aJ b 2)=some (.int .i64 a)/\w.cell? (aJ b 3)=some vk
theorem CS5.keep {N b:Nat}{nm:Bs}{va:ax}{c:Int}{vk:ax}{w w':ai}(h:CS5 N b nm va c vk w)(a:aD w w'):CS5 N b nm va c vk w':=by
 obtain⟨d,e,f,g,i⟩:=h;exact⟨(a.cell (aM d)).trans d,(a.cell (aM e)).trans e,(a.cell (aM f)).trans f,(a.cell (aM g)).trans g,(a.cell (aM i)).trans i⟩
theorem Sy {P:Program}{k:TypeId}{R:ax->Option (DataW Unit×List MemPlace)}{w w':ai}{b r n:Nat}{D:DataW Unit}{a:Nat}(h:w.ranges P k R b r n D left a)(c:w'.heap[b]? =w.heap[b]?)(d:w'.heap[r]? =w.heap[r]?):w'.ranges P k R b r n D left a:=by
 obtain⟨e,f,g,i,j,l,m,o,p,q,s⟩:=h;exact⟨e,f,g,i,j,c.trans l,m,o,p,d.trans q,s⟩
theorem alV (v:ax)(y:DataW Unit×List MemPlace)(h:vV v=some y):∃a:Option Addr,v=.pointer a:=by
 cases v<;>try cases h
 exact⟨_,rfl⟩
theorem a0g {B:Nat}{tg:dG}{W:ai}{DB E:Nat}{p:Int->Option Nat}{M:Dm}{nx c:Nat}(h:dm B tg W DB E p M nx c)(hC:Cd M c)(r:ah7 M):
  aL 83 #[aK DB] W λe w'=>aD W w'/\∃wo e4 mX p',e=ay (aK wo)/\dm W.heap.size mX w' wo e4 p' M nx c:=by
 have i2:=@run_makeMap prog;obtain⟨D,a6,i3,hD⟩:=id h.map;have d0:=h.d0;have d1:=h.d1;have s:((W.alloc (.map #[] 0)).alloc (ak #[.map (some W.heap.size),.int .i64 nx] 140)).heap.size=W.heap.size+1+1:=aI;have b2:aD W ((W.alloc (.map #[] 0)).alloc (ak #[.map (some W.heap.size),.int .i64 nx] 140)):=((aW _ _).alloc az _).alloc aI _;have b1:=(a6.alloc (.map #[] 0)).alloc (ak #[.map (some W.heap.size),.int .i64 nx] 140);have i4:=((dR W (.map #[] 0)).cell (aM d1)).trans d1;have i5:=(b2.cell (aM d0)).trans d0;go_enter func83,ntmps83;go_wp2_with(first
  |(at_range;refine wpList_range_own _ rfl _ 138 rfl 3 142 (int_keyed underlying3) underlying138 vV E nx D rfl b1 ?_;intro w0 a7 b3 e6)
  |go_in)
 go_frame
 rw[s] at a7 e6⊢
 go_loopw [4] (λ_ wr=>∃(left:Lit->Bool) (b4:Nat) (mX:dG) (p':Int->Option Nat) (U:Nat),wr.ranges prog 3 vV E (W.heap.size+1+1) nx D left b4/\(∀z,left z=true->Maps.has D z=true)/\dm W.heap.size mX wr (W.heap.size+1) W.heap.size p' (uw M left) nx U/\Cd (uw M left) U/\mX (W.heap.size+1+1)=none/\iZ prog 3 wr W.heap.size p' U U/\aD W wr)
  (λ_ wr=>wr.rangeLeft E (W.heap.size+1+1))
 case atStart=>
  have c3:∀i,uw M (Maps.has D) i=none:=λi=>by
   unfold uw;split
   .rfl
   .next hh=>
    cases hm:M i with
    |none=>rfl
    |some e=>
     obtain⟨b,va,vk,hp, -⟩:=h.els i e hm;rw[(hD i).1,hp] at hh;exact absurd rfl hh
  have k1:w0.heap[W.heap.size+1]? =some (ak #[.map (some W.heap.size),.int .i64 nx] 140):=by
   rw[b3.block _ (by rw[s];omega) aI];have:=dY (W.alloc (.map #[] 0)) #[.map (some W.heap.size),.int .i64 nx] 140;simpa using this
  have pm:=((iZ.made W prog 3).kept (rZ _ (ak #[.map (some W.heap.size),.int .i64 nx] 140) none) aI).kept b3 aI;exact⟨_,_,_,_,0,a7,λz hz=>hz,a0f k1 pm c3 h.few aa,⟨[],List.nodup_nil,rfl,λx=>by simp[c3 x]⟩,by rw[aG aa,aG aa],pm,b2.grown b3 (by rw[s];omega) (λj H=>by cases H)⟩
 case round=>
  obtain⟨left,b4,mX,p',U,c4,c5,hd,X,c6,b5,hb⟩:=hrel;go_wp2_with(first
   |(at_next;refine wpList_next_ranges _ rfl _ rfl 3 (int_keyed underlying3) vV (Value.int .i64) Value.pointer (λi6 kl I=>by obtain⟨x,rfl,_⟩:=Maps.keyOf_int_inv underlying3 I;exact⟨x,rfl⟩) alV E (W.heap.size+1+1) nx D left b4 rfl c4 ?_ ?_)
   |go_in)
  .intro i7 e7;go_wp2_with fail;go_ret;have q:uw M left=M:=by
    funext i;unfold uw;rw[e7,aG aI]
   rw[q] at hd X;obtain rfl:=X.uniq hC;exact⟨hb,_,_,mX,p',rfl,hd⟩
  .intro x ca kl y1 y2 J a8 I c7 hv c8 a9 e8 c9 i8 i9;obtain⟨k,ek,e9,f0⟩:=Maps.keyOf_int_inv underlying3 I;cases ek;subst e9;have f1:(p x).isSome=true:=by rw[<- (hD x).1];exact c5 _ c7
   obtain⟨b,Y⟩:=Option.isSome_iff_exists.1 f1;have Z:=c8 (.map []);rw[(hD x).2 b Y] at Z;subst Z;have f2:=Ay hv;cases f2;obtain⟨e,y⟩:∃e,M x=some e:=by
    cases hm:M x with
    |none=>rw[h.non x hm] at Y;cases Y
    |some e=>exact⟨e,rfl⟩
   obtain⟨b',va,vk,d2,q⟩:=h.els x e y;rw[Y] at d2;cases d2;obtain⟨f3,f4,f5⟩:=r x e y;have b0:=h.dom x e y;have f6:=h.wf x e y;have u:aD W J:=hb.grown c9 hb.size (λj H=>by cases H;omega);have a4:∀j,j<wr.heap.size->j≠W.heap.size+1+1->J.heap[j]? =wr.heap[j]? :=λj H hn=>c9.block j H (λs=>hn (fT s));have A:dm W.heap.size mX J (W.heap.size+1) W.heap.size p' (uw M left) nx U:=hd.turn (λg t ht=>a4 g (hd.low g t ht).2 (λs=>by rw[s,c6] at ht;cases ht)) aa;have d3:iZ prog 3 J W.heap.size p' U U:=b5.same (a4 _ b5.lt aa);have b6:uw M left x=none:=by unfold uw;rw[c7];rfl
   have j0:U+1<=c:=X.ad2 hC (λi f hf=>by unfold uw at hf;split at hf;cases hf;exact⟨f,hf⟩) b6 ⟨e,y⟩;have j1:=h.map.size_le;obtain⟨d4,d6,f7⟩:=bD q.ats;obtain⟨d7,d8,f8⟩:=bD q.kids;subst f7 f8;have hS:CS5 W.heap.size b e.name (.slice d4 e.ats.length d6) e.parent (.slice d7 e.kids.length d8) J.drew:=⟨A.d0,(u.cell (aM q.c0)).trans q.c0,(u.cell (aM q.c1)).trans q.c1,(u.cell (aM q.c2)).trans q.c2,(u.cell (aM q.c3)).trans q.c3⟩;have CA:=Uo J.drew _ e.ats (Ja (bY q.ats (below_drewN u 1)) f5) f3;have CI:=λV (hV:aD W V)=>a2P V _ e.kids (bY q.kids hV) f4;have b7:=aF u;have f9:=aF q;clear u q hd b5 a4 c8;go_upto_region 5 with fail;refine J5 (CS5 W.heap.size b e.name (.slice d4 e.ats.length d6) e.parent (.slice d7 e.kids.length d8)) 25 aA ?_;refine dQ (v:=?v0) 0 rfl aA aA aA aA (λ_ _ _ h=>h) hS (.inl ⟨rfl,λw a=>?hy0⟩) ?hr0
   case hy0=>obtain⟨d,l,m,n,o⟩:=a;go_simp;try with_reducible rfl
   simp only[Act.put,List.setIfInBounds_toArray];refine dQ (v:=?v1) 1 rfl aA aA aA aA (λ_ _ _ h=>h) hS (.inl ⟨rfl,λw a=>?Z⟩) ?a4
   case Z=>obtain⟨d,l,m,n,o⟩:=a;go_simp;try with_reducible rfl
   simp only[Act.put];refine dQ (v:=?v2) 2 rfl aA aA aA aA (λ_ _ _ h=>h) hS (.inl ⟨rfl,λw a=>?hy2⟩) ?hr2
   case hy2=>obtain⟨d,l,m,n,o⟩:=a;go_simp;try with_reducible rfl
   simp only[Act.put];refine dQ (v:=?v3) 3 rfl aA aA aA aA (λ_ _ _ h=>h) hS (.inl ⟨rfl,λw a=>?hy3⟩) ?hr3
   case hy3=>obtain⟨d,l,m,n,o⟩:=a;go_simp;try with_reducible rfl
   simp only[Act.put];refine dQ (v:=?v4) 4 rfl aA aA aA aA (λ_ _ _ h=>h) hS (.inl ⟨rfl,λw a=>?hy4⟩) ?hr4
   case hy4=>obtain⟨d,l,m,n,o⟩:=a;go_simp;try with_reducible rfl
   simp only[Act.put];refine dQ (v:=?v5) 5 rfl aA aA aA aA (λ_ _ _ h=>h) hS (.inl ⟨rfl,λw a=>?hy5⟩) ?hr5
   case hy5=>obtain⟨d,l,m,n,o⟩:=a;go_simp;try with_reducible rfl
   simp only[Act.put];refine dQ (v:=?v6) 6 rfl aA aA aA aA (λ_ _ _ h=>h) hS (.inl ⟨rfl,λw a=>?hy6⟩) ?hr6
   case hy6=>obtain⟨d,l,m,n,o⟩:=a;go_simp;try with_reducible rfl
   simp only[Act.put];refine dQ (v:=?v7) 7 rfl aA aA aA aA (λ_ _ _ h=>h) hS (.inl ⟨rfl,λw a=>?hy7⟩) ?hr7
   case hy7=>obtain⟨d,l,m,n,o⟩:=a;go_simp;try with_reducible rfl
   simp only[Act.put];refine dQ (v:=?v8) 8 rfl aA aA aA aA (λ_ _ _ h=>h) hS (.inl ⟨rfl,λw a=>?hy8⟩) ?hr8
   case hy8=>obtain⟨d,l,m,n,o⟩:=a;go_simp;try with_reducible rfl
   simp only[Act.put];refine dQ (v:=?v9) 9 rfl aA aA aA aA (λ_ _ _ h=>h) hS (.inl ⟨rfl,λw a=>?hy9⟩) ?hr9
   case hy9=>obtain⟨d,l,m,n,o⟩:=a;go_simp;try with_reducible rfl
   simp only[Act.put];refine dQ (v:=?v10) 10 rfl aA aA aA aA (λ_ _ _ h=>h) hS (.inl ⟨rfl,λw a=>?acH⟩) ?alx
   case acH=>obtain⟨d,l,m,n,o⟩:=a;go_simp;try with_reducible rfl
   simp only[Act.put];refine dQ (v:=?v11) 11 rfl aA aA aA aA (λ_ _ _ h=>h) hS (.inl ⟨rfl,λw a=>?acI⟩) ?aly
   case acI=>obtain⟨d,l,m,n,o⟩:=a;go_simp;try with_reducible rfl
   simp only[Act.put];refine dQ (v:=?v12) 12 rfl aA aA aA aA (λ_ _ _ h=>h) hS (.inl ⟨rfl,λw a=>?acJ⟩) ?alz
   case acJ=>obtain⟨d,l,m,n,o⟩:=a;go_simp;try with_reducible rfl
   simp only[Act.put];refine dQ (v:=?v14) 14 rfl aA aA aA aA (λ_ _ _ h=>h) hS (.inl ⟨rfl,λw a=>?acK⟩) ?alB
   case acK=>obtain⟨d,l,m,n,o⟩:=a;go_simp;try with_reducible rfl
   simp only[Act.put];refine dQ (v:=?v15) 15 rfl aA aA aA aA (λ_ _ _ h=>h) hS (.inl ⟨rfl,λw a=>?acL⟩) ?alC
   case acL=>obtain⟨d,l,m,n,o⟩:=a;go_simp;try with_reducible rfl
   simp only[Act.put];refine dQ (v:=?v16) 16 rfl aA aA aA aA (λ_ _ _ h=>h) hS (.inl ⟨rfl,λw a=>?acM⟩) ?alD
   case acM=>obtain⟨d,l,m,n,o⟩:=a;go_simp;try with_reducible rfl
   simp only[Act.put];refine dQ (v:=?v17) 17 rfl aA aA aA aA (λ_ _ _ h=>h) hS (.inl ⟨rfl,λw a=>?acN⟩) ?alE
   case acN=>obtain⟨d,l,m,n,o⟩:=a;go_simp;try with_reducible rfl
   simp only[Act.put];refine dQ (v:=?v18) 18 rfl aA aA aA aA (λ_ _ _ h=>h) hS (.inl ⟨rfl,λw a=>?acO⟩) ?alF
   case acO=>obtain⟨d,l,m,n,o⟩:=a;go_simp;try with_reducible rfl
   simp only[Act.put];refine dQ (v:=?v19) 19 rfl aA aA aA aA (λ_ _ _ h=>h) hS (.inl ⟨rfl,λw a=>?alY⟩) ?auh
   case alY=>obtain⟨d,l,m,n,o⟩:=a;go_simp;try with_reducible rfl
   simp only[Act.put];refine dQ (v:=?v20) 20 rfl aA aA aA aA (λ_ _ _ h=>h) hS (.inl ⟨rfl,λw a=>?acP⟩) ?alG
   case acP=>obtain⟨d,l,m,n,o⟩:=a;go_simp;try with_reducible rfl
   simp only[Act.put];refine dQ (v:=?v21) 21 rfl aA aA aA aA (λ_ _ _ h=>h) hS (.inl ⟨rfl,λw a=>?acQ⟩) ?alH
   case acQ=>obtain⟨d,l,m,n,o⟩:=a;go_simp;try with_reducible rfl
   simp only[Act.put];refine nT 13 aA rfl (λK r=>?_);go_simp;go_wp2_with(go_at_call 70;refine CA.mono ?_;rintro e2 w2 ⟨N,O,P,rfl,Cr,C⟩);have b8:aD J w2:=⟨C.os,C.tape,C.output,C.size,C.block⟩;have d9:=hS.keep C;refine r.out _ _ (λ_=>d9) ?_;clear r;have g0:=CI w2 (bf b7.out b8);refine nT 22 aA rfl (λK r=>?_);go_simp;go_wp2_with(go_at_call 89;refine g0.mono ?_;rintro e3 F ⟨Q,R,rfl,yP,sM⟩);have b9:=d9.keep sM;refine r.out _ _ (λ_=>b9) ?_;clear r;have g6:=bf b8 sM;refine nT 23 aA rfl (λK r=>?_);go_simp;refine r.out _ _ (λ_=>b9) ?_;clear r;refine nT 24 aA rfl (λK r=>?_);go_simp;have g7:=b9.keep (dR F (ak #[.string ⟨e.name.toArray⟩,.slice N O P,.int .i64 e.parent,.slice Q e.kids.length R] 147));refine r.out _ _ (λ_=>g7) ?_;clear r;have L:=bf g6 (dR F (ak #[.string ⟨e.name.toArray⟩,.slice N O P,.int .i64 e.parent,.slice Q e.kids.length R] 147));have g8:=d3.same (L.block _ d3.lt);obtain⟨w5,i1,e0,a5⟩:=iZ.a8C (T:=138) g8 underlying3 underlying138 (by have:=h.few;simp only[maxLen];omega) f0 F.heap.size (A.non x b6);refine nT 25 aA rfl (λK r=>?_);go_simp;refine r.out _ _ (λh=>absurd rfl h) ?_;clear r;refine VD aA ?_ _;have g9:W.heap.size+1+1<J.heap.size:=by
    obtain⟨es,cl,si,se,c0, -, -, -, -,h5, -⟩:=a9;exact bu h5
   have j2:E<W.heap.size:=a6.lt;have q:=f9.out;have j3:=L.size;have e5:∀j,j≠W.heap.size->w5.heap[j]? =(F.alloc (ak #[.string ⟨e.name.toArray⟩,.slice N O P,.int .i64 e.parent,.slice Q e.kids.length R] 147)).heap[j]? :=λj H=>by
    rcases Nat.lt_or_ge j (F.alloc (ak #[.string ⟨e.name.toArray⟩,.slice N O P,.int .i64 e.parent,.slice Q e.kids.length R] 147)).heap.size with h1|h1
    .exact a5.grown.block j h1 (λs=>H (fT s))
    .obtain⟨es,cl,j4,j7,h2,h3⟩:=a5;rw[h3,qK h1,qK];simpa[ChangeMaps.setBlock] using h1
   have c1:∀j,j<J.heap.size->j≠W.heap.size->w5.heap[j]? =J.heap[j]? :=λj H hn=>(e5 j hn).trans (L.block j H);have RG:w5.ranges prog 3 vV E (W.heap.size+1+1) nx D (λz=>left z && !z.sameKey (.int .i64 x)) a8:=Sy a9 (c1 E aa aa) (c1 _ g9 aa);have h0:=bY Cr (bf sM (dR F (ak #[.string ⟨e.name.toArray⟩,.slice N O P,.int .i64 e.parent,.slice Q e.kids.length R] 147)));have h7:=bY yP (dR F (ak #[.string ⟨e.name.toArray⟩,.slice N O P,.int .i64 e.parent,.slice Q e.kids.length R] 147));have l2:∀g,(Value.slice N O P).ownBlock=some g->J.heap.size<=g/\g<w2.heap.size:=λg S=>Cr.lt g S;have l3:∀g,(Value.slice Q e.kids.length R).ownBlock=some g->w2.heap.size<=g/\g<F.heap.size:=λg S=>yP.lt g S;have j8:=b8.size;have j9:=sM.size;have sW:=b7.out.size;have NE:Z4 W.heap.size mX (F.alloc (ak #[.string ⟨e.name.toArray⟩,.slice N O P,.int .i64 e.parent,.slice Q e.kids.length R] 147)) F.heap.size e (.slice N O P) (.slice Q e.kids.length R):=
    ⟨dY F _ _,aa,A.new aa,gz h0 sW,λg S=>⟨A.new (l2 g S).1,by have:=l2 g S;omega⟩,gz h7 aa,λg S=>⟨A.new (by have:=l3 g S;omega),by have:=l3 g S;omega,λs=>by have:=l2 g s;have:=l3 g S;omega⟩⟩
   have DW:=(A.below L).ah6 b0.1 b0.2 NE f6 (w':=w5) (e0.mono aa) e5 a5.grown.size;have c2:=X.put b6 e;rw[<- VI y] at DW c2;have TG:pz mX x F.heap.size (.slice N O P) (.slice Q e.kids.length R) (W.heap.size+1+1)=none:=by
    unfold pz;rw[aG aa,aG (λs=>by have:=l2 _ s;omega),aG (λs=>by have:=l3 _ s;omega)];exact c6
   have h8:Hid (_/\_/\_/\_/\_/\_):=And.intro RG (And.intro DW (And.intro c2 (And.intro TG (And.intro e0 ((b7.out.trans (L.mono sW)).grown a5.grown aa (λj H=>by cases H;exact bJ _))))));have h9:Hid (w5.rangeLeft E (W.heap.size+1+1)<wr.rangeLeft E (W.heap.size+1+1)):=(by rw[RG.left_eq,c4.left_eq];exact e8:w5.rangeLeft E (W.heap.size+1+1)<wr.rangeLeft E (W.heap.size+1+1));have i0:∀z,(left z && !z.sameKey (.int .i64 x))=true->Maps.has D z=true:=λz hz=>c5 z (by simp only[jg] at hz;exact hz.1);clear RG DW c2 TG NE e5 c1;go_wp2_with fail
   go_roundw
   case rel=>
    obtain⟨h1,h2,h3,h4,h5,h6⟩:=h8.out;exact⟨_,a8,_,_,_,h1,i0,h2,h3,h4,h5,h6⟩
   case measure=>exact h9.out
end
open Go.RowKit
def VJ (a:dG)(DB b:Nat):dG:=λx=>if x=DB then some .doc else if x=b then none else a x
theorem dm.home {B B':Nat}{d:dG}{w Z:ai}{DB j f:Nat}{p:Int->Option Nat}{M:Dm}{nx c:Nat}(h:dm B d w j f p M nx c)(n:B'<=DB)(o:DB<B)(q:∀b,B<=b->Z.heap[b]? =w.heap[b]?)(l:Z.heap[DB]? =some (ak #[.map (some f),ag nx] 140))(hs:w.heap.size<=Z.heap.size):dm B' (VJ d DB j) Z DB f p M nx c:=by
 have m:∀g t,d g=some t->t≠.doc->VJ d DB j g=some t/\Z.heap[g]? =w.heap[g]? :=λg t a r=>by
  have k:=(h.low g t a).1;refine⟨?_,q g k⟩;unfold VJ;rw[aG aa,aG (λe=>by rw[e,h.mY] at a;cases a;exact r rfl)];exact a
 obtain⟨s,u⟩:=m f _ h.mZ aI;refine⟨l,by unfold VJ;rw[aR rfl],h.map.same u,s,λi e v=>?_,h.non,λb t a=>?_,h.dom,h.wf,h.few,λb i x=>?_⟩
 .obtain⟨b,y,z,k,A⟩:=h.els i e v;exact⟨b,y,z,k,(A.turn λg t a C=>m g t a (by rcases C with rfl|rfl|rfl<;>simp)).a4q aa⟩
 .unfold VJ at a;split at a
  .rename_i e;subst e;exact⟨n,bu l⟩
  .split at a
   .cases a
   .have:=h.low b t a;omega
 .refine h.Xa b i ?_;unfold VJ at x;grind
structure Ed where
 kd:Bs
 n:Int
 m:Int
 ea:Int
 nm:Bs
 vl:Bs
abbrev tq (x:Ed):Array ax:=#[au ⟨x.kd.toArray⟩,ag x.n,ag x.m,ag x.ea,au ⟨x.nm.toArray⟩,au ⟨x.vl.toArray⟩]
structure EdC (w:ai)(b:Nat)(x:Ed):Prop where
 c0:w.cell? (aJ b 0)=some (au ⟨x.kd.toArray⟩)
 c1:w.cell? (aJ b 1)=some (ag x.n)
 c2:w.cell? (aJ b 2)=some (ag x.m)
 c3:w.cell? (aJ b 3)=some (ag x.ea)
 c4:w.cell? (aJ b 4)=some (au ⟨x.nm.toArray⟩)
 c5:w.cell? (aJ b 5)=some (au ⟨x.vl.toArray⟩)
theorem EdC.of {w:ai}{b:Nat}{x:Ed}(h:w.heap[b]? =some (ak (tq x) t)):EdC w b x:=⟨aQ h 0 _ rfl,aQ h 1 _ rfl,aQ h 2 _ rfl,aQ h 3 _ rfl,aQ h 4 _ rfl,aQ h 5 _ rfl⟩
def iy:Bs:=[115,104,101,101,116]
theorem ad3 {a b:Bs}(h:a≠b):(a==b)=false:=dW.2 h
theorem VK (x:Ed)(b:x.kd≠iy)(o:Option Addr)(n cp:Nat)(W:ai):
  aL 85 #[aj o n cp,.agg (tq x)] W λe w'=>e=ay (aH #[aj o n cp,aY])/\aD W w':=by
 have a:=EdC.of (dY W (tq x) 94);have d:=a.c0;have c:=ad3 b;unfold iy at c;clear a;go_enter func85,ntmps85;go_wp2_with fail
 go_ret2
 exact⟨rfl,dR _ _⟩
theorem fq.cl {B:Nat}{g:dG}{W:ai}{DB j:Nat}{p:Int->Option Nat}{M:Dm}{nx c:Nat}{r:Int->Nat}(h:fq M)(k:jk B g W DB j p M nx c r):ah7 M:=λi e b=>by
 obtain⟨-,l,d⟩:=h i e b;have m:=k.few b;refine⟨aa,aa,λa f=>?_⟩;have n:=lV (d.1 a f).1;have o:=qF (d.1 a f).2;simp only[maxLen];omega
set_option maxRecDepth 20000
abbrev a0h (a b:List fM)(h:Nat):List Int:=(uq (a.map fM.pc) (b.map fM.pc) h).map λ(y:Nat)=>(y:Int)
def Df (E:Nat->Addr)(M:Dm)(rl:List Rl)(v:ax)(w:ai):Prop:=∃a n,v=.iface 67 (aK a)/\w.cell? (aJ a 0)=some (ag n)/\
 ((∃b,fC M rl=.error b/\w.cell? (aJ a 1)=some (eV (E b.code)))\/(∃q x t,fC M rl=.ok (q++x::t)/\(∀y∈q,kE (iB y))/\¬kE (iB x)/\w.cell? (aJ a 1)=some (.iface 453 (.pointer (some (CO (E 2) (E 3) (E 10) (iB x).pts))))))
theorem Df.no {E:Nat->Addr}{M:Dm}{rl:List Rl}{v:ax}{w:ai}(h:Df E M rl v w):¬Km M rl:=λ⟨l,b,c⟩=>by
 obtain⟨d,n, -, -,⟨e,a, -⟩|⟨q,x,t,a, -,f, -⟩⟩:=h
 .grind
 .grind
def DoK (W:ai)(LB B:Nat)(C:dG)(DB D:Nat)(p:Int->Option Nat)(M:Dm)(nx c:Nat)(r:Int->Nat)(rl:List Rl)(F:ax)(l:List fM)(pv:ax)(w h:Nat)(H:ax)(E:Nat->Addr)(I:ax->Prop)(J:ax->ai->Prop)(x:Prop)(y:Dm->Nat->Nat->(Int->Nat)->Prop)(a:List Rl)(e:Ending)(w':ai):Prop:=
 ((∃t u,e=.returned (.tuple #[.slice none 0 0,.iface t u])/\(I (.iface t u)\/J (.iface t u) w'\/(x/\∃d i j k,y d i j k/\Df E d a (.iface t u) w')))/\aD W w'/\LvS w' LB B C DB D p M nx c r rl F l pv w h H)\/
 (x/\∃z m K d i j k q s v f o n A,y d i j k/\Km d a/\K2 LB DB W w'/\e=.returned (.tuple #[.slice o n A,.nilIface])/\w'.ownsRow W.heap.size 3 1 (.slice o n A) (a0h l s h).length (di (a0h l s h))/\LvS w' LB B z DB m K d i j k a q s v w h f/\(∀b,b<W.heap.size->b≠DB->z b=none)/\∀g,f.ownBlock=some g->W.heap.size<=g)
variable {E:Nat->Addr}{W:ai}{LB B:Nat}{C:dG}{DB A:Nat}{p:Int->Option Nat}{M:Dm}{nx c:Nat}{r:Int->Nat}{rl:List Rl}{H:ax}{F:List fM}{pv:ax}{w h:Nat}{I:ax}
structure LbZ (Y:ai)(LB:Nat)(cs:Array ax)(t:TypeId)(Z:ai):Prop where
 lb:Z.heap[LB]? =some (.cells cs t)
 ne:∀b,b≠LB->Z.heap[b]? =Y.heap[b]?
 sz:Z.heap.size=Y.heap.size
 os:Z.os=Y.os
 tape:Z.tape=Y.tape
 out:Z.output=Y.output
theorem LbZ.set {Y Z:ai}{LB:Nat}{cs:Array ax}{t:TypeId}{i:Nat}{v:ax}(h:LbZ Y LB cs t Z):LbZ Y LB (cs.setIfInBounds i v) t (Z.setCell ⟨LB,i,none⟩ v):=by
 have a:=(aW LB Z).setCell (p:=⟨LB,i,none⟩) az v;exact⟨heap_setCell_same Z LB i _ _ _ h.lb,λb c=>(dw _ _ _ b c).trans (h.ne b c),(nu _ _ _).trans h.sz,a.os.trans h.os,a.tape.trans h.tape,a.output.trans h.out⟩
theorem LbZ.drew {Y Z:ai}{LB:Nat}{cs:Array ax}(h:LbZ Y LB cs t Z):LbZ Y LB cs t Z.drew:=⟨h.lb,h.ne,h.sz,h.os,h.tape,h.out⟩
theorem LbZ.self {Y:ai}{LB:Nat}{cs:Array ax}(h:Y.heap[LB]? =some (.cells cs t)):LbZ Y LB cs t Y:=⟨h,λ_ _=>rfl,rfl,rfl,rfl,rfl⟩
theorem Jc {w w':ai}{a k n:Nat}{v:ax}{b:List ax}(h:w.ownsRow a t k v n b)(hs:∀(g:Nat) (cs:Array ax) (f:Nat×Nat),w.heap[g]? =some (Obj.cells cs t f)->w'.heap[g]? =w.heap[g]?):w'.ownsRow a t k v n b:=
 dF h λg c=>by obtain⟨cs,f,d, -⟩:=gy h g c;exact hs g cs f d
theorem a8E {x:fM}(h:kE (iB x.pc)):x.pts.length<=1000:=by
 have a:x.pts.length<=30:=h.1.1;omega
theorem ad4 (a b:List fM)(y:Nat):(!decide ((Da (a.map fM.pc) y).map uo=(Da (b.map fM.pc) y).map uo))=false↔sP ((a.map fM.p5).filter λx=>bT x.s.pts y)=sP ((b.map fM.p5).filter λx=>bT x.s.pts y):=by
 have d:∀l:List fM,sP ((l.map fM.p5).filter λx=>bT x.s.pts y)=(Da (l.map fM.pc) y).map iB:=λl=>by
  rw[<- Vx,List.filter_map,List.map_map,sP,List.map_map,List.filter_map];rfl
 rw[d,d];simp only[Bool.not_eq_false',lG];constructor
 .exact λc=>XQ c
 .intro c;have e:∀l:List Pc,l.map uo=(l.map iB).map λs=>(s.fill.toList,s.rule.toList,s.pts):=λl=>by
   rw[List.map_map];refine List.map_congr_left λx _=>?_;simp[uo,iB,gN]
  rw[e,e,c]
theorem a8F (hE:LE E W)(hl:LvS W LB B C DB A p M nx c r rl H F pv w h I)(f7:1<=w)(hw:w<=40)(Ba:1<=h)(hh:h<=40)(x:Ed)(AE:ax->Prop)(RE:ax->ai->Prop)(RO:Prop)(AO:Dm->Nat->Nat->(Int->Nat)->Prop)(j:List Rl)(f8:∀y∈j,RlG y)
  (f9:∀N V xO Jb S p1,W.heap.size<=N->aD W V->jk N xO V Jb S p1 M nx c r->aL 84 #[aK Jb,.agg (tq x)] V λe w'=>Below N V w'/\((∃t u,AE (.iface t u)/\e=.returned (.iface t u))\/(e=.returned .nilIface/\∃Fq p2 M2 pK c2 r2,AO M2 pK c2 r2/\fq M2/\jk N Fq w' Jb S p2 M2 pK c2 r2)))
  (g0:∀V,aD W V->aL 85 #[H,.agg (tq x)] V λe w'=>aD V w'/\((∃u t y,RE (.iface t y) w'/\e=.returned (.tuple #[u,.iface t y]))\/(RO/\∃o n cp,e=.returned (.tuple #[.slice o n cp,.nilIface])/\w'.ownsRow B 150 3 (.slice o n cp) j.length (fP j)))):
  aL 44 #[aK LB,.agg (tq x)] W λe w'=>DoK W LB B C DB A p M nx c r rl H F pv w h I E AE RE RO AO j e w':=by
 obtain⟨Vz,VA,Zj⟩:=bD hl.row;obtain⟨c1,c3,i4⟩:=bD hl.pc.own;obtain⟨a9,b7,i5⟩:=bD hl.XU;subst Zj i4 i5;have b0:=dR W (.cells (tq x) 94);have kb:=dY W (tq x) 94;go_enter func44,ntmps44;go_upto_region 1 with fail;obtain⟨U,hU⟩:∃U,W.alloc (.cells (tq x) 94)=U:=⟨_,rfl⟩;rw[hU] at b0 kb⊢;clear hU;have b8:=hl.below b0;have l0:=aQ b8.lb 0 _ rfl;have CL:aL 83 #[aK DB] U λe w1=>∃Jb S xO p1,e=.returned (aK Jb)/\aD U w1/\Hid (jk U.heap.size xO w1 Jb S p1 M nx c r):=(a0g b8.ds.w b8.ds.n (hl.ok.cl hl.ds)).mono λe w1 ⟨a,Jb,S,xO,p1,d,i⟩=>⟨Jb,S,xO,p1,d,a,i,hl.ds.d,hl.ds.n,hl.ds.le,a.size⟩;go_upto_region 2 with(go_at_call 83;refine CL.mono ?_;rintro e w1 ⟨Jb,S,xO,p1,rfl,b1,g1⟩);have zI:=bf b0 b1;have AP:=f9 U.heap.size w1 xO Jb S p1 b0.size zI g1.out;have c7:=(b1.block _ (bu kb)).trans kb;obtain⟨e0,e1,e2,e3,e4,e5⟩:=EdC.of c7;clear l0 CL b8 f9 g1;go_upto_region 3 with(go_at_call 84;refine AP.mono ?_;rintro e w2 ⟨b2,d⟩;obtain⟨v2,rfl,i6⟩:∃v,e=.returned v/\((∃t u,AE (.iface t u)/\v=.iface t u)\/(v=.nilIface/\∃Fq p2 M2 pK c2 r2,AO M2 pK c2 r2/\fq M2/\jk U.heap.size Fq w2 Jb S p2 M2 pK c2 r2)):=(by rcases d with⟨t,u,k1,k2⟩|⟨k1,k2⟩;exact⟨_,k2,.inl ⟨t,u,k1,rfl⟩⟩;exact⟨_,k1,.inr ⟨rfl,k2⟩⟩);clear d);clear AP e0 e1 e2 e3 e4 e5;have Ou:aD W w2:=zI.trans (b2.mono b0.size);rcases i6 with⟨t,u,ha,rfl⟩|⟨rfl,Fq,p2,M2,pK,c2,r2,c8,a5,g2⟩
 .go_wp2_with fail
  go_ret2
  exact .inl ⟨⟨t,u,rfl,.inl ha⟩,Ou,hl.below Ou⟩
 have sU:=bu kb;have i7:w2.heap[W.heap.size]? =some (.cells (tq x) 94):=(b2.block _ sU).trans c7;have k2:=EdC.of i7;have i8:=(Ou.block _ (bu hl.lb)).trans hl.lb;have RB:=(g0 w2.drew (below_drewN Ou 1)).mono (R':=λe w3=>∃v u,e=.returned (.tuple #[v,u])/\aD w2 w3/\((∃t y,RE (.iface t y) w3/\u=.iface t y)\/(RO/\u=.nilIface/\∃o n cp,v=.slice o n cp/\w3.ownsRow B 150 3 (.slice o n cp) j.length (fP j)))) λe w3 ⟨q1,q2⟩=>by
  have g3:aD w2 w3:=⟨q1.os,q1.tape,q1.output,q1.size,q1.block⟩;rcases q2 with⟨u,t,y,q2,q3⟩|⟨ro,o,n,cp,q3,q4⟩
  .exact⟨_,_,q3,g3,.inl ⟨t,y,q2,rfl⟩⟩
  .exact⟨_,_,q3,g3,.inr ⟨ro,rfl,o,n,cp,rfl,q4⟩⟩
 obtain⟨e0,e1,e2,e3,e4,e5⟩:=k2;have l1:=aQ i8 1 _ rfl;have g4:=aF g2;have s:=aF hl;clear g0 g2 hl kb c7;go_upto_region 5 with fail
 go_cut [8,9] from 24 to 32 (λv u wx=>aD w2 wx/\((∃t y,RE (.iface t y) wx/\u=.iface t y)\/(RO/\u=.nilIface/\∃o n cp,v=.slice o n cp/\wx.ownsRow B 150 3 (.slice o n cp) j.length (fP j))))
 case first=>
  go_region_with (go_at_call 85;refine RB.mono ?_;rintro e w3 ⟨v3,u3,rfl,b3,i⟩)
  all_goals go_wp2_with fail
  all_goals go_meet
  all_goals exact⟨b3,i⟩
 case rest=>
  clear RB l1 e0 e1 e2 e3 e4 e5;obtain⟨b3,i⟩:=hcut;have yX:=bf Ou b3;rcases i with⟨t,y,i9,rfl⟩|⟨c9,rfl,o3,n3,a6,rfl,yP⟩
  .go_wp2_with fail
   go_ret2
   exact .inl ⟨⟨t,y,rfl,.inr (.inl i9)⟩,yX,s.out.below yX⟩
  have j0:=g4.out.below b3;have PI:=zQ (l:=j) (B0:=B) ⟨j0,(hE.below yX).ne,a5.fit.1,a5.fit.2,f8,yP⟩;obtain⟨pm,d0⟩:∃x,fC M2 j=x:=⟨_,rfl⟩;rw[d0] at PI;have a4:=aF d0;clear d0;cases pm with
  |error ft=>
   have d1:=PI.mono (R':=λe T=>∃J,e=.returned (.tuple #[.slice none 0 0,.iface 67 (aK J)])/\Hid (T.cell? (aJ J 0)=some (ag ft.pl)/\T.cell? (aJ J 1)=some (eV (E ft.code)))/\aD wc T) λe T ⟨⟨u,a,J,_,d,i⟩,h4⟩=>⟨J,by rw[a,d],⟨aQ i 0 _ rfl,aQ i 1 _ rfl⟩,h4⟩;clear PI;go_wp2_with(go_at_call 40;refine d1.mono ?_;rintro e T ⟨J,rfl,g5,b4⟩)
   go_ret2
   have P:=bf yX b4;exact .inl ⟨⟨_,_,rfl,.inr (.inr ⟨c9,M2,pK,c2,r2,c8,J,ft.pl,rfl,g5.out.1,.inl ⟨ft,a4.out,g5.out.2⟩⟩)⟩,P,s.out.below P⟩
  |ok l=>
   have d1:=PI.mono (R':=λe T=>∃k o4 n4 c4,e=.returned (.tuple #[.slice o4 n4 c4,.nilIface])/\Hid (k.map fM.pc=l)/\yx T wc.heap.size (.slice o4 n4 c4) k/\aD wc T) λe w' ⟨⟨F,v,a,d,i,h4,h5⟩,h6⟩=>by
    obtain⟨o,cp,rfl⟩:=bD i;exact⟨F,o,_,cp,d,a,⟨i,h4,h5⟩,h6⟩
   clear PI;go_upto_region 11 with(go_at_call 40;refine d1.mono ?_;rintro e T ⟨k,o4,n4,c4,rfl,q4,p4,b4⟩);have P:=bf yX b4;have g7:=(P.block _ (bu s.out.lb)).trans s.out.lb;have l2:=aQ g7 2 _ rfl;have l4:=aQ g7 4 _ rfl;have d2:k.length<=1000:=by have a:=vw a4.out;rw[<- q4.out,dP] at a;exact a
   have j1:∀y∈k.map fM.p5,y.s.pts.length<=1000:=λy hy=>by
    obtain⟨z,L,rfl⟩:=gL.1 hy;have a:=Z9 a4.out z.pc (by rw[<- q4.out];exact List.mem_map_of_mem L);exact bO a aa
   have j2:∀y∈F.map fM.p5,y.s.pts.length<=1000:=λy hy=>by
    obtain⟨z,L,rfl⟩:=gL.1 hy;exact a8E (s.out.pk z L)
   have CR:aL 86 #[.slice c1 F.length c3,.slice o4 n4 c4,ag h] T.drew λe w5=>∃o n cp,e=.returned (.slice o n cp)/\w5.ownsRow T.heap.size 3 1 (.slice o n cp) (a0h F k h).length (di (a0h F k h))/\aD T w5:=by
    obtain⟨oA,cA,j3,j4,j7⟩:=(s.out.pc.below (below_drewN P 1)).row;obtain⟨oB,cB,d3,d4,d6⟩:=(p4.below (below_drewN (aW _ _) 1)).row;change Value.slice _ _ _=_ at j3;change Value.slice _ _ _=_ at d3;rw[j3,d3];refine(F6 (E 2) (E 3) (E 3) _ _ oA oB cA cB h (λy=> !decide ((Da (F.map fM.pc) y).map uo=(Da (k.map fM.pc) y).map uo)) T.drew (by rw[dP];exact s.out.ql) (by rw[dP];exact d2) j4 d4 j7 d6 j2 j1 (hE.below (below_drewN P 1)).ep.e3 aa (ad4 F k)).mono λe w5 ⟨v,a,d,i⟩=>?_;obtain⟨o,cp,rfl⟩:=bD d;exact⟨o,_,cp,a,d,⟨i.os,i.tape,i.output,i.size,i.block⟩⟩
   go_cut [11] from 45 to 55 (λv wx=>∃o n cp,v=.slice o n cp/\wx.ownsRow T.heap.size 3 1 (.slice o n cp) (a0h F k h).length (di (a0h F k h))/\aD T wx)
   case first=>
    go_region_with (go_at_call 86;refine CR.mono ?_;rintro e w5 ⟨o5,n5,c5,rfl,vN,b5⟩)
    all_goals go_wp2_with fail
    all_goals go_meet
    all_goals exact⟨_,_,_,rfl,vN,b5⟩
   case rest=>
    obtain⟨o5,n5,c5,rfl,vN,b5⟩:=hcut;clear CR l2 l4;have Q:=bf P b5;have d7:=(Q.block _ (bu s.out.lb)).trans s.out.lb;have l3:=aQ d7 3 _ rfl;have l4:=aQ d7 4 _ rfl;have l5:=aQ d7 5 _ rfl;have j8:=Vy (F.map fM.pc) (k.map fM.pc) h;have PA:aL 87 #[.agg #[ag w,ag h,.slice a9 (w*h) b7],.slice o4 n4 c4,.slice o5 n5 c5] wc λe D=>aD wc D/\(((∀x∈k,kE (iB x.pc))/\∃g cp,e=.returned (.tuple #[.agg #[ag w,ag h,.slice (some ⟨g,0,none⟩) (w*h) cp],.nilIface])/\Hid (D.ownsRow wc.heap.size 9 1 (.slice (some ⟨g,0,none⟩) (w*h) cp) (w*h) ((nM bT ((k.map fM.pc).map iB) w h).map .string)))\/((¬∀x∈k,kE (iB x.pc))/\∃J,e=.returned (.tuple #[.agg #[ag 0,ag 0,.slice none 0 0],.iface 67 (aK J)])/\Hid (Kb (E 2) (E 3) (E 10) (k.map fM.p5) wc.heap.size J D))):=by
     obtain⟨oB,cB,d3,d4,d6⟩:=(p4.below b5).row;rw[d3];refine(F4 (E 2) (E 3) (E 3) (E 10) (k.map fM.p5) oB cB w h _ B (.slice a9 (w*h) b7) (uq (F.map fM.pc) (k.map fM.pc) h) T.heap.size (.slice o5 n5 c5) wc f7 hw Ba hh (by rw[dP];exact d2) d4 d6 (hE.below Q).ep (bY s.out.XU Q) (lY _ _ _ _) (by simpa using vN) (bO (List.length_filter_le _ _) (by rw[List.length_range];omega)) j8.2).mono λe D ⟨a,d⟩=>⟨d,?_⟩;have g8:nS (k.map fM.p5)↔∀x∈k,kE (iB x.pc):=by
      unfold nS;constructor
      .intro hh x hx;exact hh _ (List.mem_map_of_mem hx)
      .intro hh x hx;obtain⟨y,hy,rfl⟩:=gL.1 hx;exact hh y hy
     rcases a with⟨i,v,h4,h5⟩|⟨i,J,h4,h5⟩
     .obtain⟨g,cp,rfl, -, -⟩:=h5.form (Nat.mul_pos f7 Ba);rw[aaf,<- LZ,a3U] at h5;exact .inl ⟨g8.1 i,g,cp,h4,h5⟩
     .exact .inr ⟨λhh=>i (g8.2 hh),J,h5,h4⟩
    by_cases hk:∀x∈k,kE (iB x.pc)
    .have d8:=PA.mono (R':=λe D=>∃g cp,e=.returned (.tuple #[.agg #[ag w,ag h,.slice (some ⟨g,0,none⟩) (w*h) cp],.nilIface])/\aD wc D/\Hid (D.ownsRow wc.heap.size 9 1 (.slice (some ⟨g,0,none⟩) (w*h) cp) (w*h) ((nM bT ((k.map fM.pc).map iB) w h).map .string))) λe D ⟨a,d⟩=>by
      rcases d with⟨-,g,cp,i,h4⟩|⟨d, -⟩
      .exact⟨g,cp,i,a,h4⟩
      .exact absurd hk d
     have HK:=aF hk;clear PA hk;go_upto_region 15 with(go_at_call 87;refine d8.mono ?_;rintro e D ⟨g6,c6,rfl,b6,g9⟩);have bX:=dR D (.cells #[ag w,ag h,.slice (some ⟨g6,0,none⟩) (w*h) c6] 81);have pX:=dY D #[ag w,ag h,.slice (some ⟨g6,0,none⟩) (w*h) c6] 81;obtain⟨X,hX⟩:∃X,D.alloc (.cells #[ag w,ag h,.slice (some ⟨g6,0,none⟩) (w*h) c6] 81)=X:=⟨_,rfl⟩;rw[hX] at bX pX⊢;have d9:=bf b6 bX;have f0:=bf b5 d9;have h0:=bf b4 f0;have R:=bf Q d9;have a7:=(R.block _ (bu s.out.lb)).trans s.out.lb;have K:=(R.block _ (bu s.out.ds.w.doc)).trans s.out.ds.w.doc;have dX:=g4.out.below (bf b3 h0);have b9:=dX.w.doc;have h7:LB≠DB:=λe1=>by rw[e1,K] at a7;cases a7
     have k7:=bu s.out.lb;have k8:=bu s.out.ds.w.doc;have j9:W.heap.size<=D.heap.size:=(bf Q b6).size;obtain⟨PB,h8⟩:∃PB,D.heap.size=PB:=⟨_,rfl⟩;rw[h8] at pX j9⊢;have x0:X.drew.cell? (aJ LB 0)=some (aK DB):=aQ a7 0 _ rfl;have x1:X.drew.cell? (aJ Jb 0)=some (.map (some S)):=aQ b9 0 _ rfl;have x2:X.drew.cell? (aJ Jb 1)=some (ag pK):=aQ b9 1 _ rfl;have x3:X.drew.cell? (aJ DB 0)=some (.map (some A)):=aQ K 0 _ rfl;have x5:X.drew.frozen? ⟨DB,0,none⟩=false:=bG K 0;have y1:X.cell? (aJ Jb 0)=some (.map (some S)):=aQ b9 0 _ rfl;have y2:X.cell? (aJ Jb 1)=some (ag pK):=aQ b9 1 _ rfl;have y3:X.cell? (aJ DB 0)=some (.map (some A)):=aQ K 0 _ rfl;have y4:X.cell? (aJ DB 1)=some (ag nx):=aQ K 1 _ rfl;have y5:X.frozen? ⟨DB,0,none⟩=false:=bG K 0;have y6:X.frozen? ⟨DB,1,none⟩=false:=bG K 1;clear hX h8;go_region;have yz:∃O,LbZ X DB O 140 ((X.setCell ⟨DB,0,none⟩ (.map (some S))).setCell ⟨DB,1,none⟩ (ag pK)).drew/\O=#[.map (some S),ag pK]:=⟨_,((LbZ.self K).set.set).drew,rfl⟩;obtain⟨k9,yz,h9⟩:=yz;subst h9;obtain⟨Y,hY⟩:∃Y,((X.setCell ⟨DB,0,none⟩ (.map (some S))).setCell ⟨DB,1,none⟩ (ag pK)).drew=Y:=⟨_,rfl⟩;rw[hY] at yz⊢;clear hY x0 x1 x2 x3 x5 y1 y2 y3 y4 y5 y6;have m:=(yz.ne LB h7).trans a7;have pY:=(yz.ne PB aa).trans pX;have i0:∀Z,LbZ Y LB #[aK DB,.slice o3 n3 a6,.slice o4 n4 c4,ag w,ag h,.slice (some ⟨g6,0,none⟩) (w*h) c6] 88 Z->DoK W LB B C DB A p M nx c r rl (.slice Vz rl.length VA) F (.slice c1 F.length c3) w h (.slice a9 (w*h) b7) E AE RE RO AO j (.returned (.tuple #[.slice o5 n5 c5,.nilIface])) Z:=λZ L=>by
      have zn:∀b,b≠LB->b≠DB->Z.heap[b]? =X.heap[b]? :=λb a d=>(L.ne b a).trans (yz.ne b d);have zs:Z.heap.size=X.heap.size:=L.sz.trans yz.sz;have a8:∀(g:Nat) (O:Array ax) (t:TypeId) (f:Nat×Nat),X.heap[g]? =some (Obj.cells O t f)->t≠88->t≠140->Z.heap[g]? =X.heap[g]? :=λg O t f a d i=>zn g (λe1=>by rw[e1,a7] at a;cases a;exact d rfl) (λe1=>by rw[e1,K] at a;cases a;exact i rfl);have k0:Z.heap[DB]? =some (.cells #[.map (some S),ag pK] 140):=(L.ne DB (λe1=>h7 e1.symm)).trans yz.lb;have c0:B<=W.heap.size:=by have a:=s.out.base;omega
      have k3:=(s.out.ds.w.low _ _ s.out.ds.w.mY).1;have zk:K2 LB DB W Z:=⟨L.os.trans (yz.os.trans R.os),L.tape.trans (yz.tape.trans R.tape),L.out.trans (yz.out.trans R.output),by rw[zs];exact R.size,λb hb a d=>(zn b a d).trans (R.block b hb)⟩;have hw:=dX.w.home (B':=B) (Z:=Z) (DB:=DB) k3 (by have:=b0.size;omega) (λb hb=>zn b (by have:=b0.size;omega) (by have:=b0.size;omega)) k0 (by rw[zs];exact bJ _);refine .inr ⟨c9,_,S,p2,M2,pK,c2,r2,.slice o3 n3 a6,k,.slice o4 n4 c4,.slice (some ⟨g6,0,none⟩) (w*h) c6,o5,n5,c5,c8,⟨l,a4.out,λy hy=>?_⟩,zk,rfl,?_,⟨L.lb,s.out.base,⟨hw,dX.d,dX.n,dX.le,by rw[zs];exact bO c0 R.size⟩,a5,f8,?_,⟨?_,λy hy=>?_,p4.rt⟩,by rw[q4.out];exact a4.out,HK.out,d2,?_⟩,λb l7 k4=>?_,λg hg=>bO Q.size (g9.out.lt g hg).1⟩
      .rw[<- q4.out] at hy;obtain⟨z,f6,rfl⟩:=gL.1 hy;exact HK.out z f6
      .exact gz (Jc (bY vN d9) λg O f hg=>a8 g O _ f hg aC aC) P.size
      .exact Jc (bY yP h0) λg O f hg=>a8 g O _ f hg aC aC
      .exact gz (Jc (bY p4.own f0) λg O f hg=>a8 g O _ f hg aC aC) (bO c0 yX.size)
      .exact gz (Jc (bY (p4.pts y hy) f0) λg O f hg=>a8 g O _ f hg aC aC) (bO c0 yX.size)
      .exact gz (Jc (bY g9.out bX) λg O f hg=>a8 g O _ f hg aC aC) (bO c0 Q.size)
      .have m0:=b0.size;unfold VJ;rw[aG k4];split
       .rfl
       .cases ht:Fq b with
        |none=>rfl
        |some t=>have:=(dX.w.low b t ht).1;omega
     have i1:=aF i0;clear i0;have y1:=aQ m 1 _ rfl;have y2:=aQ m 2 _ rfl;have y3:=aQ m 3 _ rfl;have y4:=aQ m 4 _ rfl;have y5:=aQ m 5 _ rfl;have f1:=bG m 1;have f2:=bG m 2;have f3:=bG m 3;have f4:=bG m 4;have f5:=bG m 5;have p1:=aQ pY 0 _ rfl;have p2:=aQ pY 1 _ rfl;have p3:=aQ pY 2 _ rfl;go_upto_region 16 with fail;go_region;have L:∃O,LbZ Y LB O 88 (((((Y.setCell ⟨LB,1,none⟩ (.slice o3 n3 a6)).setCell ⟨LB,2,none⟩ (.slice o4 n4 c4)).setCell ⟨LB,3,none⟩ (ag w)).setCell ⟨LB,4,none⟩ (ag h)).setCell ⟨LB,5,none⟩ (.slice (some ⟨g6,0,none⟩) (w*h) c6)).drew/\O=#[aK DB,.slice o3 n3 a6,.slice o4 n4 c4,ag w,ag h,.slice (some ⟨g6,0,none⟩) (w*h) c6]:=⟨_,((LbZ.self m).set.set.set.set.set).drew,rfl⟩;obtain⟨m1,L,i2⟩:=L;subst i2;have HZ:Hid (DoK W LB B C DB A p M nx c r rl (.slice Vz rl.length VA) F (.slice c1 F.length c3) w h (.slice a9 (w*h) b7) E AE RE RO AO j (.returned (.tuple #[.slice o5 n5 c5,.nilIface])) (((((Y.setCell ⟨LB,1,none⟩ (.slice o3 n3 a6)).setCell ⟨LB,2,none⟩ (.slice o4 n4 c4)).setCell ⟨LB,3,none⟩ (ag w)).setCell ⟨LB,4,none⟩ (ag h)).setCell ⟨LB,5,none⟩ (.slice (some ⟨g6,0,none⟩) (w*h) c6)).drew):=i1.out _ L;clear L i1;go_wp2_with fail
     go_ret2
     exact HZ.out
    .have d8:=PA.mono (R':=λe D=>∃J,e=.returned (.tuple #[.agg #[ag 0,ag 0,.slice none 0 0],.iface 67 (aK J)])/\Hid (Kb (E 2) (E 3) (E 10) (k.map fM.p5) wc.heap.size J D)/\aD wc D) λe D ⟨a,d⟩=>by
      rcases d with⟨d, -⟩|⟨-,J,i,h4⟩
      .exact absurd d hk
      .exact⟨J,i,h4,a⟩
     clear PA hk;go_wp2_with(go_at_call 87;refine d8.mono ?_;rintro e D ⟨J,rfl,k5,b6⟩)
     go_ret2
     have bm:=dR D (.cells #[ag 0,ag 0,.slice none 0 0] 81);have i3:=bf Q (bf b6 bm);obtain⟨q,y,t,e1,e2,e3, -,⟨n0,e4⟩,e5⟩:=k5.out;obtain⟨q',l2,k6,e6,e7⟩:=List.map_eq_append_iff.1 e1;obtain⟨y',t',rfl,e8,e9⟩:=List.map_eq_cons_iff.1 e7;subst e6 e8 e9 k6;refine .inl ⟨⟨_,_,rfl,.inr (.inr ⟨c9,M2,pK,c2,r2,c8,J,n0,rfl,(bm.cell (aM e4)).trans e4,.inr ⟨q'.map fM.pc,y'.pc,t'.map fM.pc,?_,λz L=>?_,e3,(bm.cell (aM e5)).trans e5⟩⟩)⟩,i3,s.out.below i3⟩
     .rw[a4.out,<- q4.out];simp
     .obtain⟨z',f6,rfl⟩:=gL.1 L;exact e2 _ (List.mem_map_of_mem f6)

import Derived.Test.YtbkjmamcnflncaaGreatDoorQt0
namespace Go.Proofs.YtbkjmamcnflncaaGreatDoor
variable{nm:Bs}
def nums (k n:Nat):List Int:=(List.range' k n).map (λ(j:Nat)=>(j:Int))
theorem a1n {k n:Nat}{i:Int}:i∈nums k n↔(k:Int)<=i/\i<k+n:=by
 unfold nums;simp only[gL,List.mem_range'_1];constructor
 .omega
 .intro h;exact⟨i.toNat,aa,aa⟩
mutual
theorem Ww:∀(n:Nd) (k:Nat) (p:Int) (j:Nat) (e:ig),(vG k p n)[j]? =some e->(j=0/\e.parent=p)\/(0<j/\(k:Int)<=e.parent/\e.parent<k+jq n)
 | .mk nm a b,k,p,0,e,h=>by
  rw[vG] at h;grind
 | .mk nm a b,k,p,j+1,e,h=>by
  rw[vG] at h;rw[jq];rcases Wx b (k+1) k j e (by simpa using h) with c|c
  .omega
  .omega
theorem Wx:∀(l:List Nd) (k:Nat) (p:Int) (j:Nat) (e:ig),(wB k p l)[j]? =some e->e.parent=p\/((k:Int)<=e.parent/\e.parent<k+og l)
 |[],_,_,_,_,h=>by simp[wB] at h
 |n::l,k,p,j,e,h=>by
  rw[wB] at h;rw[og];by_cases b:j<jq n
  .rw[wu (by rw[j6];exact b)] at h;rcases Ww n k p j e h with a|a
   .exact .inl a.2
   .omega
  .rw[pI (by rw[j6];omega)] at h;rcases Wx l _ p _ e h with a|a
   .exact .inl a
   .omega
end
def Own (L:List ig)(k i s:Nat):Prop:=∀(j:Nat) (e:ig),L[j]? =some e->((i<k+j/\k+j<i+s)->(i:Int)<=e.parent/\e.parent<i+s)/\(¬(i<=k+j/\k+j<i+s)->¬((i:Int)<=e.parent/\e.parent<i+s))
structure Wd (M:Dm)(r:Int->Nat):Prop where
 root:∃e,M 0=some e/\e.parent= -1
 neg:∀i,i<0->M i=none
 up:∀i e,M i=some e->i≠0->∃q,M e.parent=some q/\i∈q.kids/\r i=r e.parent+1
 down:∀i e k,M i=some e->k∈e.kids->∃x,M k=some x/\x.parent=i/\k≠0
 nodup:∀i e,M i=some e->e.kids.Nodup
 r0:r 0=1
 rb:∀i e,M i=some e->1<=r i/\r i<=10
inductive Bl (M:Dm) (n:Int):Int->Prop
 |self {e:ig} (h:M n=some e):Bl M n n
 |kid {x:Int} {e:ig} (h:M x=some e) (h0:x≠0) (hb:Bl M n e.parent):Bl M n x
section
variable {M:Dm}{r:Int->Nat}
theorem Bl.in_ {n x:Int}(h:Bl M n x):∃e,M x=some e:=by
 cases h with
 |self h=>exact⟨_,h⟩
 |kid h _ _=>exact⟨_,h⟩
theorem Bl.trans {n k x:Int}(a:Bl M n k)(b:Bl M k x):Bl M n x:=by
 induction b with
 |self _=>exact a
 |kid h h0 _ ih=>exact .kid h h0 ih
theorem Wd.step (h:Wd M r){i k:Int}{e:ig}(he:M i=some e)(d:k∈e.kids):r k=r i+1/\Bl M i k:=by
 obtain⟨x,a,b,c⟩:=h.down i e k he d;obtain⟨q,_,_,f⟩:=h.up k x a c;refine⟨by rw[f,b],.kid a c ?_⟩;rw[b];exact .self he
theorem Wd.low (h:Wd M r){n x:Int}(a:Bl M n x):r n<=r x/\(x≠n->r n<r x):=by
 induction a with
 |self _=>exact⟨bJ _,λh=>absurd rfl h⟩
 |kid he h0 _ ih=>
  obtain⟨q,_,_,b⟩:=h.up _ _ he h0;omega
theorem Wd.one (h:Wd M r){a b x:Int}(f:Bl M a x)(d:Bl M b x)(l:r a=r b):a=b:=by
 induction f with
 |self e=>
  refine Classical.byContradiction λg=>?_;have:=(h.low d).2 g;omega
 |kid e i j m=>
  cases d with
  |self c=>
   obtain⟨q,_,_,k⟩:=h.up _ _ e i;have:=(h.low j).1;omega
  |kid c _ hp'=>
   grind
theorem Wd.all (h:Wd M r):∀(d:Nat) (x:Int) (e:ig),r x=d->M x=some e->Bl M 0 x
 |0,x,e,c,a=>by
  have:=(h.rb x e a).1;omega
 |d+1,x,e,c,a=>by
  by_cases b:x=0
  .subst b;exact .self a
  .obtain⟨q,f,_,g⟩:=h.up x e a b;exact .kid a b (h.all d _ q aa f)
theorem Wd.dp (h:Wd M r):∀(f:Nat) (i:Int) (e:ig),M i=some e->11<=f+r i->Dp M f i
 |0,i,e,b,d=>by
  have:=(h.rb i e b).2;omega
 |f+1,i,e,b,d=>λg a k c=>by
  obtain⟨x,j,_,_⟩:=h.down i g k a c;have:=(h.step a c).1;exact h.dp f k x j aa
theorem Wd.zi (h:Wd M r):∀(f:Nat) (i d x b:Int),(x,b)∈pre M f i d->Bl M i x/\b+r i=d+r x
 |0,_,_,_,_,a=>by simp[pre] at a
 |f+1,i,d,x,b,a=>by
  rw[pre] at a;cases c:M i with
  |none=>rw[c] at a;simp at a
  |some e=>
   rw[c] at a;simp only[gP,List.mem_flatMap,Prod.mk.injEq] at a;rcases a with⟨rfl,rfl⟩|⟨k,g,a⟩
   .exact⟨.self c,rfl⟩
   .obtain⟨j,m⟩:=h.zi f k (d+1) x b a;obtain⟨n,l⟩:=h.step c g;exact⟨l.trans j,aa⟩
theorem OO {f:Nat}{i d:Int}{e:ig}(he:M i=some e)(a:Dp M f i):(i,d)∈pre M f i d:=by
 cases f with
 |zero=>exact a.elim
 |succ f=>rw[pre,he];simp
theorem Wy:∀(f:Nat) (i d y g x:Int) (q e:ig),(y,g)∈pre M f i d->Dp M f i->M y=some q->x∈q.kids->M x=some e->∃l,(x,l)∈pre M f i d
 |0,_,_,_,_,_,_,_,b,_,_,_,_=>by simp[pre] at b
 |f+1,i,d,y,g,x,q,e,b,m,h,j,n=>by
  rw[pre] at b⊢;cases c:M i with
  |none=>rw[c] at b;simp at b
  |some a=>
   rw[c] at b;simp only[gP,List.mem_flatMap,Prod.mk.injEq] at b⊢;rcases b with⟨rfl,rfl⟩|⟨k,o,b⟩
   .rw[c] at h;cases h;exact⟨g+1,.inr ⟨x,j,OO n (m _ c x j)⟩⟩
   .obtain⟨l,p⟩:=Wy f k (d+1) y g x q e b (m a c k o) h j n;grind
theorem Wd.aaI (h:Wd M r){f:Nat}{i x:Int}(d:Int)(c:Bl M i x)(b:Dp M f i):∃e,(x,e)∈pre M f i d:=by
 induction c with
 |self a=>exact⟨d,OO a b⟩
 |kid a h0 _ ih=>
  obtain⟨g,j⟩:=ih;obtain⟨q,k,l,_⟩:=h.up _ _ a h0;exact Wy f i d _ g _ q _ j b k l a
theorem Wd.mem (h:Wd M r){f:Nat}{i x d:Int}(a:Dp M f i):x∈(pre M f i d).map Prod.fst↔Bl M i x:=by
 rw[gL];constructor
 .rintro⟨⟨y,b⟩,c,rfl⟩;exact(h.zi f i d y b c).1
 .intro e;obtain⟨g,j⟩:=h.aaI d e a;grind
theorem Wd.tC (h:Wd M r):∀(f:Nat) (i d:Int),((pre M f i d).map Prod.fst).Nodup
 |0,_,_=>by simp[pre]
 |f+1,i,d=>by
  rw[pre];cases g:M i with
  |none=>simp
  |some e=>
   simp only[ny,List.map_flatMap];rw[qN];constructor
   .intro j;obtain⟨k,s,j⟩:=List.mem_flatMap.1 j;obtain⟨⟨y,t⟩,l,c⟩:=gL.1 j;have c:y=i:=c;subst c;have o:=(h.low (h.zi f k _ _ t l).1).1;have p:=(h.step g s).1;omega
   .rw[List.Nodup,List.pairwise_flatMap];refine⟨λk _=>h.tC f k (d+1),?_⟩;refine List.Pairwise.imp_of_mem ?_ (h.nodup i e g);intro a b u v m x w y l n;subst n;obtain⟨⟨D,z⟩,o,rfl⟩:=gL.1 w;obtain⟨⟨E,A⟩,p,q⟩:=gL.1 l;have B:=(h.zi f a _ _ z o).1;have C:=(h.zi f b _ _ A p).1;simp only at q;subst q;exact m (h.one B C (by rw[(h.step g u).1,(h.step g v).1]))
theorem KG {g:Dm}:∀(f:Nat) (i d:Int),(∀x∈(pre M f i d).map Prod.fst,g x=M x)->(M i=none->g i=none)->(∀y q,y∈(pre M f i d).map Prod.fst->M y=some q->∀k∈q.kids,M k≠none)->pre g f i d=pre M f i d
 |0,_,_,_,_,_=>rfl
 |f+1,i,d,h,p,c=>by
  rw[pre]
  conv=>rhs;rw[pre]
  cases j:M i with
  |none=>rw[p j]
  |some e=>
   have r:pre M (f+1) i d=(i,d)::e.kids.flatMap (λk=>pre M f k (d+1)):=by rw[pre,j]
   rw[r] at h c;have s:g i=some e:=by grind
   rw[s];simp only[List.cons.injEq,true_and];have m:∀l:List Int,(∀k∈l,k∈e.kids)->l.flatMap (λk=>pre g f k (d+1))=l.flatMap (λk=>pre M f k (d+1)):=λl=>by
    induction l with
    |nil=>intro _;rfl
    |cons a l t=>
     intro n;have u:=n a aI;have b:∀x,x∈(pre M f a (d+1)).map Prod.fst->x∈((i,d)::e.kids.flatMap (λk=>pre M f k (d+1))).map Prod.fst:=λx o=>by grind
     rw[List.flatMap_cons,List.flatMap_cons,t (λk c=>n k (by simp[c]))];rw[KG f a (d+1) (λx o=>h x (b x o)) (λv=>absurd v (c i e aI j a u)) (λy q w z=>c y q (b y w) z)]
   exact m _ (λ_ c=>c)
end
def Cd (M:Dm)(c:Nat):Prop:=∃l:List Int,l.Nodup/\l.length=c/\∀x,x∈l↔M x≠none
theorem Wd.count {M:Dm}{r:Int->Nat}(h:Wd M r){c f:Nat}{d:Int}(hc:Cd M c)(b:Dp M f 0):((pre M f 0 d).map Prod.fst).length=c:=by
 obtain⟨l,g,rfl,i⟩:=hc;refine List.Perm.length_eq ((List.perm_ext_iff_of_nodup (h.tC f 0 d) g).2 λx=>?_);rw[h.mem b,i];constructor
 .intro j;obtain⟨e,a⟩:=j.in_;grind
 .intro k;cases a:M x with
  |none=>exact absurd a k
  |some e=>exact h.all _ x e rfl a
section
variable {M:Dm}{r:Int->Nat}
theorem Wd.aaJ (h:Wd M r){x:Int}{e:ig}(a:M x=some e)(b:x≠0):∃q,M (yo M x)=some q/\r x=r (yo M x)+1:=by
 obtain⟨q,c,_,d⟩:=h.up x e a b;unfold yo;grind
theorem Wd.a1o (h:Wd M r):yo M 0= -1:=by
 obtain⟨e,a,b⟩:=h.root;unfold yo;grind
theorem Wd.pos (h:Wd M r){x:Int}{e:ig}(a:M x=some e):0<=x:=by
 refine Classical.byContradiction λb=>?_;rw[h.neg x aa] at a;cases a
theorem a6b (l:List Rl)(nm:Bs)(f:Nat){n:Int}(h:n<0):Mw M l nm f n=firstM nm:=by
 cases f with
 |zero=>rfl
 |succ f=>rw[Mw,aR h]
theorem a1p {l:List Rl}{v:Bs}{n:Int}(f:Nat)(h:0<=n)(a:yH M l nm n=some v):Mw M l nm (f+1) n=v:=by
 rw[Mw,aG aa,a]
theorem aaK {l:List Rl}{n:Int}(f:Nat)(h:0<=n)(a:yH M l nm n=none)(hi:Kz nm=true):Mw M l nm (f+1) n=Mw M l nm f (yo M n):=by
 rw[Mw,aG aa,a];simp[hi]
theorem a6c {l:List Rl}{n:Int}(f:Nat)(h:0<=n)(a:yH M l nm n=none)(hi:Kz nm=false):Mw M l nm (f+1) n=firstM nm:=by
 rw[Mw,aG aa,a];simp[hi]
theorem aaL {l:List Rl}{n:Int}{e:ig}(he:M n=some e)(a:Dz nm=true):ofM M l nm n=Mw M l nm 12 n:=by
 unfold ofM;grind
end
section
variable {M:Dm}
end
def sD:List (Bs×Bs)->Bs->Bs->List (Bs×Bs)
 |[],nm,v=>[(nm,v)]
 |a::l,nm,v=>if a.1==nm then(nm,v)::l else a::sD l nm v
def FV:List (Bs×Bs)->Bs->List (Bs×Bs)
 |[],_=>[]
 |a::l,nm=>if a.1==nm then l else a::FV l nm
theorem xJ (a:Bs×Bs)(l:List (Bs×Bs))(nm:Bs):pQ (a::l) nm=if a.1==nm then some a.2 else pQ l nm:=by
 unfold pQ;grind
theorem a1q (l:List (Bs×Bs))(nm v:Bs):(sD l nm v).length=if(pQ l nm).isSome then l.length else l.length+1:=by
 induction l with
 |nil=>rfl
 |cons a l b=>
  rw[sD,xJ];grind
theorem a1r (l:List (Bs×Bs))(nm v:Bs){x:Bs×Bs}(h:x∈sD l nm v):x=(nm,v)\/x∈l:=by
 induction l with
 |nil=>exact .inl (by simpa[sD] using h)
 |cons a l b=>
  rw[sD] at h;grind
def uI (M:Dm)(n:Int)(e:ig)(l:List (Bs×Bs)):Dm:=eP M n ⟨e.name,l,e.parent,e.kids⟩
theorem Wd.ats {M:Dm}{r:Int->Nat}(h:Wd M r){n:Int}{e:ig}(he:M n=some e)(l:List (Bs×Bs)):Wd (uI M n e l) r:=by
 have a:∀i x,uI M n e l i=some x->∃y,M i=some y/\y.parent=x.parent/\y.kids=x.kids:=λi x b=>by
  unfold uI eP at b;grind
 have f:∀i y,M i=some y->∃x,uI M n e l i=some x/\x.parent=y.parent/\x.kids=y.kids:=λi y c=>by
  unfold uI eP;grind
 refine⟨?_,λi m=>?_,λi x b o=>?_,λi x k b j=>?_,λi x b=>?_,h.r0,λi x b=>?_⟩
 .obtain⟨t,g,d⟩:=h.root;grind
 .cases b:uI M n e l i with
  |none=>rfl
  |some x=>
   obtain⟨y,c, -⟩:=a i x b;rw[h.neg i m] at c;cases c
 .obtain⟨y,c,g,d⟩:=a i x b;obtain⟨q,u,p,s⟩:=h.up i y c o;grind
 .obtain⟨y,c,g,d⟩:=a i x b;rw[<- d] at j;obtain⟨z,v,p,s⟩:=h.down i y k c j;grind
 .obtain⟨y,c,g,d⟩:=a i x b;rw[<- d];exact h.nodup i y c
 .obtain⟨y,c, -⟩:=a i x b;exact h.rb i y c
theorem Cd.ats {M:Dm}{c:Nat}(h:Cd M c){n:Int}{e:ig}(he:M n=some e)(l:List (Bs×Bs)):Cd (uI M n e l) c:=by
 obtain⟨k,a,b,d⟩:=h;refine⟨k,a,b,λx=>?_⟩;rw[d];unfold uI eP;grind

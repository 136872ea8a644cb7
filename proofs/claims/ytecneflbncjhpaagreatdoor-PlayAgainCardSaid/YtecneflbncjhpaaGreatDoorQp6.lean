/- Parts of the proof. -/
import Derived.Test.YtecneflbncjhpaaGreatDoorQp5
namespace Go.Proofs.YtecneflbncjhpaaGreatDoor
section
def nums (k n:Nat):List Int:=(List.range' k n).map (fun(j:Nat)=>(j:Int))
theorem WC {k n:Nat}{i:Int}:i∈nums k n↔(k:Int)<=i/\i<k+n:=by
 unfold nums;simp only[List.mem_map,List.mem_range'_1];constructor
 ·rintro⟨j,hj,rfl⟩;omega
 ·intro h;exact⟨i.toNat,by omega,by omega⟩
mutual
theorem Qn:∀(n:Nd) (k:Nat) (p:Int) (j:Nat) (e:gH),(qo k p n)[j]? =some e->(j=0/\e.parent=p)\/(0<j/\(k:Int)<=e.parent/\e.parent<k+gz n)
 | .mk nm Vx ks,k,p,0,e,h=>by
  rw[qo] at h;simp at h;subst h;exact .inl ⟨rfl,rfl⟩
 | .mk nm Vx ks,k,p,j+1,e,h=>by
  rw[qo] at h;rw[gz];rcases Qo ks (k+1) k j e (by simpa using h) with h1|h1
  ·exact .inr (by omega)
  ·exact .inr (by omega)
theorem Qo:∀(l:List Nd) (k:Nat) (p:Int) (j:Nat) (e:gH),(qU k p l)[j]? =some e->e.parent=p\/((k:Int)<=e.parent/\e.parent<k+jK l)
 |[],_,_,_,_,h=>by simp[qU] at h
 |n::l,k,p,j,e,h=>by
  rw[qU] at h;rw[jK];by_cases hj:j<gz n
  ·rw[List.getElem?_append_left (by rw[gp];exact hj)] at h;rcases Qn n k p j e h with h1|h1
   ·exact .inl h1.2
   ·exact .inr (by omega)
  ·rw[iK (by rw[gp];omega)] at h;rcases Qo l _ p _ e h with h1|h1
   ·exact .inl h1
   ·exact .inr (by omega)
end
def Own (L:List gH)(k i s:Nat):Prop:=∀(j:Nat) (e:gH),L[j]? =some e->((i<k+j/\k+j<i+s)->(i:Int)<=e.parent/\e.parent<i+s)/\(¬(i<=k+j/\k+j<i+s)->¬((i:Int)<=e.parent/\e.parent<i+s))
structure Wd (M:Dm)(r:Int->Nat):Prop where
 root:∃e,M 0=some e/\e.parent= -1
 neg:∀i,i<0->M i=none
 up:∀i e,M i=some e->i≠0->∃q,M e.parent=some q/\i∈q.kids/\r i=r e.parent+1
 down:∀i e k,M i=some e->k∈e.kids->∃x,M k=some x/\x.parent=i/\k≠0
 nodup:∀i e,M i=some e->e.kids.Nodup
 r0:r 0=1
 rb:∀i e,M i=some e->1<=r i/\r i<=10
inductive Bl (M:Dm) (n:Int):Int->Prop
 |self {e:gH} (h:M n=some e):Bl M n n
 |kid {x:Int} {e:gH} (h:M x=some e) (h0:x≠0) (hb:Bl M n e.parent):Bl M n x
section
variable {M:Dm}{r:Int->Nat}
theorem Bl.in_ {n x:Int}(h:Bl M n x):∃e,M x=some e:=by
 cases h with
 |self h=>exact⟨_,h⟩
 |kid h _ _=>exact⟨_,h⟩
theorem Bl.trans {n k x:Int}(h1:Bl M n k)(h2:Bl M k x):Bl M n x:=by
 induction h2 with
 |self _=>exact h1
 |kid h h0 _ ih=>exact .kid h h0 ih
theorem Wd.step (h:Wd M r){i k:Int}{e:gH}(he:M i=some e)(hk:k∈e.kids):r k=r i+1/\Bl M i k:=by
 obtain⟨x,hx,hp,h0⟩:=h.down i e k he hk;obtain⟨q,_,_,hr⟩:=h.up k x hx h0;refine⟨by rw[hr,hp],.kid hx h0 ?_⟩;rw[hp];exact .self he
theorem Wd.low (h:Wd M r){n x:Int}(hb:Bl M n x):r n<=r x/\(x≠n->r n<r x):=by
 induction hb with
 |self _=>exact⟨Nat.le_refl _,fun h=>absurd rfl h⟩
 |kid he h0 _ ih=>
  obtain⟨q,_,_,hr⟩:=h.up _ _ he h0;exact⟨by omega,fun _=>by omega⟩
theorem Wd.one (h:Wd M r){a b x:Int}(ha:Bl M a x)(hb:Bl M b x)(hr:r a=r b):a=b:=by
 induction ha with
 |self he=>
  refine Classical.byContradiction fun hn=>?_;have:=(h.low hb).2 hn;omega
 |kid he h0 hp ih=>
  cases hb with
  |self he'=>
   obtain⟨q,_,_,hr'⟩:=h.up _ _ he h0;have:=(h.low hp).1;omega
  |kid he' _ hp'=>
   rw[he] at he';cases he';exact ih hp'
theorem Wd.all (h:Wd M r):∀(d:Nat) (x:Int) (e:gH),r x=d->M x=some e->Bl M 0 x
 |0,x,e,hd,he=>by
  have:=(h.rb x e he).1;omega
 |d+1,x,e,hd,he=>by
  by_cases h0:x=0
  ·subst h0;exact .self he
  ·obtain⟨q,hq,_,hr⟩:=h.up x e he h0;exact .kid he h0 (h.all d _ q (by omega) hq)
theorem Wd.dp (h:Wd M r):∀(f:Nat) (i:Int) (e:gH),M i=some e->11<=f+r i->Dp M f i
 |0,i,e,he,hf=>by
  have:=(h.rb i e he).2;omega
 |f+1,i,e,he,hf=>fun e' he' k hk=>by
  obtain⟨x,hx,_,_⟩:=h.down i e' k he' hk;have:=(h.step he' hk).1;exact h.dp f k x hx (by omega)
theorem Wd.Bq (h:Wd M r):∀(f:Nat) (i d x dx:Int),(x,dx)∈pre M f i d->Bl M i x/\dx+r i=d+r x
 |0,_,_,_,_,hx=>by simp[pre] at hx
 |f+1,i,d,x,dx,hx=>by
  rw[pre] at hx;cases he:M i with
  |none=>rw[he] at hx;simp at hx
  |some e=>
   rw[he] at hx;simp only[List.mem_cons,List.mem_flatMap,Prod.mk.injEq] at hx;rcases hx with⟨rfl,rfl⟩|⟨k,hk,hx⟩
   ·exact⟨.self he,rfl⟩
   ·obtain⟨h1,h2⟩:=h.Bq f k (d+1) x dx hx;obtain⟨h3,h4⟩:=h.step he hk;exact⟨h4.trans h1,by omega⟩
theorem JO {f:Nat}{i d:Int}{e:gH}(he:M i=some e)(hf:Dp M f i):(i,d)∈pre M f i d:=by
 cases f with
 |zero=>exact hf.elim
 |succ f=>rw[pre,he];simp
theorem Qp:∀(f:Nat) (i d y dy x:Int) (q e:gH),(y,dy)∈pre M f i d->Dp M f i->M y=some q->x∈q.kids->M x=some e->∃dx,(x,dx)∈pre M f i d
 |0,_,_,_,_,_,_,_,hy,_,_,_,_=>by simp[pre] at hy
 |f+1,i,d,y,dy,x,q,e,hy,hf,hq,hx,he=>by
  rw[pre] at hy⊢;cases hi:M i with
  |none=>rw[hi] at hy;simp at hy
  |some a=>
   rw[hi] at hy;simp only[List.mem_cons,List.mem_flatMap,Prod.mk.injEq] at hy⊢;rcases hy with⟨rfl,rfl⟩|⟨k,hk,hy⟩
   ·rw[hi] at hq;cases hq;exact⟨dy+1,.inr ⟨x,hx,JO he (hf _ hi x hx)⟩⟩
   ·obtain⟨dx,h1⟩:=Qp f k (d+1) y dy x q e hy (hf a hi k hk) hq hx he;exact⟨dx,.inr ⟨k,hk,h1⟩⟩
theorem Wd.a4N (h:Wd M r){f:Nat}{i x:Int}(d:Int)(hb:Bl M i x)(hf:Dp M f i):∃dx,(x,dx)∈pre M f i d:=by
 induction hb with
 |self he=>exact⟨d,JO he hf⟩
 |kid he h0 _ ih=>
  obtain⟨dy,hy⟩:=ih;obtain⟨q,hq,hm,_⟩:=h.up _ _ he h0;exact Qp f i d _ dy _ q _ hy hf hq hm he
theorem Wd.mem (h:Wd M r){f:Nat}{i x d:Int}(hf:Dp M f i):x∈(pre M f i d).map Prod.fst↔Bl M i x:=by
 rw[List.mem_map];constructor
 ·rintro⟨⟨y,dy⟩,hy,rfl⟩;exact(h.Bq f i d y dy hy).1
 ·intro hb;obtain⟨dx,hx⟩:=h.a4N d hb hf;exact⟨(x,dx),hx,rfl⟩
theorem Wd.su (h:Wd M r):∀(f:Nat) (i d:Int),((pre M f i d).map Prod.fst).Nodup
 |0,_,_=>by simp[pre]
 |f+1,i,d=>by
  rw[pre];cases he:M i with
  |none=>simp
  |some e=>
   simp only[List.map_cons,List.map_flatMap];rw[List.nodup_cons];constructor
   ·intro hm;obtain⟨k,hk,hm⟩:=List.mem_flatMap.1 hm;obtain⟨⟨y,dy⟩,hy,hyi⟩:=List.mem_map.1 hm;have hyi:y=i:=hyi;subst hyi;have h1:=(h.low (h.Bq f k _ _ dy hy).1).1;have h2:=(h.step he hk).1;omega
   ·rw[List.Nodup,List.pairwise_flatMap];refine⟨fun k _=>h.su f k (d+1),?_⟩;refine List.Pairwise.imp_of_mem ?_ (h.nodup i e he);intro a b ha hb hab x hx y hy hxy;subst hxy;obtain⟨⟨x1,d1⟩,h1,rfl⟩:=List.mem_map.1 hx;obtain⟨⟨x2,d2⟩,h2,h3⟩:=List.mem_map.1 hy;have h4:=(h.Bq f a _ _ d1 h1).1;have h5:=(h.Bq f b _ _ d2 h2).1;simp only at h3;subst h3;exact hab (h.one h4 h5 (by rw[(h.step he ha).1,(h.step he hb).1]))
theorem Fw {M':Dm}:∀(f:Nat) (i d:Int),(∀x∈(pre M f i d).map Prod.fst,M' x=M x)->(M i=none->M' i=none)->(∀y q,y∈(pre M f i d).map Prod.fst->M y=some q->∀k∈q.kids,M k≠none)->pre M' f i d=pre M f i d
 |0,_,_,_,_,_=>rfl
 |f+1,i,d,h,h0,hk=>by
  rw[pre]
  conv=>rhs;rw[pre]
  cases he:M i with
  |none=>rw[h0 he]
  |some e=>
   have hs:pre M (f+1) i d=(i,d)::e.kids.flatMap (fun k=>pre M f k (d+1)):=by rw[pre,he]
   rw[hs] at h hk;have h1:M' i=some e:=by rw[h i (by simp)];exact he
   rw[h1];simp only[List.cons.injEq,true_and];have key:∀l:List Int,(∀k∈l,k∈e.kids)->l.flatMap (fun k=>pre M' f k (d+1))=l.flatMap (fun k=>pre M f k (d+1)):=fun l=>by
    induction l with
    |nil=>intro _;rfl
    |cons a l ih=>
     intro hl;have ha:=hl a (by simp);have hsub:∀x,x∈(pre M f a (d+1)).map Prod.fst->x∈((i,d)::e.kids.flatMap (fun k=>pre M f k (d+1))).map Prod.fst:=fun x hx=>by
      simp only[List.map_cons,List.map_flatMap];exact List.mem_cons_of_mem _ (List.mem_flatMap.2 ⟨a,ha,hx⟩)
     rw[List.flatMap_cons,List.flatMap_cons,ih (fun k hk=>hl k (by simp[hk]))];rw[Fw f a (d+1) (fun x hx=>h x (hsub x hx)) (fun hn=>absurd hn (hk i e (by simp) he a ha)) (fun y q hy hq=>hk y q (hsub y hy) hq)]
   exact key _ (fun _ hk=>hk)
end
def Cd (M:Dm)(c:Nat):Prop:=∃l:List Int,l.Nodup/\l.length=c/\∀x,x∈l↔M x≠none
theorem Wd.count {M:Dm}{r:Int->Nat}(h:Wd M r){c f:Nat}{d:Int}(hc:Cd M c)(hf:Dp M f 0):((pre M f 0 d).map Prod.fst).length=c:=by
 obtain⟨l,h1,rfl,h3⟩:=hc;refine List.Perm.length_eq ((List.perm_ext_iff_of_nodup (h.su f 0 d) h1).2 fun x=>?_);rw[h.mem hf,h3];constructor
 ·intro hb;obtain⟨e,he⟩:=hb.in_;rw[he];simp
 ·intro hx;cases he:M x with
  |none=>exact absurd he hx
  |some e=>exact h.all _ x e rfl he
section
variable {M:Dm}{r:Int->Nat}
theorem Wd.a4O (h:Wd M r){x:Int}{e:gH}(hx:M x=some e)(h0:x≠0):∃q,M (tQ M x)=some q/\r x=r (tQ M x)+1:=by
 obtain⟨q,hq,_,hr⟩:=h.up x e hx h0;unfold tQ;rw[hx];exact⟨q,hq,hr⟩
theorem Wd.WE (h:Wd M r):tQ M 0= -1:=by
 obtain⟨e,he,hp⟩:=h.root;unfold tQ;rw[he];exact hp
theorem Wd.pos (h:Wd M r){x:Int}{e:gH}(hx:M x=some e):0<=x:=by
 refine Classical.byContradiction fun hn=>?_;rw[h.neg x (by omega)] at hx;cases hx
theorem a0M (l:List Rl)(nm:Bs)(f:Nat){n:Int}(h:n<0):JN M l nm f n=firstM nm:=by
 cases f with
 |zero=>rfl
 |succ f=>rw[JN,if_pos h]
theorem WG {l:List Rl}{nm v:Bs}{n:Int}(f:Nat)(h:0<=n)(ht:wB M l nm n=some v):JN M l nm (f+1) n=v:=by
 rw[JN,if_neg (by omega),ht]
theorem a4P {l:List Rl}{nm:Bs}{n:Int}(f:Nat)(h:0<=n)(ht:wB M l nm n=none)(hi:Fu nm=true):JN M l nm (f+1) n=JN M l nm f (tQ M n):=by
 rw[JN,if_neg (by omega),ht];simp[hi]
theorem a0N {l:List Rl}{nm:Bs}{n:Int}(f:Nat)(h:0<=n)(ht:wB M l nm n=none)(hi:Fu nm=false):JN M l nm (f+1) n=firstM nm:=by
 rw[JN,if_neg (by omega),ht];simp[hi]
theorem a4Q {l:List Rl}{nm:Bs}{n:Int}{e:gH}(he:M n=some e)(hn:yY nm=true):ofM M l nm n=JN M l nm 12 n:=by
 unfold ofM;rw[he,hn];rfl
end
section
variable {M:Dm}
end
def nC:List (Bs×Bs)->Bs->Bs->List (Bs×Bs)
 |[],nm,v=>[(nm,v)]
 |a::l,nm,v=>if a.1==nm then(nm,v)::l else a::nC l nm v
def a4R:List (Bs×Bs)->Bs->List (Bs×Bs)
 |[],_=>[]
 |a::l,nm=>if a.1==nm then l else a::a4R l nm
theorem sw (a:Bs×Bs)(l:List (Bs×Bs))(nm:Bs):kQ (a::l) nm=if a.1==nm then some a.2 else kQ l nm:=by
 unfold kQ;rw[List.find?_cons];cases a.1==nm<;>rfl
theorem WH (l:List (Bs×Bs))(nm v:Bs):(nC l nm v).length=if(kQ l nm).isSome then l.length else l.length+1:=by
 induction l with
 |nil=>rfl
 |cons a l ih=>
  rw[nC,sw];by_cases hk:(a.1==nm)=true
  ·rw[if_pos hk,if_pos hk];rfl
  ·rw[if_neg hk,if_neg hk,List.length_cons,ih,List.length_cons];cases kQ l nm<;>rfl
theorem WJ (l:List (Bs×Bs))(nm v:Bs){x:Bs×Bs}(h:x∈nC l nm v):x=(nm,v)\/x∈l:=by
 induction l with
 |nil=>exact .inl (by simpa[nC] using h)
 |cons a l ih=>
  rw[nC] at h;by_cases hk:(a.1==nm)=true
  ·rw[if_pos hk] at h;rcases List.mem_cons.1 h with h|h
   ·exact .inl h
   ·exact .inr (List.mem_cons_of_mem _ h)
  ·rw[if_neg hk] at h;rcases List.mem_cons.1 h with h|h
   ·exact .inr (by rw[h];exact List.mem_cons_self ..)
   ·rcases ih h with h|h
    ·exact .inl h
    ·exact .inr (List.mem_cons_of_mem _ h)
def xJ (M:Dm)(n:Int)(e:gH)(l:List (Bs×Bs)):Dm:=dZ M n ⟨e.name,l,e.parent,e.kids⟩
theorem Wd.ats {M:Dm}{r:Int->Nat}(h:Wd M r){n:Int}{e:gH}(he:M n=some e)(l:List (Bs×Bs)):Wd (xJ M n e l) r:=by
 have back:∀i x,xJ M n e l i=some x->∃y,M i=some y/\y.parent=x.parent/\y.kids=x.kids:=fun i x hx=>by
  unfold xJ dZ at hx;by_cases hi:i=n
  ·subst hi;rw[if_pos rfl] at hx;cases hx;exact⟨e,he,rfl,rfl⟩
  ·rw[if_neg hi] at hx;exact⟨x,hx,rfl,rfl⟩
 have there:∀i y,M i=some y->∃x,xJ M n e l i=some x/\x.parent=y.parent/\x.kids=y.kids:=fun i y hy=>by
  unfold xJ dZ;by_cases hi:i=n
  ·subst hi;rw[he] at hy;cases hy;exact⟨_,if_pos rfl,rfl,rfl⟩
  ·exact⟨y,by rw[if_neg hi];exact hy,rfl,rfl⟩
 refine⟨?_,fun i hi=>?_,fun i x hx h0=>?_,fun i x k hx hk=>?_,fun i x hx=>?_,h.r0,fun i x hx=>?_⟩
 ·obtain⟨e0,h1,h2⟩:=h.root;obtain⟨x,h3,h4, -⟩:=there 0 e0 h1;exact⟨x,h3,h4.trans h2⟩
 ·cases hx:xJ M n e l i with
  |none=>rfl
  |some x=>
   obtain⟨y,hy, -⟩:=back i x hx;rw[h.neg i hi] at hy;cases hy
 ·obtain⟨y,hy,h1,h2⟩:=back i x hx;obtain⟨q,hq,h3,h4⟩:=h.up i y hy h0;obtain⟨q',hq', -,h5⟩:=there _ q hq;rw[<- h1];exact⟨q',hq',by rw[h5];exact h3,h4⟩
 ·obtain⟨y,hy,h1,h2⟩:=back i x hx;rw[<- h2] at hk;obtain⟨z,hz,h3,h4⟩:=h.down i y k hy hk;obtain⟨z',hz',h5, -⟩:=there k z hz;exact⟨z',hz',h5.trans h3,h4⟩
 ·obtain⟨y,hy,h1,h2⟩:=back i x hx;rw[<- h2];exact h.nodup i y hy
 ·obtain⟨y,hy, -⟩:=back i x hx;exact h.rb i y hy
theorem Cd.ats {M:Dm}{c:Nat}(h:Cd M c){n:Int}{e:gH}(he:M n=some e)(l:List (Bs×Bs)):Cd (xJ M n e l) c:=by
 obtain⟨k,h1,h2,h3⟩:=h;refine⟨k,h1,h2,fun x=>?_⟩;rw[h3];unfold xJ dZ;by_cases hx:x=n
 ·subst hx;rw[if_pos rfl,he];simp
 ·rw[if_neg hx]
end
end Go.Proofs.YtecneflbncjhpaaGreatDoor

import Derived.Test.YtbkjmamcnflncaaGreatDoorQs20
import Derived.Test.YtbkjmamcnflncaaGreatDoorQs13
import Derived.Test.YtbkjmamcnflncaaGreatDoorQs15
namespace Go.Proofs.YtbkjmamcnflncaaGreatDoor
open Go.Proofs.Tryz
set_option maxHeartbeats 4000000
section
section
variable {M C:Dm}{r:Int->Nat}
structure a6O (M M':Dm)(nx par:Int):Prop where
 was:M nx=none
 pos:0<=nx
 new:∃e,M' nx=some e/\e.parent=par/\e.kids=[]
 old:∀i e,M i=some e->∃e',M' i=some e'/\e'.parent=e.parent/\e'.kids.Nodup/\∀x,x∈e'.kids↔(x=nx/\i=par)\/x∈e.kids
 non:∀i,i≠nx->M i=none->M' i=none
theorem Wd.add (h:Wd M r){nx b:Int}{q:gP}(c:a6O M C nx b)(t:M b=some q)(L:r b<10):Wd C (λi=>if i=nx then r b+1 else r i):=by
 have N:b≠nx:=λe=>by
  rw[e,c.was] at t;grind
 have d:∀i f,C i=some f->i≠nx->∃e,M i=some e/\f.parent=e.parent/\f.kids.Nodup/\∀x,x∈f.kids↔(x=nx/\i=b)\/x∈e.kids:=λi f a g=>by
  cases u:M i with
  |none=>
   rw[c.non i g u] at a;grind
  |some e=>
   obtain⟨w,j,m⟩:=c.old i e u;grind
 obtain⟨O,n,y,z⟩:=c.new;obtain⟨A,l,B⟩:=h.root;have D:(0:Int)≠nx:=λe=>by
  rw[e,c.was] at l;grind
 refine⟨?_,?_,?_,?_,?_,?_,?_⟩
 .obtain⟨w,j,m,_⟩:=c.old 0 A l;grind
 .intro i g;have:=c.pos;exact c.non i aa (h.neg i g)
 .intro i f a o;by_cases g:i=nx
  .subst g;rw[n] at a;cases a;obtain⟨E,j,_,_,v⟩:=c.old b q t;grind
  .obtain⟨e,j,m,_,_⟩:=d i f a g;obtain⟨F,p,H,I⟩:=h.up i e j o;obtain⟨E,J,_,_,K⟩:=c.old _ F p;grind
 .intro i f k a s;by_cases g:i=nx
  .grind
  .obtain⟨e,j,m,_,v⟩:=d i f a g;rcases(v k).1 s with⟨rfl,rfl⟩|s
   .grind
   .obtain⟨x,p,H,I⟩:=h.down i e k j s;obtain⟨P,J,K,_⟩:=c.old k x p;grind
 .grind
 .simp only[if_neg D];exact h.r0
 .intro i f a;by_cases g:i=nx
  .grind
  .simp only[if_neg g];obtain⟨e,j,_⟩:=d i f a g;exact h.rb i e j
theorem a6O.count {nx b:Int}(a:a6O M C nx b){c:Nat}(hc:Cd M c):Cd C (c+1):=by
 obtain⟨l,i,rfl,g⟩:=hc;refine⟨nx::l,qi.2 ⟨λj=>(g nx).1 j a.was,i⟩,rfl,λx=>?_⟩;rw[gD,g];by_cases d:x=nx
 .subst d;obtain⟨m,f,_⟩:=a.new;simp[f]
 .cases h:M x with
  |none=>simp[d,a.non x d h]
  |some e=>
   obtain⟨n,k,_⟩:=a.old x e h;simp[k]
structure a6P (M M':Dm)(n:Int):Prop where
 out:∀i,Bl M n i->M' i=none
 old:∀i e,M i=some e->¬Bl M n i->∃e',M' i=some e'/\e'.parent=e.parent/\e'.kids.Nodup/\∀x,x∈e'.kids↔x≠n/\x∈e.kids
 non:∀i,M i=none->M' i=none
theorem Wd.cut (h:Wd M r){n:Int}(f:a6P M C n)(B:¬Bl M n 0):Wd C r:=by
 have b:∀i c,C i=some c->∃e,M i=some e/\¬Bl M n i/\c.parent=e.parent/\c.kids.Nodup/\∀x,x∈c.kids↔x≠n/\x∈e.kids:=λi c a=>by
  have g:¬Bl M n i:=λg=>by
   rw[f.out i g] at a;grind
  cases u:M i with
  |none=>
   rw[f.non i u] at a;grind
  |some e=>
   obtain⟨o,d,m⟩:=f.old i e u g;grind
 obtain⟨D,p,E⟩:=h.root;refine⟨?_,λi F=>f.non i (h.neg i F),?_,?_,?_,h.r0,?_⟩
 .obtain⟨o,d,m,_⟩:=f.old 0 D p B;grind
 .intro i c a l;obtain⟨e,d,g,m,_,_⟩:=b i c a;obtain⟨H,q,v,w⟩:=h.up i e d l;obtain⟨I,y,_,_,z⟩:=f.old _ H q (λA=>g (.kid d l A));rw[m];refine⟨I,y,(z _).2 ⟨λo=>?_,v⟩,w⟩;subst o;exact g (.self d)
 .intro i c k a s;obtain⟨e,d,g,m,_,J⟩:=b i c a;obtain⟨t,s⟩:=(J k).1 s;obtain⟨x,q,v,w⟩:=h.down i e k d s;have j:¬Bl M n k:=λj=>by
   cases j with
   |self _=>exact t rfl
   |kid hx _ A=>
    grind
  obtain⟨K,y,z,_⟩:=f.old k x q j;grind
 .grind
 .intro i c a;obtain⟨e,d,_⟩:=b i c a;exact h.rb i e d
theorem a6P.count {n:Int}(d:a6P M C n){c:Nat}(hc:Cd M c){L:List Int}(o:L.Nodup)(f:∀x,x∈L↔Bl M n x):Cd C (c-L.length)/\L.length<=c:=by
 obtain⟨l,h,rfl,i⟩:=hc;have j:l.Perm (L++l.filter (λx=> !decide (x∈L))):=by
  refine(List.perm_ext_iff_of_nodup h ?_).2 λx=>?_
  .grind
  .rw[gT,lU];by_cases a:x∈L
   .obtain⟨e,g⟩:=((f x).1 a).in_;grind
   .simp[a]
 have b:=j.length_eq;rw[dJ] at b;refine⟨⟨l.filter (λx=> !decide (x∈L)),h.filter _,aa,λx=>?_⟩,aa⟩;rw[lU,i];by_cases a:x∈L
 .simp[a,d.out x ((f x).1 a)]
 .cases g:M x with
  |none=>simp[d.non x g]
  |some e=>
   obtain⟨p,k,_⟩:=d.old x e g (λm=>a ((f x).2 m));simp[a,k]
structure a6Q (M M':Dm)(n par:Int):Prop where
 old:∀i e,M i=some e->∃e',M' i=some e'/\e'.parent=(if i=n then par else e.parent)/\e'.kids.Nodup/\∀x,x∈e'.kids↔(x=n/\i=par)\/(x≠n/\x∈e.kids)
 non:∀i,M i=none->M' i=none
theorem Wd.move (h:Wd M r){n a:Int}{e q:gP}(j:a6Q M C n a)(D:M n=some e)(O:n≠0)(P:M a=some q)(hp:¬Bl M n a){L:List Int}(m:∀x,x∈L↔Bl M n x)(E:∀x∈L,r x+1+r a<=10+r n):
  Wd C (λx=>if x∈L then r x+r a+1-r n else r x):=by
 have c:∀i d,C i=some d->∃e,M i=some e/\d.parent=(if i=n then a else e.parent)/\d.kids.Nodup/\∀x,x∈d.kids↔(x=n/\i=a)\/(x≠n/\x∈e.kids):=λi d b=>by
  cases F:M i with
  |none=>
   rw[j.non i F] at b;grind
  |some e=>
   obtain⟨f,l,s⟩:=j.old i e F;grind
 have Q:n∈L:=(m n).2 (.self D);have R:a ∉ L:=by grind
 obtain⟨S,u,T⟩:=h.root;have v:(0:Int) ∉ L:=λw=>by
  cases(m 0).1 w with
  |self _=>exact O rfl
  |kid _ hx _=>exact hx rfl
 refine⟨?_,λi g=>j.non i (h.neg i g),?_,?_,?_,?_,?_⟩
 .obtain⟨f,l,s,_⟩:=j.old 0 S u;grind
 .intro i d b p;obtain⟨f,l,s,_,_⟩:=c i d b;by_cases g:i=n
  .subst g;obtain⟨H,U,_,_,y⟩:=j.old a q P;grind
  .obtain⟨V,t,z,I⟩:=h.up i f l p;obtain⟨H,J,_,_,K⟩:=j.old _ V t;rw[s,if_neg g];refine⟨H,J,(K _).2 (.inr ⟨g,z⟩),?_⟩;by_cases o:i∈L
   .have A:f.parent∈L:=by
     cases(m i).1 o with
     |self _=>exact absurd rfl g
     |kid hx _ E=>
      grind
    have N:=(h.low ((m _).1 A)).1;grind
   .have A:f.parent ∉ L:=λw=>o ((m i).2 (.kid l p ((m _).1 w)));simp only[if_neg o,if_neg A];exact I
 .intro i d k b B;obtain⟨f,l,s,_,y⟩:=c i d b;rcases(y k).1 B with⟨rfl,rfl⟩|⟨W,B⟩
  .obtain⟨X,t,z,_⟩:=j.old k e D;grind
  .obtain⟨x,t,z,I⟩:=h.down i f k l B;obtain⟨Y,J,K,_⟩:=j.old k x t;grind
 .grind
 .simp only[if_neg v];exact h.r0
 .intro i d b;obtain⟨f,l,_⟩:=c i d b;have:=h.rb i f l;by_cases g:i∈L
  .have U:=E i g;have y:=(h.low ((m i).1 g)).1;grind
  .grind
theorem a6Q.count {n a:Int}(b:a6Q M C n a){c:Nat}(hc:Cd M c):Cd C c:=by
 obtain⟨l,f,g,h⟩:=hc;refine⟨l,f,g,λx=>?_⟩;rw[h];cases d:M x with
 |none=>simp[b.non x d]
 |some e=>
  obtain⟨j,i,_⟩:=b.old x e d;simp[i]
end
mutual
def Sr (d:Nat):Nd->List Nat
 | .mk _ _ ks=>d::WJ (d+1) ks
def WJ (d:Nat):List Nd->List Nat
 |[]=>[]
 |n::l=>Sr d n++WJ d l
end
mutual
theorem pE:∀(n:Nd) (d:Nat),(Sr d n).length=je n
 | .mk b ats a,d=>by rw[Sr,je,eP,WL a]
theorem WL:∀(l:List Nd) (d:Nat),(WJ d l).length=nJ l
 |[],_=>rfl
 |n::l,d=>by rw[WJ,nJ,dJ,pE n,WL l]
end
theorem Qk (n:Nd)(d:Nat):(Sr d n)[0]? =some d:=by
 cases n;rw[Sr];rfl
mutual
theorem WM:∀(n:Nd) (d a:Nat),a∈Sr d n->d<=a
 | .mk c ats b,d,a,h=>by
  rw[Sr] at h;rcases gD.1 h with rfl|h
  .omega
  .have:=WN b (d+1) a h;omega
theorem WN:∀(l:List Nd) (d a:Nat),a∈WJ d l->d<=a
 |[],_,_,h=>by simp[WJ] at h
 |n::l,d,a,h=>by
  rw[WJ] at h;rcases gT.1 h with h|h
  .exact WM n d a h
  .exact WN l d a h
end
mutual
theorem a2s:∀(n:Nd) (k:Nat) (p:Int) (d j:Nat) (e:gP),(uK k p n)[j]? =some e->0<j->∃(i:Nat) (q:gP) (a:Nat),(uK k p n)[i]? =some q/\e.parent=k+i/\(k:Int)+j∈q.kids/\(Sr d n)[i]? =some a/\(Sr d n)[j]? =some (a+1)
 | .mk g ats b,k,p,d,0,e,h,l=>absurd l (Nat.lt_irrefl _)
 | .mk g ats b,k,p,d,j+1,e,h,_=>by
  rw[uK] at h⊢;rw[Sr];rcases a2t b (k+1) k (d+1) j e (by simpa using h) with⟨c,m,f⟩|⟨i,q,a,c,m,f,o,r⟩
  .refine⟨0,_,d,rfl,aa,?_,rfl,by simpa using f⟩;grind
  .refine⟨i+1,q,a,by simpa using c,aa,?_,by simpa using o,by simpa using r⟩;grind
theorem a2t:∀(l:List Nd) (k:Nat) (p:Int) (d j:Nat) (e:gP),(vB k p l)[j]? =some e->(e.parent=p/\(k:Int)+j∈xH k l/\(WJ d l)[j]? =some d)\/∃(i:Nat) (q:gP) (a:Nat),(vB k p l)[i]? =some q/\e.parent=k+i/\(k:Int)+j∈q.kids/\(WJ d l)[i]? =some a/\(WJ d l)[j]? =some (a+1)
 |[],_,_,_,_,_,h=>by simp[vB] at h
 |n::l,k,p,d,j,e,h=>by
  rw[vB] at h⊢;rw[WJ];by_cases o:j<je n
  .rw[yA (by rw[iM];exact o)] at h;by_cases s:j=0
   .subst s;rcases VC n k p 0 e h with b|b
    .refine .inl ⟨b.2,by rw[xH];simp,?_⟩;rw[yA (by rw[pE];exact o)];exact Qk n d
    .omega
   .obtain⟨i,q,a,b,f,c,g,m⟩:=a2s n k p d j e h aa;refine .inr ⟨i,q,a,?_,f,c,?_,?_⟩
    .rw[yA (kQ.1 b).1];exact b
    .rw[yA (kQ.1 g).1];exact g
    .rw[yA (kQ.1 m).1];exact m
  .rw[qb (by rw[iM];omega),iM] at h;have r:(k:Int)+j=((k+je n:Nat):Int)+(j-je n:Nat):=aa;rcases a2t l (k+je n) p d (j-je n) e h with⟨b,f,c⟩|⟨i,q,a,b,f,c,g,m⟩
   .refine .inl ⟨b,?_,?_⟩
    .rw[xH,r];exact EO _ f
    .rw[qb (by rw[pE];omega),pE];exact c
   .refine .inr ⟨je n+i,q,a,?_,aa,by rw[r];exact c,?_,?_⟩
    .rw[qb (by rw[iM];omega),iM,show je n+i-je n=i from by omega];exact b
    .rw[qb (by rw[pE];omega),pE,show je n+i-je n=i from by omega];exact g
    .rw[qb (by rw[pE];omega),pE];exact m
end
theorem a2u:∀(l:List Nd) (k:Nat) (p x:Int),x∈xH k l->∃(j:Nat) (e:gP),x=k+j/\(vB k p l)[j]? =some e/\e.parent=p
 |[],_,_,_,h=>by simp[xH] at h
 |n::l,k,p,x,h=>by
  rw[xH] at h;rw[vB];rcases gD.1 h with rfl|h
  .obtain⟨c,ats,d⟩:=n;rw[uK];exact⟨0,_,aa,rfl,rfl⟩
  .obtain⟨j,e,f,a,b⟩:=a2u l (k+je n) p x h;refine⟨je n+j,e,aa,?_,b⟩;rw[qb (by rw[iM];omega),iM,show je n+j-je n=j from by omega];exact a
mutual
theorem Ql:∀(n:Nd) (k:Nat) (p:Int) (i:Nat) (q:gP) (x:Int),(uK k p n)[i]? =some q->x∈q.kids->∃(j:Nat) (e:gP),x=k+j/\0<j/\(uK k p n)[j]? =some e/\e.parent=k+i
 | .mk d ats a,k,p,0,q,x,h,b=>by
  rw[uK] at h⊢;simp at h;subst h;obtain⟨j,e,f,c,g⟩:=a2u a (k+1) k x b;exact⟨j+1,e,aa,aa,by simpa using c,aa⟩
 | .mk d ats a,k,p,i+1,q,x,h,b=>by
  rw[uK] at h⊢;obtain⟨j,e,f,c,g⟩:=Qm a (k+1) k i q x (by simpa using h) b;exact⟨j+1,e,aa,aa,by simpa using c,aa⟩
theorem Qm:∀(l:List Nd) (k:Nat) (p:Int) (i:Nat) (q:gP) (x:Int),(vB k p l)[i]? =some q->x∈q.kids->∃(j:Nat) (e:gP),x=k+j/\(vB k p l)[j]? =some e/\e.parent=k+i
 |[],_,_,_,_,_,h,_=>by simp[vB] at h
 |n::l,k,p,i,q,x,h,a=>by
  rw[vB] at h⊢;by_cases c:i<je n
  .rw[yA (by rw[iM];exact c)] at h;obtain⟨j,e,d,_,b,f⟩:=Ql n k p i q x h a;grind
  .rw[qb (by rw[iM];omega),iM] at h;obtain⟨j,e,d,b,f⟩:=Qm l (k+je n) p (i-je n) q x h a;refine⟨je n+j,e,aa,?_,aa⟩;rw[qb (by rw[iM];omega),iM,show je n+j-je n=j from by omega];exact b
end
theorem WQ:∀(l:List Nd) (k:Nat) (x:Int),x∈xH k l->(k:Int)<=x
 |[],_,_,h=>by simp[xH] at h
 |n::l,k,x,h=>by
  rw[xH] at h;rcases gD.1 h with rfl|h
  .omega
  .have:=WQ l _ x h;omega
theorem Ky:∀(l:List Nd) (k:Nat),(xH k l).Nodup
 |[],_=>List.nodup_nil
 |n::l,k=>by
  rw[xH,qi];refine⟨λa=>?_,Ky l _⟩;have:=WQ l _ _ a;have:=Vy n;omega
mutual
theorem Qn:∀(n:Nd) (k:Nat) (p:Int),∀e∈uK k p n,e.kids.Nodup
 | .mk c ats b,k,p,e,a=>by
  rw[uK] at a;rcases gD.1 a with rfl|a
  .exact Ky b _
  .exact Qo b _ _ e a
theorem Qo:∀(l:List Nd) (k:Nat) (p:Int),∀e∈vB k p l,e.kids.Nodup
 |[],_,_,e,a=>by simp[vB] at a
 |n::l,k,p,e,a=>by
  rw[vB] at a;rcases gT.1 a with a|a
  .exact Qn n _ _ e a
  .exact Qo l _ _ e a
end
def rkD (n:Nd)(i:Int):Nat:=((Sr 1 n)[i.toNat]?).getD 0
theorem Wd.new (n:Nd)(u:∀a∈Sr 1 n,a<=10):Wd (kH (λ_=>none) 0 (uK 0 (-1) n)) (rkD n):=by
 have b:∀i e,kH (λ_=>none) 0 (uK 0 (-1) n) i=some e->∃j:Nat,i=j/\(uK 0 (-1) n)[j]? =some e:=λi e h=>by
  unfold kH at h;grind
 have f:∀(j:Nat) e,(uK 0 (-1) n)[j]? =some e->kH (λ_=>none) 0 (uK 0 (-1) n) (j:Int)=some e:=λj e h=>by
  have g:=a0z (M:=λ_=>none) (nx:=0) (L:=uK 0 (-1) n) (j:=j) (kQ.1 h).1;rw[show((0:Nat):Int)+j=j from by omega] at g;grind
 have l:∀j a:Nat,(Sr 1 n)[j]? =some a->rkD n (j:Int)=a:=λj a h=>by
  unfold rkD;grind
 have v:∃e,(uK 0 (-1) n)[0]? =some e/\e.parent= -1:=by
  obtain⟨A,ats,B⟩:=n;rw[uK];exact⟨_,rfl,rfl⟩
 refine⟨?_,λi C=>a0y aa,?_,?_,?_,?_,?_⟩
 .grind
 .intro i e c D;obtain⟨j,rfl,d⟩:=b i e c;obtain⟨m,q,a,g,w,o,r,y⟩:=a2s n 0 (-1) 1 j e d aa;have p:e.parent=(m:Int):=aa;rw[p];refine⟨q,f m q g,?_,by rw[l j _ y,l m _ r]⟩;rw[show((0:Nat):Int)+j=j from by omega] at o;exact o
 .intro i e k c z;obtain⟨j,rfl,d⟩:=b i e c;obtain⟨E,x,g,w,o,r⟩:=Ql n 0 (-1) j e k d z;grind
 .intro i e c;obtain⟨j,rfl,d⟩:=b i e c;exact Qn n 0 (-1) e (gN d)
 .exact l 0 1 (Qk n 1)
 .intro i e c;obtain⟨j,rfl,d⟩:=b i e c;have s:j<(Sr 1 n).length:=by
   have:=(kQ.1 d).1;rw[iM] at this;rw[pE];exact this
  rw[l j _ (eZ s)];have t:=List.getElem_mem s;exact⟨WM n 1 _ t,u _ t⟩
theorem Cd.new (n:Nd):Cd (kH (λ_=>none) 0 (uK 0 (-1) n)) (je n):=by
 refine⟨nums 0 (je n),?_,by simp[nums],λx=>?_⟩
 .unfold nums;exact List.Pairwise.map _ (λa b h=>aa) (List.nodup_range' (s:=0) (n:=je n) (step:=1))
 .rw[a0E];unfold kH;rw[iM];constructor
  .intro h;rw[if_pos aa,eZ (by rw[iM];omega)];simp
  .grind
theorem a2v:∀(K:List Int) (a:Nat) (n:Int),K[a]? =some n->K.Nodup->(K.filter (λx=> !decide (x=n))).take a++n::(K.filter (λx=> !decide (x=n))).drop a=K
 |[],_,_,h,_=>by simp at h
 |k::K,0,n,h,b=>by
  simp at h;subst h;have c:=(qi.1 b).1;have d:K.filter (λx=> !decide (x=k))=K:=List.filter_eq_self.2 λx f=>by grind
  grind
 |k::K,a+1,n,h,b=>by
  have c:=qi.1 b;have d:K[a]? =some n:=by grind
  have e:k≠n:=by grind
  rw[List.filter_cons];simp only[e,decide_false,Bool.not_false,if_true,List.take_succ_cons,List.drop_succ_cons,fV];rw[a2v K a n d c.2]
theorem Wd.deep {M:Dm}{r:Int->Nat}(h:Wd M r):∀(d:Nat) (x:Int) (e:gP),r x=d->M x=some e->Up M x d
 |0,x,e,f,a=>by
  have:=(h.rb x e a).1;omega
 |d+1,x,e,f,a=>by
  refine⟨e,a,?_⟩;by_cases b:x=0
  .subst b;obtain⟨j,c,g⟩:=h.root;rw[a] at c;cases c;have:d=0:=by have:=h.r0;omega
   subst this;rw[g];exact h.neg _ aC
  .obtain⟨q,i,_,k⟩:=h.up x e a b;exact h.deep d _ q aa i
theorem Kz {L:List Int}{a:Nat}{k x:Int}:x∈iE L a k↔x=k\/x∈L:=by
 unfold iE;rw[gT,gD];constructor
 .grind
 .rintro(h|h)
  .omega
  .rw[<- jJ a L] at h;grind
theorem Dq {L:List Int}{a:Nat}{k:Int}(h:L.Nodup)(b:k ∉ L):(iE L a k).Nodup:=by
 have c:(iE L a k).Perm (k::L):=by
  unfold iE;refine List.perm_middle.trans ?_;rw[jJ]
 grind
theorem WS {L:List Int}{k x:Int}:x∈woL L k↔x≠k/\x∈L:=by grind
section
variable {M:Dm}{r:Int->Nat}
theorem Wd.Uh (h:Wd M r){i k:Int}{e:gP}(he:M i=some e)(a:k∈e.kids):M k≠none:=by
 obtain⟨x,b,_⟩:=h.down i e k he a;rw[b];simp
theorem Wd.ajU (h:Wd M r){nx b:Int}{q:gP}(d:M nx=none)(l:0<=nx)(j:M b=some q)(c:Bs)(a:Nat):a6O M (dY (dY M nx ⟨c,[],b,[]⟩) b ⟨q.name,q.ats,q.parent,iE q.kids a nx⟩) nx b:=by
 have n:nx≠b:=by grind
 refine⟨d,l,⟨⟨c,[],b,[]⟩,?_,rfl,rfl⟩,λi e f=>?_,λi g o=>?_⟩
 .unfold dY;grind
 .have k:i≠nx:=by grind
  unfold dY;by_cases g:i=b
  .subst g;rw[j] at f;cases f;rw[if_pos rfl];refine⟨_,rfl,rfl,Dq (h.nodup i q j) (λm=>h.Uh j m d),λx=>?_⟩;rw[Kz];simp
  .rw[if_neg g,if_neg k];exact⟨e,f,rfl,h.nodup i e f,λx=>by simp[g]⟩
 .unfold dY;grind
theorem Wd.a2w (h:Wd M r){n:Int}{e:gP}(a:M n=some e)(b:n≠0):¬Bl M n e.parent:=λc=>by
 obtain⟨q,_,_,d⟩:=h.up n e a b;have:=(h.low c).1;omega
theorem Wd.a2x (h:Wd M r){n:Int}{e o:gP}(a:M n=some e)(b:n≠0){f:Nat}{d:Int}(c:Dp M f n):pre (pz M n e o) f n d=pre M f n d:=by
 refine JM f n d (λx g=>?_) (λi=>absurd (i.symm.trans a) aG) (λy q s j k l=>h.Uh j l);have m:=(h.mem c).1 g;unfold pz dY;rw[if_neg];intro p;subst p;exact h.a2w a b m
theorem Wd.cutV (h:Wd M r){n:Int}{e o:gP}(m:M n=some e)(d:M e.parent=some o){L:List Int}(g:∀x,x∈L↔Bl M n x):a6P M (su (pz M n e o) L) n:=by
 refine⟨λi f=>?_,λi x a f=>?_,λi b=>?_⟩
 .unfold su;grind
 .unfold su;rw[if_neg (λj=>f ((g i).1 j))];unfold pz dY;by_cases b:i=e.parent
  .rw[if_pos b];rw[b,d] at a;cases a;exact⟨_,rfl,rfl,(h.nodup _ o d).filter _,λy=>WS⟩
  .rw[if_neg b];refine⟨x,a,rfl,h.nodup i x a,λy=>⟨λc=>⟨λk=>?_,c⟩,λc=>c.2⟩⟩;subst k;obtain⟨z,p,l,_⟩:=h.down i x y a c;grind
 .unfold su pz dY;grind
end
section
variable {M:Dm}{r:Int->Nat}
theorem Wd.WU (h:Wd M r){n i:Int}{e x:gP}(d:M n=some e)(a:M i=some x)(hi:i≠e.parent):n ∉ x.kids:=λb=>by
 obtain⟨z,f,c,_⟩:=h.down i x n a b;grind
theorem Wd.Ez (h:Wd M r){n i:Int}{e o x:gP}(g:M n=some e)(f:M e.parent=some o)(a:M i=some x):∃b,pz M n e o i=some b/\b.parent=x.parent/\b.kids.Nodup/\∀y,y∈b.kids↔y≠n/\y∈x.kids:=by
 unfold pz dY;by_cases c:i=e.parent
 .rw[if_pos c];rw[c,f] at a;cases a;exact⟨_,rfl,rfl,(h.nodup _ o f).filter _,λy=>WS⟩
 .rw[if_neg c];refine⟨x,a,rfl,h.nodup i x a,λy=>⟨λd=>⟨λj=>?_,d⟩,λd=>d.2⟩⟩;subst j;exact h.WU g a c d
theorem Wd.Qp (h:Wd M r){n:Int}{e:gP}(a:M n=some e)(b:n≠0):e.parent≠n:=λc=>h.a2w a b (by rw[c];exact .self a)
theorem Wd.ajV (h:Wd M r){n b:Int}{e o v q:gP}(d:M n=some e)(w:n≠0)(l:M e.parent=some o)(z:M b=some v)(A:pz M n e o b=some q)(B:b≠n)(a:Nat):a6Q M (YL M n b a e o q) n b:=by
 refine⟨λi x j=>?_,λi c=>?_⟩
 .unfold YL;by_cases c:i=b
  .subst c;obtain⟨s,k,t,m,p⟩:=h.Ez d l j;rw[A] at k;cases k;refine⟨⟨q.name,q.ats,q.parent,iE q.kids a n⟩,by rw[dY,if_pos rfl],?_,Dq m (λC=>((p n).1 C).1 rfl),λy=>?_⟩
   .grind
   .show y∈iE q.kids a n↔_;rw[Kz,p];simp
  .by_cases f:i=n
   .subst f;rw[d] at j;cases j;refine⟨⟨e.name,e.ats,b,e.kids⟩,by rw[dY,if_neg c,dY,if_pos rfl],by rw[if_pos rfl],h.nodup i e d,λy=>?_⟩;show y∈e.kids↔_;constructor
    .intro u;refine .inr ⟨λg=>?_,u⟩;subst g;exact h.WU d d (λg=>h.Qp d w g.symm) u
    .grind
   .obtain⟨s,k,t,m,p⟩:=h.Ez d l j;refine⟨s,by rw[dY,if_neg c,dY,if_neg f];exact k,by rw[if_neg f];exact t,m,λy=>?_⟩;grind
 .have D:i≠b:=by grind
  have E:i≠n:=λg=>by rw[g,d] at c;exact absurd c aG
  have F:i≠e.parent:=λg=>by rw[g,l] at c;exact absurd c aG
  unfold YL;rw[dY,if_neg D,dY,if_neg E];unfold pz;rw[dY,if_neg F];exact c
theorem GH:∀(l:List (Int×Int)) (m:Int),m<=l.foldl (λm x=>max m x.2) m/\∀x∈l,x.2<=l.foldl (λm x=>max m x.2) m
 |[],m=>⟨Int.le_refl _,λx a=>absurd a aG⟩
 |y::l,m=>by
  obtain⟨b,c⟩:=GH l (max m y.2);grind
theorem Qq:∀(l:List (Int×Int)) (m b:Int),m<=b->(∀x∈l,x.2<=b)->l.foldl (λm x=>max m x.2) m<=b
 |[],_,_,h,_=>h
 |y::l,m,b,h,a=>by
  rw[List.foldl_cons];have:=a y aG;exact Qq l _ b aa (λx c=>a x (by simp[c]))
theorem Wd.fits (h:Wd M r){n a:Int}{f:Nat}(c:(r a:Int)+nC (pre M f n 1)<=10):∀x∈dM M f n,r x+1+r a<=10+r n:=λx d=>by
 obtain⟨⟨y,e⟩,b,rfl⟩:=gu.1 d;have g:=(h.yD f n 1 y e b).2;have i:=(GH (pre M f n 1) 0).2 _ b;unfold nC at c;grind
theorem Wd.most (h:Wd M r){n:Int}{f:Nat}:0<=nC (pre M f n 1)/\nC (pre M f n 1)<=10:=by
 refine⟨(GH (pre M f n 1) 0).1,Qq _ _ _ aC λx a=>?_⟩;obtain⟨y,b⟩:=x;obtain⟨c,i⟩:=h.yD f n 1 y b a;obtain⟨e,d⟩:=c.in_;have j:=(h.rb y e d).2;obtain⟨x,a⟩:∃x,M n=some x:=by
  cases f with
  |zero=>simp[pre] at a
  |succ f=>
   cases g:M n with
   |none=>rw[pre,g] at a;simp at a
   |some x=>exact⟨x,rfl⟩
 have k:=(h.rb n x a).1;omega
end
end
section
open Go.RowKit
mutual
theorem a2y:∀(n:Nd) (b ahead:Nat),(iT n b ahead).1=0->∀a∈Sr b n,a<=10
 | .mk f ats e,b,ahead,h,a,c=>by
  unfold iT at h;split at h
  .rename_i d;rw[Sr] at c;rcases gD.1 c with rfl|c
   .exact(FT d).1
   .exact a2z e _ _ h a c
  .rename_i d;exact(d h).elim
theorem a2z:∀(l:List Nd) (b ahead:Nat),(uj l b ahead).1=0->∀a∈WJ b l,a<=10
 |[],_,_,_,a,c=>by simp[WJ] at c
 |k::l,b,ahead,h,a,c=>by
  by_cases d:(iT k b ahead).1=0
  .rw[rY d] at h;rw[WJ] at c;rcases gT.1 c with c|c
   .exact a2y k b ahead d a c
   .exact a2z l _ _ h a c
  .rw[zW d] at h;exact(d h).elim
end
structure j5 (B:Nat)(tg:dm)(W:ah)(DB MB:Nat)(p:Int->Option Nat)(M:Dm)(nx c:Nat)(r:Int->Nat):Prop where
 w:bT B tg W DB MB p M nx c
 d:Wd M r
 n:Cd M c
 le:c<=100
 low:B<=W.heap.size
section
variable {E:Nat->Addr}{B:Nat}{C:dm}{W:ah}{DB D:Nat}{p:Int->Option Nat}{M:Dm}{nx c:Nat}{r:Int->Nat}
theorem j5.below {w':ah}(h:j5 B C W DB D p M nx c r)(a:aD W w'):j5 B C w' DB D p M nx c r:=⟨h.w.below a,h.d,h.n,h.le,bu h.low a.size⟩
theorem j5.few (h:j5 B C W DB D p M nx c r){i:Int}{e:gP}(he:M i=some e):e.kids.length<=100:=by
 obtain⟨l,_,d,a⟩:=h.n;have:=Ey e.kids l (h.d.nodup i e he) (λx b=>(a x).2 (h.d.Uh he b));have:=h.le;omega
theorem j5.new (h:j5 B C W DB D p M nx c r):M nx=none:=by
 cases a:M nx with
 |none=>rfl
 |some e=>
  have:=h.w.dom nx e a;omega
end
theorem Dp.sub {M c:Dm}(h:∀i a,c i=some a->∃x,M i=some x/\∀k∈a.kids,k∈x.kids):∀{f:Nat} {i:Int},Dp M f i->Dp c f i
 |0,_,hd=>hd.elim
 |_+1,i,hd=>λa b k d=>by
  obtain⟨x,e,g⟩:=h i a b;exact Dp.sub h (hd x e k (g k d))
theorem a6R {K:List Int}{n:Int}(b:n∈K)(c:K.Nodup):(woL K n).length+1=K.length:=by
 obtain⟨a,d⟩:=List.getElem?_of_mem b;have e:=congrArg List.length (a2v K a n d c);grind
section
variable {E:Nat->Addr}{B:Nat}{C:dm}{W:ah}{DB D:Nat}{p:Int->Option Nat}{M:Dm}{nx c:Nat}{r:Int->Nat}
theorem Wd.top (_:Wd M r){n:Int}(a:n≠0):¬Bl M n 0:=λb=>by
 cases b with
 |self _=>exact a rfl
 |kid _ hx _=>exact hx rfl
theorem Wd.a6S (h:Wd M r){n:Int}{e o:gP}(d:M n=some e)(c:M e.parent=some o){f:Nat}{i:Int}(g:Dp M f i):Dp (pz M n e o) f i:=by
 refine Dp.sub (λj l a=>?_) g;cases b:M j with
 |none=>
  unfold pz at a;rw[dY,if_neg (λk=>by rw[k,c] at b;exact absurd b aG),b] at a;exact absurd a aG
 |some x=>
  obtain⟨m,p,_,_,q⟩:=h.Ez d c b;grind
theorem j5.count (h:j5 B C W DB D p M nx c r){f:Nat}{i d:Int}(a:Dp M f i):(pre M f i d).length<=100:=by
 obtain⟨l,_,k,b⟩:=h.n;have g:=Ey _ l (h.d.rQ f i d) (λx j=>(b x).2 (by
  obtain⟨e,m⟩:=((h.d.mem a).1 j).in_;grind))
 rw[dF] at g;have:=h.le;omega
end
end
section
abbrev kM (n:Nd):Dm:=kH (λ_=>none) 0 (uK 0 (-1) n)
end
section
open Go.RowKit
mutual
def sh:Nat->Nd->Prop
 |d,.mk _ _ ks=>d<=15/\shL (d+1) ks
def shL:Nat->List Nd->Prop
 |_,[]=>True
 |d,k::l=>sh d k/\shL d l
end
theorem a6T (E:Nat->Addr)(n:Nd)(a b c:au)(W:ah)(hE:CE E W)(f:rJ W a b c n)(hs:je n<=1000000)(hc:(iT n 1 0).1=0):
  aJ 37 #[.agg #[a,b,c]] W λe w'=>aD W w'/\∃DB g i p,e=ax (aF #[aI DB,aU])/\bT W.heap.size i w' DB g p (kM n) (je n) (je n):=(a6j E n a b c W hE f hs).mono λe w' h=>⟨h.1,by
 rcases h.2 with d|d
 .omega
 .exact d.2⟩
mutual
theorem Ui:∀(n:Nd) (a ahead:Nat),(iT n a ahead).1=0->(iT n a ahead).2=ahead+je n
 | .mk c ats d,a,ahead,h=>by
  by_cases b:ck1 c ats a ahead=0
  .rw[FV b] at h⊢;rw[a2A d _ _ h,je];omega
  .rw[iT,if_neg b] at h;omega
theorem a2A:∀(l:List Nd) (a ahead:Nat),(uj l a ahead).1=0->(uj l a ahead).2=ahead+nJ l
 |[],_,ahead,_=>by rw[uj,nJ];rfl
 |k::l,a,ahead,h=>by
  by_cases b:(iT k a ahead).1=0
  .rw[rY b] at h⊢;rw[a2A l _ _ h,Ui k _ _ b,nJ];omega
  .rw[zW b] at h;omega
end
theorem afv (E:Nat->Addr)(n:Nd)(a b c:au)(W:ah)(hE:CE E W)(h:rJ W a b c n)(hs:je n<=1000000)(hc:(iT n 1 0).1=0):
  aJ 37 #[.agg #[a,b,c]] W λe w'=>aD W w'/\∃DB d f p,e=ax (aF #[aI DB,aU])/\j5 W.heap.size f w' DB d p (kM n) (je n) (je n) (rkD n):=by
 refine(a6T E n a b c W hE h hs hc).mono ?_;rintro e w' ⟨g,DB,d,f,p,rfl,i⟩;have j:=Ui n 1 0 hc;have k:=FU n 1 0 hc;exact⟨g,DB,d,f,p,rfl,i,Wd.new n (a2y n 1 0 hc),Cd.new n,aa,g.size⟩
section
variable {M:Dm}{r:Int->Nat}
def ve (M:Dm)(x:Int):Int:=match M x with|none=> -1|some e=>e.parent
end
section
variable {E:Nat->Addr}{B:Nat}{C:dm}{W:ah}{DB D:Nat}{p:Int->Option Nat}{M:Dm}{nx c:Nat}{r:Int->Nat}
theorem Wd.dp0 (h:Wd M r):Dp M 11 0:=by
 obtain⟨e,a,_⟩:=h.root;exact h.dp 11 0 e a aa
theorem j5.all (h:j5 B C W DB D p M nx c r):∃L,dM M 11 0=0::L/\(0::L:List Int).length=c/\∀x∈L,0<x/\∃e,M x=some e:=by
 obtain⟨e,j,_⟩:=h.d.root;have f:=h.d.count (d:=1) h.n h.d.dp0;have g:=h.d.rQ 11 0 1;have a:∀x,x∈dM M 11 0->∃e,M x=some e:=λx b=>((h.d.mem h.d.dp0).1 b).in_;unfold dM at a⊢;rw[pre,j] at f g a⊢;rw[nI] at f g a⊢;refine⟨_,rfl,f,λx b=>?_⟩;obtain⟨q,i⟩:=a x (EO _ b);refine⟨?_,q,i⟩;have l:=(h.w.dom x q i).1;have m:x≠0:=λk=>(qi.1 g).1 (by rw[<- k];exact b);omega
theorem yR (h:bT B C W DB D p M nx c)(n:Int)(a:dV n):aJ 106 #[aI DB,ag n] W λe w'=>e=ax (ag (ve M n))/\w'=W:=by
 have b:=Gb h n a;unfold ve;omega
theorem j5.ajX (h:j5 B C W DB D p M nx c r)(n:Int):(qG M n).length<=100:=by
 unfold qG;cases a:M n with
 |none=>exact bf _
 |some e=>exact h.few a
theorem j5.ajY (h:j5 B C W DB D p M nx c r):(dM M 11 0).length<=100:=by
 obtain⟨L,a,b,_⟩:=h.all;have:=h.le;grind
end
end
section
open Go.RowKit Go.Shelf
set_option maxRecDepth 20000
section
variable {B:Nat}{C:dm}{W:ah}{DB D:Nat}{p:Int->Option Nat}{M:Dm}{nx c:Nat}{r:Int->Nat}
theorem Uj {M:Dm}{k:Nat}{m:Int}{e:gP}(he:M m=some e):l6 M (k+1) m=if e.parent<0 then[] else e.parent::l6 M k e.parent:=by
 rw[l6,he]
theorem KF (g:Int->Bool){k:Nat}{m:Int}{e:gP}(he:M m=some e):(l6 M (k+1) m).any g=(decide (0<=e.parent) && (g e.parent||(l6 M k e.parent).any g)):=by
 rw[Uj he];grind
def mz (r:Int->Nat)(x:Int):Nat:=if 0<=x then r x+1 else 0
theorem a2B {r:Int->Nat}{x:Int}(h:0<=x):mz r x=r x+1:=by unfold mz;rw[if_pos h]
theorem ab3 {r:Int->Nat}{x:Int}(h:¬0<=x):mz r x=0:=by unfold mz;rw[if_neg h]
theorem Jn (h:bT B C W DB D p M nx c)(s:Wd M r)(n:Int)(hn:dV n)(g:Int->Bool)(lb:Array au)(X Y:Nat)(L:lb=#[aI X,aI Y])
  (Z:∀m V,dV m->aD W V->aJ 168 #[ag m,aI X,aI Y] V λe w'=>e=ax (.bool (g m))/\aD V w'):
  aJ 167 #[aI DB,ag n,.func (.func 168) #[] lb] W λe w'=>e=ax (.bool ((l6 M 11 n).any g))/\aD W w':=by
 subst L;have PN:=yR h n hn;have N:=aA s;have HG:=aA Z;have HH:=aA h;have O:dV (ve M n):=by
  unfold ve;cases i:M n with
  |none=>exact WalkArith.wf_i64 aC
  |some e=>exact(h.wf n e i).1
 have P:(l6 M 11 n).any g=(decide (0<=ve M n) && (g (ve M n)||(l6 M 10 (ve M n)).any g))/\(0<=ve M n->∃e,M (ve M n)=some e/\r (ve M n)<=10):=by
  unfold ve;cases i:M n with
  |none=>
   refine⟨?_,λj=>absurd j aC⟩;rw[l6,i];rfl
  |some e=>
   refine⟨KF g i,λj=>?_⟩;by_cases t:n=0
   .subst t;obtain⟨e0,b,Q⟩:=s.root;rw[i] at b;cases b;have a4:0<=e.parent:=j;omega
   .obtain⟨q,H, -, -⟩:=s.up n e i t;exact⟨q,H,(s.rb _ q H).2⟩
 obtain⟨T,a⟩:∃T,(l6 M 11 n).any g=T:=⟨_,rfl⟩;rw[a] at P⊢;have u:=aA P;clear a P Z s h;go_enter func167,ntmps167;go_wp2_with(go_at_call 106;refine PN.mono ?_;rintro e w1 ⟨rfl,b⟩;rw[b];clear b)
 go_loopw [1] (λy wr=>∃(m:Int) (k:Nat),y=ag m/\T=(decide (0<=m) && (g m||(l6 M k m).any g))/\(0<=m->∃e,M m=some e/\r m<=k)/\dV m/\aD W wr) (λy _=>mz r (intOf y))
 case atStart=>exact⟨ve M n,10,rfl,u.out.1,u.out.2,O,aQ _ _⟩
 case round=>
  obtain⟨m,k,rfl,a,I,v,w⟩:=hrel;by_cases d:0<=m
  .obtain⟨e,l,a5⟩:=I d;have a6:=(N.out.rb m e l).1;obtain⟨o,rfl⟩:∃o,k=o+1:=⟨k-1,aa⟩;have J:=HG.out m wr v w;have x:=HH.out.below w;have PM:=λV (hv:aD wr V)=>yR (x.below hv) m v;have z:ve M m=e.parent:=by unfold ve;rw[l]
   rw[z] at PM;have R:=(x.wf m e l).1;rw[decide_eq_true d,KF g l] at a;have f:0<=e.parent->∃q,M e.parent=some q/\r e.parent<=o/\r e.parent<r m:=λj=>by
    by_cases hz:m=0
    .subst hz;obtain⟨e0,b,Q⟩:=N.out.root;rw[l] at b;cases b;omega
    .obtain⟨q,H, -,hr⟩:=N.out.up m e l hz;exact⟨q,H,aa,aa⟩
   have A:=aA f;cases E:g m with
   |true=>
    rw[E] at J a;have F:Hid (T=true):=(by rw[a];rfl:T=true);clear a I f;go_wp2_with(go_at_call 168;refine J.mono ?_;rintro e' w2 ⟨rfl,K⟩);go_ret;exact⟨by rw[F.out];rfl,aW w K⟩
   |false=>
    rw[E] at J a;have F:Hid (T=(decide (0<=e.parent) && (g e.parent||(l6 M o e.parent).any g))):=(by rw[a];simp:T=(decide (0<=e.parent) && (g e.parent||(l6 M o e.parent).any g)));clear a I f z;go_wp2_with(first|(go_at_call 168;refine J.mono ?_;rintro e' w2 ⟨rfl,K⟩)|(go_at_call 106;refine(PM _ K).mono ?_;rintro e' w3 ⟨rfl,S⟩;rw[S];clear S))
    go_roundw
    case rel=>exact⟨e.parent,o,rfl,F.out,λj=>by obtain⟨q,b,Q, -⟩:=A.out j;exact⟨q,b,Q⟩,R,aW w K⟩
    case measure=>
     show mz r e.parent<mz r m;rw[a2B d];by_cases U:0<=e.parent
     .obtain⟨q, -, -,S⟩:=A.out U;rw[a2B U];omega
     .rw[ab3 U];omega
  .rw[iH d] at a;have F:Hid (T=false):=(by rw[a];rfl:T=false);clear a I;go_wp2_with fail;go_ret;exact⟨by rw[F.out];rfl,w⟩
end
abbrev Uk (a b:Nat):au:=.func (.func 165) #[] #[aI a,aI b]
def afx (M:Dm)(f:Nat)(a:Bs)(n:Int):Lk->Bool
 | .no=>true
 | .right=>J9 M f a (ve M n)
 | .below=>(l6 M 11 n).any (J9 M f a)
theorem YS (M:Dm)(f:Nat){t a b:Bs}{k:Lk}(h:uS t=(a,k,b))(n:Int):J9 M (f+1) t n=(NV M b n && afx M f a n k):=by
 rw[J9,h];cases k<;>rfl
section
variable {B:Nat}{C:dm}{W:ah}{DB D:Nat}{p:Int->Option Nat}{M:Dm}{nx c:Nat}{r:Int->Nat}
theorem YT (f c g:Nat)(a:Bs)(m:Int)(V:ah)(b:Bool)(i:V.cell? (aH c 0)=some (Uk f c))(j:V.cell? (aH g 0)=some (bV a))
  (h:aJ 165 #[bV a,ag m,aI f,aI c] V λe w'=>e=ax (.bool b)/\aD V w'):
  aJ 168 #[ag m,aI c,aI g] V λe w'=>e=ax (.bool b)/\aD V w':=by
 go_enter func168,ntmps168;go_wp2_with(go_at_call 165;refine h.mono ?_;rintro e k ⟨rfl,d⟩);go_ret;exact⟨rfl,d⟩
theorem WV (h:bT B C W DB D p M nx c)(hw:Wd M r)(hF:E8 M)(o g:Nat)(i:W.cell? (aH o 0)=some (aI DB))(L:W.cell? (aH g 0)=some (Uk o g)):
  ∀(f:Nat) (t:Bs) (n:Int) (V:ah),t.length<f->t.length<=1000000->dV n->aD W V->
  aJ 165 #[bV t,ag n,aI o,aI g] V λe w'=>e=ax (.bool (J9 M f t n))/\aD V w'
 |0,_,_,_,hf,_,_,_=>aa
 |f+1,t,n,V,hf,s,N,hb=>by
  have u:Hid (∀(t:Bs) (n:Int) (V:ah),t.length<f->t.length<=1000000->dV n->aD W V->aJ 165 #[bV t,ag n,aI o,aI g] V λe w'=>e=ax (.bool (J9 M f t n))/\aD V w'):=WV h hw hF o g i L f;obtain⟨a,k,b,v⟩:∃a k b,uS t=(a,k,b):=⟨_,_,_,rfl⟩;have O:b.length<=1000000:=bu (JJ v) s;have CU:=Ms t a b k v s V;rw[YS M f v];have I:=aA h;have P:=λX (j:aD W X)=>MI (I.out.below j) hF n N b O;obtain⟨Q,w⟩:∃Q,NV M b n=Q:=⟨_,rfl⟩;rw[w] at P⊢;have x:Hid (k≠.no->a.length<f/\a.length<=1000000):=(λhk=>by have:=rP v hk;omega:k≠.no->a.length<f/\a.length<=1000000);have q:=aA hb;clear w v h hb;cases Q with
  |false=>
   go_enter func165,ntmps165;go_wp2_with(first|(go_at_call 160;refine CU.mono ?_;rintro e R ⟨rfl,y⟩;have z:=y.alloc y.size (ai #[bV a] 9);have A:=q.out.trans (z.mono q.out.size);have q1:=(A.cell (aK i)).trans i)|(go_at_call 166;refine(P _ A).mono ?_;rintro e S ⟨rfl,E⟩));go_ret;exact⟨rfl,aW z E⟩
  |true=>
   go_enter func165,ntmps165;go_upto_region 4 with(first|(go_at_call 160;refine CU.mono ?_;rintro e R ⟨rfl,y⟩;have z:=y.alloc y.size (ai #[bV a] 9);have A:=q.out.trans (z.mono q.out.size);have q1:=(A.cell (aK i)).trans i)|(go_at_call 166;refine(P _ A).mono ?_;rintro e S ⟨rfl,E⟩));have hA:=eO R (ai #[bV a] 9);have F:=gM E hA;have T:=dB F;have J:=aW z E;have l:=q.out.trans (J.mono q.out.size);have q2:=(l.cell (aK i)).trans i;have q3:=(l.cell (aK L)).trans L;obtain⟨K,H⟩:∃K,R.heap.size=K:=⟨_,rfl⟩;rw[H] at T⊢;clear hA F H E q1;cases k with
   |no=>
    go_wp2_with fail;go_ret;exact⟨rfl,J⟩
   |right=>
    have PN:=λX (j:aD W X)=>yR (I.out.below j) n N;have U:dV (ve M n):=by
     unfold ve;cases Y:M n with
     |none=>exact WalkArith.wf_i64 aC
     |some e=>exact(I.out.wf n e Y).1
    have d:=x.out aG;have PW:=PN S.drew l.drew;have IH:=u.out a (ve M n) S.drew d.1 d.2 U l.drew;go_upto_region 6 with fail
    go_region_with ((first|(go_at_call 106;refine PW.mono ?_;rintro e w3 ⟨rfl,h3⟩;rw[h3];clear h3)|(go_at_call 165;refine IH.mono ?_;rintro e w4 ⟨rfl,Z⟩)))
    all_goals go_wp2_with fail
    all_goals go_ret
    all_goals exact⟨by rw[Bool.true_and];rfl,aW J.drew Z⟩
   |below=>
    have d:=x.out aG;have SA:=Jn (I.out.below l) hw n N (J9 M f a) _ g K rfl (λm X Y j=>YT o g K a m X _ ((j.cell (aK q3)).trans q3) ((j.cell (aK T)).trans T) (u.out a m X d.1 d.2 Y (l.trans (j.mono l.size))));go_wp2_with(go_at_call 167;refine SA.mono ?_;rintro e w3 ⟨rfl,Z⟩);go_ret;exact⟨by rw[Bool.true_and];rfl,aW J Z⟩
end
end
section
open Go.RowKit Go.Shelf
set_option maxRecDepth 20000
theorem MJ (P:Program)(w:ah)(a:Addr)(f:Fn)(x y:Array au)(m:Mode):(store a (.func f x y) m).run P w=stored P w a (.func f x y) m:=run_store P w a _ m rfl
attribute [local go_sem] MJ
section
variable {B:Nat}{C:dm}{W:ah}{DB D:Nat}{p:Int->Option Nat}{M:Dm}{nx c:Nat}{r:Int->Nat}
theorem Qr (h:bT B C W DB D p M nx c)(u:Wd M r)(hF:E8 M)(s:Bs)(hs:s.length<=1000000)(l:s≠[])(n:Int)(v:dV n):
  aJ 103 #[.agg #[bV s],aI DB,ag n] W λe w'=>e=ax (.bool (o6 M s n))/\aD W w':=by
 have w:s.isEmpty=false:=by
  cases s with
  |nil=>exact absurd rfl l
  |cons _ _=>rfl
 obtain⟨b,d,a,f,q⟩:=jB W (ai #[bV s] 105) (ai #[aI DB] 74) (ai #[.nilFunc] 274);go_enter func103,ntmps103;go_upto_region 4 with fail;obtain⟨U,t⟩:∃U,(((W.alloc (ai #[bV s] 105)).alloc (ai #[aI DB] 74)).alloc (ai #[.nilFunc] 274))=U:=⟨_,rfl⟩;rw[t] at b d a f q⊢;clear t;have E:=dB a;have F:=iU a;have g:=jC a (Uk (W.heap.size+1) (W.heap.size+1+1));have i:(U.setCell ⟨W.heap.size+1+1,0,none⟩ (Uk (W.heap.size+1) (W.heap.size+1+1))).heap[W.heap.size+1]? =some (ai #[aI DB] 74):=(bY _ _ _ _ fJ).trans d;have j:(U.setCell ⟨W.heap.size+1+1,0,none⟩ (Uk (W.heap.size+1) (W.heap.size+1+1))).heap[W.heap.size]? =some (ai #[bV s] 105):=(bY _ _ _ _ fJ).trans b;have m:aD W (U.setCell ⟨W.heap.size+1+1,0,none⟩ (Uk (W.heap.size+1) (W.heap.size+1+1))):=q.setCell fJ _;go_upto_region 5 with fail;obtain⟨o,k⟩:∃o,U.setCell ⟨W.heap.size+1+1,0,none⟩ (Uk (W.heap.size+1) (W.heap.size+1+1))=o:=⟨_,rfl⟩;rw[k] at g i j m⊢;clear k;have x:=dB g;have y:=dB i;have H:=dB j;have z:=WV (h.below m) u hF (W.heap.size+1) (W.heap.size+1+1) y x (s.length+1) s n o aa hs v (aQ _ _);go_wp2_with(go_at_call 165;refine z.mono ?_;rintro e I ⟨rfl,A⟩);go_ret;exact⟨rfl,aW m A⟩
end
end
section
open Go.RowKit Go.Shelf
set_option maxRecDepth 20000
theorem a6U {s:Bs}(h:r9 s=true):s≠[]:=by
 intro e;subst e;revert h;decide
section
variable {B:Nat}{C:dm}{W:ah}{DB D:Nat}{p:Int->Option Nat}{M:Dm}{nx c:Nat}{r:Int->Nat}
theorem YU (h:bT B C W DB D p M nx c)(u:Wd M r)(hF:E8 M)(x:Rl)(g:DT x)(nm:Bs)(n:Int)(v:dV n)(i j k:Nat)(l:W.cell? (aH i 0)=some (bV nm))(m:W.cell? (aH j 0)=some (aI DB))(o:W.cell? (aH k 0)=some (ag n)):
  aJ 171 #[rlV x,aI i,aI j,aI k] W λe w'=>e=ax (.bool (rq M nm n x))/\aD W w':=by
 have b:=dN W #[bV x.wh,bV x.nm,bV x.vl] 150;have a:=dI W (ai #[bV x.wh,bV x.nm,bV x.vl] 150);have q:=λV (w:aD W V)=>Qr (h.below w) u hF x.wh g.2.2.2 (a6U g.1) n v;have s:=iL x.nm nm;unfold rq;go_enter func171,ntmps171;go_upto_region 1 with fail;obtain⟨V,t⟩:∃V,W.alloc (ai #[bV x.wh,bV x.nm,bV x.vl] 150)=V:=⟨_,rfl⟩;rw[t] at b a⊢;clear t;have z:=(a.cell (aK l)).trans l;have A:=(a.cell (aK m)).trans m;have E:=(a.cell (aK o)).trans o;have F:=aO b 0 _ rfl;have H:=aO b 1 _ rfl;have I:=aO b 2 _ rfl;have f:=q V a;clear q;cases d:(x.nm==nm) with
 |false=>
  rw[d] at s;go_wp2_with fail;go_ret;exact⟨by rw[d];rfl,a⟩
 |true=>
  rw[d] at s;go_wp2_with(go_at_call 103;refine f.mono ?_;rintro e J ⟨rfl,y⟩);go_ret;exact⟨by rw[d];rfl,aW a y⟩
end
def WtG (x:Rl):Prop:=∀V,aJ 233 #[.agg #[bV x.wh]] V λe a=>e=ax (ag (wtM x.wh:Nat))/\aD V a
def RlG (x:Rl):Prop:=DT x/\WtG x/\∀(B:Nat) (h:dm) (W:ah) (a i:Nat) (p:Int->Option Nat) (M:Dm) (j c:Nat) (r:Int->Nat),bT B h W a i p M j c->Wd M r->E8 M->∀(b:Bs) (n:Int),dV n->∀d f g:Nat,W.cell? (aH d 0)=some (bV b)->W.cell? (aH f 0)=some (aI a)->W.cell? (aH g 0)=some (ag n)->
 aJ 171 #[rlV x,aI d,aI f,aI g] W λe k=>e=ax (.bool (rq M b n x))/\aD W k
theorem rlG {x:Rl}(h:DT x):RlG x:=⟨h,λV=>Ug x.wh h.2.2.2 V,λ_ _ _ _ _ _ _ _ _ _ a b hF c n d e f g i j k=>YU a b hF x h c n d e f g i j k⟩
theorem ML (l:List Rl)(u:∀x∈l,WtG x)(d:Rl->Bool)(B0:Nat)(v:au)(W:ah)(h:W.ownsRow B0 150 3 v l.length (fE l))(X Y Z:Nat)
  (hg:∀x V,x∈l->aD W V->aJ 171 #[rlV x,aI X,aI Y,aI Z] V λe w'=>e=ax (.bool (d x))/\aD V w'):
  aJ 170 #[v,.func (.func 171) #[] #[aI X,aI Y,aI Z]] W λe w'=>e=ax (aF #[bV (J3 d l).1,.bool (J3 d l).2.1])/\aD W w':=by
 obtain⟨o,M,PZ,h1,h2,h3,h5⟩:=eT h;have a4:(l.length:Int)<=9223372036854775807:=by rw[dh] at h2;omega
 have a5:(l.length:Int)<=(M:Int):=aa;have N:=aA h;have HG:Hid _:=hg;have HK:=aA u;have H5:=aA h5;subst PZ;clear h hg h5 h3 u;go_enter func170,ntmps170;go_wp2_with fail
 go_loopw [4,5,6,12] (λa b m y wr=>∃k:Nat,k<=l.length/\y=ag k/\a=bV (J3 d (l.take k)).1/\b=.bool (J3 d (l.take k)).2.1/\m=ag (J3 d (l.take k)).2.2/\aD W wr) (λ_ _ _ y _=>l.length-(intOf y).toNat)
 case atStart=>exact⟨0,bf _,rfl,rfl,rfl,rfl,aQ _ _⟩
 case round=>
  obtain⟨k,hk,rfl,rfl,rfl,rfl,j⟩:=hrel;by_cases O:k<l.length
  .have a6:(k:Int)<(l.length:Int):=aa;obtain⟨x,w⟩:∃x,l[k]? =some x:=⟨_,eZ O⟩;obtain⟨q0,q1,q2⟩:=Kr w;obtain⟨g,p,c0⟩:=dO (bD N.out j) _ _ q0;obtain⟨g1,z,c1⟩:=dO (bD N.out j) _ _ q1;obtain⟨g2,B,c2⟩:=dO (bD N.out j) _ _ q2;rw[p] at z B;cases z;cases B;have P:=H5.out g p;subst P;have C:l.take (k+1)=l.take k++[x]:=by rw[dS,w];rfl
   have f:Hid (J3 d (l.take (k+1))=l8 d (J3 d (l.take k)) x):=(by rw[C,a0D]:J3 d (l.take (k+1))=l8 d (J3 d (l.take k)) x);have Q:Hid (WtG x):=HK.out x (gN w);have GX:=λV (hv:aD wr V)=>HG.out x V (gN w) (aW j hv);have R:=λV=>Q.out V;clear C w q0 q1 q2 p;obtain⟨A,hA⟩:∃A,J3 d (l.take k)=A:=⟨_,rfl⟩;rw[hA] at f⊢;clear hA;obtain⟨av,af,D⟩:=A;obtain⟨I,q⟩:∃t,wtM x.wh=t:=⟨_,rfl⟩;simp only[q] at R;have r:=aA q;clear q;have S:=R (wr.alloc (ai #[bV x.wh,bV x.nm,bV x.vl] 150));have T:=dN wr #[bV x.wh,bV x.nm,bV x.vl] 150;have b3:=dI wr (ai #[bV x.wh,bV x.nm,bV x.vl] 150);go_upto_region 5 with fail;obtain⟨V3,Qa⟩:∃V,wr.alloc (ai #[bV x.wh,bV x.nm,bV x.vl] 150)=V:=⟨_,rfl⟩;rw[Qa] at S T b3⊢;clear Qa R;have p0:=aO T 0 _ rfl;go_upto_region 6 with(go_at_call 233;refine S.mono ?_;rintro e w4 ⟨rfl,b4⟩);clear S p0;have J:=gM b4 T;have K:=aW b3 b4;have p0:=aO J 0 _ rfl;have p1:=aO J 1 _ rfl;have p2:=aO J 2 _ rfl;by_cases E:D<=I
   .have F:(D:Int)<=(I:Int):=aa;have i:=GX w4 K;clear GX;cases s:d x with
    |true=>
     rw[s] at i;have n:J3 d (l.take (k+1))=(x.vl,true,I):=by rw[f.out,EY (by rw[r.out];exact E) s,r.out]
     have c:=aA n;clear n s;go_upto_region 7 with(go_at_call 171;refine i.mono ?_;rintro e w5 ⟨rfl,L⟩);have r2:=aO (gM L J) 2 _ rfl;go_wp2_with fail
     go_roundw
     case rel=>exact⟨k+1,aa,by go_num,by rw[c.out],by rw[c.out],by rw[c.out],aW j (aW K L)⟩
     case measure=>simp[intOf];omega
    |false=>
     rw[s] at i;have n:J3 d (l.take (k+1))=(av,af,D):=by rw[f.out,JL s]
     have c:=aA n;clear n s;go_wp2_with(go_at_call 171;refine i.mono ?_;rintro e w5 ⟨rfl,L⟩)
     go_roundw
     case rel=>exact⟨k+1,aa,by go_num,by rw[c.out],by rw[c.out],by rw[c.out],aW j (aW K L)⟩
     case measure=>simp[intOf];omega
   .have F:¬(D:Int)<=(I:Int):=aa;have n:J3 d (l.take (k+1))=(av,af,D):=by rw[f.out,EX (by rw[r.out];exact E)]
    have c:=aA n;clear n;go_wp2_with fail
    go_roundw
    case rel=>exact⟨k+1,aa,by go_num,by rw[c.out],by rw[c.out],by rw[c.out],aW j K⟩
    case measure=>simp[intOf];omega
  .obtain rfl:k=l.length:=aa;have a7:¬(l.length:Int)<(l.length:Int):=aa;have H:l.take l.length=l:=gq;have U:=aA H;clear H;rw[U.out];go_wp2_with fail
   go_ret2
   exact⟨rfl,j⟩
section
variable {B:Nat}{C:dm}{W:ah}{DB D:Nat}{p:Int->Option Nat}{M:Dm}{nx c:Nat}{r:Int->Nat}
def tdR:Option Bs->au
 |none=>aF #[ak ⟨#[]⟩,.bool false]
 |some v=>aF #[bV v,.bool true]
theorem GI (b:Rl->Bool):∀(l:List Rl) (a:Bs×Bool×Nat),(a.2.1=false->a.1=[])->(l.foldl (l8 b) a).2.1=false->(l.foldl (l8 b) a).1=[]
 |[],_,c,h=>c h
 |x::l,a,c,h=>by
  rw[List.foldl_cons] at h⊢;refine GI b l _ (λd=>?_) h;unfold l8 at d⊢;grind
theorem a2C (h:bT B C W DB D p M nx c)(Y:Wd M r)(hF:E8 M)(l:List Rl)(i:∀x∈l,RlG x)(B0:Nat)(v:au)(q:W.ownsRow B0 150 3 v l.length (fE l))(nm:Bs)(n:Int)(E:dV n):
  aJ 107 #[aI DB,v,ag n,bV nm] W λe w'=>e=ax (tdR (xS M l nm n))/\aD W w':=by
 obtain⟨F,H,I, -,m⟩:=jB W (ai #[aI DB] 74) (ai #[ag n] 3) (ai #[bV nm] 9);obtain⟨Z,kv,s⟩:=bg q;subst s;have J:=aA h;have HL:=aA q;have K:=aA i;clear h q i;obtain⟨a4,a⟩:∃x,xS M l nm n=x:=⟨_,rfl⟩;have d:=a;unfold xS at d;rw[a];clear a;have t:=λV (L:aD W V)=>mZ (J.out.below L) n E nm;have j:TV M n nm=DU M n nm:=rfl;simp only[j] at t;clear j;go_enter func107,ntmps107;go_upto_region 1 with fail;obtain⟨V,N⟩:∃V,((W.alloc (ai #[aI DB] 74)).alloc (ai #[ag n] 3)).alloc (ai #[bV nm] 9)=V:=⟨_,rfl⟩;rw[N] at F H I m⊢;clear N;have O:=dB F;have P:=dB H;have Q:=dB I;have f:=t V m;clear t;cases R:DU M n nm with
 |some av=>
  rw[R] at d f;subst d;simp only[Option.getD_some,Option.isSome_some] at f;go_wp2_with(go_at_call 169;refine f.mono ?_;rintro e S ⟨rfl,g⟩)
  go_ret2
  exact⟨rfl,aW m g⟩
 |none=>
  rw[R] at d f;simp only[Option.getD_none,Option.isSome_none] at f;go_upto_region 4 with(go_at_call 169;refine f.mono ?_;rintro e S ⟨rfl,g⟩);have u:=aW m g;have T:=ML l (λx w=>(K.out x w).2.1) (rq M nm n) B0 (aj Z l.length kv) S (bD HL.out u) (W.heap.size+1+1) W.heap.size (W.heap.size+1) (λx X w o=>(K.out x w).2.2 _ _ _ _ _ _ _ _ _ _ (J.out.below (aW u o)) Y hF nm n E _ _ _ (((aW g o).cell (aK Q)).trans Q) (((aW g o).cell (aK O)).trans O) (((aW g o).cell (aK P)).trans P));have k:=GI (rq M nm n) l ([],false,0) (λ_=>rfl);have b:(J3 (rq M nm n) l).2.1=false->(J3 (rq M nm n) l).1=[]:=k;obtain⟨A,U⟩:∃A,J3 (rq M nm n) l=A:=⟨_,rfl⟩;rw[U] at T d b;clear U k;obtain⟨L,hf,hm⟩:=A;have y:=aA d;have z:=aA b;clear d b f;go_wp2_with(go_at_call 170;refine T.mono ?_;rintro e w2 ⟨rfl,b2⟩)
  go_ret2
  refine⟨?_,aW u b2⟩;rw[<- y.out];cases hf with
  |true=>rfl
  |false=>rw[z.out rfl];rfl
end
section
variable {B:Nat}{C:dm}{W:ah}{DB D:Nat}{p:Int->Option Nat}{M:Dm}{nx c:Nat}{r:Int->Nat}
theorem a2D (h:bT B C W DB D p M nx c)(n:Int):dV (xI M n):=by
 unfold xI;cases a:M n with
 |none=>exact WalkArith.wf_i64 aC
 |some e=>exact(h.wf n e a).1
theorem a2E (h:bT B C W DB D p M nx c)(hw:Wd M r)(hF:E8 M)(l:List Rl)(K:∀x∈l,RlG x)(B0:Nat)(v:au)(Z:W.ownsRow B0 150 3 v l.length (fE l))(n:Int)(hn:dV n)(nm:Bs):
  aJ 56 #[aI DB,v,ag n,bV nm] W λe w'=>e=ax (bV (ofM M l nm n))/\aD W w':=by
 obtain⟨ov,kv,a4⟩:=bg Z;subst a4;have E:=sj h n hn;have L:=Dj nm W;have HD:=aA h;have HL:=aA Z;have HK:=aA K;have HF:=aA hF;have F:=aA hw;clear h Z K hw hF;cases j:M n with
 |none=>
  rw[j] at E;have t:ofM M l nm n=[]:=by unfold ofM;rw[j];rfl
  rw[t];clear t j;go_enter func56,ntmps56;go_wp2_with(go_at_call 104;refine E.mono ?_;rintro e b ⟨rfl,h⟩;rw[h];clear h);go_ret;exact⟨rfl,aQ _ _⟩
 |some N=>
  rw[j] at E;have a5:=(HF.out n N j).1;have u:=iL N.name [];have a6:(N.name==[])=false:=by simpa using a5
  rw[a6] at u;cases U:Cy nm with
  |false=>
   rw[U] at L;have t:ofM M l nm n=[]:=by unfold ofM;rw[U];simp
   rw[t];clear t j;go_enter func56,ntmps56;go_wp2_with(first|(go_at_call 104;refine E.mono ?_;rintro e b ⟨rfl,h⟩;rw[h];clear h)|(go_at_call 105;refine L.mono ?_;rintro e b ⟨rfl,h⟩;rw[h];clear h));go_ret;exact⟨rfl,aQ _ _⟩
  |true=>
   rw[U] at L;have t:=aa1 (l:=l) j U;rw[t];obtain⟨d,i⟩:∃x,Lx M l nm 12 n=x:=⟨_,rfl⟩;rw[i];have a7:=aA i;have a8:=aA j;have b4:=(F.out.rb n N j).2;clear t i j;go_enter func56,ntmps56;go_upto_region 3 with(first|(go_at_call 104;refine E.mono ?_;rintro e b ⟨rfl,h⟩;rw[h];clear h)|(go_at_call 105;refine L.mono ?_;rintro e b ⟨rfl,h⟩;rw[h];clear h));clear E L
   go_loopw [2] (λy wr=>∃(f:Nat) (k:Int),y=ag k/\dV k/\Lx M l nm f k=d/\(k<0\/∃e,M k=some e/\r k<=f)/\aD W wr) (λy _=>if intOf y<0 then 0 else r (intOf y))
   case atStart=>exact⟨12,n,rfl,hn,a7.out,.inr ⟨N,a8.out,aa⟩,aQ _ _⟩
   case round=>
    obtain⟨f,k,rfl,O,P,m,w⟩:=hrel;have o:=aA P;have a9:=aA m;clear P m;have FO:=λV=>Di nm V;by_cases hk:k<0
    .have s:¬(0:Int)<=k:=aa;have a:d=firstM nm:=by rw[<- o.out,a5i l nm f hk]
     subst a;have z:=FO wr;go_wp2_with(go_at_call 109;refine z.mono ?_;rintro e b ⟨rfl,h⟩;rw[h];clear h);go_ret;exact⟨rfl,w⟩
    .have s:(0:Int)<=k:=aa;have m:∃e,M k=some e/\r k<=f:=by
      rcases a9.out with h|h
      .exact absurd h hk
      .exact h
     obtain⟨ek,A,b5⟩:=m;have b6:=(F.out.rb k ek A).1;obtain⟨f,rfl⟩:∃g,f=g+1:=⟨f-1,aa⟩;have b0:=aA A;clear A;have H:=a2C (HD.out.below w) F.out HF.out l HK.out B0 _ (bD HL.out w) nm k O;cases I:xS M l nm k with
     |some tv=>
      rw[I] at H;unfold tdR at H;have a:d=tv:=by rw[<- o.out,a0G f s I]
      subst a;clear I;go_wp2_with(go_at_call 107;refine H.mono ?_;rintro e b ⟨rfl,Q⟩);go_ret;exact⟨rfl,aW w Q⟩
     |none=>
      rw[I] at H;unfold tdR at H;have HT:=aA I;clear I;go_upto_region 8 with(go_at_call 107;refine H.mono ?_;rintro e b ⟨rfl,Q⟩);have X:=YG nm b;have PA:aJ 106 #[aI DB,ag k] b λr w'=>r=ax (ag (xI M k))/\w'=b:=Gb (HD.out.below (aW w Q)) k O;have z:=FO b;cases J:JK nm with
      |false=>
       rw[J] at X;have a:d=firstM nm:=by rw[<- o.out,a5j f s HT.out J]
       subst a;clear J;go_wp2_with(first|(go_at_call 108;refine X.mono ?_;rintro e w2 ⟨rfl,h⟩;rw[h];clear h)|(go_at_call 109;refine z.mono ?_;rintro e b ⟨rfl,h⟩;rw[h];clear h));go_ret;exact⟨rfl,aW w Q⟩
      |true=>
       rw[J] at X;have a:Lx M l nm f (xI M k)=d:=by rw[<- o.out,aa0 f s HT.out J]
       have PY:(xI M k<0)\/((0<=xI M k)/\∃q,M (xI M k)=some q/\r k=r (xI M k)+1):=by
        by_cases h0:k=0
        .subst h0;rw[F.out.a0F];exact .inl aC
        .obtain⟨q,u,hr⟩:=F.out.a9Z b0.out h0;exact .inr ⟨F.out.pos u,q,u,hr⟩
       have R:=a2D HD.out k;obtain⟨Y,S⟩:∃x,xI M k=x:=⟨_,rfl⟩;rw[S] at a PY R PA;have b2:=aA a;have T:=aA PY;clear J S a PY;go_wp2_with(first|(go_at_call 108;refine X.mono ?_;rintro e w2 ⟨rfl,h⟩;rw[h];clear h)|(go_at_call 106;refine PA.mono ?_;rintro e b ⟨rfl,h⟩;rw[h];clear h))
       go_roundw
       case rel=>
        refine⟨f,Y,rfl,R,b2.out,?_,aW w Q⟩;rcases T.out with h|⟨_,q,u,hr⟩
        .exact .inl h
        .exact .inr ⟨q,u,aa⟩
       case measure=>
        have b3:¬k<0:=aa;show(if Y<0 then 0 else r Y)<(if k<0 then 0 else r k);rw[if_neg b3];rcases T.out with h|⟨h1,q,u,hr⟩
        .rw[if_pos h];omega
        .rw[if_neg (show¬Y<0 by omega)];omega
end
end
open Go.RowKit Go.Shelf
structure NE (E:Nat->Addr)(w:ah):Prop where
 c1:w.cell? (aH 1 0)=some (eV (E 1))
 c2:w.cell? (aH 0 0)=some (eV (E 2))
 c3:w.cell? (aH 2 0)=some (eV (E 3))
 c7:w.cell? (aH 6 0)=some (eV (E 7))
 c9:w.cell? (aH 8 0)=some (eV (E 9))
 c10:w.cell? (aH 9 0)=some (eV (E 10))
 sy:∃a,w.cell? (aH 16 0)=some (eV a)
 rg:∃a,w.cell? (aH 17 0)=some (eV a)
 tab:Lib.TabIs prog w "internal/strconv.uint64pow10" .u64 Lib.pow10Tab
 blk:∀k,1<=k->k<=10->∃c t,w.heap[(E k).block]? =some (ai c t (0,0))
 ne:∀j k,1<=j->j<=10->1<=k->k<=10->j≠k->E j≠E k
theorem dz {w:ah}{b:Nat}{o:Obj}(h:w.heap[b]? =some o):b<w.heap.size:=(dZ.1 h).1
def Su (E:Nat->Addr)(c:Nat)(v:au)(w:ah):Prop:=1<=c/\c<=10/\(v=eV (E c)\/∃a b,v=aP 67 (.pointer (some ⟨a,b,none⟩))/\w.cell? (aH a (b+1))=some (eV (E c)))
def FtV (E:Nat->Addr)(f:Ft)(a:Nat)(v:au)(w:ah):Prop:=∃b,a<=b/\v=aP 67 (aI b)/\w.heap[b]? =some (ai #[ag f.pl,eV (E f.code)] 71)
theorem a6V {E:Nat->Addr}{w:ah}{c:Nat}{v:au}(h:NE E w)(b:Su E c v w):
  aJ 35 #[v,eV (E 2)] w λe w'=>e=ax (.bool (decide (c=2)))/\w'=w:=by
 obtain⟨d,f,b⟩:=b;obtain⟨j,k,g⟩:=h.blk c d f;obtain⟨l,m,a⟩:=h.blk 2 aa aa;rcases b with rfl|⟨n,o,rfl,i⟩
 .by_cases e:c=2
  .subst e;simp only[decide_true];exact WG _ _
  .simp only[e,decide_false];exact Qf _ _ _ _ _ _ _ (h.ne c 2 d f aa aa e) g a
 .by_cases e:c=2
  .subst e;simp only[decide_true];exact Jm _ _ _ _ i
  .simp only[e,decide_false];exact GA _ _ _ _ _ _ _ _ _ i (h.ne c 2 d f aa aa e) g a
theorem wD {E:Nat->Addr}{w:ah}{c:Nat}{v:au}(h:NE E w)(b:Su E c v w)(n:Int):
  aJ 132 #[ag n,v] w λe w'=>∃u,e=ax u/\FtV E ⟨vW c,n⟩ w.heap.size u w'/\aD w w':=by
 have a:=a6V h b;have i:=h.c2;have f:=h.c10;clear h b;unfold vW;by_cases d:c=2
 .simp only[d,decide_true,if_true] at a⊢;go_enter func132,ntmps132;go_wp2_with(go_at_call 35;refine a.mono ?_;rintro e g ⟨rfl,rfl⟩);go_ret;exact⟨_,rfl,⟨_,Nat.le_refl _,rfl,eO _ _⟩,(aQ _ _).alloc ay _⟩
 .simp only[d,decide_false,if_false] at a⊢;go_enter func132,ntmps132;go_wp2_with(go_at_call 35;refine a.mono ?_;rintro e g ⟨rfl,rfl⟩);go_ret;exact⟨_,rfl,⟨_,Nat.le_refl _,rfl,eO _ _⟩,(aQ _ _).alloc ay _⟩
def iC (w:ah)(p:Option Nat):List (Int×Mv)->Prop
 |[]=>p=none
 |(n,m)::r=>∃b q,p=some b/\w.heap[b]? =some (ai #[ag n,.pointer (q.map λx=>⟨x,0,none⟩),ag m.a.n,ag m.a.d,ag m.b.n,ag m.b.d,ag m.c.n,ag m.c.d,ag m.d.n,ag m.d.d,ag m.e.n,ag m.e.d,ag m.f.n,ag m.f.d] 168)/\iC w q r
abbrev pV (p:Option Nat):au:=.pointer (p.map λx=>⟨x,0,none⟩)
theorem iC.keep {w w':ah}(a:∀(b:Nat) (t:Obj),w.heap[b]? =some t->(∃c,t=ai c 168)->w'.heap[b]? =some t):∀{p:Option Nat} {l:List (Int×Mv)},iC w p l->iC w' p l
 |_,[],h=>h
 |_,(_,_)::_,⟨b,q,h1,h2,h3⟩=>⟨b,q,h1,a b _ h2 ⟨_,rfl⟩,iC.keep a h3⟩
def WiR (n:Int)(l:List (Int×Mv))(w:ah)(e:Ending)(w':ah):Prop:=e=ax (.bool (decide (n∈l.map Prod.fst)))/\w'=w
def WiL (n:Int)(l:List (Int×Mv))(w:ah)(g:Nat)(y:au)(wr:ah):Prop:=∃(p:Option Nat) (r:List (Int×Mv)),y=pV p/\iC w p r/\(n∈l.map Prod.fst↔n∈r.map Prod.fst)/\r.length<=g/\wr=w
theorem uw (w:ah)(p:Option Nat)(l:List (Int×Mv))(n:Int)(h:iC w p l):
    aJ 129 #[pV p,ag n] w λe w'=>WiR n l w e w':=by
  have u:=aA h;clear h;go_enter func129,ntmps129;go_upto_region 1 with fail
  go_loopg [0] l.length (λg y wr=>WiL n l w g y wr)
  case atStart=>exact⟨p,l,rfl,u.out,Iff.rfl,Nat.le_refl _,rfl⟩
  case round=>
    obtain⟨p,r,rfl,hP,c,a,rfl⟩:=hrel;have d:=aA c;clear c
    match r,hP,a,d with
    |[],hP,a,d=>
      obtain rfl:p=none:=hP;have j:Hid (decide (n∈l.map Prod.fst)=false):=iH (λh=>by have:=d.out.1 h;simp at this);clear hP;simp only[pV,Option.map_none];go_wp2;go_ret;exact⟨by rw[j.out];rfl,rfl⟩
    |(k,m)::r,⟨b,q,v,o,t⟩,a,d=>
      subst v;have B:=aO o 0 _ rfl;have z:=aO o 1 _ rfl;have A:=aA t;clear o t;simp only[pV,Option.map_some];by_cases f:k=n
      . have j:Hid (decide (n∈l.map Prod.fst)=true):=decide_eq_true (d.out.2 (by simp[f]))
        have s:(k==n)=true:=by simpa using f
        clear f;go_wp2;go_ret;exact⟨by rw[j.out];rfl,rfl⟩
      . have s:(k==n)=false:=by simpa using f
        obtain⟨C,i⟩:∃x,(Option.map (λx=>(⟨x,0,none⟩:Addr)) q)=x:=⟨_,rfl⟩;rw[i] at z;go_wp2
        go_roundg r.length
        case measure=>simp at a;omega
        case rel=>
          rw[<- i];refine⟨q,r,rfl,A.out,d.out.trans ?_,Nat.le_refl _,rfl⟩;simp[Ne.symm f]

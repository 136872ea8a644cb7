import Derived.Test.YtbkjmamcnflncaaGreatDoorQt20
import Derived.Test.YtbkjmamcnflncaaGreatDoorQt13
import Derived.Test.YtbkjmamcnflncaaGreatDoorQt15
namespace Go.Proofs.YtbkjmamcnflncaaGreatDoor
open Go.Proofs.Tryz
set_option maxHeartbeats 4000000
section
section
variable {M C:Dm}{r:Int->Nat}
structure a7H (M M':Dm)(nx par:Int):Prop where
 was:M nx=none
 pos:0<=nx
 new:∃e,M' nx=some e/\e.parent=par/\e.kids=[]
 old:∀i e,M i=some e->∃e',M' i=some e'/\e'.parent=e.parent/\e'.kids.Nodup/\∀x,x∈e'.kids↔(x=nx/\i=par)\/x∈e.kids
 non:∀i,i≠nx->M i=none->M' i=none
theorem Wd.add (h:Wd M r){nx b:Int}{q:ig}(c:a7H M C nx b)(t:M b=some q)(L:r b<10):Wd C (λi=>if i=nx then r b+1 else r i):=by
 have N:b≠nx:=λe=>by
  rw[e,c.was] at t;grind
 have d:∀i f,C i=some f->i≠nx->∃e,M i=some e/\f.parent=e.parent/\f.kids.Nodup/\∀x,x∈f.kids↔(x=nx/\i=b)\/x∈e.kids:=λi f a g=>by
  cases u:M i with
  |none=>
   rw[c.non i g u] at a;grind
  |some e=>
   obtain⟨w,j,m⟩:=c.old i e u;grind
 obtain⟨O,n,y,z⟩:=c.new;obtain⟨A,l,B⟩:=h.root;have D:(0:Int)≠nx:=λe=>by
  rw[e,c.was] at l;grind
 refine⟨?_,?_,?_,?_,?_,?_,?_⟩
 .obtain⟨w,j,m,_⟩:=c.old 0 A l;grind
 .intro i g;have:=c.pos;exact c.non i aa (h.neg i g)
 .intro i f a o;by_cases g:i=nx
  .subst g;rw[n] at a;cases a;obtain⟨E,j,_,_,v⟩:=c.old b q t;grind
  .obtain⟨e,j,m,_,_⟩:=d i f a g;obtain⟨F,p,H,I⟩:=h.up i e j o;obtain⟨E,J,_,_,K⟩:=c.old _ F p;grind
 .intro i f k a s;by_cases g:i=nx
  .grind
  .obtain⟨e,j,m,_,v⟩:=d i f a g;rcases(v k).1 s with⟨rfl,rfl⟩|s
   .grind
   .obtain⟨x,p,H,I⟩:=h.down i e k j s;obtain⟨P,J,K,_⟩:=c.old k x p;grind
 .grind
 .simp only[aG D];exact h.r0
 .intro i f a;by_cases g:i=nx
  .grind
  .simp only[aG g];obtain⟨e,j,_⟩:=d i f a g;exact h.rb i e j
theorem a7H.count {nx b:Int}(a:a7H M C nx b){c:Nat}(hc:Cd M c):Cd C (c+1):=by
 obtain⟨l,i,rfl,g⟩:=hc;refine⟨nx::l,qN.2 ⟨λj=>(g nx).1 j a.was,i⟩,rfl,λx=>?_⟩;rw[gP,g];by_cases d:x=nx
 .subst d;obtain⟨m,f,_⟩:=a.new;simp[f]
 .cases h:M x with
  |none=>simp[d,a.non x d h]
  |some e=>
   obtain⟨n,k,_⟩:=a.old x e h;simp[k]
structure a7I (M M':Dm)(n:Int):Prop where
 out:∀i,Bl M n i->M' i=none
 old:∀i e,M i=some e->¬Bl M n i->∃e',M' i=some e'/\e'.parent=e.parent/\e'.kids.Nodup/\∀x,x∈e'.kids↔x≠n/\x∈e.kids
 non:∀i,M i=none->M' i=none
theorem Wd.cut (h:Wd M r){n:Int}(f:a7I M C n)(B:¬Bl M n 0):Wd C r:=by
 have b:∀i c,C i=some c->∃e,M i=some e/\¬Bl M n i/\c.parent=e.parent/\c.kids.Nodup/\∀x,x∈c.kids↔x≠n/\x∈e.kids:=λi c a=>by
  have g:¬Bl M n i:=λg=>by
   rw[f.out i g] at a;grind
  cases u:M i with
  |none=>
   rw[f.non i u] at a;grind
  |some e=>
   obtain⟨o,d,m⟩:=f.old i e u g;grind
 obtain⟨D,p,E⟩:=h.root;refine⟨?_,λi F=>f.non i (h.neg i F),?_,?_,?_,h.r0,?_⟩
 .obtain⟨o,d,m,_⟩:=f.old 0 D p B;grind
 .intro i c a l;obtain⟨e,d,g,m,_,_⟩:=b i c a;obtain⟨H,q,v,w⟩:=h.up i e d l;obtain⟨I,y,_,_,z⟩:=f.old _ H q (λA=>g (.kid d l A));rw[m];refine⟨I,y,(z _).2 ⟨λo=>?_,v⟩,w⟩;subst o;exact g (.self d)
 .intro i c k a s;obtain⟨e,d,g,m,_,J⟩:=b i c a;obtain⟨t,s⟩:=(J k).1 s;obtain⟨x,q,v,w⟩:=h.down i e k d s;have j:¬Bl M n k:=λj=>by
   cases j with
   |self _=>exact t rfl
   |kid hx _ A=>
    grind
  obtain⟨K,y,z,_⟩:=f.old k x q j;grind
 .grind
 .intro i c a;obtain⟨e,d,_⟩:=b i c a;exact h.rb i e d
theorem a7I.count {n:Int}(d:a7I M C n){c:Nat}(hc:Cd M c){L:List Int}(o:L.Nodup)(f:∀x,x∈L↔Bl M n x):Cd C (c-L.length)/\L.length<=c:=by
 obtain⟨l,h,rfl,i⟩:=hc;have j:l.Perm (L++l.filter (λx=> !decide (x∈L))):=by
  refine(List.perm_ext_iff_of_nodup h ?_).2 λx=>?_
  .grind
  .rw[iw,mD];by_cases a:x∈L
   .obtain⟨e,g⟩:=((f x).1 a).in_;grind
   .simp[a]
 have b:=j.length_eq;rw[dO] at b;refine⟨⟨l.filter (λx=> !decide (x∈L)),h.filter _,aa,λx=>?_⟩,aa⟩;rw[mD,i];by_cases a:x∈L
 .simp[a,d.out x ((f x).1 a)]
 .cases g:M x with
  |none=>simp[d.non x g]
  |some e=>
   obtain⟨p,k,_⟩:=d.old x e g (λm=>a ((f x).2 m));simp[a,k]
structure a7J (M M':Dm)(n par:Int):Prop where
 old:∀i e,M i=some e->∃e',M' i=some e'/\e'.parent=(if i=n then par else e.parent)/\e'.kids.Nodup/\∀x,x∈e'.kids↔(x=n/\i=par)\/(x≠n/\x∈e.kids)
 non:∀i,M i=none->M' i=none
theorem Wd.move (h:Wd M r){n a:Int}{e q:ig}(j:a7J M C n a)(D:M n=some e)(O:n≠0)(P:M a=some q)(hp:¬Bl M n a){L:List Int}(m:∀x,x∈L↔Bl M n x)(E:∀x∈L,r x+1+r a<=10+r n):
  Wd C (λx=>if x∈L then r x+r a+1-r n else r x):=by
 have c:∀i d,C i=some d->∃e,M i=some e/\d.parent=(if i=n then a else e.parent)/\d.kids.Nodup/\∀x,x∈d.kids↔(x=n/\i=a)\/(x≠n/\x∈e.kids):=λi d b=>by
  cases F:M i with
  |none=>
   rw[j.non i F] at b;grind
  |some e=>
   obtain⟨f,l,s⟩:=j.old i e F;grind
 have Q:n∈L:=(m n).2 (.self D);have R:a ∉ L:=by grind
 obtain⟨S,u,T⟩:=h.root;have v:(0:Int) ∉ L:=λw=>by
  cases(m 0).1 w with
  |self _=>exact O rfl
  |kid _ hx _=>exact hx rfl
 refine⟨?_,λi g=>j.non i (h.neg i g),?_,?_,?_,?_,?_⟩
 .obtain⟨f,l,s,_⟩:=j.old 0 S u;grind
 .intro i d b p;obtain⟨f,l,s,_,_⟩:=c i d b;by_cases g:i=n
  .subst g;obtain⟨H,U,_,_,y⟩:=j.old a q P;grind
  .obtain⟨V,t,z,I⟩:=h.up i f l p;obtain⟨H,J,_,_,K⟩:=j.old _ V t;rw[s,aG g];refine⟨H,J,(K _).2 (.inr ⟨g,z⟩),?_⟩;by_cases o:i∈L
   .have A:f.parent∈L:=by
     cases(m i).1 o with
     |self _=>exact absurd rfl g
     |kid hx _ E=>
      grind
    have N:=(h.low ((m _).1 A)).1;grind
   .have A:f.parent ∉ L:=λw=>o ((m i).2 (.kid l p ((m _).1 w)));simp only[aG o,aG A];exact I
 .intro i d k b B;obtain⟨f,l,s,_,y⟩:=c i d b;rcases(y k).1 B with⟨rfl,rfl⟩|⟨W,B⟩
  .obtain⟨X,t,z,_⟩:=j.old k e D;grind
  .obtain⟨x,t,z,I⟩:=h.down i f k l B;obtain⟨Y,J,K,_⟩:=j.old k x t;grind
 .grind
 .simp only[aG v];exact h.r0
 .intro i d b;obtain⟨f,l,_⟩:=c i d b;have:=h.rb i f l;by_cases g:i∈L
  .have U:=E i g;have y:=(h.low ((m i).1 g)).1;grind
  .grind
theorem a7J.count {n a:Int}(b:a7J M C n a){c:Nat}(hc:Cd M c):Cd C c:=by
 obtain⟨l,f,g,h⟩:=hc;refine⟨l,f,g,λx=>?_⟩;rw[h];cases d:M x with
 |none=>simp[b.non x d]
 |some e=>
  obtain⟨j,i,_⟩:=b.old x e d;simp[i]
end
mutual
def TJ (d:Nat):Nd->List Nat
 | .mk _ _ ks=>d::Xz (d+1) ks
def Xz (d:Nat):List Nd->List Nat
 |[]=>[]
 |n::l=>TJ d n++Xz d l
end
mutual
theorem qj:∀(n:Nd) (d:Nat),(TJ d n).length=jq n
 | .mk b ats a,d=>by rw[TJ,jq,eZ,XA a]
theorem XA:∀(l:List Nd) (d:Nat),(Xz d l).length=og l
 |[],_=>rfl
 |n::l,d=>by rw[Xz,og,dO,qj n,XA l]
end
theorem QW (n:Nd)(d:Nat):(TJ d n)[0]? =some d:=by
 cases n;rw[TJ];rfl
mutual
theorem XC:∀(n:Nd) (d a:Nat),a∈TJ d n->d<=a
 | .mk c ats b,d,a,h=>by
  rw[TJ] at h;rcases gP.1 h with rfl|h
  .omega
  .have:=XD b (d+1) a h;omega
theorem XD:∀(l:List Nd) (d a:Nat),a∈Xz d l->d<=a
 |[],_,_,h=>by simp[Xz] at h
 |n::l,d,a,h=>by
  rw[Xz] at h;rcases iw.1 h with h|h
  .exact XC n d a h
  .exact XD l d a h
end
mutual
theorem a3g:∀(n:Nd) (k:Nat) (p:Int) (d j:Nat) (e:ig),(vG k p n)[j]? =some e->0<j->∃(i:Nat) (q:ig) (a:Nat),(vG k p n)[i]? =some q/\e.parent=k+i/\(k:Int)+j∈q.kids/\(TJ d n)[i]? =some a/\(TJ d n)[j]? =some (a+1)
 | .mk g ats b,k,p,d,0,e,h,l=>absurd l (Nat.lt_irrefl _)
 | .mk g ats b,k,p,d,j+1,e,h,_=>by
  rw[vG] at h⊢;rw[TJ];rcases a3h b (k+1) k (d+1) j e (by simpa using h) with⟨c,m,f⟩|⟨i,q,a,c,m,f,o,r⟩
  .refine⟨0,_,d,rfl,aa,?_,rfl,by simpa using f⟩;grind
  .refine⟨i+1,q,a,by simpa using c,aa,?_,by simpa using o,by simpa using r⟩;grind
theorem a3h:∀(l:List Nd) (k:Nat) (p:Int) (d j:Nat) (e:ig),(wB k p l)[j]? =some e->(e.parent=p/\(k:Int)+j∈ym k l/\(Xz d l)[j]? =some d)\/∃(i:Nat) (q:ig) (a:Nat),(wB k p l)[i]? =some q/\e.parent=k+i/\(k:Int)+j∈q.kids/\(Xz d l)[i]? =some a/\(Xz d l)[j]? =some (a+1)
 |[],_,_,_,_,_,h=>by simp[wB] at h
 |n::l,k,p,d,j,e,h=>by
  rw[wB] at h⊢;rw[Xz];by_cases o:j<jq n
  .rw[wu (by rw[j6];exact o)] at h;by_cases s:j=0
   .subst s;rcases Ww n k p 0 e h with b|b
    .refine .inl ⟨b.2,by rw[ym];simp,?_⟩;rw[wu (by rw[qj];exact o)];exact QW n d
    .omega
   .obtain⟨i,q,a,b,f,c,g,m⟩:=a3g n k p d j e h aa;refine .inr ⟨i,q,a,?_,f,c,?_,?_⟩
    .rw[wu (lK.1 b).1];exact b
    .rw[wu (lK.1 g).1];exact g
    .rw[wu (lK.1 m).1];exact m
  .rw[pI (by rw[j6];omega),j6] at h;have r:(k:Int)+j=((k+jq n:Nat):Int)+(j-jq n:Nat):=aa;rcases a3h l (k+jq n) p d (j-jq n) e h with⟨b,f,c⟩|⟨i,q,a,b,f,c,g,m⟩
   .refine .inl ⟨b,?_,?_⟩
    .rw[ym,r];exact FM _ f
    .rw[pI (by rw[qj];omega),qj];exact c
   .refine .inr ⟨jq n+i,q,a,?_,aa,by rw[r];exact c,?_,?_⟩
    .rw[pI (by rw[j6];omega),j6,show jq n+i-jq n=i from by omega];exact b
    .rw[pI (by rw[qj];omega),qj,show jq n+i-jq n=i from by omega];exact g
    .rw[pI (by rw[qj];omega),qj];exact m
end
theorem a3i:∀(l:List Nd) (k:Nat) (p x:Int),x∈ym k l->∃(j:Nat) (e:ig),x=k+j/\(wB k p l)[j]? =some e/\e.parent=p
 |[],_,_,_,h=>by simp[ym] at h
 |n::l,k,p,x,h=>by
  rw[ym] at h;rw[wB];rcases gP.1 h with rfl|h
  .obtain⟨c,ats,d⟩:=n;rw[vG];exact⟨0,_,aa,rfl,rfl⟩
  .obtain⟨j,e,f,a,b⟩:=a3i l (k+jq n) p x h;refine⟨jq n+j,e,aa,?_,b⟩;rw[pI (by rw[j6];omega),j6,show jq n+j-jq n=j from by omega];exact a
mutual
theorem QX:∀(n:Nd) (k:Nat) (p:Int) (i:Nat) (q:ig) (x:Int),(vG k p n)[i]? =some q->x∈q.kids->∃(j:Nat) (e:ig),x=k+j/\0<j/\(vG k p n)[j]? =some e/\e.parent=k+i
 | .mk d ats a,k,p,0,q,x,h,b=>by
  rw[vG] at h⊢;simp at h;subst h;obtain⟨j,e,f,c,g⟩:=a3i a (k+1) k x b;exact⟨j+1,e,aa,aa,by simpa using c,aa⟩
 | .mk d ats a,k,p,i+1,q,x,h,b=>by
  rw[vG] at h⊢;obtain⟨j,e,f,c,g⟩:=QY a (k+1) k i q x (by simpa using h) b;exact⟨j+1,e,aa,aa,by simpa using c,aa⟩
theorem QY:∀(l:List Nd) (k:Nat) (p:Int) (i:Nat) (q:ig) (x:Int),(wB k p l)[i]? =some q->x∈q.kids->∃(j:Nat) (e:ig),x=k+j/\(wB k p l)[j]? =some e/\e.parent=k+i
 |[],_,_,_,_,_,h,_=>by simp[wB] at h
 |n::l,k,p,i,q,x,h,a=>by
  rw[wB] at h⊢;by_cases c:i<jq n
  .rw[wu (by rw[j6];exact c)] at h;obtain⟨j,e,d,_,b,f⟩:=QX n k p i q x h a;grind
  .rw[pI (by rw[j6];omega),j6] at h;obtain⟨j,e,d,b,f⟩:=QY l (k+jq n) p (i-jq n) q x h a;refine⟨jq n+j,e,aa,?_,aa⟩;rw[pI (by rw[j6];omega),j6,show jq n+j-jq n=j from by omega];exact b
end
theorem XE:∀(l:List Nd) (k:Nat) (x:Int),x∈ym k l->(k:Int)<=x
 |[],_,_,h=>by simp[ym] at h
 |n::l,k,x,h=>by
  rw[ym] at h;rcases gP.1 h with rfl|h
  .omega
  .have:=XE l _ x h;omega
theorem LH:∀(l:List Nd) (k:Nat),(ym k l).Nodup
 |[],_=>List.nodup_nil
 |n::l,k=>by
  rw[ym,qN];refine⟨λa=>?_,LH l _⟩;have:=XE l _ _ a;have:=Ws n;omega
mutual
theorem QZ:∀(n:Nd) (k:Nat) (p:Int),∀e∈vG k p n,e.kids.Nodup
 | .mk c ats b,k,p,e,a=>by
  rw[vG] at a;rcases gP.1 a with rfl|a
  .exact LH b _
  .exact Ra b _ _ e a
theorem Ra:∀(l:List Nd) (k:Nat) (p:Int),∀e∈wB k p l,e.kids.Nodup
 |[],_,_,e,a=>by simp[wB] at a
 |n::l,k,p,e,a=>by
  rw[wB] at a;rcases iw.1 a with a|a
  .exact QZ n _ _ e a
  .exact Ra l _ _ e a
end
def rkD (n:Nd)(i:Int):Nat:=((TJ 1 n)[i.toNat]?).getD 0
theorem Wd.new (n:Nd)(u:∀a∈TJ 1 n,a<=10):Wd (kV (λ_=>none) 0 (vG 0 (-1) n)) (rkD n):=by
 have b:∀i e,kV (λ_=>none) 0 (vG 0 (-1) n) i=some e->∃j:Nat,i=j/\(vG 0 (-1) n)[j]? =some e:=λi e h=>by
  unfold kV at h;grind
 have f:∀(j:Nat) e,(vG 0 (-1) n)[j]? =some e->kV (λ_=>none) 0 (vG 0 (-1) n) (j:Int)=some e:=λj e h=>by
  have g:=a1i (M:=λ_=>none) (nx:=0) (L:=vG 0 (-1) n) (j:=j) (lK.1 h).1;rw[show((0:Nat):Int)+j=j from by omega] at g;grind
 have l:∀j a:Nat,(TJ 1 n)[j]? =some a->rkD n (j:Int)=a:=λj a h=>by
  unfold rkD;grind
 have v:∃e,(vG 0 (-1) n)[0]? =some e/\e.parent= -1:=by
  obtain⟨A,ats,B⟩:=n;rw[vG];exact⟨_,rfl,rfl⟩
 refine⟨?_,λi C=>a1h aa,?_,?_,?_,?_,?_⟩
 .grind
 .intro i e c D;obtain⟨j,rfl,d⟩:=b i e c;obtain⟨m,q,a,g,w,o,r,y⟩:=a3g n 0 (-1) 1 j e d aa;have p:e.parent=(m:Int):=aa;rw[p];refine⟨q,f m q g,?_,by rw[l j _ y,l m _ r]⟩;rw[show((0:Nat):Int)+j=j from by omega] at o;exact o
 .intro i e k c z;obtain⟨j,rfl,d⟩:=b i e c;obtain⟨E,x,g,w,o,r⟩:=QX n 0 (-1) j e k d z;grind
 .intro i e c;obtain⟨j,rfl,d⟩:=b i e c;exact QZ n 0 (-1) e (ic d)
 .exact l 0 1 (QW n 1)
 .intro i e c;obtain⟨j,rfl,d⟩:=b i e c;have s:j<(TJ 1 n).length:=by
   have:=(lK.1 d).1;rw[j6] at this;rw[qj];exact this
  rw[l j _ (fD s)];have t:=List.getElem_mem s;exact⟨XC n 1 _ t,u _ t⟩
theorem Cd.new (n:Nd):Cd (kV (λ_=>none) 0 (vG 0 (-1) n)) (jq n):=by
 refine⟨nums 0 (jq n),?_,by simp[nums],λx=>?_⟩
 .unfold nums;exact List.Pairwise.map _ (λa b h=>aa) (List.nodup_range' (s:=0) (n:=jq n) (step:=1))
 .rw[a1n];unfold kV;rw[j6];constructor
  .intro h;rw[aR aa,fD (by rw[j6];omega)];simp
  .grind
theorem a3j:∀(K:List Int) (a:Nat) (n:Int),K[a]? =some n->K.Nodup->(K.filter (λx=> !decide (x=n))).take a++n::(K.filter (λx=> !decide (x=n))).drop a=K
 |[],_,_,h,_=>by simp at h
 |k::K,0,n,h,b=>by
  simp at h;subst h;have c:=(qN.1 b).1;have d:K.filter (λx=> !decide (x=k))=K:=List.filter_eq_self.2 λx f=>by grind
  grind
 |k::K,a+1,n,h,b=>by
  have c:=qN.1 b;have d:K[a]? =some n:=by grind
  have e:k≠n:=by grind
  rw[List.filter_cons];simp only[e,decide_false,Bool.not_false,if_true,List.take_succ_cons,List.drop_succ_cons,gH];rw[a3j K a n d c.2]
theorem Wd.deep {M:Dm}{r:Int->Nat}(h:Wd M r):∀(d:Nat) (x:Int) (e:ig),r x=d->M x=some e->Up M x d
 |0,x,e,f,a=>by
  have:=(h.rb x e a).1;omega
 |d+1,x,e,f,a=>by
  refine⟨e,a,?_⟩;by_cases b:x=0
  .subst b;obtain⟨j,c,g⟩:=h.root;rw[a] at c;cases c;have:d=0:=by have:=h.r0;omega
   subst this;rw[g];exact h.neg _ aC
  .obtain⟨q,i,_,k⟩:=h.up x e a b;exact h.deep d _ q aa i
theorem LJ {L:List Int}{a:Nat}{k x:Int}:x∈iO L a k↔x=k\/x∈L:=by
 unfold iO;rw[iw,gP];constructor
 .grind
 .rintro(h|h)
  .omega
  .rw[<- jS a L] at h;grind
theorem Eo {L:List Int}{a:Nat}{k:Int}(h:L.Nodup)(b:k ∉ L):(iO L a k).Nodup:=by
 have c:(iO L a k).Perm (k::L):=by
  unfold iO;refine List.perm_middle.trans ?_;rw[jS]
 grind
theorem XF {L:List Int}{k x:Int}:x∈woL L k↔x≠k/\x∈L:=by grind
section
variable {M:Dm}{r:Int->Nat}
theorem Wd.UT (h:Wd M r){i k:Int}{e:ig}(he:M i=some e)(a:k∈e.kids):M k≠none:=by
 obtain⟨x,b,_⟩:=h.down i e k he a;rw[b];simp
theorem Wd.akB (h:Wd M r){nx b:Int}{q:ig}(d:M nx=none)(l:0<=nx)(j:M b=some q)(c:Bs)(a:Nat):a7H M (eP (eP M nx ⟨c,[],b,[]⟩) b ⟨q.name,q.ats,q.parent,iO q.kids a nx⟩) nx b:=by
 have n:nx≠b:=by grind
 refine⟨d,l,⟨⟨c,[],b,[]⟩,?_,rfl,rfl⟩,λi e f=>?_,λi g o=>?_⟩
 .unfold eP;grind
 .have k:i≠nx:=by grind
  unfold eP;by_cases g:i=b
  .subst g;rw[j] at f;cases f;rw[aR rfl];refine⟨_,rfl,rfl,Eo (h.nodup i q j) (λm=>h.UT j m d),λx=>?_⟩;rw[LJ];simp
  .rw[aG g,aG k];exact⟨e,f,rfl,h.nodup i e f,λx=>by simp[g]⟩
 .unfold eP;grind
theorem Wd.a3k (h:Wd M r){n:Int}{e:ig}(a:M n=some e)(b:n≠0):¬Bl M n e.parent:=λc=>by
 obtain⟨q,_,_,d⟩:=h.up n e a b;have:=(h.low c).1;omega
theorem Wd.a3l (h:Wd M r){n:Int}{e o:ig}(a:M n=some e)(b:n≠0){f:Nat}{d:Int}(c:Dp M f n):pre (qi M n e o) f n d=pre M f n d:=by
 refine KG f n d (λx g=>?_) (λi=>absurd (i.symm.trans a) aI) (λy q s j k l=>h.UT j l);have m:=(h.mem c).1 g;unfold qi eP;rw[aG];intro p;subst p;exact h.a3k a b m
theorem Wd.cutV (h:Wd M r){n:Int}{e o:ig}(m:M n=some e)(d:M e.parent=some o){L:List Int}(g:∀x,x∈L↔Bl M n x):a7I M (tY (qi M n e o) L) n:=by
 refine⟨λi f=>?_,λi x a f=>?_,λi b=>?_⟩
 .unfold tY;grind
 .unfold tY;rw[aG (λj=>f ((g i).1 j))];unfold qi eP;by_cases b:i=e.parent
  .rw[aR b];rw[b,d] at a;cases a;exact⟨_,rfl,rfl,(h.nodup _ o d).filter _,λy=>XF⟩
  .rw[aG b];refine⟨x,a,rfl,h.nodup i x a,λy=>⟨λc=>⟨λk=>?_,c⟩,λc=>c.2⟩⟩;subst k;obtain⟨z,p,l,_⟩:=h.down i x y a c;grind
 .unfold tY qi eP;grind
end
section
variable {M:Dm}{r:Int->Nat}
theorem Wd.XG (h:Wd M r){n i:Int}{e x:ig}(d:M n=some e)(a:M i=some x)(hi:i≠e.parent):n ∉ x.kids:=λb=>by
 obtain⟨z,f,c,_⟩:=h.down i x n a b;grind
theorem Wd.Fw (h:Wd M r){n i:Int}{e o x:ig}(g:M n=some e)(f:M e.parent=some o)(a:M i=some x):∃b,qi M n e o i=some b/\b.parent=x.parent/\b.kids.Nodup/\∀y,y∈b.kids↔y≠n/\y∈x.kids:=by
 unfold qi eP;by_cases c:i=e.parent
 .rw[aR c];rw[c,f] at a;cases a;exact⟨_,rfl,rfl,(h.nodup _ o f).filter _,λy=>XF⟩
 .rw[aG c];refine⟨x,a,rfl,h.nodup i x a,λy=>⟨λd=>⟨λj=>?_,d⟩,λd=>d.2⟩⟩;subst j;exact h.XG g a c d
theorem Wd.Rb (h:Wd M r){n:Int}{e:ig}(a:M n=some e)(b:n≠0):e.parent≠n:=λc=>h.a3k a b (by rw[c];exact .self a)
theorem Wd.akC (h:Wd M r){n b:Int}{e o v q:ig}(d:M n=some e)(w:n≠0)(l:M e.parent=some o)(z:M b=some v)(A:qi M n e o b=some q)(B:b≠n)(a:Nat):a7J M (Zp M n b a e o q) n b:=by
 refine⟨λi x j=>?_,λi c=>?_⟩
 .unfold Zp;by_cases c:i=b
  .subst c;obtain⟨s,k,t,m,p⟩:=h.Fw d l j;rw[A] at k;cases k;refine⟨⟨q.name,q.ats,q.parent,iO q.kids a n⟩,by rw[eP,aR rfl],?_,Eo m (λC=>((p n).1 C).1 rfl),λy=>?_⟩
   .grind
   .show y∈iO q.kids a n↔_;rw[LJ,p];simp
  .by_cases f:i=n
   .subst f;rw[d] at j;cases j;refine⟨⟨e.name,e.ats,b,e.kids⟩,by rw[eP,aG c,eP,aR rfl],by rw[aR rfl],h.nodup i e d,λy=>?_⟩;show y∈e.kids↔_;constructor
    .intro u;refine .inr ⟨λg=>?_,u⟩;subst g;exact h.XG d d (λg=>h.Rb d w g.symm) u
    .grind
   .obtain⟨s,k,t,m,p⟩:=h.Fw d l j;refine⟨s,by rw[eP,aG c,eP,aG f];exact k,by rw[aG f];exact t,m,λy=>?_⟩;grind
 .have D:i≠b:=by grind
  have E:i≠n:=λg=>by rw[g,d] at c;exact absurd c aI
  have F:i≠e.parent:=λg=>by rw[g,l] at c;exact absurd c aI
  unfold Zp;rw[eP,aG D,eP,aG E];unfold qi;rw[eP,aG F];exact c
theorem Ic:∀(l:List (Int×Int)) (m:Int),m<=l.foldl (λm x=>max m x.2) m/\∀x∈l,x.2<=l.foldl (λm x=>max m x.2) m
 |[],m=>⟨Int.le_refl _,λx a=>absurd a aI⟩
 |y::l,m=>by
  obtain⟨b,c⟩:=Ic l (max m y.2);grind
theorem Rc:∀(l:List (Int×Int)) (m b:Int),m<=b->(∀x∈l,x.2<=b)->l.foldl (λm x=>max m x.2) m<=b
 |[],_,_,h,_=>h
 |y::l,m,b,h,a=>by
  rw[List.foldl_cons];have:=a y aI;exact Rc l _ b aa (λx c=>a x (by simp[c]))
theorem Wd.fits (h:Wd M r){n a:Int}{f:Nat}(c:(r a:Int)+nR (pre M f n 1)<=10):∀x∈dZ M f n,r x+1+r a<=10+r n:=λx d=>by
 obtain⟨⟨y,e⟩,b,rfl⟩:=gL.1 d;have g:=(h.zi f n 1 y e b).2;have i:=(Ic (pre M f n 1) 0).2 _ b;unfold nR at c;grind
theorem Wd.most (h:Wd M r){n:Int}{f:Nat}:0<=nR (pre M f n 1)/\nR (pre M f n 1)<=10:=by
 refine⟨(Ic (pre M f n 1) 0).1,Rc _ _ _ aC λx a=>?_⟩;obtain⟨y,b⟩:=x;obtain⟨c,i⟩:=h.zi f n 1 y b a;obtain⟨e,d⟩:=c.in_;have j:=(h.rb y e d).2;obtain⟨x,a⟩:∃x,M n=some x:=by
  cases f with
  |zero=>simp[pre] at a
  |succ f=>
   cases g:M n with
   |none=>rw[pre,g] at a;simp at a
   |some x=>exact⟨x,rfl⟩
 have k:=(h.rb n x a).1;omega
end
end
section
open Go.RowKit
mutual
theorem a3m:∀(n:Nd) (b ahead:Nat),(je n b ahead).1=0->∀a∈TJ b n,a<=10
 | .mk f ats e,b,ahead,h,a,c=>by
  unfold je at h;split at h
  .rename_i d;rw[TJ] at c;rcases gP.1 c with rfl|c
   .exact(Gz d).1
   .exact a3n e _ _ h a c
  .rename_i d;exact(d h).elim
theorem a3n:∀(l:List Nd) (b ahead:Nat),(uQ l b ahead).1=0->∀a∈Xz b l,a<=10
 |[],_,_,_,a,c=>by simp[Xz] at c
 |k::l,b,ahead,h,a,c=>by
  by_cases d:(je k b ahead).1=0
  .rw[tQ d] at h;rw[Xz] at c;rcases iw.1 c with c|c
   .exact a3m k b ahead d a c
   .exact a3n l _ _ h a c
  .rw[Az d] at h;exact(d h).elim
end
structure jk (B:Nat)(tg:dG)(W:ai)(DB MB:Nat)(p:Int->Option Nat)(M:Dm)(nx c:Nat)(r:Int->Nat):Prop where
 w:dm B tg W DB MB p M nx c
 d:Wd M r
 n:Cd M c
 le:c<=100
 low:B<=W.heap.size
section
variable {E:Nat->Addr}{B:Nat}{C:dG}{W:ai}{DB D:Nat}{p:Int->Option Nat}{M:Dm}{nx c:Nat}{r:Int->Nat}
theorem jk.below {w':ai}(h:jk B C W DB D p M nx c r)(a:aD W w'):jk B C w' DB D p M nx c r:=⟨h.w.below a,h.d,h.n,h.le,bO h.low a.size⟩
theorem jk.few (h:jk B C W DB D p M nx c r){i:Int}{e:ig}(he:M i=some e):e.kids.length<=100:=by
 obtain⟨l,_,d,a⟩:=h.n;have:=Fv e.kids l (h.d.nodup i e he) (λx b=>(a x).2 (h.d.UT he b));have:=h.le;omega
theorem jk.new (h:jk B C W DB D p M nx c r):M nx=none:=by
 cases a:M nx with
 |none=>rfl
 |some e=>
  have:=h.w.dom nx e a;omega
end
theorem Dp.sub {M c:Dm}(h:∀i a,c i=some a->∃x,M i=some x/\∀k∈a.kids,k∈x.kids):∀{f:Nat} {i:Int},Dp M f i->Dp c f i
 |0,_,hd=>hd.elim
 |_+1,i,hd=>λa b k d=>by
  obtain⟨x,e,g⟩:=h i a b;exact Dp.sub h (hd x e k (g k d))
theorem a7K {K:List Int}{n:Int}(b:n∈K)(c:K.Nodup):(woL K n).length+1=K.length:=by
 obtain⟨a,d⟩:=List.getElem?_of_mem b;have e:=congrArg List.length (a3j K a n d c);grind
section
variable {E:Nat->Addr}{B:Nat}{C:dG}{W:ai}{DB D:Nat}{p:Int->Option Nat}{M:Dm}{nx c:Nat}{r:Int->Nat}
theorem Wd.top (_:Wd M r){n:Int}(a:n≠0):¬Bl M n 0:=λb=>by
 cases b with
 |self _=>exact a rfl
 |kid _ hx _=>exact hx rfl
theorem Wd.a7L (h:Wd M r){n:Int}{e o:ig}(d:M n=some e)(c:M e.parent=some o){f:Nat}{i:Int}(g:Dp M f i):Dp (qi M n e o) f i:=by
 refine Dp.sub (λj l a=>?_) g;cases b:M j with
 |none=>
  unfold qi at a;rw[eP,aG (λk=>by rw[k,c] at b;exact absurd b aI),b] at a;exact absurd a aI
 |some x=>
  obtain⟨m,p,_,_,q⟩:=h.Fw d c b;grind
theorem jk.count (h:jk B C W DB D p M nx c r){f:Nat}{i d:Int}(a:Dp M f i):(pre M f i d).length<=100:=by
 obtain⟨l,_,k,b⟩:=h.n;have g:=Fv _ l (h.d.tC f i d) (λx j=>(b x).2 (by
  obtain⟨e,m⟩:=((h.d.mem a).1 j).in_;grind))
 rw[dP] at g;have:=h.le;omega
end
end
section
abbrev l9 (n:Nd):Dm:=kV (λ_=>none) 0 (vG 0 (-1) n)
end
section
open Go.RowKit
mutual
def sh:Nat->Nd->Prop
 |d,.mk _ _ ks=>d<=15/\shL (d+1) ks
def shL:Nat->List Nd->Prop
 |_,[]=>True
 |d,k::l=>sh d k/\shL d l
end
theorem a7M (E:Nat->Addr)(n:Nd)(a b c:ax)(W:ai)(hE:CE E W)(f:sS W a b c n)(hs:jq n<=1000000)(hc:(je n 1 0).1=0):
  aL 37 #[.agg #[a,b,c]] W λe w'=>aD W w'/\∃DB g i p,e=ay (aH #[aK DB,aY])/\dm W.heap.size i w' DB g p (l9 n) (jq n) (jq n):=(a7b E n a b c W hE f hs).mono λe w' h=>⟨h.1,by
 rcases h.2 with d|d
 .omega
 .exact d.2⟩
mutual
theorem UU:∀(n:Nd) (a ahead:Nat),(je n a ahead).1=0->(je n a ahead).2=ahead+jq n
 | .mk c ats d,a,ahead,h=>by
  by_cases b:ck1 c ats a ahead=0
  .rw[GD b] at h⊢;rw[a3o d _ _ h,jq];omega
  .rw[je,aG b] at h;omega
theorem a3o:∀(l:List Nd) (a ahead:Nat),(uQ l a ahead).1=0->(uQ l a ahead).2=ahead+og l
 |[],_,ahead,_=>by rw[uQ,og];rfl
 |k::l,a,ahead,h=>by
  by_cases b:(je k a ahead).1=0
  .rw[tQ b] at h⊢;rw[a3o l _ _ h,UU k _ _ b,og];omega
  .rw[Az b] at h;omega
end
theorem agf (E:Nat->Addr)(n:Nd)(a b c:ax)(W:ai)(hE:CE E W)(h:sS W a b c n)(hs:jq n<=1000000)(hc:(je n 1 0).1=0):
  aL 37 #[.agg #[a,b,c]] W λe w'=>aD W w'/\∃DB d f p,e=ay (aH #[aK DB,aY])/\jk W.heap.size f w' DB d p (l9 n) (jq n) (jq n) (rkD n):=by
 refine(a7M E n a b c W hE h hs hc).mono ?_;rintro e w' ⟨g,DB,d,f,p,rfl,i⟩;have j:=UU n 1 0 hc;have k:=GA n 1 0 hc;exact⟨g,DB,d,f,p,rfl,i,Wd.new n (a3m n 1 0 hc),Cd.new n,aa,g.size⟩
section
variable {M:Dm}{r:Int->Nat}
def vX (M:Dm)(x:Int):Int:=match M x with|none=> -1|some e=>e.parent
end
section
variable {E:Nat->Addr}{B:Nat}{C:dG}{W:ai}{DB D:Nat}{p:Int->Option Nat}{M:Dm}{nx c:Nat}{r:Int->Nat}
theorem Wd.dp0 (h:Wd M r):Dp M 11 0:=by
 obtain⟨e,a,_⟩:=h.root;exact h.dp 11 0 e a aa
theorem jk.all (h:jk B C W DB D p M nx c r):∃L,dZ M 11 0=0::L/\(0::L:List Int).length=c/\∀x∈L,0<x/\∃e,M x=some e:=by
 obtain⟨e,j,_⟩:=h.d.root;have f:=h.d.count (d:=1) h.n h.d.dp0;have g:=h.d.tC 11 0 1;have a:∀x,x∈dZ M 11 0->∃e,M x=some e:=λx b=>((h.d.mem h.d.dp0).1 b).in_;unfold dZ at a⊢;rw[pre,j] at f g a⊢;rw[ny] at f g a⊢;refine⟨_,rfl,f,λx b=>?_⟩;obtain⟨q,i⟩:=a x (FM _ b);refine⟨?_,q,i⟩;have l:=(h.w.dom x q i).1;have m:x≠0:=λk=>(qN.1 g).1 (by rw[<- k];exact b);omega
theorem zG (h:dm B C W DB D p M nx c)(n:Int)(a:eH n):aL 106 #[aK DB,ag n] W λe w'=>e=ay (ag (vX M n))/\w'=W:=by
 have b:=GR h n a;unfold vX;omega
theorem jk.akE (h:jk B C W DB D p M nx c r)(n:Int):(ru M n).length<=100:=by
 unfold ru;cases a:M n with
 |none=>exact bA _
 |some e=>exact h.few a
theorem jk.akF (h:jk B C W DB D p M nx c r):(dZ M 11 0).length<=100:=by
 obtain⟨L,a,b,_⟩:=h.all;have:=h.le;grind
end
end
section
open Go.RowKit Go.Shelf
set_option maxRecDepth 20000
section
variable {B:Nat}{C:dG}{W:ai}{DB D:Nat}{p:Int->Option Nat}{M:Dm}{nx c:Nat}{r:Int->Nat}
theorem UW {M:Dm}{k:Nat}{m:Int}{e:ig}(he:M m=some e):lH M (k+1) m=if e.parent<0 then[] else e.parent::lH M k e.parent:=by
 rw[lH,he]
theorem LK (g:Int->Bool){k:Nat}{m:Int}{e:ig}(he:M m=some e):(lH M (k+1) m).any g=(decide (0<=e.parent) && (g e.parent||(lH M k e.parent).any g)):=by
 rw[UW he];grind
def mz (r:Int->Nat)(x:Int):Nat:=if 0<=x then r x+1 else 0
theorem a3p {r:Int->Nat}{x:Int}(h:0<=x):mz r x=r x+1:=by unfold mz;rw[aR h]
theorem abQ {r:Int->Nat}{x:Int}(h:¬0<=x):mz r x=0:=by unfold mz;rw[aG h]
theorem JY (h:dm B C W DB D p M nx c)(s:Wd M r)(n:Int)(hn:eH n)(g:Int->Bool)(lb:Array ax)(X Y:Nat)(L:lb=#[aK X,aK Y])
  (Z:∀m V,eH m->aD W V->aL 168 #[ag m,aK X,aK Y] V λe w'=>e=ay (.bool (g m))/\aD V w'):
  aL 167 #[aK DB,ag n,.func (.func 168) #[] lb] W λe w'=>e=ay (.bool ((lH M 11 n).any g))/\aD W w':=by
 subst L;have PN:=zG h n hn;have N:=aF s;have HG:=aF Z;have HH:=aF h;have O:eH (vX M n):=by
  unfold vX;cases i:M n with
  |none=>exact WalkArith.wf_i64 aC
  |some e=>exact(h.wf n e i).1
 have P:(lH M 11 n).any g=(decide (0<=vX M n) && (g (vX M n)||(lH M 10 (vX M n)).any g))/\(0<=vX M n->∃e,M (vX M n)=some e/\r (vX M n)<=10):=by
  unfold vX;cases i:M n with
  |none=>
   refine⟨?_,λj=>absurd j aC⟩;rw[lH,i];rfl
  |some e=>
   refine⟨LK g i,λj=>?_⟩;by_cases t:n=0
   .subst t;obtain⟨e0,b,Q⟩:=s.root;rw[i] at b;cases b;have a4:0<=e.parent:=j;omega
   .obtain⟨q,H, -, -⟩:=s.up n e i t;exact⟨q,H,(s.rb _ q H).2⟩
 obtain⟨T,a⟩:∃T,(lH M 11 n).any g=T:=⟨_,rfl⟩;rw[a] at P⊢;have u:=aF P;clear a P Z s h;go_enter func167,ntmps167;go_wp2_with(go_at_call 106;refine PN.mono ?_;rintro e w1 ⟨rfl,b⟩;rw[b];clear b)
 go_loopw [1] (λy wr=>∃(m:Int) (k:Nat),y=ag m/\T=(decide (0<=m) && (g m||(lH M k m).any g))/\(0<=m->∃e,M m=some e/\r m<=k)/\eH m/\aD W wr) (λy _=>mz r (intOf y))
 case atStart=>exact⟨vX M n,10,rfl,u.out.1,u.out.2,O,aW _ _⟩
 case round=>
  obtain⟨m,k,rfl,a,I,v,w⟩:=hrel;by_cases d:0<=m
  .obtain⟨e,l,a5⟩:=I d;have a6:=(N.out.rb m e l).1;obtain⟨o,rfl⟩:∃o,k=o+1:=⟨k-1,aa⟩;have J:=HG.out m wr v w;have x:=HH.out.below w;have PM:=λV (hv:aD wr V)=>zG (x.below hv) m v;have z:vX M m=e.parent:=by unfold vX;rw[l]
   rw[z] at PM;have R:=(x.wf m e l).1;rw[decide_eq_true d,LK g l] at a;have f:0<=e.parent->∃q,M e.parent=some q/\r e.parent<=o/\r e.parent<r m:=λj=>by
    by_cases hz:m=0
    .subst hz;obtain⟨e0,b,Q⟩:=N.out.root;rw[l] at b;cases b;omega
    .obtain⟨q,H, -,hr⟩:=N.out.up m e l hz;exact⟨q,H,aa,aa⟩
   have A:=aF f;cases E:g m with
   |true=>
    rw[E] at J a;have F:Hid (T=true):=(by rw[a];rfl:T=true);clear a I f;go_wp2_with(go_at_call 168;refine J.mono ?_;rintro e' w2 ⟨rfl,K⟩);go_ret;exact⟨by rw[F.out];rfl,bf w K⟩
   |false=>
    rw[E] at J a;have F:Hid (T=(decide (0<=e.parent) && (g e.parent||(lH M o e.parent).any g))):=(by rw[a];simp:T=(decide (0<=e.parent) && (g e.parent||(lH M o e.parent).any g)));clear a I f z;go_wp2_with(first|(go_at_call 168;refine J.mono ?_;rintro e' w2 ⟨rfl,K⟩)|(go_at_call 106;refine(PM _ K).mono ?_;rintro e' w3 ⟨rfl,S⟩;rw[S];clear S))
    go_roundw
    case rel=>exact⟨e.parent,o,rfl,F.out,λj=>by obtain⟨q,b,Q, -⟩:=A.out j;exact⟨q,b,Q⟩,R,bf w K⟩
    case measure=>
     show mz r e.parent<mz r m;rw[a3p d];by_cases U:0<=e.parent
     .obtain⟨q, -, -,S⟩:=A.out U;rw[a3p U];omega
     .rw[abQ U];omega
  .rw[iU d] at a;have F:Hid (T=false):=(by rw[a];rfl:T=false);clear a I;go_wp2_with fail;go_ret;exact⟨by rw[F.out];rfl,w⟩
end
abbrev UX (a b:Nat):ax:=.func (.func 165) #[] #[aK a,aK b]
def agi (M:Dm)(f:Nat)(a:Bs)(n:Int):Lk->Bool
 | .no=>true
 | .right=>JI M f a (vX M n)
 | .below=>(lH M 11 n).any (JI M f a)
theorem Zx (M:Dm)(f:Nat){t a b:Bs}{k:Lk}(h:vQ t=(a,k,b))(n:Int):JI M (f+1) t n=(OG M b n && agi M f a n k):=by
 rw[JI,h];cases k<;>rfl
section
variable {B:Nat}{C:dG}{W:ai}{DB D:Nat}{p:Int->Option Nat}{M:Dm}{nx c:Nat}{r:Int->Nat}
theorem Zy (f c g:Nat)(a:Bs)(m:Int)(V:ai)(b:Bool)(i:V.cell? (aJ c 0)=some (UX f c))(j:V.cell? (aJ g 0)=some (bV a))
  (h:aL 165 #[bV a,ag m,aK f,aK c] V λe w'=>e=ay (.bool b)/\aD V w'):
  aL 168 #[ag m,aK c,aK g] V λe w'=>e=ay (.bool b)/\aD V w':=by
 go_enter func168,ntmps168;go_wp2_with(go_at_call 165;refine h.mono ?_;rintro e k ⟨rfl,d⟩);go_ret;exact⟨rfl,d⟩
theorem XH (h:dm B C W DB D p M nx c)(hw:Wd M r)(hF:EU M)(o g:Nat)(i:W.cell? (aJ o 0)=some (aK DB))(L:W.cell? (aJ g 0)=some (UX o g)):
  ∀(f:Nat) (t:Bs) (n:Int) (V:ai),t.length<f->t.length<=1000000->eH n->aD W V->
  aL 165 #[bV t,ag n,aK o,aK g] V λe w'=>e=ay (.bool (JI M f t n))/\aD V w'
 |0,_,_,_,hf,_,_,_=>aa
 |f+1,t,n,V,hf,s,N,hb=>by
  have u:Hid (∀(t:Bs) (n:Int) (V:ai),t.length<f->t.length<=1000000->eH n->aD W V->aL 165 #[bV t,ag n,aK o,aK g] V λe w'=>e=ay (.bool (JI M f t n))/\aD V w'):=XH h hw hF o g i L f;obtain⟨a,k,b,v⟩:∃a k b,vQ t=(a,k,b):=⟨_,_,_,rfl⟩;have O:b.length<=1000000:=bO (Ky v) s;have CU:=Nq t a b k v s V;rw[Zx M f v];have I:=aF h;have P:=λX (j:aD W X)=>Ny (I.out.below j) hF n N b O;obtain⟨Q,w⟩:∃Q,OG M b n=Q:=⟨_,rfl⟩;rw[w] at P⊢;have x:Hid (k≠.no->a.length<f/\a.length<=1000000):=(λhk=>by have:=tu v hk;omega:k≠.no->a.length<f/\a.length<=1000000);have q:=aF hb;clear w v h hb;cases Q with
  |false=>
   go_enter func165,ntmps165;go_wp2_with(first|(go_at_call 160;refine CU.mono ?_;rintro e R ⟨rfl,y⟩;have z:=y.alloc y.size (ak #[bV a] 9);have A:=q.out.trans (z.mono q.out.size);have q1:=(A.cell (aM i)).trans i)|(go_at_call 166;refine(P _ A).mono ?_;rintro e S ⟨rfl,E⟩));go_ret;exact⟨rfl,bf z E⟩
  |true=>
   go_enter func165,ntmps165;go_upto_region 4 with(first|(go_at_call 160;refine CU.mono ?_;rintro e R ⟨rfl,y⟩;have z:=y.alloc y.size (ak #[bV a] 9);have A:=q.out.trans (z.mono q.out.size);have q1:=(A.cell (aM i)).trans i)|(go_at_call 166;refine(P _ A).mono ?_;rintro e S ⟨rfl,E⟩));have hA:=fE R (ak #[bV a] 9);have F:=gZ E hA;have T:=dK F;have J:=bf z E;have l:=q.out.trans (J.mono q.out.size);have q2:=(l.cell (aM i)).trans i;have q3:=(l.cell (aM L)).trans L;obtain⟨K,H⟩:∃K,R.heap.size=K:=⟨_,rfl⟩;rw[H] at T⊢;clear hA F H E q1;cases k with
   |no=>
    go_wp2_with fail;go_ret;exact⟨rfl,J⟩
   |right=>
    have PN:=λX (j:aD W X)=>zG (I.out.below j) n N;have U:eH (vX M n):=by
     unfold vX;cases Y:M n with
     |none=>exact WalkArith.wf_i64 aC
     |some e=>exact(I.out.wf n e Y).1
    have d:=x.out aI;have PW:=PN S.drew l.drew;have IH:=u.out a (vX M n) S.drew d.1 d.2 U l.drew;go_upto_region 6 with fail
    go_region_with ((first|(go_at_call 106;refine PW.mono ?_;rintro e w3 ⟨rfl,h3⟩;rw[h3];clear h3)|(go_at_call 165;refine IH.mono ?_;rintro e w4 ⟨rfl,Z⟩)))
    all_goals go_wp2_with fail
    all_goals go_ret
    all_goals exact⟨by rw[Bool.true_and];rfl,bf J.drew Z⟩
   |below=>
    have d:=x.out aI;have SA:=JY (I.out.below l) hw n N (JI M f a) _ g K rfl (λm X Y j=>Zy o g K a m X _ ((j.cell (aM q3)).trans q3) ((j.cell (aM T)).trans T) (u.out a m X d.1 d.2 Y (l.trans (j.mono l.size))));go_wp2_with(go_at_call 167;refine SA.mono ?_;rintro e w3 ⟨rfl,Z⟩);go_ret;exact⟨by rw[Bool.true_and];rfl,bf J Z⟩
end
end
section
open Go.RowKit Go.Shelf
set_option maxRecDepth 20000
theorem Nz (P:Program)(w:ai)(a:Addr)(f:Fn)(x y:Array ax)(m:Mode):(store a (.func f x y) m).run P w=stored P w a (.func f x y) m:=run_store P w a _ m rfl
attribute [local go_sem] Nz
section
variable {B:Nat}{C:dG}{W:ai}{DB D:Nat}{p:Int->Option Nat}{M:Dm}{nx c:Nat}{r:Int->Nat}
theorem Re (h:dm B C W DB D p M nx c)(u:Wd M r)(hF:EU M)(s:Bs)(hs:s.length<=1000000)(l:s≠[])(n:Int)(v:eH n):
  aL 103 #[.agg #[bV s],aK DB,ag n] W λe w'=>e=ay (.bool (oQ M s n))/\aD W w':=by
 have w:s.isEmpty=false:=by
  cases s with
  |nil=>exact absurd rfl l
  |cons _ _=>rfl
 obtain⟨b,d,a,f,q⟩:=jL W (ak #[bV s] 105) (ak #[aK DB] 74) (ak #[.nilFunc] 274);go_enter func103,ntmps103;go_upto_region 4 with fail;obtain⟨U,t⟩:∃U,(((W.alloc (ak #[bV s] 105)).alloc (ak #[aK DB] 74)).alloc (ak #[.nilFunc] 274))=U:=⟨_,rfl⟩;rw[t] at b d a f q⊢;clear t;have E:=dK a;have F:=jf a;have g:=jM a (UX (W.heap.size+1) (W.heap.size+1+1));have i:(U.setCell ⟨W.heap.size+1+1,0,none⟩ (UX (W.heap.size+1) (W.heap.size+1+1))).heap[W.heap.size+1]? =some (ak #[aK DB] 74):=(dw _ _ _ _ fZ).trans d;have j:(U.setCell ⟨W.heap.size+1+1,0,none⟩ (UX (W.heap.size+1) (W.heap.size+1+1))).heap[W.heap.size]? =some (ak #[bV s] 105):=(dw _ _ _ _ fZ).trans b;have m:aD W (U.setCell ⟨W.heap.size+1+1,0,none⟩ (UX (W.heap.size+1) (W.heap.size+1+1))):=q.setCell fZ _;go_upto_region 5 with fail;obtain⟨o,k⟩:∃o,U.setCell ⟨W.heap.size+1+1,0,none⟩ (UX (W.heap.size+1) (W.heap.size+1+1))=o:=⟨_,rfl⟩;rw[k] at g i j m⊢;clear k;have x:=dK g;have y:=dK i;have H:=dK j;have z:=XH (h.below m) u hF (W.heap.size+1) (W.heap.size+1+1) y x (s.length+1) s n o aa hs v (aW _ _);go_wp2_with(go_at_call 165;refine z.mono ?_;rintro e I ⟨rfl,A⟩);go_ret;exact⟨rfl,bf m A⟩
end
end
section
open Go.RowKit Go.Shelf
set_option maxRecDepth 20000
theorem a7N {s:Bs}(h:su s=true):s≠[]:=by
 intro e;subst e;revert h;decide
section
variable {B:Nat}{C:dG}{W:ai}{DB D:Nat}{p:Int->Option Nat}{M:Dm}{nx c:Nat}{r:Int->Nat}
theorem Zz (h:dm B C W DB D p M nx c)(u:Wd M r)(hF:EU M)(x:Rl)(g:EH x)(nm:Bs)(n:Int)(v:eH n)(i j k:Nat)(l:W.cell? (aJ i 0)=some (bV nm))(m:W.cell? (aJ j 0)=some (aK DB))(o:W.cell? (aJ k 0)=some (ag n)):
  aL 171 #[rlV x,aK i,aK j,aK k] W λe w'=>e=ay (.bool (sw M nm n x))/\aD W w':=by
 have b:=dY W #[bV x.wh,bV x.nm,bV x.vl] 150;have a:=dR W (ak #[bV x.wh,bV x.nm,bV x.vl] 150);have q:=λV (w:aD W V)=>Re (h.below w) u hF x.wh g.2.2.2 (a7N g.1) n v;have s:=j5 x.nm nm;unfold sw;go_enter func171,ntmps171;go_upto_region 1 with fail;obtain⟨V,t⟩:∃V,W.alloc (ak #[bV x.wh,bV x.nm,bV x.vl] 150)=V:=⟨_,rfl⟩;rw[t] at b a⊢;clear t;have z:=(a.cell (aM l)).trans l;have A:=(a.cell (aM m)).trans m;have E:=(a.cell (aM o)).trans o;have F:=aQ b 0 _ rfl;have H:=aQ b 1 _ rfl;have I:=aQ b 2 _ rfl;have f:=q V a;clear q;cases d:(x.nm==nm) with
 |false=>
  rw[d] at s;go_wp2_with fail;go_ret;exact⟨by rw[d];rfl,a⟩
 |true=>
  rw[d] at s;go_wp2_with(go_at_call 103;refine f.mono ?_;rintro e J ⟨rfl,y⟩);go_ret;exact⟨by rw[d];rfl,bf a y⟩
end
def WtG (x:Rl):Prop:=∀V,aL 233 #[.agg #[bV x.wh]] V λe a=>e=ay (ag (wtM x.wh:Nat))/\aD V a
def RlG (x:Rl):Prop:=EH x/\WtG x/\∀(B:Nat) (h:dG) (W:ai) (a i:Nat) (p:Int->Option Nat) (M:Dm) (j c:Nat) (r:Int->Nat),dm B h W a i p M j c->Wd M r->EU M->∀(b:Bs) (n:Int),eH n->∀d f g:Nat,W.cell? (aJ d 0)=some (bV b)->W.cell? (aJ f 0)=some (aK a)->W.cell? (aJ g 0)=some (ag n)->
 aL 171 #[rlV x,aK d,aK f,aK g] W λe k=>e=ay (.bool (sw M b n x))/\aD W k
theorem rlG {x:Rl}(h:EH x):RlG x:=⟨h,λV=>UR x.wh h.2.2.2 V,λ_ _ _ _ _ _ _ _ _ _ a b hF c n d e f g i j k=>Zz a b hF x h c n d e f g i j k⟩
theorem NC (l:List Rl)(u:∀x∈l,WtG x)(d:Rl->Bool)(B0:Nat)(v:ax)(W:ai)(h:W.ownsRow B0 150 3 v l.length (fP l))(X Y Z:Nat)
  (hg:∀x V,x∈l->aD W V->aL 171 #[rlV x,aK X,aK Y,aK Z] V λe w'=>e=ay (.bool (d x))/\aD V w'):
  aL 170 #[v,.func (.func 171) #[] #[aK X,aK Y,aK Z]] W λe w'=>e=ay (aH #[bV (JC d l).1,.bool (JC d l).2.1])/\aD W w':=by
 obtain⟨o,M,QE,h1,h2,h3,h5⟩:=eT h;have a4:(l.length:Int)<=9223372036854775807:=by rw[dD] at h2;omega
 have a5:(l.length:Int)<=(M:Int):=aa;have N:=aF h;have HG:Hid _:=hg;have HK:=aF u;have H5:=aF h5;subst QE;clear h hg h5 h3 u;go_enter func170,ntmps170;go_wp2_with fail
 go_loopw [4,5,6,12] (λa b m y wr=>∃k:Nat,k<=l.length/\y=ag k/\a=bV (JC d (l.take k)).1/\b=.bool (JC d (l.take k)).2.1/\m=ag (JC d (l.take k)).2.2/\aD W wr) (λ_ _ _ y _=>l.length-(intOf y).toNat)
 case atStart=>exact⟨0,bA _,rfl,rfl,rfl,rfl,aW _ _⟩
 case round=>
  obtain⟨k,hk,rfl,rfl,rfl,rfl,j⟩:=hrel;by_cases O:k<l.length
  .have a6:(k:Int)<(l.length:Int):=aa;obtain⟨x,w⟩:∃x,l[k]? =some x:=⟨_,fD O⟩;obtain⟨q0,q1,q2⟩:=Lu w;obtain⟨g,p,c0⟩:=eF (bY N.out j) _ _ q0;obtain⟨g1,z,c1⟩:=eF (bY N.out j) _ _ q1;obtain⟨g2,B,c2⟩:=eF (bY N.out j) _ _ q2;rw[p] at z B;cases z;cases B;have P:=H5.out g p;subst P;have C:l.take (k+1)=l.take k++[x]:=by rw[eX,w];rfl
   have f:Hid (JC d (l.take (k+1))=lI d (JC d (l.take k)) x):=(by rw[C,a1m]:JC d (l.take (k+1))=lI d (JC d (l.take k)) x);have Q:Hid (WtG x):=HK.out x (ic w);have GX:=λV (hv:aD wr V)=>HG.out x V (ic w) (bf j hv);have R:=λV=>Q.out V;clear C w q0 q1 q2 p;obtain⟨A,hA⟩:∃A,JC d (l.take k)=A:=⟨_,rfl⟩;rw[hA] at f⊢;clear hA;obtain⟨av,af,D⟩:=A;obtain⟨I,q⟩:∃t,wtM x.wh=t:=⟨_,rfl⟩;simp only[q] at R;have r:=aF q;clear q;have S:=R (wr.alloc (ak #[bV x.wh,bV x.nm,bV x.vl] 150));have T:=dY wr #[bV x.wh,bV x.nm,bV x.vl] 150;have b3:=dR wr (ak #[bV x.wh,bV x.nm,bV x.vl] 150);go_upto_region 5 with fail;obtain⟨V3,QL⟩:∃V,wr.alloc (ak #[bV x.wh,bV x.nm,bV x.vl] 150)=V:=⟨_,rfl⟩;rw[QL] at S T b3⊢;clear QL R;have p0:=aQ T 0 _ rfl;go_upto_region 6 with(go_at_call 233;refine S.mono ?_;rintro e w4 ⟨rfl,b4⟩);clear S p0;have J:=gZ b4 T;have K:=bf b3 b4;have p0:=aQ J 0 _ rfl;have p1:=aQ J 1 _ rfl;have p2:=aQ J 2 _ rfl;by_cases E:D<=I
   .have F:(D:Int)<=(I:Int):=aa;have i:=GX w4 K;clear GX;cases s:d x with
    |true=>
     rw[s] at i;have n:JC d (l.take (k+1))=(x.vl,true,I):=by rw[f.out,FU (by rw[r.out];exact E) s,r.out]
     have c:=aF n;clear n s;go_upto_region 7 with(go_at_call 171;refine i.mono ?_;rintro e w5 ⟨rfl,L⟩);have r2:=aQ (gZ L J) 2 _ rfl;go_wp2_with fail
     go_roundw
     case rel=>exact⟨k+1,aa,by go_num,by rw[c.out],by rw[c.out],by rw[c.out],bf j (bf K L)⟩
     case measure=>simp[intOf];omega
    |false=>
     rw[s] at i;have n:JC d (l.take (k+1))=(av,af,D):=by rw[f.out,KF s]
     have c:=aF n;clear n s;go_wp2_with(go_at_call 171;refine i.mono ?_;rintro e w5 ⟨rfl,L⟩)
     go_roundw
     case rel=>exact⟨k+1,aa,by go_num,by rw[c.out],by rw[c.out],by rw[c.out],bf j (bf K L)⟩
     case measure=>simp[intOf];omega
   .have F:¬(D:Int)<=(I:Int):=aa;have n:JC d (l.take (k+1))=(av,af,D):=by rw[f.out,FT (by rw[r.out];exact E)]
    have c:=aF n;clear n;go_wp2_with fail
    go_roundw
    case rel=>exact⟨k+1,aa,by go_num,by rw[c.out],by rw[c.out],by rw[c.out],bf j K⟩
    case measure=>simp[intOf];omega
  .obtain rfl:k=l.length:=aa;have a7:¬(l.length:Int)<(l.length:Int):=aa;have H:l.take l.length=l:=gJ;have U:=aF H;clear H;rw[U.out];go_wp2_with fail
   go_ret2
   exact⟨rfl,j⟩
section
variable {B:Nat}{C:dG}{W:ai}{DB D:Nat}{p:Int->Option Nat}{M:Dm}{nx c:Nat}{r:Int->Nat}
def tdR:Option Bs->ax
 |none=>aH #[au ⟨#[]⟩,.bool false]
 |some v=>aH #[bV v,.bool true]
theorem Ie (b:Rl->Bool):∀(l:List Rl) (a:Bs×Bool×Nat),(a.2.1=false->a.1=[])->(l.foldl (lI b) a).2.1=false->(l.foldl (lI b) a).1=[]
 |[],_,c,h=>c h
 |x::l,a,c,h=>by
  rw[List.foldl_cons] at h⊢;refine Ie b l _ (λd=>?_) h;unfold lI at d⊢;grind
theorem a3q (h:dm B C W DB D p M nx c)(Y:Wd M r)(hF:EU M)(l:List Rl)(i:∀x∈l,RlG x)(B0:Nat)(v:ax)(q:W.ownsRow B0 150 3 v l.length (fP l))(nm:Bs)(n:Int)(E:eH n):
  aL 107 #[aK DB,v,ag n,bV nm] W λe w'=>e=ay (tdR (yH M l nm n))/\aD W w':=by
 obtain⟨F,H,I, -,m⟩:=jL W (ak #[aK DB] 74) (ak #[ag n] 3) (ak #[bV nm] 9);obtain⟨Z,kv,s⟩:=bD q;subst s;have J:=aF h;have HL:=aF q;have K:=aF i;clear h q i;obtain⟨a4,a⟩:∃x,yH M l nm n=x:=⟨_,rfl⟩;have d:=a;unfold yH at d;rw[a];clear a;have t:=λV (L:aD W V)=>nL (J.out.below L) n E nm;have j:UB M n nm=EI M n nm:=rfl;simp only[j] at t;clear j;go_enter func107,ntmps107;go_upto_region 1 with fail;obtain⟨V,N⟩:∃V,((W.alloc (ak #[aK DB] 74)).alloc (ak #[ag n] 3)).alloc (ak #[bV nm] 9)=V:=⟨_,rfl⟩;rw[N] at F H I m⊢;clear N;have O:=dK F;have P:=dK H;have Q:=dK I;have f:=t V m;clear t;cases R:EI M n nm with
 |some av=>
  rw[R] at d f;subst d;simp only[Option.getD_some,Option.isSome_some] at f;go_wp2_with(go_at_call 169;refine f.mono ?_;rintro e S ⟨rfl,g⟩)
  go_ret2
  exact⟨rfl,bf m g⟩
 |none=>
  rw[R] at d f;simp only[Option.getD_none,Option.isSome_none] at f;go_upto_region 4 with(go_at_call 169;refine f.mono ?_;rintro e S ⟨rfl,g⟩);have u:=bf m g;have T:=NC l (λx w=>(K.out x w).2.1) (sw M nm n) B0 (aj Z l.length kv) S (bY HL.out u) (W.heap.size+1+1) W.heap.size (W.heap.size+1) (λx X w o=>(K.out x w).2.2 _ _ _ _ _ _ _ _ _ _ (J.out.below (bf u o)) Y hF nm n E _ _ _ (((bf g o).cell (aM Q)).trans Q) (((bf g o).cell (aM O)).trans O) (((bf g o).cell (aM P)).trans P));have k:=Ie (sw M nm n) l ([],false,0) (λ_=>rfl);have b:(JC (sw M nm n) l).2.1=false->(JC (sw M nm n) l).1=[]:=k;obtain⟨A,U⟩:∃A,JC (sw M nm n) l=A:=⟨_,rfl⟩;rw[U] at T d b;clear U k;obtain⟨L,hf,hm⟩:=A;have y:=aF d;have z:=aF b;clear d b f;go_wp2_with(go_at_call 170;refine T.mono ?_;rintro e w2 ⟨rfl,b2⟩)
  go_ret2
  refine⟨?_,bf u b2⟩;rw[<- y.out];cases hf with
  |true=>rfl
  |false=>rw[z.out rfl];rfl
end
section
variable {B:Nat}{C:dG}{W:ai}{DB D:Nat}{p:Int->Option Nat}{M:Dm}{nx c:Nat}{r:Int->Nat}
theorem a3r (h:dm B C W DB D p M nx c)(n:Int):eH (yo M n):=by
 unfold yo;cases a:M n with
 |none=>exact WalkArith.wf_i64 aC
 |some e=>exact(h.wf n e a).1
theorem a3s (h:dm B C W DB D p M nx c)(hw:Wd M r)(hF:EU M)(l:List Rl)(K:∀x∈l,RlG x)(B0:Nat)(v:ax)(Z:W.ownsRow B0 150 3 v l.length (fP l))(n:Int)(hn:eH n)(nm:Bs):
  aL 56 #[aK DB,v,ag n,bV nm] W λe w'=>e=ay (bV (ofM M l nm n))/\aD W w':=by
 obtain⟨ov,kv,a4⟩:=bD Z;subst a4;have E:=tX h n hn;have L:=Eh nm W;have HD:=aF h;have HL:=aF Z;have HK:=aF K;have HF:=aF hF;have F:=aF hw;clear h Z K hw hF;cases j:M n with
 |none=>
  rw[j] at E;have t:ofM M l nm n=[]:=by unfold ofM;rw[j];rfl
  rw[t];clear t j;go_enter func56,ntmps56;go_wp2_with(go_at_call 104;refine E.mono ?_;rintro e b ⟨rfl,h⟩;rw[h];clear h);go_ret;exact⟨rfl,aW _ _⟩
 |some N=>
  rw[j] at E;have a5:=(HF.out n N j).1;have u:=j5 N.name [];have a6:(N.name==[])=false:=by simpa using a5
  rw[a6] at u;cases U:Dz nm with
  |false=>
   rw[U] at L;have t:ofM M l nm n=[]:=by unfold ofM;rw[U];simp
   rw[t];clear t j;go_enter func56,ntmps56;go_wp2_with(first|(go_at_call 104;refine E.mono ?_;rintro e b ⟨rfl,h⟩;rw[h];clear h)|(go_at_call 105;refine L.mono ?_;rintro e b ⟨rfl,h⟩;rw[h];clear h));go_ret;exact⟨rfl,aW _ _⟩
  |true=>
   rw[U] at L;have t:=aaL (l:=l) j U;rw[t];obtain⟨d,i⟩:∃x,Mw M l nm 12 n=x:=⟨_,rfl⟩;rw[i];have a7:=aF i;have a8:=aF j;have b4:=(F.out.rb n N j).2;clear t i j;go_enter func56,ntmps56;go_upto_region 3 with(first|(go_at_call 104;refine E.mono ?_;rintro e b ⟨rfl,h⟩;rw[h];clear h)|(go_at_call 105;refine L.mono ?_;rintro e b ⟨rfl,h⟩;rw[h];clear h));clear E L
   go_loopw [2] (λy wr=>∃(f:Nat) (k:Int),y=ag k/\eH k/\Mw M l nm f k=d/\(k<0\/∃e,M k=some e/\r k<=f)/\aD W wr) (λy _=>if intOf y<0 then 0 else r (intOf y))
   case atStart=>exact⟨12,n,rfl,hn,a7.out,.inr ⟨N,a8.out,aa⟩,aW _ _⟩
   case round=>
    obtain⟨f,k,rfl,O,P,m,w⟩:=hrel;have o:=aF P;have a9:=aF m;clear P m;have FO:=λV=>Ef nm V;by_cases hk:k<0
    .have s:¬(0:Int)<=k:=aa;have a:d=firstM nm:=by rw[<- o.out,a6b l nm f hk]
     subst a;have z:=FO wr;go_wp2_with(go_at_call 109;refine z.mono ?_;rintro e b ⟨rfl,h⟩;rw[h];clear h);go_ret;exact⟨rfl,w⟩
    .have s:(0:Int)<=k:=aa;have m:∃e,M k=some e/\r k<=f:=by
      rcases a9.out with h|h
      .exact absurd h hk
      .exact h
     obtain⟨ek,A,b5⟩:=m;have b6:=(F.out.rb k ek A).1;obtain⟨f,rfl⟩:∃g,f=g+1:=⟨f-1,aa⟩;have b0:=aF A;clear A;have H:=a3q (HD.out.below w) F.out HF.out l HK.out B0 _ (bY HL.out w) nm k O;cases I:yH M l nm k with
     |some tv=>
      rw[I] at H;unfold tdR at H;have a:d=tv:=by rw[<- o.out,a1p f s I]
      subst a;clear I;go_wp2_with(go_at_call 107;refine H.mono ?_;rintro e b ⟨rfl,Q⟩);go_ret;exact⟨rfl,bf w Q⟩
     |none=>
      rw[I] at H;unfold tdR at H;have HT:=aF I;clear I;go_upto_region 8 with(go_at_call 107;refine H.mono ?_;rintro e b ⟨rfl,Q⟩);have X:=Zk nm b;have PA:aL 106 #[aK DB,ag k] b λr w'=>r=ay (ag (yo M k))/\w'=b:=GR (HD.out.below (bf w Q)) k O;have z:=FO b;cases J:Kz nm with
      |false=>
       rw[J] at X;have a:d=firstM nm:=by rw[<- o.out,a6c f s HT.out J]
       subst a;clear J;go_wp2_with(first|(go_at_call 108;refine X.mono ?_;rintro e w2 ⟨rfl,h⟩;rw[h];clear h)|(go_at_call 109;refine z.mono ?_;rintro e b ⟨rfl,h⟩;rw[h];clear h));go_ret;exact⟨rfl,bf w Q⟩
      |true=>
       rw[J] at X;have a:Mw M l nm f (yo M k)=d:=by rw[<- o.out,aaK f s HT.out J]
       have QD:(yo M k<0)\/((0<=yo M k)/\∃q,M (yo M k)=some q/\r k=r (yo M k)+1):=by
        by_cases h0:k=0
        .subst h0;rw[F.out.a1o];exact .inl aC
        .obtain⟨q,u,hr⟩:=F.out.aaJ b0.out h0;exact .inr ⟨F.out.pos u,q,u,hr⟩
       have R:=a3r HD.out k;obtain⟨Y,S⟩:∃x,yo M k=x:=⟨_,rfl⟩;rw[S] at a QD R PA;have b2:=aF a;have T:=aF QD;clear J S a QD;go_wp2_with(first|(go_at_call 108;refine X.mono ?_;rintro e w2 ⟨rfl,h⟩;rw[h];clear h)|(go_at_call 106;refine PA.mono ?_;rintro e b ⟨rfl,h⟩;rw[h];clear h))
       go_roundw
       case rel=>
        refine⟨f,Y,rfl,R,b2.out,?_,bf w Q⟩;rcases T.out with h|⟨_,q,u,hr⟩
        .exact .inl h
        .exact .inr ⟨q,u,aa⟩
       case measure=>
        have b3:¬k<0:=aa;show(if Y<0 then 0 else r Y)<(if k<0 then 0 else r k);rw[aG b3];rcases T.out with h|⟨h1,q,u,hr⟩
        .rw[aR h];omega
        .rw[aG (show¬Y<0 by omega)];omega
end
end
open Go.RowKit Go.Shelf
structure NE (E:Nat->Addr)(w:ai):Prop where
 c1:w.cell? (aJ 1 0)=some (eV (E 1))
 c2:w.cell? (aJ 0 0)=some (eV (E 2))
 c3:w.cell? (aJ 2 0)=some (eV (E 3))
 c7:w.cell? (aJ 6 0)=some (eV (E 7))
 c9:w.cell? (aJ 8 0)=some (eV (E 9))
 c10:w.cell? (aJ 9 0)=some (eV (E 10))
 sy:∃a,w.cell? (aJ 16 0)=some (eV a)
 rg:∃a,w.cell? (aJ 17 0)=some (eV a)
 tab:Lib.TabIs prog w "internal/strconv.uint64pow10" .u64 Lib.pow10Tab
 blk:∀k,1<=k->k<=10->∃c t,w.heap[(E k).block]? =some (ak c t (0,0))
 ne:∀j k,1<=j->j<=10->1<=k->k<=10->j≠k->E j≠E k
theorem dI {w:ai}{b:Nat}{o:Obj}(h:w.heap[b]? =some o):b<w.heap.size:=(eY.1 h).1
def TM (E:Nat->Addr)(c:Nat)(v:ax)(w:ai):Prop:=1<=c/\c<=10/\(v=eV (E c)\/∃a b,v=aU 67 (.pointer (some ⟨a,b,none⟩))/\w.cell? (aJ a (b+1))=some (eV (E c)))
def FtV (E:Nat->Addr)(f:Ft)(a:Nat)(v:ax)(w:ai):Prop:=∃b,a<=b/\v=aU 67 (aK b)/\w.heap[b]? =some (ak #[ag f.pl,eV (E f.code)] 71)
theorem a7O {E:Nat->Addr}{w:ai}{c:Nat}{v:ax}(h:NE E w)(b:TM E c v w):
  aL 35 #[v,eV (E 2)] w λe w'=>e=ay (.bool (decide (c=2)))/\w'=w:=by
 obtain⟨d,f,b⟩:=b;obtain⟨j,k,g⟩:=h.blk c d f;obtain⟨l,m,a⟩:=h.blk 2 aa aa;rcases b with rfl|⟨n,o,rfl,i⟩
 .by_cases e:c=2
  .subst e;simp only[decide_true];exact a7B _ _
  .simp only[e,decide_false];exact a2V _ _ _ _ _ _ _ (h.ne c 2 d f aa aa e) g a
 .by_cases e:c=2
  .subst e;simp only[decide_true];exact JX _ _ _ _ i
  .simp only[e,decide_false];exact I9 _ _ _ _ _ _ _ _ _ i (h.ne c 2 d f aa aa e) g a
theorem xm {E:Nat->Addr}{w:ai}{c:Nat}{v:ax}(h:NE E w)(b:TM E c v w)(n:Int):
  aL 132 #[ag n,v] w λe w'=>∃u,e=ay u/\FtV E ⟨wU c,n⟩ w.heap.size u w'/\aD w w':=by
 have a:=a7O h b;have i:=h.c2;have f:=h.c10;clear h b;unfold wU;by_cases d:c=2
 .simp only[d,decide_true,if_true] at a⊢;go_enter func132,ntmps132;go_wp2_with(go_at_call 35;refine a.mono ?_;rintro e g ⟨rfl,rfl⟩);go_ret;exact⟨_,rfl,⟨_,bJ _,rfl,fE _ _⟩,(aW _ _).alloc az _⟩
 .simp only[d,decide_false,if_false] at a⊢;go_enter func132,ntmps132;go_wp2_with(go_at_call 35;refine a.mono ?_;rintro e g ⟨rfl,rfl⟩);go_ret;exact⟨_,rfl,⟨_,bJ _,rfl,fE _ _⟩,(aW _ _).alloc az _⟩
def iM (w:ai)(p:Option Nat):List (Int×Mv)->Prop
 |[]=>p=none
 |(n,m)::r=>∃b q,p=some b/\w.heap[b]? =some (ak #[ag n,.pointer (q.map λx=>⟨x,0,none⟩),ag m.a.n,ag m.a.d,ag m.b.n,ag m.b.d,ag m.c.n,ag m.c.d,ag m.d.n,ag m.d.d,ag m.e.n,ag m.e.d,ag m.f.n,ag m.f.d] 168)/\iM w q r
abbrev pV (p:Option Nat):ax:=.pointer (p.map λx=>⟨x,0,none⟩)
theorem iM.keep {w w':ai}(a:∀(b:Nat) (t:Obj),w.heap[b]? =some t->(∃c,t=ak c 168)->w'.heap[b]? =some t):∀{p:Option Nat} {l:List (Int×Mv)},iM w p l->iM w' p l
 |_,[],h=>h
 |_,(_,_)::_,⟨b,q,h1,h2,h3⟩=>⟨b,q,h1,a b _ h2 ⟨_,rfl⟩,iM.keep a h3⟩
def WiR (n:Int)(l:List (Int×Mv))(w:ai)(e:Ending)(w':ai):Prop:=e=ay (.bool (decide (n∈l.map Prod.fst)))/\w'=w
def WiL (n:Int)(l:List (Int×Mv))(w:ai)(g:Nat)(y:ax)(wr:ai):Prop:=∃(p:Option Nat) (r:List (Int×Mv)),y=pV p/\iM w p r/\(n∈l.map Prod.fst↔n∈r.map Prod.fst)/\r.length<=g/\wr=w
theorem uX (w:ai)(p:Option Nat)(l:List (Int×Mv))(n:Int)(h:iM w p l):
    aL 129 #[pV p,ag n] w λe w'=>WiR n l w e w':=by
  have u:=aF h;clear h;go_enter func129,ntmps129;go_upto_region 1 with fail
  go_loopg [0] l.length (λg y wr=>WiL n l w g y wr)
  case atStart=>exact⟨p,l,rfl,u.out,Iff.rfl,bJ _,rfl⟩
  case round=>
    obtain⟨p,r,rfl,hP,c,a,rfl⟩:=hrel;have d:=aF c;clear c
    match r,hP,a,d with
    |[],hP,a,d=>
      obtain rfl:p=none:=hP;have j:Hid (decide (n∈l.map Prod.fst)=false):=iU (λh=>by have:=d.out.1 h;simp at this);clear hP;simp only[pV,Option.map_none];go_wp2;go_ret;exact⟨by rw[j.out];rfl,rfl⟩
    |(k,m)::r,⟨b,q,v,o,t⟩,a,d=>
      subst v;have B:=aQ o 0 _ rfl;have z:=aQ o 1 _ rfl;have A:=aF t;clear o t;simp only[pV,Option.map_some];by_cases f:k=n
      . have j:Hid (decide (n∈l.map Prod.fst)=true):=decide_eq_true (d.out.2 (by simp[f]))
        have s:(k==n)=true:=by simpa using f
        clear f;go_wp2;go_ret;exact⟨by rw[j.out];rfl,rfl⟩
      . have s:(k==n)=false:=by simpa using f
        obtain⟨C,i⟩:∃x,(Option.map (λx=>(⟨x,0,none⟩:Addr)) q)=x:=⟨_,rfl⟩;rw[i] at z;go_wp2
        go_roundg r.length
        case measure=>simp at a;omega
        case rel=>
          rw[<- i];refine⟨q,r,rfl,A.out,d.out.trans ?_,bJ _,rfl⟩;simp[Ne.symm f]

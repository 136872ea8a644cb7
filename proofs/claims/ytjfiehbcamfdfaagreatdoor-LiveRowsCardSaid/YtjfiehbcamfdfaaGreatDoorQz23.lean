/- Parts of the proof. -/
import Derived.Test.YtjfiehbcamfdfaaGreatDoorQz22
namespace Go.Proofs.YtjfiehbcamfdfaaGreatDoor
section
section
variable {M M':Dm}{r:Int->Nat}
structure a0q (M M':Dm)(nx par:Int):Prop where
 was:M nx=none
 pos:0<=nx
 new:∃e,M' nx=some e/\e.parent=par/\e.kids=[]
 old:∀i e,M i=some e->∃e',M' i=some e'/\e'.parent=e.parent/\e'.kids.Nodup/\∀x,x∈e'.kids↔(x=nx/\i=par)\/x∈e.kids
 non:∀i,i≠nx->M i=none->M' i=none
theorem Wd.add (h:Wd M r){nx par:Int}{q:dO}(hv:a0q M M' nx par)(hq:M par=some q)(hr:r par<10):Wd M' (fun i=>if i=nx then r par+1 else r i):=by
 have hp:par≠nx:=fun e=>by
  rw[e,hv.was] at hq;exact absurd hq (by simp)
 have back:∀i e',M' i=some e'->i≠nx->∃e,M i=some e/\e'.parent=e.parent/\e'.kids.Nodup/\∀x,x∈e'.kids↔(x=nx/\i=par)\/x∈e.kids:=fun i e' he' hi=>by
  cases he:M i with
  |none=>
   rw[hv.non i hi he] at he';exact absurd he' (by simp)
  |some e=>
   obtain⟨e1,h1,h2⟩:=hv.old i e he;rw[h1] at he';cases he';exact⟨e,rfl,h2⟩
 obtain⟨en,hn1,hn2,hn3⟩:=hv.new;obtain⟨e0,hr1,hr2⟩:=h.root;have h0:(0:Int)≠nx:=fun e=>by
  rw[e,hv.was] at hr1;exact absurd hr1 (by simp)
 refine⟨?_,?_,?_,?_,?_,?_,?_⟩
 ·obtain⟨e1,h1,h2,_⟩:=hv.old 0 e0 hr1;exact⟨e1,h1,h2.trans hr2⟩
 ·intro i hi;have:=hv.pos;exact hv.non i (by omega) (h.neg i hi)
 ·intro i e' he' hi0;by_cases hi:i=nx
  ·subst hi;rw[hn1] at he';cases he';obtain⟨q',h1,_,_,h4⟩:=hv.old par q hq;rw[hn2];refine⟨q',h1,(h4 _).2 (.inl ⟨rfl,rfl⟩),?_⟩;simp only[if_pos,if_neg hp]
  ·obtain⟨e,h1,h2,_,_⟩:=back i e' he' hi;obtain⟨q1,h5,h6,h7⟩:=h.up i e h1 hi0;obtain⟨q',h8,_,_,h9⟩:=hv.old _ q1 h5;rw[h2];refine⟨q',h8,(h9 _).2 (.inr h6),?_⟩;have hne:e.parent≠nx:=fun e1=>by
    rw[e1,hv.was] at h5;exact absurd h5 (by simp)
   simp only[if_neg hi,if_neg hne];exact h7
 ·intro i e' k he' hk;by_cases hi:i=nx
  ·subst hi;rw[hn1] at he';cases he';rw[hn3] at hk;exact absurd hk (by simp)
  ·obtain⟨e,h1,h2,_,h4⟩:=back i e' he' hi;rcases(h4 k).1 hk with⟨rfl,rfl⟩|hk
   ·exact⟨en,hn1,hn2,fun e=>h0 e.symm⟩
   ·obtain⟨x,h5,h6,h7⟩:=h.down i e k h1 hk;obtain⟨x',h8,h9,_⟩:=hv.old k x h5;exact⟨x',h8,h9.trans h6,h7⟩
 ·intro i e' he';by_cases hi:i=nx
  ·subst hi;rw[hn1] at he';cases he';rw[hn3];exact List.nodup_nil
  ·obtain⟨_,_,_,h3,_⟩:=back i e' he' hi;exact h3
 ·simp only[if_neg h0];exact h.r0
 ·intro i e' he';by_cases hi:i=nx
  ·simp only[if_pos hi];omega
  ·simp only[if_neg hi];obtain⟨e,h1,_⟩:=back i e' he' hi;exact h.rb i e h1
theorem a0q.count {nx par:Int}(hv:a0q M M' nx par){c:Nat}(hc:Cd M c):Cd M' (c+1):=by
 obtain⟨l,h1,rfl,h3⟩:=hc;refine⟨nx::l,List.nodup_cons.2 ⟨fun hm=>(h3 nx).1 hm hv.was,h1⟩,rfl,fun x=>?_⟩;rw[List.mem_cons,h3];by_cases hx:x=nx
 ·subst hx;obtain⟨en,hn1,_⟩:=hv.new;simp[hn1]
 ·cases he:M x with
  |none=>simp[hx,hv.non x hx he]
  |some e=>
   obtain⟨e1,h4,_⟩:=hv.old x e he;simp[h4]
structure a0r (M M':Dm)(n:Int):Prop where
 out:∀i,Bl M n i->M' i=none
 old:∀i e,M i=some e->¬Bl M n i->∃e',M' i=some e'/\e'.parent=e.parent/\e'.kids.Nodup/\∀x,x∈e'.kids↔x≠n/\x∈e.kids
 non:∀i,M i=none->M' i=none
theorem Wd.cut (h:Wd M r){n:Int}(hv:a0r M M' n)(hn:¬Bl M n 0):Wd M' r:=by
 have back:∀i e',M' i=some e'->∃e,M i=some e/\¬Bl M n i/\e'.parent=e.parent/\e'.kids.Nodup/\∀x,x∈e'.kids↔x≠n/\x∈e.kids:=fun i e' he'=>by
  have hb:¬Bl M n i:=fun hb=>by
   rw[hv.out i hb] at he';exact absurd he' (by simp)
  cases he:M i with
  |none=>
   rw[hv.non i he] at he';exact absurd he' (by simp)
  |some e=>
   obtain⟨e1,h1,h2⟩:=hv.old i e he hb;rw[h1] at he';cases he';exact⟨e,rfl,hb,h2⟩
 obtain⟨e0,hr1,hr2⟩:=h.root;refine⟨?_,fun i hi=>hv.non i (h.neg i hi),?_,?_,?_,h.r0,?_⟩
 ·obtain⟨e1,h1,h2,_⟩:=hv.old 0 e0 hr1 hn;exact⟨e1,h1,h2.trans hr2⟩
 ·intro i e' he' hi0;obtain⟨e,h1,hb,h2,_,_⟩:=back i e' he';obtain⟨q1,h5,h6,h7⟩:=h.up i e h1 hi0;obtain⟨q',h8,_,_,h9⟩:=hv.old _ q1 h5 (fun hp=>hb (.kid h1 hi0 hp));rw[h2];refine⟨q',h8,(h9 _).2 ⟨fun e1=>?_,h6⟩,h7⟩;subst e1;exact hb (.self h1)
 ·intro i e' k he' hk;obtain⟨e,h1,hb,h2,_,h4⟩:=back i e' he';obtain⟨hkn,hk⟩:=(h4 k).1 hk;obtain⟨x,h5,h6,h7⟩:=h.down i e k h1 hk;have hbk:¬Bl M n k:=fun hbk=>by
   cases hbk with
   |self _=>exact hkn rfl
   |kid hx _ hp=>
    rw[h5] at hx;cases hx;rw[h6] at hp;exact hb hp
  obtain⟨x',h8,h9,_⟩:=hv.old k x h5 hbk;exact⟨x',h8,h9.trans h6,h7⟩
 ·intro i e' he';obtain⟨_,_,_,_,h3,_⟩:=back i e' he';exact h3
 ·intro i e' he';obtain⟨e,h1,_⟩:=back i e' he';exact h.rb i e h1
theorem a0r.count {n:Int}(hv:a0r M M' n){c:Nat}(hc:Cd M c){L:List Int}(hl:L.Nodup)(hL:∀x,x∈L↔Bl M n x):Cd M' (c-L.length)/\L.length<=c:=by
 obtain⟨l,h1,rfl,h3⟩:=hc;have hp:l.Perm (L++l.filter (fun x=> !decide (x∈L))):=by
  refine(List.perm_ext_iff_of_nodup h1 ?_).2 fun x=>?_
  ·rw[List.nodup_append];refine⟨hl,h1.filter _,fun a ha b hb hab=>?_⟩;subst hab;simp[ha] at hb
  ·rw[List.mem_append,List.mem_filter];by_cases hx:x∈L
   ·obtain⟨e,he⟩:=((hL x).1 hx).in_;simp[hx,h3,he]
   ·simp[hx]
 have hlen:=hp.length_eq;rw[List.length_append] at hlen;refine⟨⟨l.filter (fun x=> !decide (x∈L)),h1.filter _,by omega,fun x=>?_⟩,by omega⟩;rw[List.mem_filter,h3];by_cases hx:x∈L
 ·simp[hx,hv.out x ((hL x).1 hx)]
 ·cases he:M x with
  |none=>simp[hv.non x he]
  |some e=>
   obtain⟨e1,h4,_⟩:=hv.old x e he (fun hb=>hx ((hL x).2 hb));simp[hx,h4]
structure vO (M M':Dm)(n par:Int):Prop where
 old:∀i e,M i=some e->∃e',M' i=some e'/\e'.parent=(if i=n then par else e.parent)/\e'.kids.Nodup/\∀x,x∈e'.kids↔(x=n/\i=par)\/(x≠n/\x∈e.kids)
 non:∀i,M i=none->M' i=none
theorem Wd.move (h:Wd M r){n par:Int}{e q:dO}(hv:vO M M' n par)(hn:M n=some e)(h0:n≠0)(hq:M par=some q)(hp:¬Bl M n par){L:List Int}(hL:∀x,x∈L↔Bl M n x)(hb:∀x∈L,r x+1+r par<=10+r n):
  Wd M' (fun x=>if x∈L then r x+r par+1-r n else r x):=by
 have back:∀i e',M' i=some e'->∃e,M i=some e/\e'.parent=(if i=n then par else e.parent)/\e'.kids.Nodup/\∀x,x∈e'.kids↔(x=n/\i=par)\/(x≠n/\x∈e.kids):=fun i e' he'=>by
  cases he:M i with
  |none=>
   rw[hv.non i he] at he';exact absurd he' (by simp)
  |some e=>
   obtain⟨e1,h1,h2⟩:=hv.old i e he;rw[h1] at he';cases he';exact⟨e,rfl,h2⟩
 have hnL:n∈L:=(hL n).2 (.self hn);have hpL:par ∉ L:=fun hm=>hp ((hL par).1 hm);obtain⟨e0,hr1,hr2⟩:=h.root;have h0L:(0:Int) ∉ L:=fun hm=>by
  cases(hL 0).1 hm with
  |self _=>exact h0 rfl
  |kid _ hx _=>exact hx rfl
 refine⟨?_,fun i hi=>hv.non i (h.neg i hi),?_,?_,?_,?_,?_⟩
 ·obtain⟨e1,h1,h2,_⟩:=hv.old 0 e0 hr1;refine⟨e1,h1,?_⟩;rw[h2,if_neg (fun e=>h0 e.symm)];exact hr2
 ·intro i e' he' hi0;obtain⟨e1,h1,h2,_,_⟩:=back i e' he';by_cases hi:i=n
  ·subst hi;obtain⟨q',h3,_,_,h4⟩:=hv.old par q hq;rw[h2,if_pos rfl];refine⟨q',h3,(h4 _).2 (.inl ⟨rfl,rfl⟩),?_⟩;simp only[if_pos hnL,if_neg hpL];omega
  ·obtain⟨q1,h5,h6,h7⟩:=h.up i e1 h1 hi0;obtain⟨q',h8,_,_,h9⟩:=hv.old _ q1 h5;rw[h2,if_neg hi];refine⟨q',h8,(h9 _).2 (.inr ⟨hi,h6⟩),?_⟩;by_cases hiL:i∈L
   ·have GY:e1.parent∈L:=by
     cases(hL i).1 hiL with
     |self _=>exact absurd rfl hi
     |kid hx _ hb=>
      rw[h1] at hx;cases hx;exact(hL _).2 hb
    have hlow:=(h.low ((hL _).1 GY)).1;simp only[if_pos hiL,if_pos GY];omega
   ·have GY:e1.parent ∉ L:=fun hm=>hiL ((hL i).2 (.kid h1 hi0 ((hL _).1 hm)));simp only[if_neg hiL,if_neg GY];exact h7
 ·intro i e' k he' hk;obtain⟨e1,h1,h2,_,h4⟩:=back i e' he';rcases(h4 k).1 hk with⟨rfl,rfl⟩|⟨hkn,hk⟩
  ·obtain⟨e2,h5,h6,_⟩:=hv.old k e hn;exact⟨e2,h5,by rw[h6,if_pos rfl],h0⟩
  ·obtain⟨x,h5,h6,h7⟩:=h.down i e1 k h1 hk;obtain⟨x',h8,h9,_⟩:=hv.old k x h5;exact⟨x',h8,by rw[h9,if_neg hkn];exact h6,h7⟩
 ·intro i e' he';obtain⟨_,_,_,h3,_⟩:=back i e' he';exact h3
 ·simp only[if_neg h0L];exact h.r0
 ·intro i e' he';obtain⟨e1,h1,_⟩:=back i e' he';have:=h.rb i e1 h1;by_cases hi:i∈L
  ·have h3:=hb i hi;have h4:=(h.low ((hL i).1 hi)).1;simp only[if_pos hi];omega
  ·simp only[if_neg hi];exact this
theorem vO.count {n par:Int}(hv:vO M M' n par){c:Nat}(hc:Cd M c):Cd M' c:=by
 obtain⟨l,h1,h2,h3⟩:=hc;refine⟨l,h1,h2,fun x=>?_⟩;rw[h3];cases he:M x with
 |none=>simp[hv.non x he]
 |some e=>
  obtain⟨e1,h4,_⟩:=hv.old x e he;simp[h4]
end
mutual
def Lt (d:Nat):Nd->List Nat
 | .mk _ _ ks=>d::PV (d+1) ks
def PV (d:Nat):List Nd->List Nat
 |[]=>[]
 |n::l=>Lt d n++PV d l
end
mutual
theorem kD:∀(n:Nd) (d:Nat),(Lt d n).length=gu n
 | .mk nm ats ks,d=>by rw[Lt,gu,List.length_cons,PX ks]
theorem PX:∀(l:List Nd) (d:Nat),(PV d l).length=jd l
 |[],_=>rfl
 |n::l,d=>by rw[PV,jd,List.length_append,kD n,PX l]
end
theorem JU (n:Nd)(d:Nat):(Lt d n)[0]? =some d:=by
 cases n;rw[Lt];rfl
mutual
theorem PY:∀(n:Nd) (d a:Nat),a∈Lt d n->d<=a
 | .mk nm ats ks,d,a,h=>by
  rw[Lt] at h;rcases List.mem_cons.1 h with rfl|h
  ·exact Nat.le_refl _
  ·have:=PZ ks (d+1) a h;omega
theorem PZ:∀(l:List Nd) (d a:Nat),a∈PV d l->d<=a
 |[],_,_,h=>by simp[PV] at h
 |n::l,d,a,h=>by
  rw[PV] at h;rcases List.mem_append.1 h with h|h
  ·exact PY n d a h
  ·exact PZ l d a h
end
mutual
theorem X7:∀(n:Nd) (k:Nat) (p:Int) (d j:Nat) (e:dO),(oK k p n)[j]? =some e->0<j->∃(i:Nat) (q:dO) (a:Nat),(oK k p n)[i]? =some q/\e.parent=k+i/\(k:Int)+j∈q.kids/\(Lt d n)[i]? =some a/\(Lt d n)[j]? =some (a+1)
 | .mk nm ats ks,k,p,d,0,e,h,hj=>absurd hj (Nat.lt_irrefl _)
 | .mk nm ats ks,k,p,d,j+1,e,h,_=>by
  rw[oK] at h⊢;rw[Lt];rcases X8 ks (k+1) k (d+1) j e (by simpa using h) with⟨h1,h2,h3⟩|⟨i,q,a,h1,h2,h3,h4,h5⟩
  ·refine⟨0,_,d,rfl,by omega,?_,rfl,by simpa using h3⟩;rw[show(k:Int)+(j+1:Nat)=((k+1:Nat):Int)+j from by omega];exact h2
  ·refine⟨i+1,q,a,by simpa using h1,by omega,?_,by simpa using h4,by simpa using h5⟩;rw[show(k:Int)+(j+1:Nat)=((k+1:Nat):Int)+j from by omega];exact h3
theorem X8:∀(l:List Nd) (k:Nat) (p:Int) (d j:Nat) (e:dO),(qb k p l)[j]? =some e->(e.parent=p/\(k:Int)+j∈rP k l/\(PV d l)[j]? =some d)\/∃(i:Nat) (q:dO) (a:Nat),(qb k p l)[i]? =some q/\e.parent=k+i/\(k:Int)+j∈q.kids/\(PV d l)[i]? =some a/\(PV d l)[j]? =some (a+1)
 |[],_,_,_,_,_,h=>by simp[qb] at h
 |n::l,k,p,d,j,e,h=>by
  rw[qb] at h⊢;rw[PV];by_cases hj:j<gu n
  ·rw[List.getElem?_append_left (by rw[fq];exact hj)] at h;by_cases h0:j=0
   ·subst h0;rcases OH n k p 0 e h with h1|h1
    ·refine .inl ⟨h1.2,by rw[rP];simp,?_⟩;rw[List.getElem?_append_left (by rw[kD];exact hj)];exact JU n d
    ·omega
   ·obtain⟨i,q,a,h1,h2,h3,h4,h5⟩:=X7 n k p d j e h (by omega);refine .inr ⟨i,q,a,?_,h2,h3,?_,?_⟩
    ·rw[List.getElem?_append_left (List.getElem?_eq_some_iff.1 h1).1];exact h1
    ·rw[List.getElem?_append_left (List.getElem?_eq_some_iff.1 h4).1];exact h4
    ·rw[List.getElem?_append_left (List.getElem?_eq_some_iff.1 h5).1];exact h5
  ·rw[List.getElem?_append_right (by rw[fq];omega),fq] at h;have hk:(k:Int)+j=((k+gu n:Nat):Int)+(j-gu n:Nat):=by omega
   rcases X8 l (k+gu n) p d (j-gu n) e h with⟨h1,h2,h3⟩|⟨i,q,a,h1,h2,h3,h4,h5⟩
   ·refine .inl ⟨h1,?_,?_⟩
    ·rw[rP,hk];exact List.mem_cons_of_mem _ h2
    ·rw[List.getElem?_append_right (by rw[kD];omega),kD];exact h3
   ·refine .inr ⟨gu n+i,q,a,?_,by omega,by rw[hk];exact h3,?_,?_⟩
    ·rw[List.getElem?_append_right (by rw[fq];omega),fq,show gu n+i-gu n=i from by omega];exact h1
    ·rw[List.getElem?_append_right (by rw[kD];omega),kD,show gu n+i-gu n=i from by omega];exact h4
    ·rw[List.getElem?_append_right (by rw[kD];omega),kD];exact h5
end
theorem X9:∀(l:List Nd) (k:Nat) (p x:Int),x∈rP k l->∃(j:Nat) (e:dO),x=k+j/\(qb k p l)[j]? =some e/\e.parent=p
 |[],_,_,_,h=>by simp[rP] at h
 |n::l,k,p,x,h=>by
  rw[rP] at h;rw[qb];rcases List.mem_cons.1 h with rfl|h
  ·obtain⟨nm,ats,ks⟩:=n;rw[oK];exact⟨0,_,by omega,rfl,rfl⟩
  ·obtain⟨j,e,h1,h2,h3⟩:=X9 l (k+gu n) p x h;refine⟨gu n+j,e,by omega,?_,h3⟩;rw[List.getElem?_append_right (by rw[fq];omega),fq,show gu n+j-gu n=j from by omega];exact h2
mutual
theorem JV:∀(n:Nd) (k:Nat) (p:Int) (i:Nat) (q:dO) (x:Int),(oK k p n)[i]? =some q->x∈q.kids->∃(j:Nat) (e:dO),x=k+j/\0<j/\(oK k p n)[j]? =some e/\e.parent=k+i
 | .mk nm ats ks,k,p,0,q,x,h,hx=>by
  rw[oK] at h⊢;simp at h;subst h;obtain⟨j,e,h1,h2,h3⟩:=X9 ks (k+1) k x hx;exact⟨j+1,e,by omega,by omega,by simpa using h2,by omega⟩
 | .mk nm ats ks,k,p,i+1,q,x,h,hx=>by
  rw[oK] at h⊢;obtain⟨j,e,h1,h2,h3⟩:=JW ks (k+1) k i q x (by simpa using h) hx;exact⟨j+1,e,by omega,by omega,by simpa using h2,by omega⟩
theorem JW:∀(l:List Nd) (k:Nat) (p:Int) (i:Nat) (q:dO) (x:Int),(qb k p l)[i]? =some q->x∈q.kids->∃(j:Nat) (e:dO),x=k+j/\(qb k p l)[j]? =some e/\e.parent=k+i
 |[],_,_,_,_,_,h,_=>by simp[qb] at h
 |n::l,k,p,i,q,x,h,hx=>by
  rw[qb] at h⊢;by_cases hi:i<gu n
  ·rw[List.getElem?_append_left (by rw[fq];exact hi)] at h;obtain⟨j,e,h1,_,h2,h3⟩:=JV n k p i q x h hx;refine⟨j,e,h1,?_,h3⟩;rw[List.getElem?_append_left (List.getElem?_eq_some_iff.1 h2).1];exact h2
  ·rw[List.getElem?_append_right (by rw[fq];omega),fq] at h;obtain⟨j,e,h1,h2,h3⟩:=JW l (k+gu n) p (i-gu n) q x h hx;refine⟨gu n+j,e,by omega,?_,by omega⟩;rw[List.getElem?_append_right (by rw[fq];omega),fq,show gu n+j-gu n=j from by omega];exact h2
end
theorem Q4:∀(l:List Nd) (k:Nat) (x:Int),x∈rP k l->(k:Int)<=x
 |[],_,_,h=>by simp[rP] at h
 |n::l,k,x,h=>by
  rw[rP] at h;rcases List.mem_cons.1 h with rfl|h
  ·exact Int.le_refl _
  ·have:=Q4 l _ x h;omega
theorem ER:∀(l:List Nd) (k:Nat),(rP k l).Nodup
 |[],_=>List.nodup_nil
 |n::l,k=>by
  rw[rP,List.nodup_cons];refine⟨fun hm=>?_,ER l _⟩;have:=Q4 l _ _ hm;have:=Oz n;omega
mutual
theorem JX:∀(n:Nd) (k:Nat) (p:Int),∀e∈oK k p n,e.kids.Nodup
 | .mk nm ats ks,k,p,e,he=>by
  rw[oK] at he;rcases List.mem_cons.1 he with rfl|he
  ·exact ER ks _
  ·exact JY ks _ _ e he
theorem JY:∀(l:List Nd) (k:Nat) (p:Int),∀e∈qb k p l,e.kids.Nodup
 |[],_,_,e,he=>by simp[qb] at he
 |n::l,k,p,e,he=>by
  rw[qb] at he;rcases List.mem_append.1 he with he|he
  ·exact JX n _ _ e he
  ·exact JY l _ _ e he
end
def Um (n:Nd)(i:Int):Nat:=((Lt 1 n)[i.toNat]?).getD 0
theorem Wd.new (n:Nd)(hd:∀a∈Lt 1 n,a<=10):Wd (iA (fun _=>none) 0 (oK 0 (-1) n)) (Um n):=by
 have look:∀i e,iA (fun _=>none) 0 (oK 0 (-1) n) i=some e->∃j:Nat,i=j/\(oK 0 (-1) n)[j]? =some e:=fun i e h=>by
  unfold iA at h;split at h
  ·next hi=>
   refine⟨i.toNat,by omega,?_⟩;rw[show i.toNat=(i-(0:Nat)).toNat from by omega];exact h
  ·exact absurd h (by simp)
 have give:∀(j:Nat) e,(oK 0 (-1) n)[j]? =some e->iA (fun _=>none) 0 (oK 0 (-1) n) (j:Int)=some e:=fun j e h=>by
  have h1:=UW (M:=fun _=>none) (nx:=0) (L:=oK 0 (-1) n) (j:=j) (List.getElem?_eq_some_iff.1 h).1;rw[show((0:Nat):Int)+j=j from by omega] at h1;rw[h1];exact h
 have rk:∀j a:Nat,(Lt 1 n)[j]? =some a->Um n (j:Int)=a:=fun j a h=>by
  unfold Um;rw[Int.toNat_natCast,h];rfl
 have abR:∃e,(oK 0 (-1) n)[0]? =some e/\e.parent= -1:=by
  obtain⟨nm,ats,ks⟩:=n;rw[oK];exact⟨_,rfl,rfl⟩
 refine⟨?_,fun i hi=>UU (by omega),?_,?_,?_,?_,?_⟩
 ·obtain⟨e,h1,h2⟩:=abR;exact⟨e,give 0 e h1,h2⟩
 ·intro i e he h0;obtain⟨j,rfl,hj⟩:=look i e he;obtain⟨i',q,a,h1,h2,h3,h4,h5⟩:=X7 n 0 (-1) 1 j e hj (by omega);have h2':e.parent=(i':Int):=by omega
  rw[h2'];refine⟨q,give i' q h1,?_,by rw[rk j _ h5,rk i' _ h4]⟩;rw[show((0:Nat):Int)+j=j from by omega] at h3;exact h3
 ·intro i e k he hk;obtain⟨j,rfl,hj⟩:=look i e he;obtain⟨j',x,h1,h2,h3,h4⟩:=JV n 0 (-1) j e k hj hk;have h1':k=(j':Int):=by omega
  subst h1';exact⟨x,give j' x h3,by omega,by omega⟩
 ·intro i e he;obtain⟨j,rfl,hj⟩:=look i e he;exact JX n 0 (-1) e (List.mem_of_getElem? hj)
 ·exact rk 0 1 (JU n 1)
 ·intro i e he;obtain⟨j,rfl,hj⟩:=look i e he;have hl:j<(Lt 1 n).length:=by
   have:=(List.getElem?_eq_some_iff.1 hj).1;rw[fq] at this;rw[kD];exact this
  rw[rk j _ (List.getElem?_eq_getElem hl)];have hm:=List.getElem_mem hl;exact⟨PY n 1 _ hm,hd _ hm⟩
theorem Cd.new (n:Nd):Cd (iA (fun _=>none) 0 (oK 0 (-1) n)) (gu n):=by
 refine⟨nums 0 (gu n),?_,by simp[nums],fun x=>?_⟩
 ·unfold nums;exact List.Pairwise.map _ (fun a b h=>by omega) (List.nodup_range' (s:=0) (n:=gu n) (step:=1))
 ·rw[V6];unfold iA;rw[fq];constructor
  ·intro h;rw[if_pos (by omega),List.getElem?_eq_getElem (by rw[fq];omega)];simp
  ·intro h;refine Classical.byContradiction fun hn=>?_;rw[if_neg (by omega)] at h;exact h rfl
theorem Xa (K:List Int)(a:Nat)(n:Int)(h:n ∉ K):(K.take a++n::K.drop a).filter (fun x=> !decide (x=n))=K:=by
 have hk:K.filter (fun x=> !decide (x=n))=K:=List.filter_eq_self.2 fun x hx=>by
  have:x≠n:=fun e=>h (e▸hx);simp[this]
 rw[List.filter_append,List.filter_cons];simp only[decide_true,Bool.not_true,Bool.false_eq_true,if_false];rw[<- List.filter_append,List.take_append_drop];exact hk
theorem Nl:∀(K:List Int) (a:Nat) (n:Int),K[a]? =some n->K.Nodup->(K.filter (fun x=> !decide (x=n))).take a++n::(K.filter (fun x=> !decide (x=n))).drop a=K
 |[],_,_,h,_=>by simp at h
 |k::K,0,n,h,hn=>by
  simp at h;subst h;have h1:=(List.nodup_cons.1 hn).1;have h2:K.filter (fun x=> !decide (x=k))=K:=List.filter_eq_self.2 fun x hx=>by
   have:x≠k:=fun e=>h1 (e▸hx);simp[this]
  rw[List.filter_cons];simp[h2]
 |k::K,a+1,n,h,hn=>by
  have h1:=List.nodup_cons.1 hn;have h2:K[a]? =some n:=by simpa using h
  have h3:k≠n:=fun e=>h1.1 (e▸List.mem_of_getElem? h2);rw[List.filter_cons];simp only[h3,decide_false,Bool.not_false,if_true,List.take_succ_cons,List.drop_succ_cons,List.cons_append];rw[Nl K a n h2 h1.2]
theorem Wd.deep {M:Dm}{r:Int->Nat}(h:Wd M r):∀(d:Nat) (x:Int) (e:dO),r x=d->M x=some e->Up M x d
 |0,x,e,hd,he=>by
  have:=(h.rb x e he).1;omega
 |d+1,x,e,hd,he=>by
  refine⟨e,he,?_⟩;by_cases h0:x=0
  ·subst h0;obtain⟨e0,h1,h2⟩:=h.root;rw[he] at h1;cases h1;have:d=0:=by have:=h.r0;omega
   subst this;rw[h2];exact h.neg _ (by decide)
  ·obtain⟨q,hq,_,hr⟩:=h.up x e he h0;exact h.deep d _ q (by omega) hq
theorem ES {L:List Int}{a:Nat}{k x:Int}:x∈dG L a k↔x=k\/x∈L:=by
 unfold dG;rw[List.mem_append,List.mem_cons];constructor
 ·rintro(h|h|h)
  ·exact .inr (List.mem_of_mem_take h)
  ·exact .inl h
  ·exact .inr (List.mem_of_mem_drop h)
 ·rintro(h|h)
  ·exact .inr (.inl h)
  ·rw[<- List.take_append_drop a L] at h;rcases List.mem_append.1 h with h|h
   ·exact .inl h
   ·exact .inr (.inr h)
theorem yK {L:List Int}{a:Nat}{k:Int}(h:L.Nodup)(hk:k ∉ L):(dG L a k).Nodup:=by
 have hp:(dG L a k).Perm (k::L):=by
  unfold dG;refine List.perm_middle.trans ?_;rw[List.take_append_drop]
 exact hp.nodup_iff.2 (List.nodup_cons.2 ⟨hk,h⟩)
theorem Q5 {L:List Int}{k x:Int}:x∈um L k↔x≠k/\x∈L:=by
 unfold um;rw[List.mem_filter];by_cases h:x=k<;>simp[h]
section
variable {M:Dm}{r:Int->Nat}
theorem Wd.Nn (h:Wd M r){i k:Int}{e:dO}(he:M i=some e)(hk:k∈e.kids):M k≠none:=by
 obtain⟨x,hx,_⟩:=h.down i e k he hk;rw[hx];simp
theorem Wd.abS (h:Wd M r){nx par:Int}{q:dO}(hnx:M nx=none)(h0:0<=nx)(hq:M par=some q)(name:Bs)(a:Nat):a0q M (bJ (bJ M nx ⟨name,[],par,[]⟩) par ⟨q.name,q.ats,q.parent,dG q.kids a nx⟩) nx par:=by
 have hp:nx≠par:=fun e=>by
  rw[<- e,hnx] at hq;exact absurd hq (by simp)
 refine⟨hnx,h0,⟨⟨name,[],par,[]⟩,?_,rfl,rfl⟩,fun i e he=>?_,fun i hi hn=>?_⟩
 ·unfold bJ;rw[if_neg hp,if_pos rfl]
 ·have hin:i≠nx:=fun e1=>by
   rw[e1,hnx] at he;exact absurd he (by simp)
  unfold bJ;by_cases hi:i=par
  ·subst hi;rw[hq] at he;cases he;rw[if_pos rfl];refine⟨_,rfl,rfl,yK (h.nodup i q hq) (fun hm=>h.Nn hq hm hnx),fun x=>?_⟩;rw[ES];simp
  ·rw[if_neg hi,if_neg hin];exact⟨e,he,rfl,h.nodup i e he,fun x=>by simp[hi]⟩
 ·unfold bJ;rw[if_neg (fun e1=>by rw[e1,hq] at hn;exact absurd hn (by simp)),if_neg hi];exact hn
theorem Wd.Gq (h:Wd M r){n:Int}{e:dO}(hn:M n=some e)(h0:n≠0):¬Bl M n e.parent:=fun hb=>by
 obtain⟨q,_,_,hr⟩:=h.up n e hn h0;have:=(h.low hb).1;omega
theorem Wd.Xb (h:Wd M r){n:Int}{e o:dO}(hn:M n=some e)(h0:n≠0){f:Nat}{d:Int}(hf:Dp M f n):pre (gK M n e o) f n d=pre M f n d:=by
 refine Ei f n d (fun x hx=>?_) (fun hm=>absurd (hm.symm.trans hn) (by simp)) (fun y q hy hq k hk=>h.Nn hq hk);have hb:=(h.mem hf).1 hx;unfold gK bJ;rw[if_neg];intro e1;subst e1;exact h.Gq hn h0 hb
theorem Wd.cutV (h:Wd M r){n:Int}{e o:dO}(hn:M n=some e)(ho:M e.parent=some o){L:List Int}(hL:∀x,x∈L↔Bl M n x):a0r M (o6 (gK M n e o) L) n:=by
 refine⟨fun i hb=>?_,fun i x hx hb=>?_,fun i hi=>?_⟩
 ·unfold o6;rw[if_pos ((hL i).2 hb)]
 ·unfold o6;rw[if_neg (fun hm=>hb ((hL i).1 hm))];unfold gK bJ;by_cases hi:i=e.parent
  ·rw[if_pos hi];rw[hi,ho] at hx;cases hx;exact⟨_,rfl,rfl,(h.nodup _ o ho).filter _,fun y=>Q5⟩
  ·rw[if_neg hi];refine⟨x,hx,rfl,h.nodup i x hx,fun y=>⟨fun hy=>⟨fun e1=>?_,hy⟩,fun hy=>hy.2⟩⟩;subst e1;obtain⟨z,hz,hzp,_⟩:=h.down i x y hx hy;rw[hn] at hz;cases hz;exact hi hzp.symm
 ·unfold o6 gK bJ;by_cases hm:i∈L
  ·rw[if_pos hm]
  ·rw[if_neg hm,if_neg (fun e1=>by rw[e1,ho] at hi;exact absurd hi (by simp))];exact hi
end
section
variable {M:Dm}{r:Int->Nat}
theorem Wd.Q6 (h:Wd M r){n i:Int}{e x:dO}(hn:M n=some e)(hx:M i=some x)(hi:i≠e.parent):n ∉ x.kids:=fun hm=>by
 obtain⟨z,hz,hzp,_⟩:=h.down i x n hx hm;rw[hn] at hz;cases hz;exact hi hzp.symm
theorem Wd.vP (h:Wd M r){n i:Int}{e o x:dO}(hn:M n=some e)(ho:M e.parent=some o)(hx:M i=some x):∃x',gK M n e o i=some x'/\x'.parent=x.parent/\x'.kids.Nodup/\∀y,y∈x'.kids↔y≠n/\y∈x.kids:=by
 unfold gK bJ;by_cases hi:i=e.parent
 ·rw[if_pos hi];rw[hi,ho] at hx;cases hx;exact⟨_,rfl,rfl,(h.nodup _ o ho).filter _,fun y=>Q5⟩
 ·rw[if_neg hi];refine⟨x,hx,rfl,h.nodup i x hx,fun y=>⟨fun hy=>⟨fun e1=>?_,hy⟩,fun hy=>hy.2⟩⟩;subst e1;exact h.Q6 hn hx hi hy
theorem Wd.vQ (h:Wd M r){n:Int}{e:dO}(hn:M n=some e)(h0:n≠0):e.parent≠n:=fun e1=>h.Gq hn h0 (by rw[e1];exact .self hn)
theorem Wd.a7R (h:Wd M r){n par:Int}{e o q0 q:dO}(hn:M n=some e)(h0:n≠0)(ho:M e.parent=some o)(hq0:M par=some q0)(hq:gK M n e o par=some q)(hpn:par≠n)(a:Nat):vO M (iE M n par a e o q) n par:=by
 refine⟨fun i x hx=>?_,fun i hi=>?_⟩
 ·unfold iE;by_cases hi:i=par
  ·subst hi;obtain⟨x',h1,h2,h3,h4⟩:=h.vP hn ho hx;rw[hq] at h1;cases h1;refine⟨⟨q.name,q.ats,q.parent,dG q.kids a n⟩,by rw[bJ,if_pos rfl],?_,yK h3 (fun hm=>((h4 n).1 hm).1 rfl),fun y=>?_⟩
   ·rw[if_neg hpn];exact h2
   ·show y∈dG q.kids a n↔_;rw[ES,h4];simp
  ·by_cases hin:i=n
   ·subst hin;rw[hn] at hx;cases hx;refine⟨⟨e.name,e.ats,par,e.kids⟩,by rw[bJ,if_neg hi,bJ,if_pos rfl],by rw[if_pos rfl],h.nodup i e hn,fun y=>?_⟩;show y∈e.kids↔_;constructor
    ·intro hy;refine .inr ⟨fun e1=>?_,hy⟩;subst e1;exact h.Q6 hn hn (fun e1=>h.vQ hn h0 e1.symm) hy
    ·rintro(⟨_,h1⟩|⟨_,h1⟩)
     ·exact absurd h1 hi
     ·exact h1
   ·obtain⟨x',h1,h2,h3,h4⟩:=h.vP hn ho hx;refine⟨x',by rw[bJ,if_neg hi,bJ,if_neg hin];exact h1,by rw[if_neg hin];exact h2,h3,fun y=>?_⟩;rw[h4];simp[hi]
 ·have n1:i≠par:=fun e1=>by rw[e1,hq0] at hi;exact absurd hi (by simp)
  have n2:i≠n:=fun e1=>by rw[e1,hn] at hi;exact absurd hi (by simp)
  have n3:i≠e.parent:=fun e1=>by rw[e1,ho] at hi;exact absurd hi (by simp)
  unfold iE;rw[bJ,if_neg n1,bJ,if_neg n2];unfold gK;rw[bJ,if_neg n3];exact hi
theorem Wd.back (h:Wd M r){n par:Int}{e o q0 q:dO}(hn:M n=some e)(h0:n≠0)(ho:M e.parent=some o)(hq0:M par=some q0)(hq:gK M n e o par=some q)(hpn:par≠n)(a a0:Nat)(ha:o.kids[a0]? =some n):
  ∃e' o' q',iE M n par a e o q n=some e'/\e'.parent=par/\iE M n par a e o q par=some o'/\o'.kids≠[]/\gK (iE M n par a e o q) n e' o' e.parent=some q'/\q'.kids.length+1=o.kids.length/\iE (iE M n par a e o q) n e.parent a0 e' o' q'=M:=by
 have hself:=h.vQ hn h0;have hqk:n ∉ q.kids:=by
  obtain⟨x',h1,_,_,h4⟩:=h.vP hn ho hq0;rw[hq] at h1;cases h1;exact fun hm=>((h4 n).1 hm).1 rfl
 have hwi:um (dG q.kids a n) n=q.kids:=by
  unfold um dG;exact Xa q.kids a n hqk
 have hiw:dG (um o.kids n) a0 n=o.kids:=by
  unfold um dG;exact Nl o.kids a0 n ha (h.nodup _ o ho)
 have hoP:gK M n e o e.parent=some ⟨o.name,o.ats,o.parent,um o.kids n⟩:=by
  unfold gK;rw[bJ,if_pos rfl]
 have hout:∀i,gK (iE M n par a e o q) n ⟨e.name,e.ats,par,e.kids⟩ ⟨q.name,q.ats,q.parent,dG q.kids a n⟩ i=if i=n then some ⟨e.name,e.ats,par,e.kids⟩ else gK M n e o i:=fun i=>by
  show bJ (iE M n par a e o q) par ⟨q.name,q.ats,q.parent,um (dG q.kids a n) n⟩ i=_;rw[hwi,bJ];by_cases hi:i=par
  ·rw[if_pos hi,if_neg (fun e1=>hpn (hi.symm.trans e1)),hi,hq]
  ·rw[if_neg hi];unfold iE;rw[bJ,if_neg hi,bJ]
 refine⟨⟨e.name,e.ats,par,e.kids⟩,⟨q.name,q.ats,q.parent,dG q.kids a n⟩,⟨o.name,o.ats,o.parent,um o.kids n⟩,?_,rfl,?_,?_,?_,?_,?_⟩
 ·unfold iE;rw[bJ,if_neg (fun e1=>hpn e1.symm),bJ,if_pos rfl]
 ·unfold iE;rw[bJ,if_pos rfl]
 ·show dG q.kids a n≠[];unfold dG;simp
 ·rw[hout,if_neg hself];exact hoP
 ·have h1:=congrArg List.length hiw;unfold dG at h1;rw[List.length_append,List.length_cons] at h1;have h2:=congrArg List.length (List.take_append_drop a0 (um o.kids n));rw[List.length_append] at h2;show(um o.kids n).length+1=_;omega
 ·funext i;show bJ (bJ (gK (iE M n par a e o q) n ⟨e.name,e.ats,par,e.kids⟩ ⟨q.name,q.ats,q.parent,dG q.kids a n⟩) n ⟨e.name,e.ats,e.parent,e.kids⟩) e.parent ⟨o.name,o.ats,o.parent,dG (um o.kids n) a0 n⟩ i=M i;rw[hiw,bJ];by_cases h1:i=e.parent
  ·rw[if_pos h1,h1,ho]
  ·rw[if_neg h1,bJ];by_cases h2:i=n
   ·rw[if_pos h2,h2,hn]
   ·rw[if_neg h2,hout,if_neg h2];unfold gK;rw[bJ,if_neg h1]
theorem BF:∀(l:List (Int×Int)) (m:Int),m<=l.foldl (fun m x=>max m x.2) m/\∀x∈l,x.2<=l.foldl (fun m x=>max m x.2) m
 |[],m=>⟨Int.le_refl _,fun x hx=>absurd hx (by simp)⟩
 |y::l,m=>by
  obtain⟨h1,h2⟩:=BF l (max m y.2);rw[List.foldl_cons];refine⟨by omega,fun x hx=>?_⟩;rcases List.mem_cons.1 hx with rfl|hx
  ·omega
  ·exact h2 x hx
theorem BG:∀(l:List (Int×Int)) (m b:Int),m<=b->(∀x∈l,x.2<=b)->l.foldl (fun m x=>max m x.2) m<=b
 |[],_,_,h,_=>h
 |y::l,m,b,h,hl=>by
  rw[List.foldl_cons];have:=hl y (by simp);exact BG l _ b (by omega) (fun x hx=>hl x (by simp[hx]))
theorem Wd.fits (h:Wd M r){n par:Int}{f:Nat}(hd:(r par:Int)+jB (pre M f n 1)<=10):∀x∈dw M f n,r x+1+r par<=10+r n:=fun x hx=>by
 obtain⟨⟨y,dy⟩,hy,rfl⟩:=List.mem_map.1 hx;have h1:=(h.qg f n 1 y dy hy).2;have h2:=(BF (pre M f n 1) 0).2 _ hy;unfold jB at hd;show r y+1+r par<=10+r n;simp only at h2;omega
theorem Wd.most (h:Wd M r){n:Int}{f:Nat}:0<=jB (pre M f n 1)/\jB (pre M f n 1)<=10:=by
 refine⟨(BF (pre M f n 1) 0).1,BG _ _ _ (by decide) fun x hx=>?_⟩;obtain⟨y,dy⟩:=x;obtain⟨h1,h2⟩:=h.qg f n 1 y dy hx;obtain⟨e,he⟩:=h1.in_;have h3:=(h.rb y e he).2;obtain⟨x,hx⟩:∃x,M n=some x:=by
  cases f with
  |zero=>simp[pre] at hx
  |succ f=>
   cases hm:M n with
   |none=>rw[pre,hm] at hx;simp at hx
   |some x=>exact⟨x,rfl⟩
 have h5:=(h.rb n x hx).1;show dy<=10;omega
end
end
section
open Go.RowKit
mutual
theorem Xc:∀(n:Nd) (deep ahead:Nat),(iT n deep ahead).1=0->∀a∈Lt deep n,a<=10
 | .mk nm ats ks,deep,ahead,h,a,ha=>by
  unfold iT at h;split at h
  ·rename_i h1;rw[Lt] at ha;rcases List.mem_cons.1 ha with rfl|ha
   ·exact(vv h1).1
   ·exact Xe ks _ _ h a ha
  ·rename_i h1;exact(h1 h).elim
theorem Xe:∀(l:List Nd) (deep ahead:Nat),(wo l deep ahead).1=0->∀a∈PV deep l,a<=10
 |[],_,_,_,a,ha=>by simp[PV] at ha
 |k::l,deep,ahead,h,a,ha=>by
  by_cases h1:(iT k deep ahead).1=0
  ·rw[qy h1] at h;rw[PV] at ha;rcases List.mem_append.1 ha with ha|ha
   ·exact Xc k deep ahead h1 a ha
   ·exact Xe l _ _ h a ha
  ·rw[vw h1] at h;exact(h1 h).elim
end
structure dN (B:Nat)(tg:bf)(W:ag)(DB MB:Nat)(p:Int->Option Nat)(M:Dm)(nx c:Nat)(r:Int->Nat):Prop where
 w:aO B tg W DB MB p M nx c
 d:Wd M r
 n:Cd M c
 le:c<=100
 low:B<=W.heap.size
section
variable {E:Nat->Addr}{B:Nat}{tg:bf}{W:ag}{DB MB:Nat}{p:Int->Option Nat}{M:Dm}{nx c:Nat}{r:Int->Nat}
theorem dN.below {w':ag}(h:dN B tg W DB MB p M nx c r)(hb:Below W.heap.size W w'):dN B tg w' DB MB p M nx c r:=⟨h.w.below hb,h.d,h.n,h.le,Nat.le_trans h.low hb.size⟩
theorem dN.few (h:dN B tg W DB MB p M nx c r){i:Int}{e:dO}(he:M i=some e):e.kids.length<=100:=by
 obtain⟨l,_,h2,h3⟩:=h.n;have:=zo e.kids l (h.d.nodup i e he) (fun x hx=>(h3 x).2 (h.d.Nn he hx));have:=h.le;omega
theorem dN.new (h:dN B tg W DB MB p M nx c r):M nx=none:=by
 cases hm:M nx with
 |none=>rfl
 |some e=>
  have:=h.w.dom nx e hm;omega
end
end
section
open Go.RowKit
theorem Dp.sub {M M':Dm}(h:∀i x',M' i=some x'->∃x,M i=some x/\∀k∈x'.kids,k∈x.kids):∀{f:Nat} {i:Int},Dp M f i->Dp M' f i
 |0,_,hd=>hd.elim
 |_+1,i,hd=>fun x' hx' k hk=>by
  obtain⟨x,hx,hs⟩:=h i x' hx';exact Dp.sub h (hd x hx k (hs k hk))
theorem Q7 {K:List Int}{n:Int}(hm:n∈K)(hn:K.Nodup):(um K n).length+1=K.length:=by
 obtain⟨a,ha⟩:=List.getElem?_of_mem hm;have h1:=congrArg List.length (Nl K a n ha hn);rw[List.length_append,List.length_cons] at h1;have h2:=congrArg List.length (List.take_append_drop a (um K n));rw[List.length_append] at h2;show(um K n).length+1=K.length;unfold um at h2⊢;omega
section
variable {E:Nat->Addr}{B:Nat}{tg:bf}{W:ag}{DB MB:Nat}{p:Int->Option Nat}{M:Dm}{nx c:Nat}{r:Int->Nat}
theorem Wd.top (_h:Wd M r){n:Int}(h0:n≠0):¬Bl M n 0:=fun hb=>by
 cases hb with
 |self _=>exact h0 rfl
 |kid _ hx _=>exact hx rfl
theorem Wd.a0s (h:Wd M r){n:Int}{e o:dO}(hn:M n=some e)(ho:M e.parent=some o){f:Nat}{i:Int}(hd:Dp M f i):Dp (gK M n e o) f i:=by
 refine Dp.sub (fun j x' hx'=>?_) hd;cases hm:M j with
 |none=>
  unfold gK at hx';rw[bJ,if_neg (fun e1=>by rw[e1,ho] at hm;exact absurd hm (by simp)),hm] at hx';exact absurd hx' (by simp)
 |some x=>
  obtain⟨x1,h1,_,_,h4⟩:=h.vP hn ho hm;rw[hx'] at h1;cases h1;exact⟨x,rfl,fun k hk=>((h4 k).1 hk).2⟩
theorem dN.count (h:dN B tg W DB MB p M nx c r){f:Nat}{i d:Int}(hf:Dp M f i):(pre M f i d).length<=100:=by
 obtain⟨l,_,h2,h3⟩:=h.n;have h4:=zo _ l (h.d.qW f i d) (fun x hx=>(h3 x).2 (by
  obtain⟨e,he⟩:=((h.d.mem hf).1 hx).in_;rw[he];simp))
 rw[List.length_map] at h4;have:=h.le;omega
structure a7S (B:Nat)(tg:bf)(W:ag)(DB MB:Nat)(p:Int->Option Nat)(M:Dm)(nx c:Nat)(n par:Int)(k:Nat)(x o q0 q:dO)(w':ag):Prop where
 hn:M n=some x
 h0:n≠0
 ho:M x.parent=some o
 hno:n∈o.kids
 hq0:M par=some q0
 hq:gK M n x o par=some q
 hpn:par≠n
 hk:k<=q.kids.length
 kt:KT tg W w'
 doc:∃gF r',(∀x,x<W.heap.size->gF x=tg x)/\dN B gF w' DB MB p (iE M n par k x o q) nx c r'
theorem JZ (hE:DE E W)(h:dN B tg W DB MB p M nx c r)(n par a:Int)(hwn:bA n)(hwp:bA par):
  ax 59 #[ay DB,aa n,aa par,aa a] W fun e w'=>(∃k,1<=k/\k<=11/\e=.returned (eV (E k))/\Below W.heap.size W w')\/(e=.returned .nilIface/\∃k x o q0 q,a=((k:Nat):Int)/\a7S B tg W DB MB p M nx c n par k x o q0 q w'):=by
 cases hn:M n with
 |none=>
  cases hq:M par with
  |none=>exact(a0o hE h.w n par a hwn hwp hn hq).mono fun e w' hr=>.inl ⟨5,by decide,by decide,hr.1,hr.2⟩
  |some q=>exact(WZ hE h.w n par a hwn hwp q hn hq).mono fun e w' hr=>.inl ⟨5,by decide,by decide,hr.1,hr.2⟩
 |some x=>
  cases hq0:M par with
  |none=>exact(X3 hE h.w n par a hwn hwp x hn hq0).mono fun e w' hr=>.inl ⟨5,by decide,by decide,hr.1,hr.2⟩
  |some q0=>
   by_cases h0:n=0
   ·exact(Sq hE h.w n par a hwn hwp x q0 hn hq0 h0).mono fun e w' hr=>.inl ⟨3,by decide,by decide,hr.1,hr.2⟩
   obtain⟨o,ho,hno,_⟩:=h.d.up n x hn h0;have hdp:=h.d.dp 11 n x hn (by omega);have hl:=h.count (d:=1) hdp;have hL:∀y,y∈dw M 11 n↔Bl M n y:=fun y=>h.d.mem hdp;by_cases hin:par∈dw M 11 n
   ·exact(Nj hE h.w n par a x q0 hn hq0 h0 hwn hwp 11 (by omega) hdp (by omega) hin).mono fun e w' hr=>.inl ⟨9,by decide,by decide,hr.1,hr.2⟩
   by_cases ha:a<0
   ·exact(X4 hE h.w n par a x q0 hn hq0 h0 hwn hwp 11 (by omega) hdp (by omega) hin ha).mono fun e w' hr=>.inl ⟨2,by decide,by decide,hr.1,hr.2⟩
   have hql:=h.few hq0;by_cases hal:(if x.parent=par then(q0.kids.length:Int)-1 else q0.kids.length)<a
   ·exact(Nk hE h.w n par a x q0 hn hq0 h0 hwn hwp 11 (by omega) hdp (by omega) hin ha (by omega) hal).mono fun e w' hr=>.inl ⟨2,by decide,by decide,hr.1,hr.2⟩
   have hu:=h.d.deep _ par q0 rfl hq0;have hb:=h.d.rb par q0 hq0;have hm:=h.d.most (n:=n) (f:=11);by_cases hdd:10<(r par:Int)+jB (pre M 11 n 1)
   ·exact(Sr hE h.w n par a x q0 hn hq0 h0 hwn hwp 11 (by omega) hdp (by omega) hin ha (by omega) hal (r par) hu hb.2 hdd (by omega)).mono fun e w' hr=>.inl ⟨8,by decide,by decide,hr.1,hr.2⟩
   obtain⟨k,rfl⟩:∃k:Nat,a=k:=⟨a.toNat,by omega⟩;have hpn:par≠n:=fun e1=>hin ((hL par).2 (by rw[e1];exact .self hn));have hself:=h.d.vQ hn h0;obtain⟨q,hq,hqk⟩:∃q,gK M n x o par=some q/\(q.kids.length:Int)=if x.parent=par then(q0.kids.length:Int)-1 else q0.kids.length:=by
    unfold gK bJ;by_cases he:par=x.parent
    ·rw[if_pos he,if_pos he.symm];refine⟨_,rfl,?_⟩;have h1:=Q7 hno (h.d.nodup _ o ho);have hoq:o=q0:=by rw[he,ho] at hq0;exact Option.some.inj hq0
     rw[<- hoq];show((um o.kids n).length:Int)=_;omega
    ·rw[if_neg he,if_neg (fun e1=>he e1.symm)];exact⟨q0,hq0,rfl⟩
   have hkq:k<=q.kids.length:=by omega
   have hqb:q.kids.length<=1000000:=by
    split at hqk<;>omega
   refine(JS h.w n par k x o q0 q hn h0 ho (List.ne_nil_of_mem hno) hself hq0 hq hpn 11 (by omega) hdp (by omega) hin (by omega) (by omega) hkq hqb (r par) hu (by omega) hm.1 h.low).mono ?_;rintro e w' ⟨rfl,hk,gF,ht,hd⟩;have hv:=h.d.a7R hn h0 ho hq0 hq hpn k;exact .inr ⟨rfl,k,x,o,q0,q,rfl,⟨hn,h0,ho,hno,hq0,hq,hpn,hkq,hk,gF,_,ht,hd,h.d.move hv hn h0 hq0 (fun hb=>hin ((hL par).2 hb)) hL (h.d.fits (by omega)),hv.count h.n,h.le,Nat.le_trans h.low hk.size⟩⟩
end
end
section
abbrev jV (n:Nd):Dm:=iA (fun _=>none) 0 (oK 0 (-1) n)
end
section
open Go.RowKit
theorem lq:∀(M:List yU) (i:Nat) (x:yU),M[i]? =some x->∀q u,x.cells[q]? =some u->(gJ M)[i*4+q]? =some u
 |[],i,x,h,_,_,_=>by simp at h
 |y::r,0,x,h,q,u,hu=>by
  simp at h;subst h;have hq:q<4:=by
   rcases Nat.lt_or_ge q 4 with h|h
   ·exact h
   ·rw[List.getElem?_eq_none (by simp[yU.cells];omega)] at hu;cases hu
  rw[gJ,Nat.zero_mul,Nat.zero_add,List.getElem?_append_left (by simp[yU.cells];omega)];exact hu
 |y::r,i+1,x,h,q,u,hu=>by
  have:=lq r i x (by simpa using h) q u hu;rw[gJ,List.getElem?_append_right (by simp[yU.cells];omega)];rw[show(i+1)*4+q-y.cells.length=i*4+q from by simp[yU.cells];omega];exact this
def Xf (w:ag)(g:Nat)(M:List yU):Prop:=∀i x,M[i]? =some x->w.cell? (ak g (i*4))=some (.string ⟨x.nm.toArray⟩)/\w.cell? (ak g (i*4+1))=some x.c/\w.cell? (ak g (i*4+2))=some (aa x.parent)/\w.cell? (ak g (i*4+3))=some (aa x.deep)
theorem row_of {w:ag}{B:Nat}{v:ah}{M:List yU}(h:w.ownsRow B 63 4 v M.length (gJ M))(hp:0<M.length):∃g cap,v=.slice (some ⟨g,0,none⟩) M.length cap/\B<=g/\M.length<=cap/\Xf w g M:=by
 obtain⟨h1,h2⟩:=h;rcases h2 with⟨_,h2⟩|⟨g,cap,cur,h3,h4,h5,h6,h7,h8,h9⟩
 ·omega
 ·have get:∀j u,(gJ M)[j]? =some u->w.cell? (ak g j)=some u:=fun j u hj=>by
   rw[<- h9,List.getElem?_take] at hj;split at hj
   ·unfold World.cell?;rw[h5];simpa using hj
   ·cases hj
  refine⟨g,cap,h3,h4,by first|exact h6|omega,fun i x hx=>⟨?_,?_,?_,?_⟩⟩
  ·exact get _ _ (lq M i x hx 0 _ rfl)
  ·exact get _ _ (lq M i x hx 1 _ rfl)
  ·exact get _ _ (lq M i x hx 2 _ rfl)
  ·exact get _ _ (lq M i x hx 3 _ rfl)
theorem Xf.below {w w':ag}{g:Nat}{M:List yU}(h:Xf w g M)(hb:Below w.heap.size w w'):Xf w' g M:=fun i x hx=>by
 obtain⟨h1,h2,h3,h4⟩:=h i x hx;exact⟨(hb.cell (az h1)).trans h1,(hb.cell (az h2)).trans h2,(hb.cell (az h3)).trans h3,(hb.cell (az h4)).trans h4⟩
theorem mZ.get {W0:ag}:∀{a:List yU} {f:List Fl} {i:Nat} {x:yU},mZ W0 a f->a[i]? =some x->∃y,f[i]? =some y/\FlR W0 x y
 |[],_,_,_,_,h=>by simp at h
 |_::r,[],_,_,h,_=>h.elim
 |z::r,y::q,0,x,h,hx=>by simp at hx;subst hx;exact⟨y,rfl,h.1⟩
 |z::r,y::q,i+1,x,h,hx=>by
  obtain⟨y',h1,h2⟩:=mZ.get (a:=r) (f:=q) (i:=i) h.2 (by simpa using hx);exact⟨y',by simpa using h1,h2⟩
end
end Go.Proofs.YtjfiehbcamfdfaaGreatDoor

/-
  Parts of the proof.
-/
import Derived.Test.YtjfiehbcamfdfaaGreatDoorQy21
namespace Go.Proofs.YtjfiehbcamfdfaaGreatDoor
section
section
variable {M M':Dm}{r:Int->Nat}
structure a7d (M M':Dm)(nx par:Int):Prop where
 was:M nx=none
 pos:0<=nx
 new:∃e,M' nx=some e/\e.parent=par/\e.kids=[]
 old:∀i e,M i=some e->∃e',M' i=some e'/\e'.parent=e.parent/\e'.kids.Nodup/\∀x,x∈e'.kids↔(x=nx/\i=par)\/x∈e.kids
 non:∀i,i≠nx->M i=none->M' i=none
theorem Wd.add (h:Wd M r){nx par:Int}{q:iy}(hv:a7d M M' nx par)(hq:M par=some q)(hr:r par<10):Wd M' (fun i=>if i=nx then r par+1 else r i):=by
 have hp:par≠nx:=fun e=>by
  rw[e,hv.was] at hq;exact absurd hq (by simp)
 have back:∀i e',M' i=some e'->i≠nx->∃e,M i=some e/\e'.parent=e.parent/\e'.kids.Nodup/\∀x,x∈e'.kids↔(x=nx/\i=par)\/x∈e.kids:=fun i e' he' hi=>by
  cases he:M i with
  |none=>
   rw[hv.non i hi he] at he';exact absurd he' (by simp)
  |some e=>
   obtain⟨e1,h1,h2⟩:=hv.old i e he;rw[h1] at he';cases he';exact⟨e,rfl,h2⟩
 obtain⟨en,hn1,hn2,hn3⟩:=hv.new;obtain⟨e0,hr1,hr2⟩:=h.root;have h0:(0:Int)≠nx:=fun e=>by
  rw[e,hv.was] at hr1;exact absurd hr1 (by simp)
 refine⟨?_,?_,?_,?_,?_,?_,?_⟩
 ·obtain⟨e1,h1,h2,_⟩:=hv.old 0 e0 hr1;exact⟨e1,h1,h2.trans hr2⟩
 ·intro i hi;have:=hv.pos;exact hv.non i (by omega) (h.neg i hi)
 ·intro i e' he' hi0;by_cases hi:i=nx
  ·subst hi;rw[hn1] at he';cases he';obtain⟨q',h1,_,_,h4⟩:=hv.old par q hq;rw[hn2];refine⟨q',h1,(h4 _).2 (.inl ⟨rfl,rfl⟩),?_⟩;simp only[if_pos,if_neg hp]
  ·obtain⟨e,h1,h2,_,_⟩:=back i e' he' hi;obtain⟨q1,h5,h6,h7⟩:=h.up i e h1 hi0;obtain⟨q',h8,_,_,h9⟩:=hv.old _ q1 h5;rw[h2];refine⟨q',h8,(h9 _).2 (.inr h6),?_⟩;have hne:e.parent≠nx:=fun e1=>by
    rw[e1,hv.was] at h5;exact absurd h5 (by simp)
   simp only[if_neg hi,if_neg hne];exact h7
 ·intro i e' k he' hk;by_cases hi:i=nx
  ·subst hi;rw[hn1] at he';cases he';rw[hn3] at hk;exact absurd hk (by simp)
  ·obtain⟨e,h1,h2,_,h4⟩:=back i e' he' hi;rcases(h4 k).1 hk with⟨rfl,rfl⟩|hk
   ·exact⟨en,hn1,hn2,fun e=>h0 e.symm⟩
   ·obtain⟨x,h5,h6,h7⟩:=h.down i e k h1 hk;obtain⟨x',h8,h9,_⟩:=hv.old k x h5;exact⟨x',h8,h9.trans h6,h7⟩
 ·intro i e' he';by_cases hi:i=nx
  ·subst hi;rw[hn1] at he';cases he';rw[hn3];exact List.nodup_nil
  ·obtain⟨_,_,_,h3,_⟩:=back i e' he' hi;exact h3
 ·simp only[if_neg h0];exact h.r0
 ·intro i e' he';by_cases hi:i=nx
  ·simp only[if_pos hi];omega
  ·simp only[if_neg hi];obtain⟨e,h1,_⟩:=back i e' he' hi;exact h.rb i e h1
theorem a7d.count {nx par:Int}(hv:a7d M M' nx par){c:Nat}(hc:Cd M c):Cd M' (c+1):=by
 obtain⟨l,h1,rfl,h3⟩:=hc;refine⟨nx::l,List.nodup_cons.2 ⟨fun hm=>(h3 nx).1 hm hv.was,h1⟩,rfl,fun x=>?_⟩;rw[List.mem_cons,h3];by_cases hx:x=nx
 ·subst hx;obtain⟨en,hn1,_⟩:=hv.new;simp[hn1]
 ·cases he:M x with
  |none=>simp[hx,hv.non x hx he]
  |some e=>
   obtain⟨e1,h4,_⟩:=hv.old x e he;simp[h4]
structure a7e (M M':Dm)(n:Int):Prop where
 out:∀i,Bl M n i->M' i=none
 old:∀i e,M i=some e->¬Bl M n i->∃e',M' i=some e'/\e'.parent=e.parent/\e'.kids.Nodup/\∀x,x∈e'.kids↔x≠n/\x∈e.kids
 non:∀i,M i=none->M' i=none
theorem Wd.cut (h:Wd M r){n:Int}(hv:a7e M M' n)(hn:¬Bl M n 0):Wd M' r:=by
 have back:∀i e',M' i=some e'->∃e,M i=some e/\¬Bl M n i/\e'.parent=e.parent/\e'.kids.Nodup/\∀x,x∈e'.kids↔x≠n/\x∈e.kids:=fun i e' he'=>by
  have hb:¬Bl M n i:=fun hb=>by
   rw[hv.out i hb] at he';exact absurd he' (by simp)
  cases he:M i with
  |none=>
   rw[hv.non i he] at he';exact absurd he' (by simp)
  |some e=>
   obtain⟨e1,h1,h2⟩:=hv.old i e he hb;rw[h1] at he';cases he';exact⟨e,rfl,hb,h2⟩
 obtain⟨e0,hr1,hr2⟩:=h.root;refine⟨?_,fun i hi=>hv.non i (h.neg i hi),?_,?_,?_,h.r0,?_⟩
 ·obtain⟨e1,h1,h2,_⟩:=hv.old 0 e0 hr1 hn;exact⟨e1,h1,h2.trans hr2⟩
 ·intro i e' he' hi0;obtain⟨e,h1,hb,h2,_,_⟩:=back i e' he';obtain⟨q1,h5,h6,h7⟩:=h.up i e h1 hi0;obtain⟨q',h8,_,_,h9⟩:=hv.old _ q1 h5 (fun hp=>hb (.kid h1 hi0 hp));rw[h2];refine⟨q',h8,(h9 _).2 ⟨fun e1=>?_,h6⟩,h7⟩;subst e1;exact hb (.self h1)
 ·intro i e' k he' hk;obtain⟨e,h1,hb,h2,_,h4⟩:=back i e' he';obtain⟨hkn,hk⟩:=(h4 k).1 hk;obtain⟨x,h5,h6,h7⟩:=h.down i e k h1 hk;have hbk:¬Bl M n k:=fun hbk=>by
   cases hbk with
   |self _=>exact hkn rfl
   |kid hx _ hp=>
    rw[h5] at hx;cases hx;rw[h6] at hp;exact hb hp
  obtain⟨x',h8,h9,_⟩:=hv.old k x h5 hbk;exact⟨x',h8,h9.trans h6,h7⟩
 ·intro i e' he';obtain⟨_,_,_,_,h3,_⟩:=back i e' he';exact h3
 ·intro i e' he';obtain⟨e,h1,_⟩:=back i e' he';exact h.rb i e h1
theorem a7e.count {n:Int}(hv:a7e M M' n){c:Nat}(hc:Cd M c){L:List Int}(hl:L.Nodup)(hL:∀x,x∈L↔Bl M n x):Cd M' (c-L.length)/\L.length<=c:=by
 obtain⟨l,h1,rfl,h3⟩:=hc;have hp:l.Perm (L++l.filter (fun x=> !decide (x∈L))):=by
  refine(List.perm_ext_iff_of_nodup h1 ?_).2 fun x=>?_
  ·rw[List.nodup_append];refine⟨hl,h1.filter _,fun a ha b hb hab=>?_⟩;subst hab;simp[ha] at hb
  ·rw[List.mem_append,List.mem_filter];by_cases hx:x∈L
   ·obtain⟨e,he⟩:=((hL x).1 hx).in_;simp[hx,h3,he]
   ·simp[hx]
 have hlen:=hp.length_eq;rw[List.length_append] at hlen;refine⟨⟨l.filter (fun x=> !decide (x∈L)),h1.filter _,by omega,fun x=>?_⟩,by omega⟩;rw[List.mem_filter,h3];by_cases hx:x∈L
 ·simp[hx,hv.out x ((hL x).1 hx)]
 ·cases he:M x with
  |none=>simp[hv.non x he]
  |some e=>
   obtain⟨e1,h4,_⟩:=hv.old x e he (fun hb=>hx ((hL x).2 hb));simp[hx,h4]
structure a7g (M M':Dm)(n par:Int):Prop where
 old:∀i e,M i=some e->∃e',M' i=some e'/\e'.parent=(if i=n then par else e.parent)/\e'.kids.Nodup/\∀x,x∈e'.kids↔(x=n/\i=par)\/(x≠n/\x∈e.kids)
 non:∀i,M i=none->M' i=none
theorem Wd.move (h:Wd M r){n par:Int}{e q:iy}(hv:a7g M M' n par)(hn:M n=some e)(h0:n≠0)(hq:M par=some q)(hp:¬Bl M n par){L:List Int}(hL:∀x,x∈L↔Bl M n x)(hb:∀x∈L,r x+1+r par<=10+r n):
  Wd M' (fun x=>if x∈L then r x+r par+1-r n else r x):=by
 have back:∀i e',M' i=some e'->∃e,M i=some e/\e'.parent=(if i=n then par else e.parent)/\e'.kids.Nodup/\∀x,x∈e'.kids↔(x=n/\i=par)\/(x≠n/\x∈e.kids):=fun i e' he'=>by
  cases he:M i with
  |none=>
   rw[hv.non i he] at he';exact absurd he' (by simp)
  |some e=>
   obtain⟨e1,h1,h2⟩:=hv.old i e he;rw[h1] at he';cases he';exact⟨e,rfl,h2⟩
 have hnL:n∈L:=(hL n).2 (.self hn);have hpL:par ∉ L:=fun hm=>hp ((hL par).1 hm);obtain⟨e0,hr1,hr2⟩:=h.root;have h0L:(0:Int) ∉ L:=fun hm=>by
  cases(hL 0).1 hm with
  |self _=>exact h0 rfl
  |kid _ hx _=>exact hx rfl
 refine⟨?_,fun i hi=>hv.non i (h.neg i hi),?_,?_,?_,?_,?_⟩
 ·obtain⟨e1,h1,h2,_⟩:=hv.old 0 e0 hr1;refine⟨e1,h1,?_⟩;rw[h2,if_neg (fun e=>h0 e.symm)];exact hr2
 ·intro i e' he' hi0;obtain⟨e1,h1,h2,_,_⟩:=back i e' he';by_cases hi:i=n
  ·subst hi;obtain⟨q',h3,_,_,h4⟩:=hv.old par q hq;rw[h2,if_pos rfl];refine⟨q',h3,(h4 _).2 (.inl ⟨rfl,rfl⟩),?_⟩;simp only[if_pos hnL,if_neg hpL];omega
  ·obtain⟨q1,h5,h6,h7⟩:=h.up i e1 h1 hi0;obtain⟨q',h8,_,_,h9⟩:=hv.old _ q1 h5;rw[h2,if_neg hi];refine⟨q',h8,(h9 _).2 (.inr ⟨hi,h6⟩),?_⟩;by_cases hiL:i∈L
   ·have ZL:e1.parent∈L:=by
     cases(hL i).1 hiL with
     |self _=>exact absurd rfl hi
     |kid hx _ hb=>
      rw[h1] at hx;cases hx;exact(hL _).2 hb
    have hlow:=(h.low ((hL _).1 ZL)).1;simp only[if_pos hiL,if_pos ZL];omega
   ·have ZL:e1.parent ∉ L:=fun hm=>hiL ((hL i).2 (.kid h1 hi0 ((hL _).1 hm)));simp only[if_neg hiL,if_neg ZL];exact h7
 ·intro i e' k he' hk;obtain⟨e1,h1,h2,_,h4⟩:=back i e' he';rcases(h4 k).1 hk with⟨rfl,rfl⟩|⟨hkn,hk⟩
  ·obtain⟨e2,h5,h6,_⟩:=hv.old k e hn;exact⟨e2,h5,by rw[h6,if_pos rfl],h0⟩
  ·obtain⟨x,h5,h6,h7⟩:=h.down i e1 k h1 hk;obtain⟨x',h8,h9,_⟩:=hv.old k x h5;exact⟨x',h8,by rw[h9,if_neg hkn];exact h6,h7⟩
 ·intro i e' he';obtain⟨_,_,_,h3,_⟩:=back i e' he';exact h3
 ·simp only[if_neg h0L];exact h.r0
 ·intro i e' he';obtain⟨e1,h1,_⟩:=back i e' he';have:=h.rb i e1 h1;by_cases hi:i∈L
  ·have h3:=hb i hi;have h4:=(h.low ((hL i).1 hi)).1;simp only[if_pos hi];omega
  ·simp only[if_neg hi];exact this
theorem a7g.count {n par:Int}(hv:a7g M M' n par){c:Nat}(hc:Cd M c):Cd M' c:=by
 obtain⟨l,h1,h2,h3⟩:=hc;refine⟨l,h1,h2,fun x=>?_⟩;rw[h3];cases he:M x with
 |none=>simp[hv.non x he]
 |some e=>
  obtain⟨e1,h4,_⟩:=hv.old x e he;simp[h4]
end
end
section
mutual
def Ld (d:Nat):Nd->List Nat
 | .mk _ _ ks=>d::P9 (d+1) ks
def P9 (d:Nat):List Nd->List Nat
 |[]=>[]
 |n::l=>Ld d n++P9 d l
end
mutual
theorem kI:∀(n:Nd) (d:Nat),(Ld d n).length=dQ n
 | .mk nm ats ks,d=>by rw[Ld,dQ,List.length_cons,Pb ks]
theorem Pb:∀(l:List Nd) (d:Nat),(P9 d l).length=iO l
 |[],_=>rfl
 |n::l,d=>by rw[P9,iO,List.length_append,kI n,Pb l]
end
theorem JG (n:Nd)(d:Nat):(Ld d n)[0]? =some d:=by
 cases n;rw[Ld];rfl
mutual
theorem Pd:∀(n:Nd) (d a:Nat),a∈Ld d n->d<=a
 | .mk nm ats ks,d,a,h=>by
  rw[Ld] at h;rcases List.mem_cons.1 h with rfl|h
  ·exact Nat.le_refl _
  ·have:=Pe ks (d+1) a h;omega
theorem Pe:∀(l:List Nd) (d a:Nat),a∈P9 d l->d<=a
 |[],_,_,h=>by simp[P9] at h
 |n::l,d,a,h=>by
  rw[P9] at h;rcases List.mem_append.1 h with h|h
  ·exact Pd n d a h
  ·exact Pe l d a h
end
mutual
theorem Wl:∀(n:Nd) (k:Nat) (p:Int) (d j:Nat) (e:iy),(mP k p n)[j]? =some e->0<j->∃(i:Nat) (q:iy) (a:Nat),(mP k p n)[i]? =some q/\e.parent=k+i/\(k:Int)+j∈q.kids/\(Ld d n)[i]? =some a/\(Ld d n)[j]? =some (a+1)
 | .mk nm ats ks,k,p,d,0,e,h,hj=>absurd hj (Nat.lt_irrefl _)
 | .mk nm ats ks,k,p,d,j+1,e,h,_=>by
  rw[mP] at h⊢;rw[Ld];rcases Wm ks (k+1) k (d+1) j e (by simpa using h) with⟨h1,h2,h3⟩|⟨i,q,a,h1,h2,h3,h4,h5⟩
  ·refine⟨0,_,d,rfl,by omega,?_,rfl,by simpa using h3⟩;rw[show(k:Int)+(j+1:Nat)=((k+1:Nat):Int)+j from by omega];exact h2
  ·refine⟨i+1,q,a,by simpa using h1,by omega,?_,by simpa using h4,by simpa using h5⟩;rw[show(k:Int)+(j+1:Nat)=((k+1:Nat):Int)+j from by omega];exact h3
theorem Wm:∀(l:List Nd) (k:Nat) (p:Int) (d j:Nat) (e:iy),(NF k p l)[j]? =some e->(e.parent=p/\(k:Int)+j∈oh k l/\(P9 d l)[j]? =some d)\/∃(i:Nat) (q:iy) (a:Nat),(NF k p l)[i]? =some q/\e.parent=k+i/\(k:Int)+j∈q.kids/\(P9 d l)[i]? =some a/\(P9 d l)[j]? =some (a+1)
 |[],_,_,_,_,_,h=>by simp[NF] at h
 |n::l,k,p,d,j,e,h=>by
  rw[NF] at h⊢;rw[P9];by_cases hj:j<dQ n
  ·rw[List.getElem?_append_left (by rw[dN];exact hj)] at h;by_cases h0:j=0
   ·subst h0;rcases Ob n k p 0 e h with h1|h1
    ·refine .inl ⟨h1.2,by rw[oh];simp,?_⟩;rw[List.getElem?_append_left (by rw[kI];exact hj)];exact JG n d
    ·omega
   ·obtain⟨i,q,a,h1,h2,h3,h4,h5⟩:=Wl n k p d j e h (by omega);refine .inr ⟨i,q,a,?_,h2,h3,?_,?_⟩
    ·rw[List.getElem?_append_left (List.getElem?_eq_some_iff.1 h1).1];exact h1
    ·rw[List.getElem?_append_left (List.getElem?_eq_some_iff.1 h4).1];exact h4
    ·rw[List.getElem?_append_left (List.getElem?_eq_some_iff.1 h5).1];exact h5
  ·rw[List.getElem?_append_right (by rw[dN];omega),dN] at h;have hk:(k:Int)+j=((k+dQ n:Nat):Int)+(j-dQ n:Nat):=by omega
   rcases Wm l (k+dQ n) p d (j-dQ n) e h with⟨h1,h2,h3⟩|⟨i,q,a,h1,h2,h3,h4,h5⟩
   ·refine .inl ⟨h1,?_,?_⟩
    ·rw[oh,hk];exact List.mem_cons_of_mem _ h2
    ·rw[List.getElem?_append_right (by rw[kI];omega),kI];exact h3
   ·refine .inr ⟨dQ n+i,q,a,?_,by omega,by rw[hk];exact h3,?_,?_⟩
    ·rw[List.getElem?_append_right (by rw[dN];omega),dN,show dQ n+i-dQ n=i from by omega];exact h1
    ·rw[List.getElem?_append_right (by rw[kI];omega),kI,show dQ n+i-dQ n=i from by omega];exact h4
    ·rw[List.getElem?_append_right (by rw[kI];omega),kI];exact h5
end
theorem Wn:∀(l:List Nd) (k:Nat) (p x:Int),x∈oh k l->∃(j:Nat) (e:iy),x=k+j/\(NF k p l)[j]? =some e/\e.parent=p
 |[],_,_,_,h=>by simp[oh] at h
 |n::l,k,p,x,h=>by
  rw[oh] at h;rw[NF];rcases List.mem_cons.1 h with rfl|h
  ·obtain⟨nm,ats,ks⟩:=n;rw[mP];exact⟨0,_,by omega,rfl,rfl⟩
  ·obtain⟨j,e,h1,h2,h3⟩:=Wn l (k+dQ n) p x h;refine⟨dQ n+j,e,by omega,?_,h3⟩;rw[List.getElem?_append_right (by rw[dN];omega),dN,show dQ n+j-dQ n=j from by omega];exact h2
mutual
theorem JH:∀(n:Nd) (k:Nat) (p:Int) (i:Nat) (q:iy) (x:Int),(mP k p n)[i]? =some q->x∈q.kids->∃(j:Nat) (e:iy),x=k+j/\0<j/\(mP k p n)[j]? =some e/\e.parent=k+i
 | .mk nm ats ks,k,p,0,q,x,h,hx=>by
  rw[mP] at h⊢;simp at h;subst h;obtain⟨j,e,h1,h2,h3⟩:=Wn ks (k+1) k x hx;exact⟨j+1,e,by omega,by omega,by simpa using h2,by omega⟩
 | .mk nm ats ks,k,p,i+1,q,x,h,hx=>by
  rw[mP] at h⊢;obtain⟨j,e,h1,h2,h3⟩:=JI ks (k+1) k i q x (by simpa using h) hx;exact⟨j+1,e,by omega,by omega,by simpa using h2,by omega⟩
theorem JI:∀(l:List Nd) (k:Nat) (p:Int) (i:Nat) (q:iy) (x:Int),(NF k p l)[i]? =some q->x∈q.kids->∃(j:Nat) (e:iy),x=k+j/\(NF k p l)[j]? =some e/\e.parent=k+i
 |[],_,_,_,_,_,h,_=>by simp[NF] at h
 |n::l,k,p,i,q,x,h,hx=>by
  rw[NF] at h⊢;by_cases hi:i<dQ n
  ·rw[List.getElem?_append_left (by rw[dN];exact hi)] at h;obtain⟨j,e,h1,_,h2,h3⟩:=JH n k p i q x h hx;refine⟨j,e,h1,?_,h3⟩;rw[List.getElem?_append_left (List.getElem?_eq_some_iff.1 h2).1];exact h2
  ·rw[List.getElem?_append_right (by rw[dN];omega),dN] at h;obtain⟨j,e,h1,h2,h3⟩:=JI l (k+dQ n) p (i-dQ n) q x h hx;refine⟨dQ n+j,e,by omega,?_,by omega⟩;rw[List.getElem?_append_right (by rw[dN];omega),dN,show dQ n+j-dQ n=j from by omega];exact h2
end
theorem Pf:∀(l:List Nd) (k:Nat) (x:Int),x∈oh k l->(k:Int)<=x
 |[],_,_,h=>by simp[oh] at h
 |n::l,k,x,h=>by
  rw[oh] at h;rcases List.mem_cons.1 h with rfl|h
  ·exact Int.le_refl _
  ·have:=Pf l _ x h;omega
theorem EC:∀(l:List Nd) (k:Nat),(oh k l).Nodup
 |[],_=>List.nodup_nil
 |n::l,k=>by
  rw[oh,List.nodup_cons];refine⟨fun hm=>?_,EC l _⟩;have:=Pf l _ _ hm;have:=O7 n;omega
mutual
theorem JJ:∀(n:Nd) (k:Nat) (p:Int),∀e∈mP k p n,e.kids.Nodup
 | .mk nm ats ks,k,p,e,he=>by
  rw[mP] at he;rcases List.mem_cons.1 he with rfl|he
  ·exact EC ks _
  ·exact JK ks _ _ e he
theorem JK:∀(l:List Nd) (k:Nat) (p:Int),∀e∈NF k p l,e.kids.Nodup
 |[],_,_,e,he=>by simp[NF] at he
 |n::l,k,p,e,he=>by
  rw[NF] at he;rcases List.mem_append.1 he with he|he
  ·exact JJ n _ _ e he
  ·exact JK l _ _ e he
end
def Db (n:Nd)(i:Int):Nat:=((Ld 1 n)[i.toNat]?).getD 0
theorem Wd.new (n:Nd)(hd:∀a∈Ld 1 n,a<=10):Wd (zU (fun _=>none) 0 (mP 0 (-1) n)) (Db n):=by
 have look:∀i e,zU (fun _=>none) 0 (mP 0 (-1) n) i=some e->∃j:Nat,i=j/\(mP 0 (-1) n)[j]? =some e:=fun i e h=>by
  unfold zU at h;split at h
  ·next hi=>
   refine⟨i.toNat,by omega,?_⟩;rw[show i.toNat=(i-(0:Nat)).toNat from by omega];exact h
  ·exact absurd h (by simp)
 have give:∀(j:Nat) e,(mP 0 (-1) n)[j]? =some e->zU (fun _=>none) 0 (mP 0 (-1) n) (j:Int)=some e:=fun j e h=>by
  have h1:=I7 (M:=fun _=>none) (nx:=0) (L:=mP 0 (-1) n) (j:=j) (List.getElem?_eq_some_iff.1 h).1;rw[show((0:Nat):Int)+j=j from by omega] at h1;rw[h1];exact h
 have rk:∀j a:Nat,(Ld 1 n)[j]? =some a->Db n (j:Int)=a:=fun j a h=>by
  unfold Db;rw[Int.toNat_natCast,h];rfl
 have abz:∃e,(mP 0 (-1) n)[0]? =some e/\e.parent= -1:=by
  obtain⟨nm,ats,ks⟩:=n;rw[mP];exact⟨_,rfl,rfl⟩
 refine⟨?_,fun i hi=>Ub (by omega),?_,?_,?_,?_,?_⟩
 ·obtain⟨e,h1,h2⟩:=abz;exact⟨e,give 0 e h1,h2⟩
 ·intro i e he h0;obtain⟨j,rfl,hj⟩:=look i e he;obtain⟨i',q,a,h1,h2,h3,h4,h5⟩:=Wl n 0 (-1) 1 j e hj (by omega);have h2':e.parent=(i':Int):=by omega
  rw[h2'];refine⟨q,give i' q h1,?_,by rw[rk j _ h5,rk i' _ h4]⟩;rw[show((0:Nat):Int)+j=j from by omega] at h3;exact h3
 ·intro i e k he hk;obtain⟨j,rfl,hj⟩:=look i e he;obtain⟨j',x,h1,h2,h3,h4⟩:=JH n 0 (-1) j e k hj hk;have h1':k=(j':Int):=by omega
  subst h1';exact⟨x,give j' x h3,by omega,by omega⟩
 ·intro i e he;obtain⟨j,rfl,hj⟩:=look i e he;exact JJ n 0 (-1) e (List.mem_of_getElem? hj)
 ·exact rk 0 1 (JG n 1)
 ·intro i e he;obtain⟨j,rfl,hj⟩:=look i e he;have hl:j<(Ld 1 n).length:=by
   have:=(List.getElem?_eq_some_iff.1 hj).1;rw[dN] at this;rw[kI];exact this
  rw[rk j _ (List.getElem?_eq_getElem hl)];have hm:=List.getElem_mem hl;exact⟨Pd n 1 _ hm,hd _ hm⟩
theorem Cd.new (n:Nd):Cd (zU (fun _=>none) 0 (mP 0 (-1) n)) (dQ n):=by
 refine⟨nums 0 (dQ n),?_,by simp[nums],fun x=>?_⟩
 ·unfold nums;exact List.Pairwise.map _ (fun a b h=>by omega) (List.nodup_range' (s:=0) (n:=dQ n) (step:=1))
 ·rw[Ug];unfold zU;rw[dN];constructor
  ·intro h;rw[if_pos (by omega),List.getElem?_eq_getElem (by rw[dN];omega)];simp
  ·intro h;refine Classical.byContradiction fun hn=>?_;rw[if_neg (by omega)] at h;exact h rfl
theorem a6c:∀(K:List Int) (a:Nat) (n:Int),K[a]? =some n->K.Nodup->(K.filter (fun x=> !decide (x=n))).take a++n::(K.filter (fun x=> !decide (x=n))).drop a=K
 |[],_,_,h,_=>by simp at h
 |k::K,0,n,h,hn=>by
  simp at h;subst h;have h1:=(List.nodup_cons.1 hn).1;have h2:K.filter (fun x=> !decide (x=k))=K:=List.filter_eq_self.2 fun x hx=>by
   have:x≠k:=fun e=>h1 (e▸hx);simp[this]
  rw[List.filter_cons];simp[h2]
 |k::K,a+1,n,h,hn=>by
  have h1:=List.nodup_cons.1 hn;have h2:K[a]? =some n:=by simpa using h
  have h3:k≠n:=fun e=>h1.1 (e▸List.mem_of_getElem? h2);rw[List.filter_cons];simp only[h3,decide_false,Bool.not_false,if_true,List.take_succ_cons,List.drop_succ_cons,List.cons_append];rw[a6c K a n h2 h1.2]
end
section
theorem Wd.deep {M:Dm}{r:Int->Nat}(h:Wd M r):∀(d:Nat) (x:Int) (e:iy),r x=d->M x=some e->Up M x d
 |0,x,e,hd,he=>by
  have:=(h.rb x e he).1;omega
 |d+1,x,e,hd,he=>by
  refine⟨e,he,?_⟩;by_cases h0:x=0
  ·subst h0;obtain⟨e0,h1,h2⟩:=h.root;rw[he] at h1;cases h1;have:d=0:=by have:=h.r0;omega
   subst this;rw[h2];exact h.neg _ (by decide)
  ·obtain⟨q,hq,_,hr⟩:=h.up x e he h0;exact h.deep d _ q (by omega) hq
theorem a1V {L:List Int}{a:Nat}{k x:Int}:x∈CU L a k↔x=k\/x∈L:=by
 unfold CU;rw[List.mem_append,List.mem_cons];constructor
 ·rintro(h|h|h)
  ·exact .inr (List.mem_of_mem_take h)
  ·exact .inl h
  ·exact .inr (List.mem_of_mem_drop h)
 ·rintro(h|h)
  ·exact .inr (.inl h)
  ·rw[<- List.take_append_drop a L] at h;rcases List.mem_append.1 h with h|h
   ·exact .inl h
   ·exact .inr (.inr h)
theorem a1s {L:List Int}{a:Nat}{k:Int}(h:L.Nodup)(hk:k ∉ L):(CU L a k).Nodup:=by
 have hp:(CU L a k).Perm (k::L):=by
  unfold CU;refine List.perm_middle.trans ?_;rw[List.take_append_drop]
 exact hp.nodup_iff.2 (List.nodup_cons.2 ⟨hk,h⟩)
theorem a4m {L:List Int}{k x:Int}:x∈woL L k↔x≠k/\x∈L:=by
 unfold woL;rw[List.mem_filter];by_cases h:x=k<;>simp[h]
section
variable {M:Dm}{r:Int->Nat}
theorem Wd.a3E (h:Wd M r){i k:Int}{e:iy}(he:M i=some e)(hk:k∈e.kids):M k≠none:=by
 obtain⟨x,hx,_⟩:=h.down i e k he hk;rw[hx];simp
theorem Wd.aff (h:Wd M r){nx par:Int}{q:iy}(hnx:M nx=none)(h0:0<=nx)(hq:M par=some q)(name:Bs)(a:Nat):a7d M (gH (gH M nx ⟨name,[],par,[]⟩) par ⟨q.name,q.ats,q.parent,CU q.kids a nx⟩) nx par:=by
 have hp:nx≠par:=fun e=>by
  rw[<- e,hnx] at hq;exact absurd hq (by simp)
 refine⟨hnx,h0,⟨⟨name,[],par,[]⟩,?_,rfl,rfl⟩,fun i e he=>?_,fun i hi hn=>?_⟩
 ·unfold gH;rw[if_neg hp,if_pos rfl]
 ·have hin:i≠nx:=fun e1=>by
   rw[e1,hnx] at he;exact absurd he (by simp)
  unfold gH;by_cases hi:i=par
  ·subst hi;rw[hq] at he;cases he;rw[if_pos rfl];refine⟨_,rfl,rfl,a1s (h.nodup i q hq) (fun hm=>h.a3E hq hm hnx),fun x=>?_⟩;rw[a1V];simp
  ·rw[if_neg hi,if_neg hin];exact⟨e,he,rfl,h.nodup i e he,fun x=>by simp[hi]⟩
 ·unfold gH;rw[if_neg (fun e1=>by rw[e1,hq] at hn;exact absurd hn (by simp)),if_neg hi];exact hn
theorem Wd.a6d (h:Wd M r){n:Int}{e:iy}(hn:M n=some e)(h0:n≠0):¬Bl M n e.parent:=fun hb=>by
 obtain⟨q,_,_,hr⟩:=h.up n e hn h0;have:=(h.low hb).1;omega
theorem Wd.a2U (h:Wd M r){n:Int}{e o:iy}(hn:M n=some e)(h0:n≠0){f:Nat}{d:Int}(hf:Dp M f n):pre (IA M n e o) f n d=pre M f n d:=by
 refine a1T f n d (fun x hx=>?_) (fun hm=>absurd (hm.symm.trans hn) (by simp)) (fun y q hy hq k hk=>h.a3E hq hk);have hb:=(h.mem hf).1 hx;unfold IA gH;rw[if_neg];intro e1;subst e1;exact h.a6d hn h0 hb
theorem Wd.cutV (h:Wd M r){n:Int}{e o:iy}(hn:M n=some e)(ho:M e.parent=some o){L:List Int}(hL:∀x,x∈L↔Bl M n x):a7e M (K9 (IA M n e o) L) n:=by
 refine⟨fun i hb=>?_,fun i x hx hb=>?_,fun i hi=>?_⟩
 ·unfold K9;rw[if_pos ((hL i).2 hb)]
 ·unfold K9;rw[if_neg (fun hm=>hb ((hL i).1 hm))];unfold IA gH;by_cases hi:i=e.parent
  ·rw[if_pos hi];rw[hi,ho] at hx;cases hx;exact⟨_,rfl,rfl,(h.nodup _ o ho).filter _,fun y=>a4m⟩
  ·rw[if_neg hi];refine⟨x,hx,rfl,h.nodup i x hx,fun y=>⟨fun hy=>⟨fun e1=>?_,hy⟩,fun hy=>hy.2⟩⟩;subst e1;obtain⟨z,hz,hzp,_⟩:=h.down i x y hx hy;rw[hn] at hz;cases hz;exact hi hzp.symm
 ·unfold K9 IA gH;by_cases hm:i∈L
  ·rw[if_pos hm]
  ·rw[if_neg hm,if_neg (fun e1=>by rw[e1,ho] at hi;exact absurd hi (by simp))];exact hi
end
end
section
section
variable {M:Dm}{r:Int->Nat}
theorem Wd.a4o (h:Wd M r){n i:Int}{e x:iy}(hn:M n=some e)(hx:M i=some x)(hi:i≠e.parent):n ∉ x.kids:=fun hm=>by
 obtain⟨z,hz,hzp,_⟩:=h.down i x n hx hm;rw[hn] at hz;cases hz;exact hi hzp.symm
theorem Wd.a0P (h:Wd M r){n i:Int}{e o x:iy}(hn:M n=some e)(ho:M e.parent=some o)(hx:M i=some x):∃x',IA M n e o i=some x'/\x'.parent=x.parent/\x'.kids.Nodup/\∀y,y∈x'.kids↔y≠n/\y∈x.kids:=by
 unfold IA gH;by_cases hi:i=e.parent
 ·rw[if_pos hi];rw[hi,ho] at hx;cases hx;exact⟨_,rfl,rfl,(h.nodup _ o ho).filter _,fun y=>a4m⟩
 ·rw[if_neg hi];refine⟨x,hx,rfl,h.nodup i x hx,fun y=>⟨fun hy=>⟨fun e1=>?_,hy⟩,fun hy=>hy.2⟩⟩;subst e1;exact h.a4o hn hx hi hy
theorem Wd.a2Y (h:Wd M r){n:Int}{e:iy}(hn:M n=some e)(h0:n≠0):e.parent≠n:=fun e1=>h.a6d hn h0 (by rw[e1];exact .self hn)
theorem Wd.afk (h:Wd M r){n par:Int}{e o q0 q:iy}(hn:M n=some e)(h0:n≠0)(ho:M e.parent=some o)(hq0:M par=some q0)(hq:IA M n e o par=some q)(hpn:par≠n)(a:Nat):a7g M (a5F M n par a e o q) n par:=by
 refine⟨fun i x hx=>?_,fun i hi=>?_⟩
 ·unfold a5F;by_cases hi:i=par
  ·subst hi;obtain⟨x',h1,h2,h3,h4⟩:=h.a0P hn ho hx;rw[hq] at h1;cases h1;refine⟨⟨q.name,q.ats,q.parent,CU q.kids a n⟩,by rw[gH,if_pos rfl],?_,a1s h3 (fun hm=>((h4 n).1 hm).1 rfl),fun y=>?_⟩
   ·rw[if_neg hpn];exact h2
   ·show y∈CU q.kids a n↔_;rw[a1V,h4];simp
  ·by_cases hin:i=n
   ·subst hin;rw[hn] at hx;cases hx;refine⟨⟨e.name,e.ats,par,e.kids⟩,by rw[gH,if_neg hi,gH,if_pos rfl],by rw[if_pos rfl],h.nodup i e hn,fun y=>?_⟩;show y∈e.kids↔_;constructor
    ·intro hy;refine .inr ⟨fun e1=>?_,hy⟩;subst e1;exact h.a4o hn hn (fun e1=>h.a2Y hn h0 e1.symm) hy
    ·rintro(⟨_,h1⟩|⟨_,h1⟩)
     ·exact absurd h1 hi
     ·exact h1
   ·obtain⟨x',h1,h2,h3,h4⟩:=h.a0P hn ho hx;refine⟨x',by rw[gH,if_neg hi,gH,if_neg hin];exact h1,by rw[if_neg hin];exact h2,h3,fun y=>?_⟩;rw[h4];simp[hi]
 ·have n1:i≠par:=fun e1=>by rw[e1,hq0] at hi;exact absurd hi (by simp)
  have n2:i≠n:=fun e1=>by rw[e1,hn] at hi;exact absurd hi (by simp)
  have n3:i≠e.parent:=fun e1=>by rw[e1,ho] at hi;exact absurd hi (by simp)
  unfold a5F;rw[gH,if_neg n1,gH,if_neg n2];unfold IA;rw[gH,if_neg n3];exact hi
theorem a1F:∀(l:List (Int×Int)) (m:Int),m<=l.foldl (fun m x=>max m x.2) m/\∀x∈l,x.2<=l.foldl (fun m x=>max m x.2) m
 |[],m=>⟨Int.le_refl _,fun x hx=>absurd hx (by simp)⟩
 |y::l,m=>by
  obtain⟨h1,h2⟩:=a1F l (max m y.2);rw[List.foldl_cons];refine⟨by omega,fun x hx=>?_⟩;rcases List.mem_cons.1 hx with rfl|hx
  ·omega
  ·exact h2 x hx
theorem a2Z:∀(l:List (Int×Int)) (m b:Int),m<=b->(∀x∈l,x.2<=b)->l.foldl (fun m x=>max m x.2) m<=b
 |[],_,_,h,_=>h
 |y::l,m,b,h,hl=>by
  rw[List.foldl_cons];have:=hl y (by simp);exact a2Z l _ b (by omega) (fun x hx=>hl x (by simp[hx]))
theorem Wd.fits (h:Wd M r){n par:Int}{f:Nat}(hd:(r par:Int)+El (pre M f n 1)<=10):∀x∈jm M f n,r x+1+r par<=10+r n:=fun x hx=>by
 obtain⟨⟨y,dy⟩,hy,rfl⟩:=List.mem_map.1 hx;have h1:=(h.zZ f n 1 y dy hy).2;have h2:=(a1F (pre M f n 1) 0).2 _ hy;unfold El at hd;show r y+1+r par<=10+r n;simp only at h2;omega
theorem Wd.most (h:Wd M r){n:Int}{f:Nat}:0<=El (pre M f n 1)/\El (pre M f n 1)<=10:=by
 refine⟨(a1F (pre M f n 1) 0).1,a2Z _ _ _ (by decide) fun x hx=>?_⟩;obtain⟨y,dy⟩:=x;obtain⟨h1,h2⟩:=h.zZ f n 1 y dy hx;obtain⟨e,he⟩:=h1.in_;have h3:=(h.rb y e he).2;have h4:=(h.low h1).1;obtain⟨x,hx⟩:∃x,M n=some x:=by
  cases f with
  |zero=>simp[pre] at hx
  |succ f=>
   cases hm:M n with
   |none=>rw[pre,hm] at hx;simp at hx
   |some x=>exact⟨x,rfl⟩
 have h5:=(h.rb n x hx).1;show dy<=10;omega
end
end
section
open Go.RowKit
mutual
theorem Wo:∀(n:Nd) (deep ahead:Nat),(fT n deep ahead).1=0->∀a∈Ld deep n,a<=10
 | .mk nm ats ks,deep,ahead,h,a,ha=>by
  unfold fT at h;split at h
  ·rename_i h1;rw[Ld] at ha;rcases List.mem_cons.1 ha with rfl|ha
   ·exact(vo h1).1
   ·exact Wp ks _ _ h a ha
  ·rename_i h1;exact(h1 h).elim
theorem Wp:∀(l:List Nd) (deep ahead:Nat),(uD l deep ahead).1=0->∀a∈P9 deep l,a<=10
 |[],_,_,_,a,ha=>by simp[P9] at ha
 |k::l,deep,ahead,h,a,ha=>by
  by_cases h1:(fT k deep ahead).1=0
  ·rw[qM h1] at h;rw[P9] at ha;rcases List.mem_append.1 ha with ha|ha
   ·exact Wo k deep ahead h1 a ha
   ·exact Wp l _ _ h a ha
  ·rw[vv h1] at h;exact(h1 h).elim
end
structure gN (B:Nat)(tg:kE)(W:World)(DB MB:Nat)(p:Int->Option Nat)(M:Dm)(nx c:Nat)(r:Int->Nat):Prop where
 w:bG B tg W DB MB p M nx c
 d:Wd M r
 n:Cd M c
 le:c<=100
 low:B<=W.heap.size
section
variable {E:Nat->Addr}{B:Nat}{tg:kE}{W:World}{DB MB:Nat}{p:Int->Option Nat}{M:Dm}{nx c:Nat}{r:Int->Nat}
theorem gN.below {w':World}(h:gN B tg W DB MB p M nx c r)(hb:Below W.heap.size W w'):gN B tg w' DB MB p M nx c r:=⟨h.w.below hb,h.d,h.n,h.le,Nat.le_trans h.low hb.size⟩
theorem gN.few (h:gN B tg W DB MB p M nx c r){i:Int}{e:iy}(he:M i=some e):e.kids.length<=100:=by
 obtain⟨l,_,h2,h3⟩:=h.n;have:=G9 e.kids l (h.d.nodup i e he) (fun x hx=>(h3 x).2 (h.d.a3E he hx));have:=h.le;omega
theorem gN.new (h:gN B tg W DB MB p M nx c r):M nx=none:=by
 cases hm:M nx with
 |none=>rfl
 |some e=>
  have:=h.w.dom nx e hm;omega
end
end
section
open Go.RowKit
theorem Dp.sub {M M':Dm}(h:∀i x',M' i=some x'->∃x,M i=some x/\∀k∈x'.kids,k∈x.kids):∀{f:Nat} {i:Int},Dp M f i->Dp M' f i
 |0,_,hd=>hd.elim
 |_+1,i,hd=>fun x' hx' k hk=>by
  obtain⟨x,hx,hs⟩:=h i x' hx';exact Dp.sub h (hd x hx k (hs k hk))
theorem a7i {K:List Int}{n:Int}(hm:n∈K)(hn:K.Nodup):(woL K n).length+1=K.length:=by
 obtain⟨a,ha⟩:=List.getElem?_of_mem hm;have h1:=congrArg List.length (a6c K a n ha hn);rw[List.length_append,List.length_cons] at h1;have h2:=congrArg List.length (List.take_append_drop a (woL K n));rw[List.length_append] at h2;show(woL K n).length+1=K.length;unfold woL at h2⊢;omega
section
variable {E:Nat->Addr}{B:Nat}{tg:kE}{W:World}{DB MB:Nat}{p:Int->Option Nat}{M:Dm}{nx c:Nat}{r:Int->Nat}
theorem Wd.top (_h:Wd M r){n:Int}(h0:n≠0):¬Bl M n 0:=fun hb=>by
 cases hb with
 |self _=>exact h0 rfl
 |kid _ hx _=>exact hx rfl
theorem Wd.a4t (h:Wd M r){n:Int}{e o:iy}(hn:M n=some e)(ho:M e.parent=some o){f:Nat}{i:Int}(hd:Dp M f i):Dp (IA M n e o) f i:=by
 refine Dp.sub (fun j x' hx'=>?_) hd;cases hm:M j with
 |none=>
  unfold IA at hx';rw[gH,if_neg (fun e1=>by rw[e1,ho] at hm;exact absurd hm (by simp)),hm] at hx';exact absurd hx' (by simp)
 |some x=>
  obtain⟨x1,h1,_,_,h4⟩:=h.a0P hn ho hm;rw[hx'] at h1;cases h1;exact⟨x,rfl,fun k hk=>((h4 k).1 hk).2⟩
theorem gN.count (h:gN B tg W DB MB p M nx c r){f:Nat}{i d:Int}(hf:Dp M f i):(pre M f i d).length<=100:=by
 obtain⟨l,_,h2,h3⟩:=h.n;have h4:=G9 _ l (h.d.DT f i d) (fun x hx=>(h3 x).2 (by
  obtain⟨e,he⟩:=((h.d.mem hf).1 hx).in_;rw[he];simp))
 rw[List.length_map] at h4;have:=h.le;omega
structure afm (B:Nat)(tg:kE)(W:World)(DB MB:Nat)(p:Int->Option Nat)(M:Dm)(nx c:Nat)(n par:Int)(k:Nat)(x o q0 q:iy)(w':World):Prop where
 hn:M n=some x
 h0:n≠0
 ho:M x.parent=some o
 hno:n∈o.kids
 hq0:M par=some q0
 hq:IA M n x o par=some q
 hpn:par≠n
 kt:KT tg W w'
 doc:∃uF r',(∀x,x<W.heap.size->uF x=tg x)/\gN B uF w' DB MB p (a5F M n par k x o q) nx c r'
theorem a6e (hE:DE E W)(h:gN B tg W DB MB p M nx c r)(n par a:Int)(hwn:dH n)(hwp:dH par):
  ak 59 #[aj DB,aa n,aa par,aa a] W fun e w'=>(∃k,1<=k/\k<=11/\e=.returned (eV (E k))/\Below W.heap.size W w')\/(e=.returned .nilIface/\∃k x o q0 q,a=((k:Nat):Int)/\afm B tg W DB MB p M nx c n par k x o q0 q w'):=by
 cases hn:M n with
 |none=>
  cases hq:M par with
  |none=>exact(a7b hE h.w n par a hwn hwp hn hq).mono fun e w' hr=>.inl ⟨5,by decide,by decide,hr.1,hr.2⟩
  |some q=>exact(a5X hE h.w n par a hwn hwp q hn hq).mono fun e w' hr=>.inl ⟨5,by decide,by decide,hr.1,hr.2⟩
 |some x=>
  cases hq0:M par with
  |none=>exact(a5Y hE h.w n par a hwn hwp x hn hq0).mono fun e w' hr=>.inl ⟨5,by decide,by decide,hr.1,hr.2⟩
  |some q0=>
   by_cases h0:n=0
   ·exact(a5G hE h.w n par a hwn hwp x q0 hn hq0 h0).mono fun e w' hr=>.inl ⟨3,by decide,by decide,hr.1,hr.2⟩
   obtain⟨o,ho,hno,_⟩:=h.d.up n x hn h0;have hdp:=h.d.dp 11 n x hn (by omega);have hl:=h.count (d:=1) hdp;have hL:∀y,y∈jm M 11 n↔Bl M n y:=fun y=>h.d.mem hdp;by_cases hin:par∈jm M 11 n
   ·exact(a3s hE h.w n par a x q0 hn hq0 h0 hwn hwp 11 (by omega) hdp (by omega) hin).mono fun e w' hr=>.inl ⟨9,by decide,by decide,hr.1,hr.2⟩
   by_cases ha:a<0
   ·exact(a5Z hE h.w n par a x q0 hn hq0 h0 hwn hwp 11 (by omega) hdp (by omega) hin ha).mono fun e w' hr=>.inl ⟨2,by decide,by decide,hr.1,hr.2⟩
   have hql:=h.few hq0;by_cases hal:(if x.parent=par then(q0.kids.length:Int)-1 else q0.kids.length)<a
   ·exact(a3t hE h.w n par a x q0 hn hq0 h0 hwn hwp 11 (by omega) hdp (by omega) hin ha (by omega) hal).mono fun e w' hr=>.inl ⟨2,by decide,by decide,hr.1,hr.2⟩
   have hu:=h.d.deep _ par q0 rfl hq0;have hb:=h.d.rb par q0 hq0;have hm:=h.d.most (n:=n) (f:=11);by_cases hdd:10<(r par:Int)+El (pre M 11 n 1)
   ·exact(a5H hE h.w n par a x q0 hn hq0 h0 hwn hwp 11 (by omega) hdp (by omega) hin ha (by omega) hal (r par) hu hb.2 hdd (by omega)).mono fun e w' hr=>.inl ⟨8,by decide,by decide,hr.1,hr.2⟩
   obtain⟨k,rfl⟩:∃k:Nat,a=k:=⟨a.toNat,by omega⟩;have hpn:par≠n:=fun e1=>hin ((hL par).2 (by rw[e1];exact .self hn));have hself:=h.d.a2Y hn h0;obtain⟨q,hq,hqk⟩:∃q,IA M n x o par=some q/\(q.kids.length:Int)=if x.parent=par then(q0.kids.length:Int)-1 else q0.kids.length:=by
    unfold IA gH;by_cases he:par=x.parent
    ·rw[if_pos he,if_pos he.symm];refine⟨_,rfl,?_⟩;have h1:=a7i hno (h.d.nodup _ o ho);have hoq:o=q0:=by rw[he,ho] at hq0;exact Option.some.inj hq0
     rw[<- hoq];show((woL o.kids n).length:Int)=_;omega
    ·rw[if_neg he,if_neg (fun e1=>he e1.symm)];exact⟨q0,hq0,rfl⟩
   have hkq:k<=q.kids.length:=by omega
   have hqb:q.kids.length<=1000000:=by
    split at hqk<;>omega
   refine(a5U h.w n par k x o q0 q hn h0 ho (List.ne_nil_of_mem hno) hself hq0 hq hpn 11 (by omega) hdp (by omega) hin (by omega) (by omega) hkq hqb (r par) hu (by omega) hm.1 h.low).mono ?_;rintro e w' ⟨rfl,hk,uF,ht,hd⟩;have hv:=h.d.afk hn h0 ho hq0 hq hpn k;exact .inr ⟨rfl,k,x,o,q0,q,rfl,⟨hn,h0,ho,hno,hq0,hq,hpn,hk,uF,_,ht,hd,h.d.move hv hn h0 hq0 (fun hb=>hin ((hL par).2 hb)) hL (h.d.fits (by omega)),hv.count h.n,h.le,Nat.le_trans h.low hk.size⟩⟩
end
end
end Go.Proofs.YtjfiehbcamfdfaaGreatDoor

/- Parts of the proof. -/
import Derived.Test.YtecneflbncjhpaaGreatDoorQp24
import Derived.Test.YtecneflbncjhpaaGreatDoorQp16
import Derived.Test.YtecneflbncjhpaaGreatDoorQp18
namespace Go.Proofs.YtecneflbncjhpaaGreatDoor
open Go.Proofs.Tryz
set_option maxHeartbeats 4000000
section
section
variable {M M':Dm}{r:Int->Nat}
structure a1Y (M M':Dm)(nx par:Int):Prop where
 was:M nx=none
 pos:0<=nx
 new:∃e,M' nx=some e/\e.parent=par/\e.kids=[]
 old:∀i e,M i=some e->∃e',M' i=some e'/\e'.parent=e.parent/\e'.kids.Nodup/\∀x,x∈e'.kids↔(x=nx/\i=par)\/x∈e.kids
 non:∀i,i≠nx->M i=none->M' i=none
theorem Wd.add (h:Wd M r){nx par:Int}{q:gH}(hv:a1Y M M' nx par)(hq:M par=some q)(hr:r par<10):Wd M' (fun i=>if i=nx then r par+1 else r i):=by
 have hp:par≠nx:=fun e=>by
  rw[e,hv.was] at hq;exact absurd hq (by simp)
 have back:∀i e',M' i=some e'->i≠nx->∃e,M i=some e/\e'.parent=e.parent/\e'.kids.Nodup/\∀x,x∈e'.kids↔(x=nx/\i=par)\/x∈e.kids:=fun i e' he' hi=>by
  cases he:M i with
  |none=>
   rw[hv.non i hi he] at he';exact absurd he' (by simp)
  |some e=>
   obtain⟨e1,h1,h2⟩:=hv.old i e he;rw[h1] at he';cases he';exact⟨e,rfl,h2⟩
 obtain⟨en,hn1,hn2,hn3⟩:=hv.new;obtain⟨e0,hr1,hr2⟩:=h.root;have h0:(0:Int)≠nx:=fun e=>by
  rw[e,hv.was] at hr1;exact absurd hr1 (by simp)
 refine⟨?_,?_,?_,?_,?_,?_,?_⟩
 ·obtain⟨e1,h1,h2,_⟩:=hv.old 0 e0 hr1;exact⟨e1,h1,h2.trans hr2⟩
 ·intro i hi;have:=hv.pos;exact hv.non i (by omega) (h.neg i hi)
 ·intro i e' he' hi0;by_cases hi:i=nx
  ·subst hi;rw[hn1] at he';cases he';obtain⟨q',h1,_,_,h4⟩:=hv.old par q hq;rw[hn2];refine⟨q',h1,(h4 _).2 (.inl ⟨rfl,rfl⟩),?_⟩;simp only[if_pos,if_neg hp]
  ·obtain⟨e,h1,h2,_,_⟩:=back i e' he' hi;obtain⟨q1,h5,h6,h7⟩:=h.up i e h1 hi0;obtain⟨q',h8,_,_,h9⟩:=hv.old _ q1 h5;rw[h2];refine⟨q',h8,(h9 _).2 (.inr h6),?_⟩;have hne:e.parent≠nx:=fun e1=>by
    rw[e1,hv.was] at h5;exact absurd h5 (by simp)
   simp only[if_neg hi,if_neg hne];exact h7
 ·intro i e' k he' hk;by_cases hi:i=nx
  ·subst hi;rw[hn1] at he';cases he';rw[hn3] at hk;exact absurd hk (by simp)
  ·obtain⟨e,h1,h2,_,h4⟩:=back i e' he' hi;rcases(h4 k).1 hk with⟨rfl,rfl⟩|hk
   ·exact⟨en,hn1,hn2,fun e=>h0 e.symm⟩
   ·obtain⟨x,h5,h6,h7⟩:=h.down i e k h1 hk;obtain⟨x',h8,h9,_⟩:=hv.old k x h5;exact⟨x',h8,h9.trans h6,h7⟩
 ·intro i e' he';by_cases hi:i=nx
  ·subst hi;rw[hn1] at he';cases he';rw[hn3];exact List.nodup_nil
  ·obtain⟨_,_,_,h3,_⟩:=back i e' he' hi;exact h3
 ·simp only[if_neg h0];exact h.r0
 ·intro i e' he';by_cases hi:i=nx
  ·simp only[if_pos hi];omega
  ·simp only[if_neg hi];obtain⟨e,h1,_⟩:=back i e' he' hi;exact h.rb i e h1
theorem a1Y.count {nx par:Int}(hv:a1Y M M' nx par){c:Nat}(hc:Cd M c):Cd M' (c+1):=by
 obtain⟨l,h1,rfl,h3⟩:=hc;refine⟨nx::l,List.nodup_cons.2 ⟨fun hm=>(h3 nx).1 hm hv.was,h1⟩,rfl,fun x=>?_⟩;rw[List.mem_cons,h3];by_cases hx:x=nx
 ·subst hx;obtain⟨en,hn1,_⟩:=hv.new;simp[hn1]
 ·cases he:M x with
  |none=>simp[hx,hv.non x hx he]
  |some e=>
   obtain⟨e1,h4,_⟩:=hv.old x e he;simp[h4]
structure a1Z (M M':Dm)(n:Int):Prop where
 out:∀i,Bl M n i->M' i=none
 old:∀i e,M i=some e->¬Bl M n i->∃e',M' i=some e'/\e'.parent=e.parent/\e'.kids.Nodup/\∀x,x∈e'.kids↔x≠n/\x∈e.kids
 non:∀i,M i=none->M' i=none
theorem Wd.cut (h:Wd M r){n:Int}(hv:a1Z M M' n)(hn:¬Bl M n 0):Wd M' r:=by
 have back:∀i e',M' i=some e'->∃e,M i=some e/\¬Bl M n i/\e'.parent=e.parent/\e'.kids.Nodup/\∀x,x∈e'.kids↔x≠n/\x∈e.kids:=fun i e' he'=>by
  have hb:¬Bl M n i:=fun hb=>by
   rw[hv.out i hb] at he';exact absurd he' (by simp)
  cases he:M i with
  |none=>
   rw[hv.non i he] at he';exact absurd he' (by simp)
  |some e=>
   obtain⟨e1,h1,h2⟩:=hv.old i e he hb;rw[h1] at he';cases he';exact⟨e,rfl,hb,h2⟩
 obtain⟨e0,hr1,hr2⟩:=h.root;refine⟨?_,fun i hi=>hv.non i (h.neg i hi),?_,?_,?_,h.r0,?_⟩
 ·obtain⟨e1,h1,h2,_⟩:=hv.old 0 e0 hr1 hn;exact⟨e1,h1,h2.trans hr2⟩
 ·intro i e' he' hi0;obtain⟨e,h1,hb,h2,_,_⟩:=back i e' he';obtain⟨q1,h5,h6,h7⟩:=h.up i e h1 hi0;obtain⟨q',h8,_,_,h9⟩:=hv.old _ q1 h5 (fun hp=>hb (.kid h1 hi0 hp));rw[h2];refine⟨q',h8,(h9 _).2 ⟨fun e1=>?_,h6⟩,h7⟩;subst e1;exact hb (.self h1)
 ·intro i e' k he' hk;obtain⟨e,h1,hb,h2,_,h4⟩:=back i e' he';obtain⟨hkn,hk⟩:=(h4 k).1 hk;obtain⟨x,h5,h6,h7⟩:=h.down i e k h1 hk;have hbk:¬Bl M n k:=fun hbk=>by
   cases hbk with
   |self _=>exact hkn rfl
   |kid hx _ hp=>
    rw[h5] at hx;cases hx;rw[h6] at hp;exact hb hp
  obtain⟨x',h8,h9,_⟩:=hv.old k x h5 hbk;exact⟨x',h8,h9.trans h6,h7⟩
 ·intro i e' he';obtain⟨_,_,_,_,h3,_⟩:=back i e' he';exact h3
 ·intro i e' he';obtain⟨e,h1,_⟩:=back i e' he';exact h.rb i e h1
theorem a1Z.count {n:Int}(hv:a1Z M M' n){c:Nat}(hc:Cd M c){L:List Int}(hl:L.Nodup)(hL:∀x,x∈L↔Bl M n x):Cd M' (c-L.length)/\L.length<=c:=by
 obtain⟨l,h1,rfl,h3⟩:=hc;have hp:l.Perm (L++l.filter (fun x=> !decide (x∈L))):=by
  refine(List.perm_ext_iff_of_nodup h1 ?_).2 fun x=>?_
  ·rw[List.nodup_append];refine⟨hl,h1.filter _,fun a ha b hb hab=>?_⟩;subst hab;simp[ha] at hb
  ·rw[List.mem_append,List.mem_filter];by_cases hx:x∈L
   ·obtain⟨e,he⟩:=((hL x).1 hx).in_;simp[hx,h3,he]
   ·simp[hx]
 have hlen:=hp.length_eq;rw[List.length_append] at hlen;refine⟨⟨l.filter (fun x=> !decide (x∈L)),h1.filter _,by omega,fun x=>?_⟩,by omega⟩;rw[List.mem_filter,h3];by_cases hx:x∈L
 ·simp[hx,hv.out x ((hL x).1 hx)]
 ·cases he:M x with
  |none=>simp[hv.non x he]
  |some e=>
   obtain⟨e1,h4,_⟩:=hv.old x e he (fun hb=>hx ((hL x).2 hb));simp[hx,h4]
end
mutual
def Ni (d:Nat):Nd->List Nat
 | .mk _ _ ks=>d::Rh (d+1) ks
def Rh (d:Nat):List Nd->List Nat
 |[]=>[]
 |n::l=>Ni d n++Rh d l
end
mutual
theorem lH:∀(n:Nd) (d:Nat),(Ni d n).length=gz n
 | .mk nm ats ks,d=>by rw[Ni,gz,List.length_cons,Ri ks]
theorem Ri:∀(l:List Nd) (d:Nat),(Rh d l).length=jK l
 |[],_=>rfl
 |n::l,d=>by rw[Rh,jK,List.length_append,lH n,Ri l]
end
theorem LY (n:Nd)(d:Nat):(Ni d n)[0]? =some d:=by
 cases n;rw[Ni];rfl
mutual
theorem Rj:∀(n:Nd) (d a:Nat),a∈Ni d n->d<=a
 | .mk nm ats ks,d,a,h=>by
  rw[Ni] at h;rcases List.mem_cons.1 h with rfl|h
  ·exact Nat.le_refl _
  ·have:=Rk ks (d+1) a h;omega
theorem Rk:∀(l:List Nd) (d a:Nat),a∈Rh d l->d<=a
 |[],_,_,h=>by simp[Rh] at h
 |n::l,d,a,h=>by
  rw[Rh] at h;rcases List.mem_append.1 h with h|h
  ·exact Rj n d a h
  ·exact Rk l d a h
end
mutual
theorem Yo:∀(n:Nd) (k:Nat) (p:Int) (d j:Nat) (e:gH),(qo k p n)[j]? =some e->0<j->∃(i:Nat) (q:gH) (a:Nat),(qo k p n)[i]? =some q/\e.parent=k+i/\(k:Int)+j∈q.kids/\(Ni d n)[i]? =some a/\(Ni d n)[j]? =some (a+1)
 | .mk nm ats ks,k,p,d,0,e,h,hj=>absurd hj (Nat.lt_irrefl _)
 | .mk nm ats ks,k,p,d,j+1,e,h,_=>by
  rw[qo] at h⊢;rw[Ni];rcases Yp ks (k+1) k (d+1) j e (by simpa using h) with⟨h1,h2,h3⟩|⟨i,q,a,h1,h2,h3,h4,h5⟩
  ·refine⟨0,_,d,rfl,by omega,?_,rfl,by simpa using h3⟩;rw[show(k:Int)+(j+1:Nat)=((k+1:Nat):Int)+j from by omega];exact h2
  ·refine⟨i+1,q,a,by simpa using h1,by omega,?_,by simpa using h4,by simpa using h5⟩;rw[show(k:Int)+(j+1:Nat)=((k+1:Nat):Int)+j from by omega];exact h3
theorem Yp:∀(l:List Nd) (k:Nat) (p:Int) (d j:Nat) (e:gH),(qU k p l)[j]? =some e->(e.parent=p/\(k:Int)+j∈tL k l/\(Rh d l)[j]? =some d)\/∃(i:Nat) (q:gH) (a:Nat),(qU k p l)[i]? =some q/\e.parent=k+i/\(k:Int)+j∈q.kids/\(Rh d l)[i]? =some a/\(Rh d l)[j]? =some (a+1)
 |[],_,_,_,_,_,h=>by simp[qU] at h
 |n::l,k,p,d,j,e,h=>by
  rw[qU] at h⊢;rw[Rh];by_cases hj:j<gz n
  ·rw[List.getElem?_append_left (by rw[gp];exact hj)] at h;by_cases h0:j=0
   ·subst h0;rcases Qn n k p 0 e h with h1|h1
    ·refine .inl ⟨h1.2,by rw[tL];simp,?_⟩;rw[List.getElem?_append_left (by rw[lH];exact hj)];exact LY n d
    ·omega
   ·obtain⟨i,q,a,h1,h2,h3,h4,h5⟩:=Yo n k p d j e h (by omega);refine .inr ⟨i,q,a,?_,h2,h3,?_,?_⟩
    ·rw[List.getElem?_append_left (jc.1 h1).1];exact h1
    ·rw[List.getElem?_append_left (jc.1 h4).1];exact h4
    ·rw[List.getElem?_append_left (jc.1 h5).1];exact h5
  ·rw[iK (by rw[gp];omega),gp] at h;have hk:(k:Int)+j=((k+gz n:Nat):Int)+(j-gz n:Nat):=by omega
   rcases Yp l (k+gz n) p d (j-gz n) e h with⟨h1,h2,h3⟩|⟨i,q,a,h1,h2,h3,h4,h5⟩
   ·refine .inl ⟨h1,?_,?_⟩
    ·rw[tL,hk];exact List.mem_cons_of_mem _ h2
    ·rw[iK (by rw[lH];omega),lH];exact h3
   ·refine .inr ⟨gz n+i,q,a,?_,by omega,by rw[hk];exact h3,?_,?_⟩
    ·rw[iK (by rw[gp];omega),gp,show gz n+i-gz n=i from by omega];exact h1
    ·rw[iK (by rw[lH];omega),lH,show gz n+i-gz n=i from by omega];exact h4
    ·rw[iK (by rw[lH];omega),lH];exact h5
end
theorem Yq:∀(l:List Nd) (k:Nat) (p x:Int),x∈tL k l->∃(j:Nat) (e:gH),x=k+j/\(qU k p l)[j]? =some e/\e.parent=p
 |[],_,_,_,h=>by simp[tL] at h
 |n::l,k,p,x,h=>by
  rw[tL] at h;rw[qU];rcases List.mem_cons.1 h with rfl|h
  ·obtain⟨nm,ats,ks⟩:=n;rw[qo];exact⟨0,_,by omega,rfl,rfl⟩
  ·obtain⟨j,e,h1,h2,h3⟩:=Yq l (k+gz n) p x h;refine⟨gz n+j,e,by omega,?_,h3⟩;rw[iK (by rw[gp];omega),gp,show gz n+j-gz n=j from by omega];exact h2
mutual
theorem LZ:∀(n:Nd) (k:Nat) (p:Int) (i:Nat) (q:gH) (x:Int),(qo k p n)[i]? =some q->x∈q.kids->∃(j:Nat) (e:gH),x=k+j/\0<j/\(qo k p n)[j]? =some e/\e.parent=k+i
 | .mk nm ats ks,k,p,0,q,x,h,hx=>by
  rw[qo] at h⊢;simp at h;subst h;obtain⟨j,e,h1,h2,h3⟩:=Yq ks (k+1) k x hx;exact⟨j+1,e,by omega,by omega,by simpa using h2,by omega⟩
 | .mk nm ats ks,k,p,i+1,q,x,h,hx=>by
  rw[qo] at h⊢;obtain⟨j,e,h1,h2,h3⟩:=M0 ks (k+1) k i q x (by simpa using h) hx;exact⟨j+1,e,by omega,by omega,by simpa using h2,by omega⟩
theorem M0:∀(l:List Nd) (k:Nat) (p:Int) (i:Nat) (q:gH) (x:Int),(qU k p l)[i]? =some q->x∈q.kids->∃(j:Nat) (e:gH),x=k+j/\(qU k p l)[j]? =some e/\e.parent=k+i
 |[],_,_,_,_,_,h,_=>by simp[qU] at h
 |n::l,k,p,i,q,x,h,hx=>by
  rw[qU] at h⊢;by_cases hi:i<gz n
  ·rw[List.getElem?_append_left (by rw[gp];exact hi)] at h;obtain⟨j,e,h1,_,h2,h3⟩:=LZ n k p i q x h hx;refine⟨j,e,h1,?_,h3⟩;rw[List.getElem?_append_left (jc.1 h2).1];exact h2
  ·rw[iK (by rw[gp];omega),gp] at h;obtain⟨j,e,h1,h2,h3⟩:=M0 l (k+gz n) p (i-gz n) q x h hx;refine⟨gz n+j,e,by omega,?_,by omega⟩;rw[iK (by rw[gp];omega),gp,show gz n+j-gz n=j from by omega];exact h2
end
theorem Rm:∀(l:List Nd) (k:Nat) (x:Int),x∈tL k l->(k:Int)<=x
 |[],_,_,h=>by simp[tL] at h
 |n::l,k,x,h=>by
  rw[tL] at h;rcases List.mem_cons.1 h with rfl|h
  ·exact Int.le_refl _
  ·have:=Rm l _ x h;omega
theorem Gg:∀(l:List Nd) (k:Nat),(tL k l).Nodup
 |[],_=>List.nodup_nil
 |n::l,k=>by
  rw[tL,List.nodup_cons];refine⟨fun hm=>?_,Gg l _⟩;have:=Rm l _ _ hm;have:=Qm n;omega
mutual
theorem M6:∀(n:Nd) (k:Nat) (p:Int),∀e∈qo k p n,e.kids.Nodup
 | .mk nm ats ks,k,p,e,he=>by
  rw[qo] at he;rcases List.mem_cons.1 he with rfl|he
  ·exact Gg ks _
  ·exact M7 ks _ _ e he
theorem M7:∀(l:List Nd) (k:Nat) (p:Int),∀e∈qU k p l,e.kids.Nodup
 |[],_,_,e,he=>by simp[qU] at he
 |n::l,k,p,e,he=>by
  rw[qU] at he;rcases List.mem_append.1 he with he|he
  ·exact M6 n _ _ e he
  ·exact M7 l _ _ e he
end
def rkD (n:Nd)(i:Int):Nat:=((Ni 1 n)[i.toNat]?).getD 0
theorem Wd.new (n:Nd)(hd:∀a∈Ni 1 n,a<=10):Wd (iU (fun _=>none) 0 (qo 0 (-1) n)) (rkD n):=by
 have look:∀i e,iU (fun _=>none) 0 (qo 0 (-1) n) i=some e->∃j:Nat,i=j/\(qo 0 (-1) n)[j]? =some e:=fun i e h=>by
  unfold iU at h;split at h
  ·next hi=>
   refine⟨i.toNat,by omega,?_⟩;rw[show i.toNat=(i-(0:Nat)).toNat from by omega];exact h
  ·exact absurd h (by simp)
 have give:∀(j:Nat) e,(qo 0 (-1) n)[j]? =some e->iU (fun _=>none) 0 (qo 0 (-1) n) (j:Int)=some e:=fun j e h=>by
  have h1:=Wv (M:=fun _=>none) (nx:=0) (L:=qo 0 (-1) n) (j:=j) (jc.1 h).1;rw[show((0:Nat):Int)+j=j from by omega] at h1;rw[h1];exact h
 have rk:∀j a:Nat,(Ni 1 n)[j]? =some a->rkD n (j:Int)=a:=fun j a h=>by
  unfold rkD;rw[Int.toNat_natCast,h];rfl
 have aef:∃e,(qo 0 (-1) n)[0]? =some e/\e.parent= -1:=by
  obtain⟨nm,ats,ks⟩:=n;rw[qo];exact⟨_,rfl,rfl⟩
 refine⟨?_,fun i hi=>Wu (by omega),?_,?_,?_,?_,?_⟩
 ·obtain⟨e,h1,h2⟩:=aef;exact⟨e,give 0 e h1,h2⟩
 ·intro i e he h0;obtain⟨j,rfl,hj⟩:=look i e he;obtain⟨i',q,a,h1,h2,h3,h4,h5⟩:=Yo n 0 (-1) 1 j e hj (by omega);have h2':e.parent=(i':Int):=by omega
  rw[h2'];refine⟨q,give i' q h1,?_,by rw[rk j _ h5,rk i' _ h4]⟩;rw[show((0:Nat):Int)+j=j from by omega] at h3;exact h3
 ·intro i e k he hk;obtain⟨j,rfl,hj⟩:=look i e he;obtain⟨j',x,h1,h2,h3,h4⟩:=LZ n 0 (-1) j e k hj hk;have h1':k=(j':Int):=by omega
  subst h1';exact⟨x,give j' x h3,by omega,by omega⟩
 ·intro i e he;obtain⟨j,rfl,hj⟩:=look i e he;exact M6 n 0 (-1) e (fV hj)
 ·exact rk 0 1 (LY n 1)
 ·intro i e he;obtain⟨j,rfl,hj⟩:=look i e he;have hl:j<(Ni 1 n).length:=by
   have:=(jc.1 hj).1;rw[gp] at this;rw[lH];exact this
  rw[rk j _ (dK hl)];have hm:=List.getElem_mem hl;exact⟨Rj n 1 _ hm,hd _ hm⟩
theorem Cd.new (n:Nd):Cd (iU (fun _=>none) 0 (qo 0 (-1) n)) (gz n):=by
 refine⟨nums 0 (gz n),?_,by simp[nums],fun x=>?_⟩
 ·unfold nums;exact List.Pairwise.map _ (fun a b h=>by omega) (List.nodup_range' (s:=0) (n:=gz n) (step:=1))
 ·rw[WC];unfold iU;rw[gp];constructor
  ·intro h;rw[if_pos (by omega),dK (by rw[gp];omega)];simp
  ·intro h;refine Classical.byContradiction fun hn=>?_;rw[if_neg (by omega)] at h;exact h rfl
theorem Wd.deep {M:Dm}{r:Int->Nat}(h:Wd M r):∀(d:Nat) (x:Int) (e:gH),r x=d->M x=some e->Up M x d
 |0,x,e,hd,he=>by
  have:=(h.rb x e he).1;omega
 |d+1,x,e,hd,he=>by
  refine⟨e,he,?_⟩;by_cases h0:x=0
  ·subst h0;obtain⟨e0,h1,h2⟩:=h.root;rw[he] at h1;cases h1;have:d=0:=by have:=h.r0;omega
   subst this;rw[h2];exact h.neg _ (by decide)
  ·obtain⟨q,hq,_,hr⟩:=h.up x e he h0;exact h.deep d _ q (by omega) hq
theorem Us {L:List Int}{a:Nat}{k x:Int}:x∈jl L a k↔x=k\/x∈L:=by
 unfold jl;rw[List.mem_append,List.mem_cons];constructor
 ·rintro(h|h|h)
  ·exact .inr (List.mem_of_mem_take h)
  ·exact .inl h
  ·exact .inr (List.mem_of_mem_drop h)
 ·rintro(h|h)
  ·exact .inr (.inl h)
  ·rw[<- List.take_append_drop a L] at h;rcases List.mem_append.1 h with h|h
   ·exact .inl h
   ·exact .inr (.inr h)
theorem M8 {L:List Int}{a:Nat}{k:Int}(h:L.Nodup)(hk:k ∉ L):(jl L a k).Nodup:=by
 have hp:(jl L a k).Perm (k::L):=by
  unfold jl;refine List.perm_middle.trans ?_;rw[List.take_append_drop]
 exact hp.nodup_iff.2 (List.nodup_cons.2 ⟨hk,h⟩)
theorem Rn {L:List Int}{k x:Int}:x∈woL L k↔x≠k/\x∈L:=by
 unfold woL;rw[List.mem_filter];by_cases h:x=k<;>simp[h]
section
variable {M:Dm}{r:Int->Nat}
theorem Wd.OU (h:Wd M r){i k:Int}{e:gH}(he:M i=some e)(hk:k∈e.kids):M k≠none:=by
 obtain⟨x,hx,_⟩:=h.down i e k he hk;rw[hx];simp
theorem Wd.aeg (h:Wd M r){nx par:Int}{q:gH}(hnx:M nx=none)(h0:0<=nx)(hq:M par=some q)(name:Bs)(a:Nat):a1Y M (dZ (dZ M nx ⟨name,[],par,[]⟩) par ⟨q.name,q.ats,q.parent,jl q.kids a nx⟩) nx par:=by
 have hp:nx≠par:=fun e=>by
  rw[<- e,hnx] at hq;exact absurd hq (by simp)
 refine⟨hnx,h0,⟨⟨name,[],par,[]⟩,?_,rfl,rfl⟩,fun i e he=>?_,fun i hi hn=>?_⟩
 ·unfold dZ;rw[if_neg hp,if_pos rfl]
 ·have hin:i≠nx:=fun e1=>by
   rw[e1,hnx] at he;exact absurd he (by simp)
  unfold dZ;by_cases hi:i=par
  ·subst hi;rw[hq] at he;cases he;rw[if_pos rfl];refine⟨_,rfl,rfl,M8 (h.nodup i q hq) (fun hm=>h.OU hq hm hnx),fun x=>?_⟩;rw[Us];simp
  ·rw[if_neg hi,if_neg hin];exact⟨e,he,rfl,h.nodup i e he,fun x=>by simp[hi]⟩
 ·unfold dZ;rw[if_neg (fun e1=>by rw[e1,hq] at hn;exact absurd hn (by simp)),if_neg hi];exact hn
theorem Wd.a5X (h:Wd M r){n:Int}{e:gH}(hn:M n=some e)(h0:n≠0):¬Bl M n e.parent:=fun hb=>by
 obtain⟨q,_,_,hr⟩:=h.up n e hn h0;have:=(h.low hb).1;omega
theorem Wd.Yr (h:Wd M r){n:Int}{e o:gH}(hn:M n=some e)(h0:n≠0){f:Nat}{d:Int}(hf:Dp M f n):pre (yl M n e o) f n d=pre M f n d:=by
 refine Fw f n d (fun x hx=>?_) (fun hm=>absurd (hm.symm.trans hn) (by simp)) (fun y q hy hq k hk=>h.OU hq hk);have hb:=(h.mem hf).1 hx;unfold yl dZ;rw[if_neg];intro e1;subst e1;exact h.a5X hn h0 hb
theorem Wd.cutV (h:Wd M r){n:Int}{e o:gH}(hn:M n=some e)(ho:M e.parent=some o){L:List Int}(hL:∀x,x∈L↔Bl M n x):a1Z M (nJ (yl M n e o) L) n:=by
 refine⟨fun i hb=>?_,fun i x hx hb=>?_,fun i hi=>?_⟩
 ·unfold nJ;rw[if_pos ((hL i).2 hb)]
 ·unfold nJ;rw[if_neg (fun hm=>hb ((hL i).1 hm))];unfold yl dZ;by_cases hi:i=e.parent
  ·rw[if_pos hi];rw[hi,ho] at hx;cases hx;exact⟨_,rfl,rfl,(h.nodup _ o ho).filter _,fun y=>Rn⟩
  ·rw[if_neg hi];refine⟨x,hx,rfl,h.nodup i x hx,fun y=>⟨fun hy=>⟨fun e1=>?_,hy⟩,fun hy=>hy.2⟩⟩;subst e1;obtain⟨z,hz,hzp,_⟩:=h.down i x y hx hy;rw[hn] at hz;cases hz;exact hi hzp.symm
 ·unfold nJ yl dZ;by_cases hm:i∈L
  ·rw[if_pos hm]
  ·rw[if_neg hm,if_neg (fun e1=>by rw[e1,ho] at hi;exact absurd hi (by simp))];exact hi
end
section
variable {M:Dm}{r:Int->Nat}
theorem Wd.a2a (h:Wd M r){n i:Int}{e x:gH}(hn:M n=some e)(hx:M i=some x)(hi:i≠e.parent):n ∉ x.kids:=fun hm=>by
 obtain⟨z,hz,hzp,_⟩:=h.down i x n hx hm;rw[hn] at hz;cases hz;exact hi hzp.symm
theorem Wd.Ro (h:Wd M r){n i:Int}{e o x:gH}(hn:M n=some e)(ho:M e.parent=some o)(hx:M i=some x):∃x',yl M n e o i=some x'/\x'.parent=x.parent/\x'.kids.Nodup/\∀y,y∈x'.kids↔y≠n/\y∈x.kids:=by
 unfold yl dZ;by_cases hi:i=e.parent
 ·rw[if_pos hi];rw[hi,ho] at hx;cases hx;exact⟨_,rfl,rfl,(h.nodup _ o ho).filter _,fun y=>Rn⟩
 ·rw[if_neg hi];refine⟨x,hx,rfl,h.nodup i x hx,fun y=>⟨fun hy=>⟨fun e1=>?_,hy⟩,fun hy=>hy.2⟩⟩;subst e1;exact h.a2a hn hx hi hy
end
end
section
open Go.RowKit
mutual
theorem Yt:∀(n:Nd) (deep ahead:Nat),(ig n deep ahead).1=0->∀a∈Ni deep n,a<=10
 | .mk nm ats ks,deep,ahead,h,a,ha=>by
  unfold ig at h;split at h
  ·rename_i h1;rw[Ni] at ha;rcases List.mem_cons.1 ha with rfl|ha
   ·exact(wL h1).1
   ·exact Yu ks _ _ h a ha
  ·rename_i h1;exact(h1 h).elim
theorem Yu:∀(l:List Nd) (deep ahead:Nat),(sH l deep ahead).1=0->∀a∈Rh deep l,a<=10
 |[],_,_,_,a,ha=>by simp[Rh] at ha
 |k::l,deep,ahead,h,a,ha=>by
  by_cases h1:(ig k deep ahead).1=0
  ·rw[nV h1] at h;rw[Rh] at ha;rcases List.mem_append.1 ha with ha|ha
   ·exact Yt k deep ahead h1 a ha
   ·exact Yu l _ _ h a ha
  ·rw[wM h1] at h;exact(h1 h).elim
end
structure jm (B:Nat)(tg:bP)(W:ag)(DB MB:Nat)(p:Int->Option Nat)(M:Dm)(nx c:Nat)(r:Int->Nat):Prop where
 w:aX B tg W DB MB p M nx c
 d:Wd M r
 n:Cd M c
 le:c<=100
 low:B<=W.heap.size
section
variable {E:Nat->Addr}{B:Nat}{tg:bP}{W:ag}{DB MB:Nat}{p:Int->Option Nat}{M:Dm}{nx c:Nat}{r:Int->Nat}
theorem jm.below {w':ag}(h:jm B tg W DB MB p M nx c r)(hb:Below W.heap.size W w'):jm B tg w' DB MB p M nx c r:=⟨h.w.below hb,h.d,h.n,h.le,aJ h.low hb.size⟩
theorem jm.few (h:jm B tg W DB MB p M nx c r){i:Int}{e:gH}(he:M i=some e):e.kids.length<=100:=by
 obtain⟨l,_,h2,h3⟩:=h.n;have:=Ir e.kids l (h.d.nodup i e he) (fun x hx=>(h3 x).2 (h.d.OU he hx));have:=h.le;omega
theorem jm.new (h:jm B tg W DB MB p M nx c r):M nx=none:=by
 cases hm:M nx with
 |none=>rfl
 |some e=>
  have:=h.w.dom nx e hm;omega
end
end
section
open Go.RowKit
theorem Dp.sub {M M':Dm}(h:∀i x',M' i=some x'->∃x,M i=some x/\∀k∈x'.kids,k∈x.kids):∀{f:Nat} {i:Int},Dp M f i->Dp M' f i
 |0,_,hd=>hd.elim
 |_+1,i,hd=>fun x' hx' k hk=>by
  obtain⟨x,hx,hs⟩:=h i x' hx';exact Dp.sub h (hd x hx k (hs k hk))
section
variable {E:Nat->Addr}{B:Nat}{tg:bP}{W:ag}{DB MB:Nat}{p:Int->Option Nat}{M:Dm}{nx c:Nat}{r:Int->Nat}
theorem Wd.top (_h:Wd M r){n:Int}(h0:n≠0):¬Bl M n 0:=fun hb=>by
 cases hb with
 |self _=>exact h0 rfl
 |kid _ hx _=>exact hx rfl
theorem Wd.a2b (h:Wd M r){n:Int}{e o:gH}(hn:M n=some e)(ho:M e.parent=some o){f:Nat}{i:Int}(hd:Dp M f i):Dp (yl M n e o) f i:=by
 refine Dp.sub (fun j x' hx'=>?_) hd;cases hm:M j with
 |none=>
  unfold yl at hx';rw[dZ,if_neg (fun e1=>by rw[e1,ho] at hm;exact absurd hm (by simp)),hm] at hx';exact absurd hx' (by simp)
 |some x=>
  obtain⟨x1,h1,_,_,h4⟩:=h.Ro hn ho hm;rw[hx'] at h1;cases h1;exact⟨x,rfl,fun k hk=>((h4 k).1 hk).2⟩
end
end
section
abbrev l6 (n:Nd):Dm:=iU (fun _=>none) 0 (qo 0 (-1) n)
end
section
open Go.RowKit
mutual
def sh:Nat->Nd->Prop
 |d,.mk _ _ ks=>d<=15/\shL (d+1) ks
def shL:Nat->List Nd->Prop
 |_,[]=>True
 |d,k::l=>sh d k/\shL d l
end
theorem a2c (E:Nat->Addr)(n:Nd)(c0 c1 c2:ah)(W:ag)(hE:CE E W)(hn:nG W c0 c1 c2 n)(hs:gz n<=1000000)(hc:(ig n 1 0).1=0):
  au 19 #[.agg #[c0,c1,c2]] W fun e w'=>Below W.heap.size W w'/\∃DB MB tg p,e=.returned (.tuple #[ay DB,.nilIface])/\aX W.heap.size tg w' DB MB p (l6 n) (gz n) (gz n):=(a1A E n c0 c1 c2 W hE hn hs).mono fun e w' h=>⟨h.1,by
 rcases h.2 with h2|h2
 ·exact absurd hc h2.1
 ·exact h2.2⟩
end
section
open Go.RowKit
mutual
theorem Yv:∀(n:Nd) (deep ahead:Nat),(ig n deep ahead).1=0->(ig n deep ahead).2=ahead+gz n
 | .mk nm ats ks,deep,ahead,h=>by
  by_cases h1:ck1 nm ats deep ahead=0
  ·rw[C8 h1] at h⊢;rw[Yw ks _ _ h,gz];omega
  ·rw[ig,if_neg h1] at h;exact absurd h h1
theorem Yw:∀(l:List Nd) (deep ahead:Nat),(sH l deep ahead).1=0->(sH l deep ahead).2=ahead+jK l
 |[],_,ahead,_=>by rw[sH,jK];rfl
 |k::l,deep,ahead,h=>by
  by_cases h1:(ig k deep ahead).1=0
  ·rw[nV h1] at h⊢;rw[Yw l _ _ h,Yv k _ _ h1,jK];omega
  ·rw[wM h1] at h;exact absurd h h1
end
theorem a9X (E:Nat->Addr)(n:Nd)(c0 c1 c2:ah)(W:ag)(hE:CE E W)(hn:nG W c0 c1 c2 n)(hs:gz n<=1000000)(hc:(ig n 1 0).1=0):
  au 19 #[.agg #[c0,c1,c2]] W fun e w'=>Below W.heap.size W w'/\∃DB MB tg p,e=.returned (.tuple #[ay DB,.nilIface])/\jm W.heap.size tg w' DB MB p (l6 n) (gz n) (gz n) (rkD n):=by
 refine(a2c E n c0 c1 c2 W hE hn hs hc).mono ?_;rintro e w' ⟨hb,DB,MB,tg,p,rfl,hd⟩;have h1:=Yv n 1 0 hc;have h2:=Hr n 1 0 hc;exact⟨hb,DB,MB,tg,p,rfl,hd,Wd.new n (Yt n 1 0 hc),Cd.new n,by omega,hb.size⟩
section
variable {M:Dm}{r:Int->Nat}
def qJ (M:Dm)(x:Int):Int:=match M x with|none=> -1|some e=>e.parent
end
end
section
open Go.RowKit
section
variable {E:Nat->Addr}{B:Nat}{tg:bP}{W:ag}{DB MB:Nat}{p:Int->Option Nat}{M:Dm}{nx c:Nat}{r:Int->Nat}
theorem Wd.dp0 (h:Wd M r):Dp M 11 0:=by
 obtain⟨e,he,_⟩:=h.root;exact h.dp 11 0 e he (by omega)
theorem jm.all (h:jm B tg W DB MB p M nx c r):∃L,dG M 11 0=0::L/\(0::L:List Int).length=c/\∀x∈L,0<x/\∃e,M x=some e:=by
 obtain⟨e,he,_⟩:=h.d.root;have hl:=h.d.count (d:=1) h.n h.d.dp0;have hn:=h.d.su 11 0 1;have hm:∀x,x∈dG M 11 0->∃e,M x=some e:=fun x hx=>((h.d.mem h.d.dp0).1 hx).in_;unfold dG at hm⊢;rw[pre,he] at hl hn hm⊢;rw[List.map_cons] at hl hn hm⊢;refine⟨_,rfl,hl,fun x hx=>?_⟩;obtain⟨q,hq⟩:=hm x (List.mem_cons_of_mem _ hx);refine⟨?_,q,hq⟩;have h1:=(h.w.dom x q hq).1;have h2:x≠0:=fun e1=>(List.nodup_cons.1 hn).1 (by rw[<- e1];exact hx);omega
theorem vB (h:aX B tg W DB MB p M nx c)(n:Int)(hn:dR n):au 85 #[ay DB,aa n] W fun e w'=>e=.returned (aa (qJ M n))/\w'=W:=by
 have h1:=Ci h n hn;unfold qJ;cases hm:M n with
 |none=>rw[hm] at h1;exact h1
 |some e=>rw[hm] at h1;exact h1
end
end
section
open Go.RowKit Go.Shelf
set_option maxRecDepth 20000
section
variable {B:Nat}{tg:bP}{W:ag}{DB MB:Nat}{p:Int->Option Nat}{M:Dm}{nx c:Nat}{r:Int->Nat}
theorem OV {M:Dm}{k:Nat}{m:Int}{e:gH}(he:M m=some e):j6 M (k+1) m=if e.parent<0 then[] else e.parent::j6 M k e.parent:=by
 rw[j6,he]
theorem Gh (g:Int->Bool){k:Nat}{m:Int}{e:gH}(he:M m=some e):(j6 M (k+1) m).any g=(decide (0<=e.parent) && (g e.parent||(j6 M k e.parent).any g)):=by
 rw[OV he];by_cases hp:e.parent<0
 ·rw[if_pos hp,decide_eq_false (by omega)];rfl
 ·rw[if_neg hp,decide_eq_true (by omega)];simp
def mz (r:Int->Nat)(x:Int):Nat:=if 0<=x then r x+1 else 0
theorem Yx {r:Int->Nat}{x:Int}(h:0<=x):mz r x=r x+1:=by unfold mz;rw[if_pos h]
theorem a5Y {r:Int->Nat}{x:Int}(h:¬0<=x):mz r x=0:=by unfold mz;rw[if_neg h]
theorem EC (h:aX B tg W DB MB p M nx c)(hw:Wd M r)(n:Int)(hn:dR n)(g:Int->Bool)(lb:Array ah)(PT PA:Nat)(hlb:lb=#[ay PT,ay PA])
  (hg:∀m V,dR m->Below W.heap.size W V->au 189 #[aa m,ay PT,ay PA] V fun e w'=>e=.returned (.bool (g m))/\Below V.heap.size V w'):
  au 188 #[ay DB,aa n,.func (.func 189) #[] lb] W fun e w'=>e=.returned (.bool ((j6 M 11 n).any g))/\Below W.heap.size W w':=by
 subst hlb;have PN:=vB h n hn;have HW:=aj hw;have HG:=aj hg;have HH:=aj h;have hwp:dR (qJ M n):=by
  unfold qJ;cases hm:M n with
  |none=>exact WalkArith.wf_i64 (by decide)
  |some e=>exact(h.wf n e hm).1
 have h0:(j6 M 11 n).any g=(decide (0<=qJ M n) && (g (qJ M n)||(j6 M 10 (qJ M n)).any g))/\(0<=qJ M n->∃e,M (qJ M n)=some e/\r (qJ M n)<=10):=by
  unfold qJ;cases hm:M n with
  |none=>
   refine⟨?_,fun hh=>absurd hh (by decide)⟩;rw[j6,hm];rfl
  |some e=>
   refine⟨Gh g hm,fun hh=>?_⟩;by_cases hn0:n=0
   ·subst hn0;obtain⟨e0,h1,h2⟩:=hw.root;rw[hm] at h1;cases h1;have hh':0<=e.parent:=hh;omega
   ·obtain⟨q,hq, -, -⟩:=hw.up n e hm hn0;exact⟨q,hq,(hw.rb _ q hq).2⟩
 obtain⟨T,hT⟩:∃T,(j6 M 11 n).any g=T:=⟨_,rfl⟩;rw[hT] at h0⊢;have HT0:=aj h0;clear hT h0 hg hw h;go_enter func188,ntmps188;go_wp2_with(go_at_call 85;refine PN.mono ?_;rintro e w1 ⟨rfl,h1⟩;rw[h1];clear h1)
 go_loopw [1] (fun y wr=>∃(m:Int) (k:Nat),y=aa m/\T=(decide (0<=m) && (g m||(j6 M k m).any g))/\(0<=m->∃e,M m=some e/\r m<=k)/\dR m/\Below W.heap.size W wr) (fun y _=>mz r (intOf y))
 case atStart=>exact⟨qJ M n,10,rfl,HT0.out.1,HT0.out.2,hwp,aG _ _⟩
 case round=>
  obtain⟨m,k,rfl,hT,hk,hwm,hb⟩:=hrel;by_cases hm0:0<=m
  ·obtain⟨e,he,hrk⟩:=hk hm0;have hrb:=(HW.out.rb m e he).1;obtain⟨k',rfl⟩:∃k',k=k'+1:=⟨k-1,by omega⟩;have GM:=HG.out m wr hwm hb;have a9Y:=HH.out.below hb;have PM:=fun V (hv:Below wr.heap.size wr V)=>vB (a9Y.below hv) m hwm;have hpe:qJ M m=e.parent:=by unfold qJ;rw[he]
   rw[hpe] at PM;have hwe:=(a9Y.wf m e he).1;rw[decide_eq_true hm0,Gh g he] at hT;have hup:0<=e.parent->∃q,M e.parent=some q/\r e.parent<=k'/\r e.parent<r m:=fun hh=>by
    by_cases hz:m=0
    ·subst hz;obtain⟨e0,h1,h2⟩:=HW.out.root;rw[he] at h1;cases h1;omega
    ·obtain⟨q,hq, -,hr⟩:=HW.out.up m e he hz;exact⟨q,hq,by omega,by omega⟩
   have HUP:=aj hup;cases hgm:g m with
   |true=>
    rw[hgm] at GM hT;have HT:Hid (T=true):=(by rw[hT];rfl:T=true);clear hT hk hup;go_wp2_with(go_at_call 189;refine GM.mono ?_;rintro e' w2 ⟨rfl,b2⟩);go_ret;exact⟨by rw[HT.out];rfl,aH hb b2⟩
   |false=>
    rw[hgm] at GM hT;have HT:Hid (T=(decide (0<=e.parent) && (g e.parent||(j6 M k' e.parent).any g))):=(by rw[hT];simp:T=(decide (0<=e.parent) && (g e.parent||(j6 M k' e.parent).any g)));clear hT hk hup hpe;go_wp2_with(first|(go_at_call 189;refine GM.mono ?_;rintro e' w2 ⟨rfl,b2⟩)|(go_at_call 85;refine(PM _ b2).mono ?_;rintro e' w3 ⟨rfl,h3⟩;rw[h3];clear h3))
    go_roundw
    case rel=>exact⟨e.parent,k',rfl,HT.out,fun hh=>by obtain⟨q,h1,h2, -⟩:=HUP.out hh;exact⟨q,h1,h2⟩,hwe,aH hb b2⟩
    case measure=>
     show mz r e.parent<mz r m;rw[Yx hm0];by_cases Ub:0<=e.parent
     ·obtain⟨q, -, -,h3⟩:=HUP.out Ub;rw[Yx Ub];omega
     ·rw[a5Y Ub];omega
  ·rw[decide_eq_false hm0] at hT;have HT:Hid (T=false):=(by rw[hT];rfl:T=false);clear hT hk;go_wp2_with fail;go_ret;exact⟨by rw[HT.out];rfl,hb⟩
end
abbrev OX (PD PT:Nat):ah:=.func (.func 186) #[] #[ay PD,ay PT]
def a9Z (M:Dm)(f:Nat)(a:Bs)(n:Int):Lk->Bool
 | .no=>true
 | .right=>Ej M f a (qJ M n)
 | .below=>(j6 M 11 n).any (Ej M f a)
theorem Ut (M:Dm)(f:Nat){t a b:Bs}{k:Lk}(h:qB t=(a,k,b))(n:Int):Ej M (f+1) t n=(JI M b n && a9Z M f a n k):=by
 rw[Ej,h];cases k<;>rfl
section
variable {B:Nat}{tg:bP}{W:ag}{DB MB:Nat}{p:Int->Option Nat}{M:Dm}{nx c:Nat}{r:Int->Nat}
theorem Uu (PD PT PA:Nat)(a:Bs)(m:Int)(V:ag)(res:Bool)(h1:V.cell? (ak PT 0)=some (OX PD PT))(h2:V.cell? (ak PA 0)=some (bV a))
  (IH:au 186 #[bV a,aa m,ay PD,ay PT] V fun e w'=>e=.returned (.bool res)/\Below V.heap.size V w'):
  au 189 #[aa m,ay PT,ay PA] V fun e w'=>e=.returned (.bool res)/\Below V.heap.size V w':=by
 go_enter func189,ntmps189;go_wp2_with(go_at_call 186;refine IH.mono ?_;rintro e w1 ⟨rfl,hb1⟩);go_ret;exact⟨rfl,hb1⟩
theorem Rp (h:aX B tg W DB MB p M nx c)(hw:Wd M r)(hF:EA M)(PD PT:Nat)(h1:W.cell? (ak PD 0)=some (ay DB))(h2:W.cell? (ak PT 0)=some (OX PD PT)):
  ∀(f:Nat) (t:Bs) (n:Int) (V:ag),t.length<f->t.length<=1000000->dR n->Below W.heap.size W V->
  au 186 #[bV t,aa n,ay PD,ay PT] V fun e w'=>e=.returned (.bool (Ej M f t n))/\Below V.heap.size V w'
 |0,_,_,_,hf,_,_,_=>by omega
 |f+1,t,n,V,hf,htl,hn,hb=>by
  have HIH:Hid (∀(t:Bs) (n:Int) (V:ag),t.length<f->t.length<=1000000->dR n->Below W.heap.size W V->au 186 #[bV t,aa n,ay PD,ay PT] V fun e w'=>e=.returned (.bool (Ej M f t n))/\Below V.heap.size V w'):=Rp h hw hF PD PT h1 h2 f;obtain⟨a,k,b,hc⟩:∃a k b,qB t=(a,k,b):=⟨_,_,_,rfl⟩;have hbl:b.length<=1000000:=aJ (Fs hc) htl;have CU:=Ih t a b k hc htl V;rw[Ut M f hc];have HH:=aj h;have SF:=fun X (hx:Below W.heap.size W X)=>Iq (HH.out.below hx) hF n hn b hbl;obtain⟨fs,hfs⟩:∃fs,JI M b n=fs:=⟨_,rfl⟩;rw[hfs] at SF⊢;have HAL:Hid (k≠.no->a.length<f/\a.length<=1000000):=(fun hk=>by have:=nR hc hk;omega:k≠.no->a.length<f/\a.length<=1000000);have HB:=aj hb;clear hfs hc h hb;cases fs with
  |false=>
   go_enter func186,ntmps186;go_wp2_with(first|(go_at_call 175;refine CU.mono ?_;rintro e w1 ⟨rfl,b1⟩;have b2:=b1.alloc b1.size (.cells #[bV a] 9);have B2:=HB.out.trans (b2.mono HB.out.size);have q1:=(B2.cell (az h1)).trans h1)|(go_at_call 187;refine(SF _ B2).mono ?_;rintro e w2 ⟨rfl,b3⟩));go_ret;exact⟨rfl,aH b2 b3⟩
  |true=>
   go_enter func186,ntmps186;go_upto_region 4 with(first|(go_at_call 175;refine CU.mono ?_;rintro e w1 ⟨rfl,b1⟩;have b2:=b1.alloc b1.size (.cells #[bV a] 9);have B2:=HB.out.trans (b2.mono HB.out.size);have q1:=(B2.cell (az h1)).trans h1)|(go_at_call 187;refine(SF _ B2).mono ?_;rintro e w2 ⟨rfl,b3⟩));have hA:=dW w1 (.cells #[bV a] 9);have hA2:=eX b3 hA;have cA:=bH hA2;have b4:=aH b2 b3;have B4:=HB.out.trans (b4.mono HB.out.size);have q2:=(B4.cell (az h1)).trans h1;have q3:=(B4.cell (az h2)).trans h2;obtain⟨PA,hPA⟩:∃PA,w1.heap.size=PA:=⟨_,rfl⟩;rw[hPA] at cA⊢;clear hA hA2 hPA b3 q1;cases k with
   |no=>
    go_wp2_with fail;go_ret;exact⟨rfl,b4⟩
   |right=>
    have PN:=fun X (hx:Below W.heap.size W X)=>vB (HH.out.below hx) n hn;have hwp:dR (qJ M n):=by
     unfold qJ;cases hm:M n with
     |none=>exact WalkArith.wf_i64 (by decide)
     |some e=>exact(HH.out.wf n e hm).1
    have hal:=HAL.out (by simp);have PW:=PN w2.drew B4.drew;have IH:=HIH.out a (qJ M n) w2.drew hal.1 hal.2 hwp B4.drew;go_upto_region 6 with fail
    go_region_with ((first|(go_at_call 85;refine PW.mono ?_;rintro e w3 ⟨rfl,h3⟩;rw[h3];clear h3)|(go_at_call 186;refine IH.mono ?_;rintro e w4 ⟨rfl,b5⟩)))
    all_goals go_wp2_with fail
    all_goals go_ret
    all_goals exact⟨by rw[Bool.true_and];rfl,aH b4.drew b5⟩
   |below=>
    have hal:=HAL.out (by simp);have SA:=EC (HH.out.below B4) hw n hn (Ej M f a) _ PT PA rfl (fun m X hm hx=>Uu PD PT PA a m X _ ((hx.cell (az q3)).trans q3) ((hx.cell (az cA)).trans cA) (HIH.out a m X hal.1 hal.2 hm (B4.trans (hx.mono B4.size))));go_wp2_with(go_at_call 188;refine SA.mono ?_;rintro e w3 ⟨rfl,b5⟩);go_ret;exact⟨by rw[Bool.true_and];rfl,aH b4 b5⟩
end
end
section
open Go.RowKit Go.Shelf
set_option maxRecDepth 20000
theorem Iu (P:Program)(w:ag)(a:Addr)(f:Fn)(x y:Array ah)(m:Mode):(store a (.func f x y) m).run P w=stored P w a (.func f x y) m:=run_store P w a _ m rfl
attribute [local go_sem] Iu
section
variable {B:Nat}{tg:bP}{W:ag}{DB MB:Nat}{p:Int->Option Nat}{M:Dm}{nx c:Nat}{r:Int->Nat}
theorem Yy (h:aX B tg W DB MB p M nx c)(hw:Wd M r)(hF:EA M)(s:Bs)(hs:s.length<=1000000)(hs0:s≠[])(n:Int)(hn:dR n):
  au 140 #[.agg #[bV s],ay DB,aa n] W fun e w'=>e=.returned (.bool (a3J M s n))/\Below W.heap.size W w':=by
 have hem:s.isEmpty=false:=by
  cases s with
  |nil=>exact absurd rfl hs0
  |cons _ _=>rfl
 obtain⟨hS0,hD0,hT0,hsz0,b0⟩:=gY W (.cells #[bV s] 107) (.cells #[ay DB] 55) (.cells #[.nilFunc] 280);go_enter func140,ntmps140;go_upto_region 4 with fail;obtain⟨U,hU⟩:∃U,(((W.alloc (.cells #[bV s] 107)).alloc (.cells #[ay DB] 55)).alloc (.cells #[.nilFunc] 280))=U:=⟨_,rfl⟩;rw[hU] at hS0 hD0 hT0 hsz0 b0⊢;clear hU;have c1:=bH hT0;have f1:=gI hT0;have hT1:=gZ hT0 (OX (W.heap.size+1) (W.heap.size+1+1));have hD1:(U.setCell ⟨W.heap.size+1+1,0,none⟩ (OX (W.heap.size+1) (W.heap.size+1+1))).heap[W.heap.size+1]? =some (.cells #[ay DB] 55):=(aY _ _ _ _ (by simp only;omega)).trans hD0;have hS1:(U.setCell ⟨W.heap.size+1+1,0,none⟩ (OX (W.heap.size+1) (W.heap.size+1+1))).heap[W.heap.size]? =some (.cells #[bV s] 107):=(aY _ _ _ _ (by simp only;omega)).trans hS0;have b1:Below W.heap.size W (U.setCell ⟨W.heap.size+1+1,0,none⟩ (OX (W.heap.size+1) (W.heap.size+1+1))):=b0.setCell (by simp only;omega) _;go_upto_region 5 with fail;obtain⟨U1,hU1⟩:∃U1,U.setCell ⟨W.heap.size+1+1,0,none⟩ (OX (W.heap.size+1) (W.heap.size+1+1))=U1:=⟨_,rfl⟩;rw[hU1] at hT1 hD1 hS1 b1⊢;clear hU1;have d1:=bH hT1;have d2:=bH hD1;have d3:=bH hS1;have TR:=Rp (h.below b1) hw hF (W.heap.size+1) (W.heap.size+1+1) d2 d1 (s.length+1) s n U1 (by omega) hs hn (aG _ _);go_wp2_with(go_at_call 186;refine TR.mono ?_;rintro e w2 ⟨rfl,b2⟩);go_ret;exact⟨rfl,aH b1 b2⟩
end
end
section
open Go.RowKit Go.Shelf
set_option maxRecDepth 20000
theorem a2d {s:Bs}(h:pE s=true):s≠[]:=by
 intro e;subst e;revert h;decide
section
variable {B:Nat}{tg:bP}{W:ag}{DB MB:Nat}{p:Int->Option Nat}{M:Dm}{nx c:Nat}{r:Int->Nat}
theorem Uv (h:aX B tg W DB MB p M nx c)(hw:Wd M r)(hF:EA M)(x:Rl)(hx:NV x)(nm:Bs)(n:Int)(hn:dR n)(P1 P2 P3:Nat)(h1:W.cell? (ak P1 0)=some (bV nm))(h2:W.cell? (ak P2 0)=some (ay DB))(h3:W.cell? (ak P3 0)=some (aa n)):
  au 139 #[rlV x,ay P1,ay P2,ay P3] W fun e w'=>e=.returned (.bool (ny M nm n x))/\Below W.heap.size W w':=by
 have n0:=dw W #[bV x.wh,bV x.nm,bV x.vl] 109;have b0:=bT W (.cells #[bV x.wh,bV x.nm,bV x.vl] 109);have FD:=fun V (hv:Below W.heap.size W V)=>Yy (h.below hv) hw hF x.wh hx.2.2.2 (a2d hx.1) n hn;have hq:=gD x.nm nm;unfold ny;go_enter func139,ntmps139;go_upto_region 1 with fail;obtain⟨V,hV⟩:∃V,W.alloc (.cells #[bV x.wh,bV x.nm,bV x.vl] 109)=V:=⟨_,rfl⟩;rw[hV] at n0 b0⊢;clear hV;have k1:=(b0.cell (az h1)).trans h1;have k2:=(b0.cell (az h2)).trans h2;have k3:=(b0.cell (az h3)).trans h3;have c0:=aD n0 0 _ rfl;have c1:=aD n0 1 _ rfl;have c2:=aD n0 2 _ rfl;have FD1:=FD V b0;clear FD;cases ha:(x.nm==nm) with
 |false=>
  rw[ha] at hq;go_wp2_with fail;go_ret;exact⟨by rw[ha];rfl,b0⟩
 |true=>
  rw[ha] at hq;go_wp2_with(go_at_call 140;refine FD1.mono ?_;rintro e w1 ⟨rfl,b1⟩);go_ret;exact⟨by rw[ha];rfl,aH b0 b1⟩
end
def WtG (x:Rl):Prop:=∀V,au 185 #[.agg #[bV x.wh]] V fun e w'=>e=.returned (aa (wtM x.wh:Nat))/\Below V.heap.size V w'
def RlG (x:Rl):Prop:=NV x/\WtG x/\∀(B:Nat) (tg:bP) (W:ag) (DB MB:Nat) (p:Int->Option Nat) (M:Dm) (nx c:Nat) (r:Int->Nat),aX B tg W DB MB p M nx c->Wd M r->EA M->∀(nm:Bs) (n:Int),dR n->∀P1 P2 P3:Nat,W.cell? (ak P1 0)=some (bV nm)->W.cell? (ak P2 0)=some (ay DB)->W.cell? (ak P3 0)=some (aa n)->
 au 139 #[rlV x,ay P1,ay P2,ay P3] W fun e w'=>e=.returned (.bool (ny M nm n x))/\Below W.heap.size W w'
theorem rlG {x:Rl}(h:NV x):RlG x:=⟨h,fun V=>OQ x.wh h.2.2.2 V,fun _ _ _ _ _ _ _ _ _ _ hd hw hF nm n hn P1 P2 P3 h1 h2 h3=>Uv hd hw hF x h nm n hn P1 P2 P3 h1 h2 h3⟩
theorem Iw (l:List Rl)(hok:∀x∈l,WtG x)(pf:Rl->Bool)(B0:Nat)(v:ah)(W:ag)(h:W.ownsRow B0 109 3 v l.length (eY l))(P1 P2 P3:Nat)
  (hg:∀x V,x∈l->Below W.heap.size W V->au 139 #[rlV x,ay P1,ay P2,ay P3] V fun e w'=>e=.returned (.bool (pf x))/\Below V.heap.size V w'):
  au 138 #[v,.func (.func 139) #[] #[ay P1,ay P2,ay P3]] W fun e w'=>e=.returned (.tuple #[bV (E9 pf l).1,.bool (E9 pf l).2.1])/\Below W.heap.size W w':=by
 obtain⟨o,cap,Ou,h1,h2,h3,h5⟩:=dL h;have hlen:(l.length:Int)<=9223372036854775807:=by rw[bq] at h2;omega
 have hcap:(l.length:Int)<=(cap:Int):=by omega
 have HR:=aj h;have HG:Hid _:=hg;have HK:=aj hok;have H5:=aj h5;subst Ou;clear h hg h5 h3 hok;go_enter func138,ntmps138;go_wp2_with fail
 go_loopw [4,5,6,12] (fun a b m y wr=>∃k:Nat,k<=l.length/\y=aa k/\a=bV (E9 pf (l.take k)).1/\b=.bool (E9 pf (l.take k)).2.1/\m=aa (E9 pf (l.take k)).2.2/\Below W.heap.size W wr) (fun _ _ _ y _=>l.length-(intOf y).toNat)
 case atStart=>exact⟨0,aP _,rfl,rfl,rfl,rfl,aG _ _⟩
 case round=>
  obtain⟨k,hk,rfl,rfl,rfl,rfl,hb⟩:=hrel;by_cases hlt:k<l.length
  ·have hlt':(k:Int)<(l.length:Int):=by omega
   obtain⟨x,hx⟩:∃x,l[k]? =some x:=⟨_,dK hlt⟩;obtain⟨q0,q1,q2⟩:=Gd hx;obtain⟨g,hgb,c0⟩:=dF (aQ HR.out hb) _ _ q0;obtain⟨g1,aa1,c1⟩:=dF (aQ HR.out hb) _ _ q1;obtain⟨g2,aa2,c2⟩:=dF (aQ HR.out hb) _ _ q2;rw[hgb] at aa1 aa2;cases aa1;cases aa2;have hog:=H5.out g hgb;subst hog;have hst:l.take (k+1)=l.take k++[x]:=by rw[List.take_add_one,hx];rfl
   have HST:Hid (E9 pf (l.take (k+1))=jL pf (E9 pf (l.take k)) x):=(by rw[hst,Wz]:E9 pf (l.take (k+1))=jL pf (E9 pf (l.take k)) x);have Vv:Hid (WtG x):=HK.out x (fV hx);have GX:=fun V (hv:Below wr.heap.size wr V)=>HG.out x V (fV hx) (aH hb hv);have WX:=fun V=>Vv.out V;clear hst hx q0 q1 q2 hgb;obtain⟨A,hA⟩:∃A,E9 pf (l.take k)=A:=⟨_,rfl⟩;rw[hA] at HST⊢;clear hA;obtain⟨av,af,am⟩:=A;obtain⟨wt,hwt⟩:∃t,wtM x.wh=t:=⟨_,rfl⟩;simp only[hwt] at WX;have HWT:=aj hwt;clear hwt;have W1:=WX (wr.alloc (.cells #[bV x.wh,bV x.nm,bV x.vl] 109));have n3:=dw wr #[bV x.wh,bV x.nm,bV x.vl] 109;have b3:=bT wr (.cells #[bV x.wh,bV x.nm,bV x.vl] 109);go_upto_region 5 with fail;obtain⟨V3,LK⟩:∃V,wr.alloc (.cells #[bV x.wh,bV x.nm,bV x.vl] 109)=V:=⟨_,rfl⟩;rw[LK] at W1 n3 b3⊢;clear LK WX;have p0:=aD n3 0 _ rfl;go_upto_region 6 with(go_at_call 185;refine W1.mono ?_;rintro e w4 ⟨rfl,b4⟩);clear W1 p0;have n4:=eX b4 n3;have B4:=aH b3 b4;have p0:=aD n4 0 _ rfl;have p1:=aD n4 1 _ rfl;have p2:=aD n4 2 _ rfl;by_cases hle:am<=wt
   ·have hle':(am:Int)<=(wt:Int):=by omega
    have GX4:=GX w4 B4;clear GX;cases hp:pf x with
    |true=>
     rw[hp] at GX4;have M9:E9 pf (l.take (k+1))=(x.vl,true,wt):=by rw[HST.out,Bp (by rw[HWT.out];exact hle) hp,HWT.out]
     have HS2:=aj M9;clear M9 hp;go_upto_region 7 with(go_at_call 139;refine GX4.mono ?_;rintro e w5 ⟨rfl,b5⟩);have r2:=aD (eX b5 n4) 2 _ rfl;go_wp2_with fail
     go_roundw
     case rel=>exact⟨k+1,by omega,by go_num,by rw[HS2.out],by rw[HS2.out],by rw[HS2.out],aH hb (aH B4 b5)⟩
     case measure=>simp[intOf];omega
    |false=>
     rw[hp] at GX4;have M9:E9 pf (l.take (k+1))=(av,af,am):=by rw[HST.out,Fv hp]
     have HS2:=aj M9;clear M9 hp;go_wp2_with(go_at_call 139;refine GX4.mono ?_;rintro e w5 ⟨rfl,b5⟩)
     go_roundw
     case rel=>exact⟨k+1,by omega,by go_num,by rw[HS2.out],by rw[HS2.out],by rw[HS2.out],aH hb (aH B4 b5)⟩
     case measure=>simp[intOf];omega
   ·have hle':¬(am:Int)<=(wt:Int):=by omega
    have M9:E9 pf (l.take (k+1))=(av,af,am):=by rw[HST.out,Bo (by rw[HWT.out];exact hle)]
    have HS2:=aj M9;clear M9;go_wp2_with fail
    go_roundw
    case rel=>exact⟨k+1,by omega,by go_num,by rw[HS2.out],by rw[HS2.out],by rw[HS2.out],aH hb B4⟩
    case measure=>simp[intOf];omega
  ·obtain rfl:k=l.length:=by omega
   have hge:¬(l.length:Int)<(l.length:Int):=by omega
   have htk:l.take l.length=l:=List.take_length;have HTK:=aj htk;clear htk;rw[HTK.out];go_wp2_with fail
   go_ret2
   exact⟨rfl,hb⟩
section
variable {B:Nat}{tg:bP}{W:ag}{DB MB:Nat}{p:Int->Option Nat}{M:Dm}{nx c:Nat}{r:Int->Nat}
def tdR:Option Bs->ah
 |none=>.tuple #[.string ⟨#[]⟩,.bool false]
 |some v=>.tuple #[bV v,.bool true]
theorem CZ (pf:Rl->Bool):∀(l:List Rl) (a:Bs×Bool×Nat),(a.2.1=false->a.1=[])->(l.foldl (jL pf) a).2.1=false->(l.foldl (jL pf) a).1=[]
 |[],_,ha,h=>ha h
 |x::l,a,ha,h=>by
  rw[List.foldl_cons] at h⊢;refine CZ pf l _ (fun h1=>?_) h;unfold jL at h1⊢;split
  ·next hc=>rw[if_pos hc] at h1;cases h1
  ·next hc=>rw[if_neg hc] at h1;exact ha h1
theorem Yz (h:aX B tg W DB MB p M nx c)(hw:Wd M r)(hF:EA M)(l:List Rl)(hok:∀x∈l,RlG x)(B0:Nat)(v:ah)(hl:W.ownsRow B0 109 3 v l.length (eY l))(nm:Bs)(n:Int)(hn:dR n):
  au 86 #[ay DB,v,aa n,bV nm] W fun e w'=>e=.returned (tdR (wB M l nm n))/\Below W.heap.size W w':=by
 obtain⟨k0,k1,k2, -,b0⟩:=gY W (.cells #[ay DB] 55) (.cells #[aa n] 3) (.cells #[bV nm] 9);obtain⟨ov,kv,hvv⟩:=aM hl;subst hvv;have HD:=aj h;have HL:=aj hl;have HK:=aj hok;clear h hl hok;obtain⟨res,hres⟩:∃x,wB M l nm n=x:=⟨_,rfl⟩;have hR:=hres;unfold wB at hR;rw[hres];clear hres;have AT:=fun V (hv:Below W.heap.size W V)=>jP (HD.out.below hv) n hn nm;have hat:Ov M n nm=zQ M n nm:=rfl;simp only[hat] at AT;clear hat;go_enter func86,ntmps86;go_upto_region 1 with fail;obtain⟨V,hV⟩:∃V,((W.alloc (.cells #[ay DB] 55)).alloc (.cells #[aa n] 3)).alloc (.cells #[bV nm] 9)=V:=⟨_,rfl⟩;rw[hV] at k0 k1 k2 b0⊢;clear hV;have d0:=bH k0;have d1:=bH k1;have d2:=bH k2;have OY:=AT V b0;clear AT;cases ha:zQ M n nm with
 |some av=>
  rw[ha] at hR OY;subst hR;simp only[Option.getD_some,Option.isSome_some] at OY;go_wp2_with(go_at_call 137;refine OY.mono ?_;rintro e w1 ⟨rfl,b1⟩)
  go_ret2
  exact⟨rfl,aH b0 b1⟩
 |none=>
  rw[ha] at hR OY;simp only[Option.getD_none,Option.isSome_none] at OY;go_upto_region 4 with(go_at_call 137;refine OY.mono ?_;rintro e w1 ⟨rfl,b1⟩);have B1:=aH b0 b1;have HV:=Iw l (fun x hx=>(HK.out x hx).2.1) (ny M nm n) B0 (.slice ov l.length kv) w1 (aQ HL.out B1) (W.heap.size+1+1) W.heap.size (W.heap.size+1) (fun x X hx hX=>(HK.out x hx).2.2 _ _ _ _ _ _ _ _ _ _ (HD.out.below (aH B1 hX)) hw hF nm n hn _ _ _ (((aH b1 hX).cell (az d2)).trans d2) (((aH b1 hX).cell (az d0)).trans d0) (((aH b1 hX).cell (az d1)).trans d1));have hun:=CZ (ny M nm n) l ([],false,0) (fun _=>rfl);have hun':(E9 (ny M nm n) l).2.1=false->(E9 (ny M nm n) l).1=[]:=hun;obtain⟨A,hA⟩:∃A,E9 (ny M nm n) l=A:=⟨_,rfl⟩;rw[hA] at HV hR hun';clear hA hun;obtain⟨hv,hf,hm⟩:=A;have HRR:=aj hR;have HUN:=aj hun';clear hR hun' OY;go_wp2_with(go_at_call 138;refine HV.mono ?_;rintro e w2 ⟨rfl,b2⟩)
  go_ret2
  refine⟨?_,aH B1 b2⟩;rw[<- HRR.out];cases hf with
  |true=>rfl
  |false=>rw[HUN.out rfl];rfl
end
section
variable {B:Nat}{tg:bP}{W:ag}{DB MB:Nat}{p:Int->Option Nat}{M:Dm}{nx c:Nat}{r:Int->Nat}
theorem YA (h:aX B tg W DB MB p M nx c)(n:Int):dR (tQ M n):=by
 unfold tQ;cases hm:M n with
 |none=>exact WalkArith.wf_i64 (by decide)
 |some e=>exact(h.wf n e hm).1
theorem a5Z (h:aX B tg W DB MB p M nx c)(hw:Wd M r)(hF:EA M)(l:List Rl)(hok:∀x∈l,RlG x)(B0:Nat)(v:ah)(hl:W.ownsRow B0 109 3 v l.length (eY l))(n:Int)(hn:dR n)(nm:Bs):
  au 49 #[ay DB,v,aa n,bV nm] W fun e w'=>e=.returned (bV (ofM M l nm n))/\Below W.heap.size W w':=by
 obtain⟨ov,kv,hvv⟩:=aM hl;subst hvv;have NA:=oh h n hn;have IN:=zF nm W;have HD:=aj h;have HL:=aj hl;have HK:=aj hok;have HF:=aj hF;have HW:=aj hw;clear h hl hok hw hF;cases hm:M n with
 |none=>
  rw[hm] at NA;have ho:ofM M l nm n=[]:=by unfold ofM;rw[hm];rfl
  rw[ho];clear ho hm;go_enter func49,ntmps49;go_wp2_with(go_at_call 84;refine NA.mono ?_;rintro e w1 ⟨rfl,h⟩;rw[h];clear h);go_ret;exact⟨rfl,aG _ _⟩
 |some e0=>
  rw[hm] at NA;have hne:=(HF.out n e0 hm).1;have hq:=gD e0.name [];have hq1:(e0.name==[])=false:=by simpa using hne
  rw[hq1] at hq;cases hN:yY nm with
  |false=>
   rw[hN] at IN;have ho:ofM M l nm n=[]:=by unfold ofM;rw[hN];simp
   rw[ho];clear ho hm;go_enter func49,ntmps49;go_wp2_with(first|(go_at_call 84;refine NA.mono ?_;rintro e w1 ⟨rfl,h⟩;rw[h];clear h)|(go_at_call 73;refine IN.mono ?_;rintro e w1 ⟨rfl,h⟩;rw[h];clear h));go_ret;exact⟨rfl,aG _ _⟩
  |true=>
   rw[hN] at IN;have ho:=a4Q (l:=l) hm hN;rw[ho];obtain⟨res,hres⟩:∃x,JN M l nm 12 n=x:=⟨_,rfl⟩;rw[hres];have HRS:=aj hres;have HN0:=aj hm;have hrn:=(HW.out.rb n e0 hm).2;clear ho hres hm;go_enter func49,ntmps49;go_upto_region 3 with(first|(go_at_call 84;refine NA.mono ?_;rintro e w1 ⟨rfl,h⟩;rw[h];clear h)|(go_at_call 73;refine IN.mono ?_;rintro e w1 ⟨rfl,h⟩;rw[h];clear h));clear NA IN
   go_loopw [2] (fun y wr=>∃(f:Nat) (k:Int),y=aa k/\dR k/\JN M l nm f k=res/\(k<0\/∃e,M k=some e/\r k<=f)/\Below W.heap.size W wr) (fun y _=>if intOf y<0 then 0 else r (intOf y))
   case atStart=>exact⟨12,n,rfl,hn,HRS.out,.inr ⟨e0,HN0.out,by omega⟩,aG _ _⟩
   case round=>
    obtain⟨f,k,rfl,aa3,hof,hin,hb⟩:=hrel;have HOF:=aj hof;have HIN:=aj hin;clear hof hin;have FO:=fun V=>zD nm V;by_cases hk:k<0
    ·have hk':¬(0:Int)<=k:=by omega
     have hre:res=firstM nm:=by rw[<- HOF.out,a0M l nm f hk]
     subst hre;have FO1:=FO wr;go_wp2_with(go_at_call 88;refine FO1.mono ?_;rintro e w1 ⟨rfl,h⟩;rw[h];clear h);go_ret;exact⟨rfl,hb⟩
    ·have hk':(0:Int)<=k:=by omega
     have hin:∃e,M k=some e/\r k<=f:=by
      rcases HIN.out with h|h
      ·exact absurd h hk
      ·exact h
     obtain⟨ek,hek,hrf⟩:=hin;have hr1:=(HW.out.rb k ek hek).1;obtain⟨f,rfl⟩:∃g,f=g+1:=⟨f-1,by omega⟩;have HEK:=aj hek;clear hek;have TD:=Yz (HD.out.below hb) HW.out HF.out l HK.out B0 _ (aQ HL.out hb) nm k aa3;cases ht:wB M l nm k with
     |some tv=>
      rw[ht] at TD;unfold tdR at TD;have hre:res=tv:=by rw[<- HOF.out,WG f hk' ht]
      subst hre;clear ht;go_wp2_with(go_at_call 86;refine TD.mono ?_;rintro e w1 ⟨rfl,b1⟩);go_ret;exact⟨rfl,aH hb b1⟩
     |none=>
      rw[ht] at TD;unfold tdR at TD;have HT:=aj ht;clear ht;go_upto_region 8 with(go_at_call 86;refine TD.mono ?_;rintro e w1 ⟨rfl,b1⟩);have IH:=Uj nm w1;have PA:au 85 #[ay DB,aa k] w1 fun r w'=>r=.returned (aa (tQ M k))/\w'=w1:=Ci (HD.out.below (aH hb b1)) k aa3;have FO1:=FO w1;cases hi:Fu nm with
      |false=>
       rw[hi] at IH;have hre:res=firstM nm:=by rw[<- HOF.out,a0N f hk' HT.out hi]
       subst hre;clear hi;go_wp2_with(first|(go_at_call 87;refine IH.mono ?_;rintro e w2 ⟨rfl,h⟩;rw[h];clear h)|(go_at_call 88;refine FO1.mono ?_;rintro e w1 ⟨rfl,h⟩;rw[h];clear h));go_ret;exact⟨rfl,aH hb b1⟩
      |true=>
       rw[hi] at IH;have hre:JN M l nm f (tQ M k)=res:=by rw[<- HOF.out,a4P f hk' HT.out hi]
       have Ub:(tQ M k<0)\/((0<=tQ M k)/\∃q,M (tQ M k)=some q/\r k=r (tQ M k)+1):=by
        by_cases h0:k=0
        ·subst h0;rw[HW.out.WE];exact .inl (by decide)
        ·obtain⟨q,hq,hr⟩:=HW.out.a4O HEK.out h0;exact .inr ⟨HW.out.pos hq,q,hq,hr⟩
       have aa4:=YA HD.out k;obtain⟨pk,hpk⟩:∃x,tQ M k=x:=⟨_,rfl⟩;rw[hpk] at hre Ub aa4 PA;have HRE:=aj hre;have HPP:=aj Ub;clear hi hpk hre Ub;go_wp2_with(first|(go_at_call 87;refine IH.mono ?_;rintro e w2 ⟨rfl,h⟩;rw[h];clear h)|(go_at_call 85;refine PA.mono ?_;rintro e w1 ⟨rfl,h⟩;rw[h];clear h))
       go_roundw
       case rel=>
        refine⟨f,pk,rfl,aa4,HRE.out,?_,aH hb b1⟩;rcases HPP.out with h|⟨_,q,hq,hr⟩
        ·exact .inl h
        ·exact .inr ⟨q,hq,by omega⟩
       case measure=>
        have hkn:¬k<0:=by omega
        show(if pk<0 then 0 else r pk)<(if k<0 then 0 else r k);rw[if_neg hkn];rcases HPP.out with h|⟨h1,q,hq,hr⟩
        ·rw[if_pos h];omega
        ·rw[if_neg (show¬pk<0 by omega)];omega
end
end
section
open Go.RowKit Go.Shelf
structure NE (E:Nat->Addr)(w:ag):Prop where
 c1:w.cell? (ak 1 0)=some (eV (E 1))
 c2:w.cell? (ak 0 0)=some (eV (E 2))
 c3:w.cell? (ak 3 0)=some (eV (E 3))
 c7:w.cell? (ak 2 0)=some (eV (E 7))
 c9:w.cell? (ak 8 0)=some (eV (E 9))
 c10:w.cell? (ak 9 0)=some (eV (E 10))
 sy:∃a,w.cell? (ak 14 0)=some (eV a)
 rg:∃a,w.cell? (ak 15 0)=some (eV a)
 tab:Lib.TabIs prog w "internal/strconv.uint64pow10" .u64 Lib.pow10Tab
 blk:∀k,1<=k->k<=10->∃c t,w.heap[(E k).block]? =some (.cells c t (0,0))
 ne:∀j k,1<=j->j<=10->1<=k->k<=10->j≠k->E j≠E k
theorem bu {w:ag}{b:Nat}{o:Obj}(h:w.heap[b]? =some o):b<w.heap.size:=(cZ.1 h).1
def Nj (E:Nat->Addr)(c:Nat)(v:ah)(w:ag):Prop:=1<=c/\c<=10/\(v=eV (E c)\/∃pb po,v=.iface 90 (.pointer (some ⟨pb,po,none⟩))/\w.cell? (ak pb (po+1))=some (eV (E c)))
def VE (E:Nat->Addr)(f:Ft)(base:Nat)(v:ah)(w:ag):Prop:=∃pb,base<=pb/\v=.iface 90 (ay pb)/\w.heap[pb]? =some (.cells #[aa f.pl,eV (E f.code)] 92)
theorem a2e {E:Nat->Addr}{w:ag}{c:Nat}{v:ah}(h:NE E w)(hv:Nj E c v w):
  au 56 #[v,eV (E 2)] w fun e w'=>e=.returned (.bool (decide (c=2)))/\w'=w:=by
 obtain⟨h1,h2,hv⟩:=hv;obtain⟨cc,ct,hc⟩:=h.blk c h1 h2;obtain⟨c',t',hc'⟩:=h.blk 2 (by omega) (by omega);rcases hv with rfl|⟨pb,po,rfl,hp⟩
 ·by_cases e:c=2
  ·subst e;simp only[decide_true];exact Rb _ _
  ·simp only[e,decide_false];exact LQ _ _ _ _ _ _ _ (h.ne c 2 h1 h2 (by omega) (by omega) e) hc hc'
 ·by_cases e:c=2
  ·subst e;simp only[decide_true];exact uH _ _ _ _ hp
  ·simp only[e,decide_false];exact rO _ _ _ _ _ _ _ _ _ hp (h.ne c 2 h1 h2 (by omega) (by omega) e) hc hc'
theorem rP {E:Nat->Addr}{w:ag}{c:Nat}{v:ah}(h:NE E w)(hv:Nj E c v w)(n:Int):
  au 92 #[aa n,v] w fun e w'=>∃u,e=.returned u/\VE E ⟨rD c,n⟩ w.heap.size u w'/\Below w.heap.size w w':=by
 have IB:=a2e h hv;have e2:=h.c2;have e10:=h.c10;clear h hv;unfold rD;by_cases hc:c=2
 ·simp only[hc,decide_true,if_true] at IB⊢;go_enter func92,ntmps92;go_wp2_with(go_at_call 56;refine IB.mono ?_;rintro e w1 ⟨rfl,rfl⟩);go_ret;exact⟨_,rfl,⟨_,Nat.le_refl _,rfl,dW _ _⟩,(aG _ _).alloc ai _⟩
 ·simp only[hc,decide_false,if_false] at IB⊢;go_enter func92,ntmps92;go_wp2_with(go_at_call 56;refine IB.mono ?_;rintro e w1 ⟨rfl,rfl⟩);go_ret;exact⟨_,rfl,⟨_,Nat.le_refl _,rfl,dW _ _⟩,(aG _ _).alloc ai _⟩
def fO (w:ag)(p:Option Nat):List (Int×Mv)->Prop
 |[]=>p=none
 |(n,m)::r=>∃b q,p=some b/\w.heap[b]? =some (.cells #[aa n,.pointer (q.map fun x=>⟨x,0,none⟩),aa m.a.n,aa m.a.d,aa m.b.n,aa m.b.d,aa m.c.n,aa m.c.d,aa m.d.n,aa m.d.d,aa m.e.n,aa m.e.d,aa m.f.n,aa m.f.d] 128)/\fO w q r
abbrev pV (p:Option Nat):ah:=.pointer (p.map fun x=>⟨x,0,none⟩)
theorem fO.keep {w w':ag}(hk:∀(b:Nat) (t:Obj),w.heap[b]? =some t->(∃c,t=.cells c 128)->w'.heap[b]? =some t):∀{p:Option Nat} {l:List (Int×Mv)},fO w p l->fO w' p l
 |_,[],h=>h
 |_,(_,_)::_,⟨b,q,h1,h2,h3⟩=>⟨b,q,h1,hk b _ h2 ⟨_,rfl⟩,fO.keep hk h3⟩
def WiR (n:Int)(l:List (Int×Mv))(w:ag)(e:Ending)(w':ag):Prop:=e=.returned (.bool (decide (n∈l.map Prod.fst)))/\w'=w
def WiL (n:Int)(l:List (Int×Mv))(w:ag)(g:Nat)(y:ah)(wr:ag):Prop:=∃(p:Option Nat) (r:List (Int×Mv)),y=pV p/\fO w p r/\(n∈l.map Prod.fst↔n∈r.map Prod.fst)/\r.length<=g/\wr=w
theorem qb (w:ag)(p:Option Nat)(l:List (Int×Mv))(n:Int)(h:fO w p l):
    au 89 #[pV p,aa n] w fun e w'=>WiR n l w e w':=by
  have H0:=aj h;clear h;go_enter func89,ntmps89;go_upto_region 1 with fail
  go_loopg [0] l.length (fun g y wr=>WiL n l w g y wr)
  case atStart=>exact⟨p,l,rfl,H0.out,Iff.rfl,Nat.le_refl _,rfl⟩
  case round=>
    obtain⟨p,r,rfl,hP,hiff,hlen,rfl⟩:=hrel;have HI:=aj hiff;clear hiff
    match r,hP,hlen,HI with
    |[],hP,hlen,HI=>
      obtain rfl:p=none:=hP;have hd:Hid (decide (n∈l.map Prod.fst)=false):=decide_eq_false (fun h=>by have:=HI.out.1 h;simp at this);clear hP;simp only[pV,Option.map_none];go_wp2;go_ret;exact⟨by rw[hd.out];rfl,rfl⟩
    |(k,m)::r,⟨b,q,hp,hb,hq⟩,hlen,HI=>
      subst hp;have c0:=aD hb 0 _ rfl;have c1:=aD hb 1 _ rfl;have HQ:=aj hq;clear hb hq;simp only[pV,Option.map_some];by_cases hk:k=n
      · have hd:Hid (decide (n∈l.map Prod.fst)=true):=decide_eq_true (HI.out.2 (by simp[hk]))
        have hkz:(k==n)=true:=by simpa using hk
        clear hk;go_wp2;go_ret;exact⟨by rw[hd.out];rfl,rfl⟩
      · have hkz:(k==n)=false:=by simpa using hk
        obtain⟨pq,hpq⟩:∃x,(Option.map (fun x=>(⟨x,0,none⟩:Addr)) q)=x:=⟨_,rfl⟩;rw[hpq] at c1;go_wp2
        go_roundg r.length
        case measure=>simp at hlen;omega
        case rel=>
          rw[<- hpq];refine⟨q,r,rfl,HQ.out,HI.out.trans ?_,Nat.le_refl _,rfl⟩;simp[Ne.symm hk]
end
end Go.Proofs.YtecneflbncjhpaaGreatDoor

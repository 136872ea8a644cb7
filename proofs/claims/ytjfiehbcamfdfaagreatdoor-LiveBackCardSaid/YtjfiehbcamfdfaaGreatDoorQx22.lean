/-
  Parts of the proof.
-/
import Derived.Test.YtjfiehbcamfdfaaGreatDoorQx20
namespace Go.Proofs.YtjfiehbcamfdfaaGreatDoor
section
mutual
def Ld (d:Nat):Nd->List Nat
 | .mk _ _ ks=>d::P9 (d+1) ks
def P9 (d:Nat):List Nd->List Nat
 |[]=>[]
 |n::l=>Ld d n++P9 d l
end
mutual
theorem kI:∀(n:Nd) (d:Nat),(Ld d n).length=dQ n
 | .mk nm ats ks,d=>by rw[Ld,dQ,List.length_cons,Pb ks]
theorem Pb:∀(l:List Nd) (d:Nat),(P9 d l).length=iO l
 |[],_=>rfl
 |n::l,d=>by rw[P9,iO,List.length_append,kI n,Pb l]
end
theorem JG (n:Nd)(d:Nat):(Ld d n)[0]? =some d:=by
 cases n;rw[Ld];rfl
mutual
theorem Pd:∀(n:Nd) (d a:Nat),a∈Ld d n->d<=a
 | .mk nm ats ks,d,a,h=>by
  rw[Ld] at h;rcases List.mem_cons.1 h with rfl|h
  ·exact Nat.le_refl _
  ·have:=Pe ks (d+1) a h;omega
theorem Pe:∀(l:List Nd) (d a:Nat),a∈P9 d l->d<=a
 |[],_,_,h=>by simp[P9] at h
 |n::l,d,a,h=>by
  rw[P9] at h;rcases List.mem_append.1 h with h|h
  ·exact Pd n d a h
  ·exact Pe l d a h
end
mutual
theorem Wl:∀(n:Nd) (k:Nat) (p:Int) (d j:Nat) (e:iy),(mP k p n)[j]? =some e->0<j->∃(i:Nat) (q:iy) (a:Nat),(mP k p n)[i]? =some q/\e.parent=k+i/\(k:Int)+j∈q.kids/\(Ld d n)[i]? =some a/\(Ld d n)[j]? =some (a+1)
 | .mk nm ats ks,k,p,d,0,e,h,hj=>absurd hj (Nat.lt_irrefl _)
 | .mk nm ats ks,k,p,d,j+1,e,h,_=>by
  rw[mP] at h⊢;rw[Ld];rcases Wm ks (k+1) k (d+1) j e (by simpa using h) with⟨h1,h2,h3⟩|⟨i,q,a,h1,h2,h3,h4,h5⟩
  ·refine⟨0,_,d,rfl,by omega,?_,rfl,by simpa using h3⟩;rw[show(k:Int)+(j+1:Nat)=((k+1:Nat):Int)+j from by omega];exact h2
  ·refine⟨i+1,q,a,by simpa using h1,by omega,?_,by simpa using h4,by simpa using h5⟩;rw[show(k:Int)+(j+1:Nat)=((k+1:Nat):Int)+j from by omega];exact h3
theorem Wm:∀(l:List Nd) (k:Nat) (p:Int) (d j:Nat) (e:iy),(oq k p l)[j]? =some e->(e.parent=p/\(k:Int)+j∈oh k l/\(P9 d l)[j]? =some d)\/∃(i:Nat) (q:iy) (a:Nat),(oq k p l)[i]? =some q/\e.parent=k+i/\(k:Int)+j∈q.kids/\(P9 d l)[i]? =some a/\(P9 d l)[j]? =some (a+1)
 |[],_,_,_,_,_,h=>by simp[oq] at h
 |n::l,k,p,d,j,e,h=>by
  rw[oq] at h⊢;rw[P9];by_cases hj:j<dQ n
  ·rw[List.getElem?_append_left (by rw[dN];exact hj)] at h;by_cases h0:j=0
   ·subst h0;rcases Ob n k p 0 e h with h1|h1
    ·refine .inl ⟨h1.2,by rw[oh];simp,?_⟩;rw[List.getElem?_append_left (by rw[kI];exact hj)];exact JG n d
    ·omega
   ·obtain⟨i,q,a,h1,h2,h3,h4,h5⟩:=Wl n k p d j e h (by omega);refine .inr ⟨i,q,a,?_,h2,h3,?_,?_⟩
    ·rw[List.getElem?_append_left (List.getElem?_eq_some_iff.1 h1).1];exact h1
    ·rw[List.getElem?_append_left (List.getElem?_eq_some_iff.1 h4).1];exact h4
    ·rw[List.getElem?_append_left (List.getElem?_eq_some_iff.1 h5).1];exact h5
  ·rw[List.getElem?_append_right (by rw[dN];omega),dN] at h;have hk:(k:Int)+j=((k+dQ n:Nat):Int)+(j-dQ n:Nat):=by omega
   rcases Wm l (k+dQ n) p d (j-dQ n) e h with⟨h1,h2,h3⟩|⟨i,q,a,h1,h2,h3,h4,h5⟩
   ·refine .inl ⟨h1,?_,?_⟩
    ·rw[oh,hk];exact List.mem_cons_of_mem _ h2
    ·rw[List.getElem?_append_right (by rw[kI];omega),kI];exact h3
   ·refine .inr ⟨dQ n+i,q,a,?_,by omega,by rw[hk];exact h3,?_,?_⟩
    ·rw[List.getElem?_append_right (by rw[dN];omega),dN,show dQ n+i-dQ n=i from by omega];exact h1
    ·rw[List.getElem?_append_right (by rw[kI];omega),kI,show dQ n+i-dQ n=i from by omega];exact h4
    ·rw[List.getElem?_append_right (by rw[kI];omega),kI];exact h5
end
theorem Wn:∀(l:List Nd) (k:Nat) (p x:Int),x∈oh k l->∃(j:Nat) (e:iy),x=k+j/\(oq k p l)[j]? =some e/\e.parent=p
 |[],_,_,_,h=>by simp[oh] at h
 |n::l,k,p,x,h=>by
  rw[oh] at h;rw[oq];rcases List.mem_cons.1 h with rfl|h
  ·obtain⟨nm,ats,ks⟩:=n;rw[mP];exact⟨0,_,by omega,rfl,rfl⟩
  ·obtain⟨j,e,h1,h2,h3⟩:=Wn l (k+dQ n) p x h;refine⟨dQ n+j,e,by omega,?_,h3⟩;rw[List.getElem?_append_right (by rw[dN];omega),dN,show dQ n+j-dQ n=j from by omega];exact h2
mutual
theorem JH:∀(n:Nd) (k:Nat) (p:Int) (i:Nat) (q:iy) (x:Int),(mP k p n)[i]? =some q->x∈q.kids->∃(j:Nat) (e:iy),x=k+j/\0<j/\(mP k p n)[j]? =some e/\e.parent=k+i
 | .mk nm ats ks,k,p,0,q,x,h,hx=>by
  rw[mP] at h⊢;simp at h;subst h;obtain⟨j,e,h1,h2,h3⟩:=Wn ks (k+1) k x hx;exact⟨j+1,e,by omega,by omega,by simpa using h2,by omega⟩
 | .mk nm ats ks,k,p,i+1,q,x,h,hx=>by
  rw[mP] at h⊢;obtain⟨j,e,h1,h2,h3⟩:=JI ks (k+1) k i q x (by simpa using h) hx;exact⟨j+1,e,by omega,by omega,by simpa using h2,by omega⟩
theorem JI:∀(l:List Nd) (k:Nat) (p:Int) (i:Nat) (q:iy) (x:Int),(oq k p l)[i]? =some q->x∈q.kids->∃(j:Nat) (e:iy),x=k+j/\(oq k p l)[j]? =some e/\e.parent=k+i
 |[],_,_,_,_,_,h,_=>by simp[oq] at h
 |n::l,k,p,i,q,x,h,hx=>by
  rw[oq] at h⊢;by_cases hi:i<dQ n
  ·rw[List.getElem?_append_left (by rw[dN];exact hi)] at h;obtain⟨j,e,h1,_,h2,h3⟩:=JH n k p i q x h hx;refine⟨j,e,h1,?_,h3⟩;rw[List.getElem?_append_left (List.getElem?_eq_some_iff.1 h2).1];exact h2
  ·rw[List.getElem?_append_right (by rw[dN];omega),dN] at h;obtain⟨j,e,h1,h2,h3⟩:=JI l (k+dQ n) p (i-dQ n) q x h hx;refine⟨dQ n+j,e,by omega,?_,by omega⟩;rw[List.getElem?_append_right (by rw[dN];omega),dN,show dQ n+j-dQ n=j from by omega];exact h2
end
theorem Pf:∀(l:List Nd) (k:Nat) (x:Int),x∈oh k l->(k:Int)<=x
 |[],_,_,h=>by simp[oh] at h
 |n::l,k,x,h=>by
  rw[oh] at h;rcases List.mem_cons.1 h with rfl|h
  ·exact Int.le_refl _
  ·have:=Pf l _ x h;omega
theorem EC:∀(l:List Nd) (k:Nat),(oh k l).Nodup
 |[],_=>List.nodup_nil
 |n::l,k=>by
  rw[oh,List.nodup_cons];refine⟨fun hm=>?_,EC l _⟩;have:=Pf l _ _ hm;have:=O7 n;omega
mutual
theorem JJ:∀(n:Nd) (k:Nat) (p:Int),∀e∈mP k p n,e.kids.Nodup
 | .mk nm ats ks,k,p,e,he=>by
  rw[mP] at he;rcases List.mem_cons.1 he with rfl|he
  ·exact EC ks _
  ·exact JK ks _ _ e he
theorem JK:∀(l:List Nd) (k:Nat) (p:Int),∀e∈oq k p l,e.kids.Nodup
 |[],_,_,e,he=>by simp[oq] at he
 |n::l,k,p,e,he=>by
  rw[oq] at he;rcases List.mem_append.1 he with he|he
  ·exact JJ n _ _ e he
  ·exact JK l _ _ e he
end
def Db (n:Nd)(i:Int):Nat:=((Ld 1 n)[i.toNat]?).getD 0
theorem Wd.new (n:Nd)(hd:∀a∈Ld 1 n,a<=10):Wd (gz (fun _=>none) 0 (mP 0 (-1) n)) (Db n):=by
 have look:∀i e,gz (fun _=>none) 0 (mP 0 (-1) n) i=some e->∃j:Nat,i=j/\(mP 0 (-1) n)[j]? =some e:=fun i e h=>by
  unfold gz at h;split at h
  ·next hi=>
   refine⟨i.toNat,by omega,?_⟩;rw[show i.toNat=(i-(0:Nat)).toNat from by omega];exact h
  ·exact absurd h (by simp)
 have give:∀(j:Nat) e,(mP 0 (-1) n)[j]? =some e->gz (fun _=>none) 0 (mP 0 (-1) n) (j:Int)=some e:=fun j e h=>by
  have h1:=I7 (M:=fun _=>none) (nx:=0) (L:=mP 0 (-1) n) (j:=j) (List.getElem?_eq_some_iff.1 h).1;rw[show((0:Nat):Int)+j=j from by omega] at h1;rw[h1];exact h
 have rk:∀j a:Nat,(Ld 1 n)[j]? =some a->Db n (j:Int)=a:=fun j a h=>by
  unfold Db;rw[Int.toNat_natCast,h];rfl
 have abz:∃e,(mP 0 (-1) n)[0]? =some e/\e.parent= -1:=by
  obtain⟨nm,ats,ks⟩:=n;rw[mP];exact⟨_,rfl,rfl⟩
 refine⟨?_,fun i hi=>Ub (by omega),?_,?_,?_,?_,?_⟩
 ·obtain⟨e,h1,h2⟩:=abz;exact⟨e,give 0 e h1,h2⟩
 ·intro i e he h0;obtain⟨j,rfl,hj⟩:=look i e he;obtain⟨i',q,a,h1,h2,h3,h4,h5⟩:=Wl n 0 (-1) 1 j e hj (by omega);have h2':e.parent=(i':Int):=by omega
  rw[h2'];refine⟨q,give i' q h1,?_,by rw[rk j _ h5,rk i' _ h4]⟩;rw[show((0:Nat):Int)+j=j from by omega] at h3;exact h3
 ·intro i e k he hk;obtain⟨j,rfl,hj⟩:=look i e he;obtain⟨j',x,h1,h2,h3,h4⟩:=JH n 0 (-1) j e k hj hk;have h1':k=(j':Int):=by omega
  subst h1';exact⟨x,give j' x h3,by omega,by omega⟩
 ·intro i e he;obtain⟨j,rfl,hj⟩:=look i e he;exact JJ n 0 (-1) e (List.mem_of_getElem? hj)
 ·exact rk 0 1 (JG n 1)
 ·intro i e he;obtain⟨j,rfl,hj⟩:=look i e he;have hl:j<(Ld 1 n).length:=by
   have:=(List.getElem?_eq_some_iff.1 hj).1;rw[dN] at this;rw[kI];exact this
  rw[rk j _ (List.getElem?_eq_getElem hl)];have hm:=List.getElem_mem hl;exact⟨Pd n 1 _ hm,hd _ hm⟩
theorem Cd.new (n:Nd):Cd (gz (fun _=>none) 0 (mP 0 (-1) n)) (dQ n):=by
 refine⟨nums 0 (dQ n),?_,by simp[nums],fun x=>?_⟩
 ·unfold nums;exact List.Pairwise.map _ (fun a b h=>by omega) (List.nodup_range' (s:=0) (n:=dQ n) (step:=1))
 ·rw[Ug];unfold gz;rw[dN];constructor
  ·intro h;rw[if_pos (by omega),List.getElem?_eq_getElem (by rw[dN];omega)];simp
  ·intro h;refine Classical.byContradiction fun hn=>?_;rw[if_neg (by omega)] at h;exact h rfl
end
section
section
variable {M:Dm}{r:Int->Nat}
theorem Wd.a3E (h:Wd M r){i k:Int}{e:iy}(he:M i=some e)(hk:k∈e.kids):M k≠none:=by
 obtain⟨x,hx,_⟩:=h.down i e k he hk;rw[hx];simp
end
end
section
open Go.RowKit
mutual
theorem Wo:∀(n:Nd) (deep ahead:Nat),(fT n deep ahead).1=0->∀a∈Ld deep n,a<=10
 | .mk nm ats ks,deep,ahead,h,a,ha=>by
  unfold fT at h;split at h
  ·rename_i h1;rw[Ld] at ha;rcases List.mem_cons.1 ha with rfl|ha
   ·exact(vo h1).1
   ·exact Wp ks _ _ h a ha
  ·rename_i h1;exact(h1 h).elim
theorem Wp:∀(l:List Nd) (deep ahead:Nat),(uD l deep ahead).1=0->∀a∈P9 deep l,a<=10
 |[],_,_,_,a,ha=>by simp[P9] at ha
 |k::l,deep,ahead,h,a,ha=>by
  by_cases h1:(fT k deep ahead).1=0
  ·rw[qM h1] at h;rw[P9] at ha;rcases List.mem_append.1 ha with ha|ha
   ·exact Wo k deep ahead h1 a ha
   ·exact Wp l _ _ h a ha
  ·rw[vv h1] at h;exact(h1 h).elim
end
structure gN (B:Nat)(tg:cz)(W:World)(DB MB:Nat)(p:Int->Option Nat)(M:Dm)(nx c:Nat)(r:Int->Nat):Prop where
 w:bG B tg W DB MB p M nx c
 d:Wd M r
 n:Cd M c
 le:c<=100
 low:B<=W.heap.size
section
variable {E:Nat->Addr}{B:Nat}{tg:cz}{W:World}{DB MB:Nat}{p:Int->Option Nat}{M:Dm}{nx c:Nat}{r:Int->Nat}
theorem gN.below {w':World}(h:gN B tg W DB MB p M nx c r)(hb:Below W.heap.size W w'):gN B tg w' DB MB p M nx c r:=⟨h.w.below hb,h.d,h.n,h.le,Nat.le_trans h.low hb.size⟩
theorem gN.few (h:gN B tg W DB MB p M nx c r){i:Int}{e:iy}(he:M i=some e):e.kids.length<=100:=by
 obtain⟨l,_,h2,h3⟩:=h.n;have:=G9 e.kids l (h.d.nodup i e he) (fun x hx=>(h3 x).2 (h.d.a3E he hx));have:=h.le;omega
end
end
end Go.Proofs.YtjfiehbcamfdfaaGreatDoor

/-
  Parts of the proof.
-/
import Derived.Test.YtgphclgmmocdhaaGreatDoorQu28
namespace Go.Proofs.YtgphclgmmocdhaaGreatDoor
section
mutual
def rkN (d:Nat):Nd->List Nat
 | .mk _ _ ks=>d :: rkL (d+1) ks
def rkL (d:Nat):List Nd->List Nat
 | []=>[]
 | n :: l=>rkN d n++rkL d l
end
mutual
theorem rkN_len:∀ (n:Nd) (d:Nat),(rkN d n).length=szN n
 | .mk nm ats ks,d=>by rw [rkN,szN,List.length_cons,rkL_len ks]
theorem rkL_len:∀ (l:List Nd) (d:Nat),(rkL d l).length=szL l
 | [],_=>rfl
 | n :: l,d=>by rw [rkL,szL,List.length_append,rkN_len n,rkL_len l]
end
theorem rkN_head (n:Nd) (d:Nat):(rkN d n)[0]? = some d:=by
 cases n
 rw [rkN]
 rfl
mutual
theorem rkN_low:∀ (n:Nd) (d a:Nat),a ∈ rkN d n->d<=a
 | .mk nm ats ks,d,a,h=>by
  rw [rkN] at h
  rcases List.mem_cons.1 h with rfl | h
  ·exact Nat.le_refl _
  ·have:=rkL_low ks (d+1) a h
   omega
theorem rkL_low:∀ (l:List Nd) (d a:Nat),a ∈ rkL d l->d<=a
 | [],_,_,h=>by simp [rkL] at h
 | n :: l,d,a,h=>by
  rw [rkL] at h
  rcases List.mem_append.1 h with h | h
  ·exact rkN_low n d a h
  ·exact rkL_low l d a h
end
mutual
theorem elN_up:∀ (n:Nd) (k:Nat) (p:Int) (d j:Nat) (e:Elm),(elN k p n)[j]? = some e->0<j->∃ (i:Nat) (q:Elm) (a:Nat),(elN k p n)[i]? = some q/\e.parent=k+i/\(k:Int)+j ∈ q.kids/\(rkN d n)[i]? = some a/\(rkN d n)[j]? = some (a+1)
 | .mk nm ats ks,k,p,d,0,e,h,hj=>absurd hj (Nat.lt_irrefl _)
 | .mk nm ats ks,k,p,d,j+1,e,h,_=>by
  rw [elN] at h ⊢
  rw [rkN]
  rcases elL_up ks (k+1) k (d+1) j e (by simpa using h) with ⟨h1,h2,h3⟩ | ⟨i,q,a,h1,h2,h3,h4,h5⟩
  ·refine ⟨0,_,d,rfl,by omega,?_,rfl,by simpa using h3⟩
   rw [show (k:Int)+(j+1:Nat)=((k+1:Nat):Int)+j from by omega]
   exact h2
  ·refine ⟨i+1,q,a,by simpa using h1,by omega,?_,by simpa using h4,by simpa using h5⟩
   rw [show (k:Int)+(j+1:Nat)=((k+1:Nat):Int)+j from by omega]
   exact h3
theorem elL_up:∀ (l:List Nd) (k:Nat) (p:Int) (d j:Nat) (e:Elm),(elL k p l)[j]? = some e->(e.parent=p/\(k:Int)+j ∈ kdN k l/\(rkL d l)[j]? = some d)\/∃ (i:Nat) (q:Elm) (a:Nat),(elL k p l)[i]? = some q/\e.parent=k+i/\(k:Int)+j ∈ q.kids/\(rkL d l)[i]? = some a/\(rkL d l)[j]? = some (a+1)
 | [],_,_,_,_,_,h=>by simp [elL] at h
 | n :: l,k,p,d,j,e,h=>by
  rw [elL] at h ⊢
  rw [rkL]
  by_cases hj:j<szN n
  ·rw [List.getElem?_append_left (by rw [elN_len];exact hj)] at h
   by_cases h0:j=0
   ·subst h0
    rcases elN_par n k p 0 e h with h1 | h1
    ·refine .inl ⟨h1.2,by rw [kdN];simp,?_⟩
     rw [List.getElem?_append_left (by rw [rkN_len];exact hj)]
     exact rkN_head n d
    ·omega
   ·obtain ⟨i,q,a,h1,h2,h3,h4,h5⟩:=elN_up n k p d j e h (by omega)
    refine .inr ⟨i,q,a,?_,h2,h3,?_,?_⟩
    ·rw [List.getElem?_append_left (List.getElem?_eq_some_iff.1 h1).1]
     exact h1
    ·rw [List.getElem?_append_left (List.getElem?_eq_some_iff.1 h4).1]
     exact h4
    ·rw [List.getElem?_append_left (List.getElem?_eq_some_iff.1 h5).1]
     exact h5
  ·rw [List.getElem?_append_right (by rw [elN_len];omega),elN_len] at h
   have hk:(k:Int)+j=((k+szN n:Nat):Int)+(j - szN n:Nat):=by omega
   rcases elL_up l (k+szN n) p d (j - szN n) e h with ⟨h1,h2,h3⟩ | ⟨i,q,a,h1,h2,h3,h4,h5⟩
   ·refine .inl ⟨h1,?_,?_⟩
    ·rw [kdN,hk]
     exact List.mem_cons_of_mem _ h2
    ·rw [List.getElem?_append_right (by rw [rkN_len];omega),rkN_len]
     exact h3
   ·refine .inr ⟨szN n+i,q,a,?_,by omega,by rw [hk];exact h3,?_,?_⟩
    ·rw [List.getElem?_append_right (by rw [elN_len];omega),elN_len,show szN n+i - szN n=i from by omega]
     exact h1
    ·rw [List.getElem?_append_right (by rw [rkN_len];omega),rkN_len,show szN n+i - szN n=i from by omega]
     exact h4
    ·rw [List.getElem?_append_right (by rw [rkN_len];omega),rkN_len]
     exact h5
end
theorem kdN_in:∀ (l:List Nd) (k:Nat) (p x:Int),x ∈ kdN k l->∃ (j:Nat) (e:Elm),x=k+j/\(elL k p l)[j]? = some e/\e.parent=p
 | [],_,_,_,h=>by simp [kdN] at h
 | n :: l,k,p,x,h=>by
  rw [kdN] at h
  rw [elL]
  rcases List.mem_cons.1 h with rfl | h
  ·obtain ⟨nm,ats,ks⟩:=n
   rw [elN]
   exact ⟨0,_,by omega,rfl,rfl⟩
  ·obtain ⟨j,e,h1,h2,h3⟩:=kdN_in l (k+szN n) p x h
   refine ⟨szN n+j,e,by omega,?_,h3⟩
   rw [List.getElem?_append_right (by rw [elN_len];omega),elN_len,show szN n+j - szN n=j from by omega]
   exact h2
mutual
theorem elN_down:∀ (n:Nd) (k:Nat) (p:Int) (i:Nat) (q:Elm) (x:Int),(elN k p n)[i]? = some q->x ∈ q.kids->∃ (j:Nat) (e:Elm),x=k+j/\0<j/\(elN k p n)[j]? = some e/\e.parent=k+i
 | .mk nm ats ks,k,p,0,q,x,h,hx=>by
  rw [elN] at h ⊢
  simp at h
  subst h
  obtain ⟨j,e,h1,h2,h3⟩:=kdN_in ks (k+1) k x hx
  exact ⟨j+1,e,by omega,by omega,by simpa using h2,by omega⟩
 | .mk nm ats ks,k,p,i+1,q,x,h,hx=>by
  rw [elN] at h ⊢
  obtain ⟨j,e,h1,h2,h3⟩:=elL_down ks (k+1) k i q x (by simpa using h) hx
  exact ⟨j+1,e,by omega,by omega,by simpa using h2,by omega⟩
theorem elL_down:∀ (l:List Nd) (k:Nat) (p:Int) (i:Nat) (q:Elm) (x:Int),(elL k p l)[i]? = some q->x ∈ q.kids->∃ (j:Nat) (e:Elm),x=k+j/\(elL k p l)[j]? = some e/\e.parent=k+i
 | [],_,_,_,_,_,h,_=>by simp [elL] at h
 | n :: l,k,p,i,q,x,h,hx=>by
  rw [elL] at h ⊢
  by_cases hi:i<szN n
  ·rw [List.getElem?_append_left (by rw [elN_len];exact hi)] at h
   obtain ⟨j,e,h1,_,h2,h3⟩:=elN_down n k p i q x h hx
   refine ⟨j,e,h1,?_,h3⟩
   rw [List.getElem?_append_left (List.getElem?_eq_some_iff.1 h2).1]
   exact h2
  ·rw [List.getElem?_append_right (by rw [elN_len];omega),elN_len] at h
   obtain ⟨j,e,h1,h2,h3⟩:=elL_down l (k+szN n) p (i - szN n) q x h hx
   refine ⟨szN n+j,e,by omega,?_,by omega⟩
   rw [List.getElem?_append_right (by rw [elN_len];omega),elN_len,show szN n+j - szN n=j from by omega]
   exact h2
end
theorem kdN_low:∀ (l:List Nd) (k:Nat) (x:Int),x ∈ kdN k l->(k:Int)<=x
 | [],_,_,h=>by simp [kdN] at h
 | n :: l,k,x,h=>by
  rw [kdN] at h
  rcases List.mem_cons.1 h with rfl | h
  ·exact Int.le_refl _
  ·have:=kdN_low l _ x h
   omega
theorem kdN_nodup:∀ (l:List Nd) (k:Nat),(kdN k l).Nodup
 | [],_=>List.nodup_nil
 | n :: l,k=>by
  rw [kdN,List.nodup_cons]
  refine ⟨fun hm=>?_,kdN_nodup l _⟩
  have:=kdN_low l _ _ hm
  have:=szN_pos n
  omega
mutual
theorem elN_kids:∀ (n:Nd) (k:Nat) (p:Int),∀ e ∈ elN k p n,e.kids.Nodup
 | .mk nm ats ks,k,p,e,he=>by
  rw [elN] at he
  rcases List.mem_cons.1 he with rfl | he
  ·exact kdN_nodup ks _
  ·exact elL_kids ks _ _ e he
theorem elL_kids:∀ (l:List Nd) (k:Nat) (p:Int),∀ e ∈ elL k p l,e.kids.Nodup
 | [],_,_,e,he=>by simp [elL] at he
 | n :: l,k,p,e,he=>by
  rw [elL] at he
  rcases List.mem_append.1 he with he | he
  ·exact elN_kids n _ _ e he
  ·exact elL_kids l _ _ e he
end
def rkD (n:Nd) (i:Int):Nat:=((rkN 1 n)[i.toNat]?).getD 0
theorem Wd.new (n:Nd) (hd:∀ a ∈ rkN 1 n,a<=10):Wd (extE (fun _=>none) 0 (elN 0 (-1) n)) (rkD n):=by
 have look:∀ i e,extE (fun _=>none) 0 (elN 0 (-1) n) i=some e->∃ j:Nat,i=j/\(elN 0 (-1) n)[j]? = some e:=fun i e h=>by
  unfold extE at h
  split at h
  ·next hi=>
   refine ⟨i.toNat,by omega,?_⟩
   rw [show i.toNat=(i - (0:Nat)).toNat from by omega]
   exact h
  ·exact absurd h (by simp)
 have give:∀ (j:Nat) e,(elN 0 (-1) n)[j]? = some e->extE (fun _=>none) 0 (elN 0 (-1) n) (j:Int)=some e:=fun j e h=>by
  have h1:=extE_new (M:=fun _=>none) (nx:=0) (L:=elN 0 (-1) n) (j:=j) (List.getElem?_eq_some_iff.1 h).1
  rw [show ((0:Nat):Int)+j=j from by omega] at h1
  rw [h1]
  exact h
 have rk:∀ j a:Nat,(rkN 1 n)[j]? = some a->rkD n (j:Int)=a:=fun j a h=>by
  unfold rkD
  rw [Int.toNat_natCast,h]
  rfl
 have par0:∃ e,(elN 0 (-1) n)[0]? = some e/\e.parent = -1:=by
  obtain ⟨nm,ats,ks⟩:=n
  rw [elN]
  exact ⟨_,rfl,rfl⟩
 refine ⟨?_,fun i hi=>extE_old (by omega),?_,?_,?_,?_,?_⟩
 ·obtain ⟨e,h1,h2⟩:=par0
  exact ⟨e,give 0 e h1,h2⟩
 ·intro i e he h0
  obtain ⟨j,rfl,hj⟩:=look i e he
  obtain ⟨i',q,a,h1,h2,h3,h4,h5⟩:=elN_up n 0 (-1) 1 j e hj (by omega)
  have h2':e.parent=(i':Int):=by omega
  rw [h2']
  refine ⟨q,give i' q h1,?_,by rw [rk j _ h5,rk i' _ h4]⟩
  rw [show ((0:Nat):Int)+j=j from by omega] at h3
  exact h3
 ·intro i e k he hk
  obtain ⟨j,rfl,hj⟩:=look i e he
  obtain ⟨j',x,h1,h2,h3,h4⟩:=elN_down n 0 (-1) j e k hj hk
  have h1':k=(j':Int):=by omega
  subst h1'
  exact ⟨x,give j' x h3,by omega,by omega⟩
 ·intro i e he
  obtain ⟨j,rfl,hj⟩:=look i e he
  exact elN_kids n 0 (-1) e (List.mem_of_getElem? hj)
 ·exact rk 0 1 (rkN_head n 1)
 ·intro i e he
  obtain ⟨j,rfl,hj⟩:=look i e he
  have hl:j<(rkN 1 n).length:=by
   have:=(List.getElem?_eq_some_iff.1 hj).1
   rw [elN_len] at this
   rw [rkN_len]
   exact this
  rw [rk j _ (List.getElem?_eq_getElem hl)]
  have hm:=List.getElem_mem hl
  exact ⟨rkN_low n 1 _ hm,hd _ hm⟩
theorem Cd.new (n:Nd):Cd (extE (fun _=>none) 0 (elN 0 (-1) n)) (szN n):=by
 refine ⟨nums 0 (szN n),?_,by simp [nums],fun x=>?_⟩
 ·unfold nums
  exact List.Pairwise.map _ (fun a b h=>by omega) (List.nodup_range' (s:=0) (n:=szN n) (step:=1))
 ·rw [mem_nums]
  unfold extE
  rw [elN_len]
  constructor
  ·intro h
   rw [if_pos (by omega),List.getElem?_eq_getElem (by rw [elN_len];omega)]
   simp
  ·intro h
   refine Classical.byContradiction fun hn=>?_
   rw [if_neg (by omega)] at h
   exact h rfl
end
section
section
variable {M:Dm} {r:Int->Nat}
theorem Wd.kid_in (h:Wd M r) {i k:Int} {e:Elm} (he:M i=some e) (hk:k ∈ e.kids):M k≠none:=by
 obtain ⟨x,hx,_⟩:=h.down i e k he hk
 rw [hx]
 simp
end
end
section
open Go.RowKit
mutual
theorem rkN_of:∀ (n:Nd) (deep ahead:Nat),(ckN n deep ahead).1=0->∀ a ∈ rkN deep n,a<=10
 | .mk nm ats ks,deep,ahead,h,a,ha=>by
  unfold ckN at h
  split at h
  ·rename_i h1
   rw [rkN] at ha
   rcases List.mem_cons.1 ha with rfl | ha
   ·exact (ck1_zero h1).1
   ·exact rkL_of ks _ _ h a ha
  ·rename_i h1;exact (h1 h).elim
theorem rkL_of:∀ (l:List Nd) (deep ahead:Nat),(ckK l deep ahead).1=0->∀ a ∈ rkL deep l,a<=10
 | [],_,_,_,a,ha=>by simp [rkL] at ha
 | k :: l,deep,ahead,h,a,ha=>by
  by_cases h1:(ckN k deep ahead).1=0
  ·rw [ckK_zero h1] at h
   rw [rkL] at ha
   rcases List.mem_append.1 ha with ha | ha
   ·exact rkN_of k deep ahead h1 a ha
   ·exact rkL_of l _ _ h a ha
  ·rw [ckK_pos h1] at h;exact (h1 h).elim
end
structure DocS (B:Nat) (tg:Tags) (W:World) (DB MB:Nat) (p:Int->Option Nat) (M:Dm) (nx c:Nat) (r:Int->Nat):Prop where
 w:DocW B tg W DB MB p M nx c
 d:Wd M r
 n:Cd M c
 le:c<=100
 low:B<=W.heap.size
section
variable {E:Nat->Addr} {B:Nat} {tg:Tags} {W:World} {DB MB:Nat} {p:Int->Option Nat} {M:Dm} {nx c:Nat} {r:Int->Nat}
theorem DocS.below {w':World} (h:DocS B tg W DB MB p M nx c r) (hb:Below W.heap.size W w'):DocS B tg w' DB MB p M nx c r:=⟨h.w.below hb,h.d,h.n,h.le,Nat.le_trans h.low hb.size⟩
theorem DocS.few (h:DocS B tg W DB MB p M nx c r) {i:Int} {e:Elm} (he:M i=some e):e.kids.length<=100:=by
 obtain ⟨l,_,h2,h3⟩:=h.n
 have:=sub_len e.kids l (h.d.nodup i e he) (fun x hx=>(h3 x).2 (h.d.kid_in he hx))
 have:=h.le
 omega
end
end
end Go.Proofs.YtgphclgmmocdhaaGreatDoor

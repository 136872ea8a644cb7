/-
  Parts of the proof.
-/
import Derived.Test.YtgphclgmmocdhaaGreatDoorQu38
import Derived.Test.YtgphclgmmocdhaaGreatDoorQu37
namespace Go.Proofs.YtgphclgmmocdhaaGreatDoor
section
open Go
theorem box_few {M:Dm} {n:Int} {q:List Qt} (h:boxM M n=.ok q):q.length<=30:=by
 unfold boxM boxOfM at h
 split at h
 ·cases h
 split at h
 ·cases h
 split at h
 ·cases h
 split at h
 ·cases h
 split at h
 ·next hk=>
  cases h
  have:=hk.2.2
  unfold okB at this
  simp only [Bool.and_eq_true,decide_eq_true_eq] at this
  exact this.1
 ·cases h
theorem poly_few {M:Dm} {n:Int} {q:List Qt} (h:polyM M n=.ok q):q.length<=30:=by
 unfold polyM shapeM at h
 split at h
 ·cases h;simp
 ·split at h
  ·cases h
  ·split at h
   ·next hk=>
    cases h
    unfold okB at hk
    simp only [Bool.and_eq_true,decide_eq_true_eq] at hk
    exact hk.1
   ·cases h
def PtFew (l:List Pc):Prop:=∀ x ∈ l,x.pts.length<=30
theorem fold_pt {α:Type} (g:Nat × List Pc->α->Except Ft (Nat × List Pc)) (hg:∀ s x s',g s x=.ok s'->PtFew s.2->PtFew s'.2):∀ (l:List α) (s s':Nat × List Pc),l.foldlM g s=.ok s'->PtFew s.2->PtFew s'.2
 | [],s,s',h,h0=>by cases h;exact h0
 | x :: l,s,s',h,h0=>by
  rw [List.foldlM_cons] at h
  cases hx:g s x with
  | error e=>rw [hx] at h;cases h
  | ok t=>
   rw [hx] at h
   exact fold_pt g hg l t s' h (hg s x t hx h0)
theorem come_pt (M:Dm) (l:List Rl):∀ (f:Nat) (n:Int) (path:List Int) (m:Mv) (st s':Nat × List Pc),comeM M l f n path m st=.ok s'->PtFew st.2->PtFew s'.2
 | 0,n,path,m,st,s',h,_=>by
  unfold comeM at h
  split at h <;> cases h
 | f+1,n,path,m,st,s',h,h0=>by
  unfold comeM at h
  split at h
  ·cases h
  split at h
  ·cases h
  split at h
  ·cases h;exact h0
  have PC:∀ (m':Mv) (x:Except Nat (List Qt)),(∀ q,x=.ok q->q.length<=30)->pieceM M l n m' x (st.1+1,st.2)=.ok s'->PtFew s'.2:=fun m' x hx h=>by
   unfold pieceM at h
   split at h
   ·cases h
   ·next q=>
    split at h
    ·cases h
    ·next q' hq'=>
     split at h
     ·cases h;exact h0
     ·cases h
      intro y hy
      rcases List.mem_append.1 hy with hy | hy
      ·exact h0 y hy
      ·simp only [List.mem_singleton] at hy
       subst hy
       unfold goM at hq'
       split at hq'
       ·cases hq'
        show (q.map _).length<=30
        rw [List.length_map]
        exact hx q rfl
       ·cases hq'
  split at h
  ·cases h
  ·split at h
   ·exact PC _ _ (fun q hq=>box_few hq) h
   ·split at h
    ·exact PC _ _ (fun q hq=>poly_few hq) h
    ·split at h
     ·exact fold_pt _ (fun s x s' h=>come_pt M l f x _ _ s s' h) _ (st.1+1,st.2) s' h h0
     ·split at h
      ·cases h
      ·exact come_pt M l f _ _ _ (st.1+1,st.2) s' h h0
theorem pieces_pt {M:Dm} {l:List Rl} {L:List Pc} (h:piecesM M l=.ok L):PtFew L:=by
 unfold piecesM at h
 split at h
 ·cases h
 ·next st hst=>
  have h1:sortM st.2=L:=by injection h
  intro x hx
  rw [<- h1] at hx
  unfold sortM at hx
  obtain ⟨k, -,hk⟩:=List.mem_flatMap.1 hx
  exact come_pt M l 101 0 [-1] .one (0,[]) st hst (fun y hy=>by cases hy) x (List.mem_filter.1 hk).1
end
section
theorem errP_ok {a:Qt} (h:errP a=0):(ptQ a).ok:=by
 obtain ⟨h1, -⟩:=errP_zero.1 h
 exact chkP_zero.1 h1
theorem okB_ok {l:List Qt} (h:okB l=true):∀ a ∈ l,(ptQ a).ok:=fun a ha=>by
 unfold okB at h
 simp only [Bool.and_eq_true,List.all_eq_true,beq_iff_eq] at h
 exact errP_ok (h.2 a ha)
theorem box_ok {M:Dm} {n:Int} {q:List Qt} (h:boxM M n=.ok q):∀ a ∈ q,(ptQ a).ok:=by
 unfold boxM boxOfM at h
 split at h
 ·cases h
 split at h
 ·cases h
 split at h
 ·cases h
 split at h
 ·cases h
 split at h
 ·next hk=>
  cases h
  exact okB_ok hk.2.2
 ·cases h
theorem poly_ok {M:Dm} {n:Int} {q:List Qt} (h:polyM M n=.ok q):∀ a ∈ q,(ptQ a).ok:=by
 unfold polyM shapeM at h
 split at h
 ·cases h;simp
 ·split at h
  ·cases h
  ·split at h
   ·next hk=>
    cases h
    exact okB_ok hk
   ·cases h
theorem go_step {x y:Int} {l:List Qt} (h:goM (shM x y) l=some (l.map (goP (shM x y)))):∀ a ∈ l,goesO (shM x y) (ptQ a)=some (ptQ (goP (shM x y) a))/\PI (goP (shM x y) a)/\errP (goP (shM x y) a)=0:=fun a ha=>by
 unfold goM at h
 split at h
 ·next hk=>
  have h1:=List.all_eq_true.1 hk a ha
  unfold goOk at h1
  simp only [Bool.and_eq_true,decide_eq_true_eq,beq_iff_eq] at h1
  obtain ⟨⟨q,c⟩,hq⟩:∃ z,movedF 0 (shM x y) (ptQ a)=z:=⟨_,rfl⟩
  have hc:c=0:=by
   have:=h1.1
   rw [show movedF 0 (shM x y) ⟨⟨a.xn,a.xd⟩,⟨a.yn,a.yd⟩⟩=(q,c) from hq] at this
   exact this
  subst hc
  have hg:=goP_of hq
  have h2:=(movedF_iff.1 hq).2
  have hqo:q.ok:=by
   unfold goesO at h2
   obtain ⟨u,e1,h2⟩:=bind_iff.1 h2
   obtain ⟨v,e2,h2⟩:=bind_iff.1 h2
   cases h2
   obtain ⟨s, -,e1⟩:=dotO_iff.1 e1
   obtain ⟨t, -,e2⟩:=dotO_iff.1 e2
   have f1:=opO_iff.2 e1
   have f2:=opO_iff.2 e2
   have ok1:∀ {x y z:Fr},opO add x y=some z->z.ok:=fun {x y z} h=>by
    unfold opO at h
    split at h
    ·next hc=>
     cases h
     exact (good_add.val x y _ _ (by rw [<- hc])).2.2.1
    ·cases h
   exact ⟨ok1 f1,ok1 f2⟩
  have hck:chkP (goP (shM x y) a)=0:=by
   rw [hg]
   exact chkP_zero.2 ⟨hqo.1,hqo.2⟩
  refine ⟨?_,chkP_pi hck,errP_zero.2 ⟨hck,h1.2⟩⟩
  rw [h2,hg]
 ·cases h
theorem no_level {n:Nd} (h:∀ (j:Nat) (f:Fl),(flN 0 (-1) 1 n)[j]? = some f->∀ a ∈ f.attrs,a.1≠kLevel):∀ i e,newD n i=some e->∀ a ∈ e.ats,a.1≠kLevel:=fun i e he a ha=>by
 unfold newD extE at he
 split at he
 ·have hm:(e.name,e.ats,e.parent) ∈ (elN 0 (-1) n).map (fun e=>(e.name,e.ats,e.parent)):=List.mem_map_of_mem (List.mem_of_getElem? he)
  rw [elN_fl n 0 (-1) 1] at hm
  obtain ⟨f,hf,hfe⟩:=List.mem_map.1 hm
  obtain ⟨j,hj⟩:=List.getElem?_of_mem hf
  have:f.attrs=e.ats:=congrArg (fun t=>t.2.1) hfe
  exact h j f hj a (by rw [this];exact ha)
 ·cases he
theorem uses_new {ks:List Nd} {x y:Int} (hc:(ckN (oneN ks) 1 0).1=0) (hx1 : -50<=x) (hx2:x<=50) (hy1 : -50<=y) (hy2:y<=50) (hl:∀ (j:Nat) (f:Fl),(flN 0 (-1) 1 (twoN ks (mvT x y)))[j]? = some f->∀ a ∈ f.attrs,a.1≠kLevel) :
  (∀ e,piecesM (newD (oneN ks)) []=.error e->piecesM (newD (twoN ks (mvT x y))) []=.error e)/\(∀ p q,piecesM (newD (oneN ks)) []=.ok p->piecesM (newD (twoN ks (mvT x y))) []=.ok q->q=p++p.map (shPc x y)/\∀ a ∈ p,goM (shM x y) a.pts=some (a.pts.map (goP (shM x y)))):=by
 have hu:=use_new ks (mvT x y) (rkN_of (oneN ks) 1 0 hc)
 have h2:=no_level hl
 have h1:∀ i e,newD (oneN ks) i=some e->∀ a ∈ e.ats,a.1≠kLevel:=fun i e he a ha=>by
  by_cases h0:i=0
  ·subst h0
   rw [hu.r1] at he
   cases he
   cases ha
  ·by_cases hn:i=((szL ks+2:Nat):Int)
   ·subst hn
    rw [hu.out] at he
    cases he
   ·exact h2 i e (by rw [hu.same i h0 hn];exact he) a ha
 exact uses_all hu (by omega) (by omega) (fun s hs=>readR_ok hs) no_read (mv_read hx1 hx2 hy1 hy2) (fun n l h=>box_ok h) (fun n l h=>poly_ok h) (lv_none h1) (lv_none h2)
end
end Go.Proofs.YtgphclgmmocdhaaGreatDoor

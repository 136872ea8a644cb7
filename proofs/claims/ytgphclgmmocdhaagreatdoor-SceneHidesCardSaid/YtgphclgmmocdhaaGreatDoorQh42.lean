/-
  Parts of the proof.
-/
import Derived.Test.YtgphclgmmocdhaaGreatDoorQh39
import Derived.Test.YtgphclgmmocdhaaGreatDoorQh40
import Derived.Test.YtgphclgmmocdhaaGreatDoorQh41
namespace Go.Proofs.YtgphclgmmocdhaaGreatDoor
section
section
variable {Ma Mb:Dm} {r:Int->Nat}
def AlkE (Ma Mb:Dm):Prop:=∀ i e,Mb i=some e->∃ ea,Ma i=some ea/\ea.name=e.name/\ea.ats=e.ats/\ea.parent=e.parent
theorem AlkE.at_ (h:AlkE Ma Mb) {i:Int} {e:Elm} (he:Mb i=some e) (nm:Bs):atM Ma i nm=atM Mb i nm:=by
  obtain ⟨ea,h1, -,h3, -⟩:=h i e he
  unfold atM
  rw [h1,he]
  show atOf ea.ats nm=atOf e.ats nm
  rw [h3]
theorem AlkE.par (h:AlkE Ma Mb) {i:Int} {e:Elm} (he:Mb i=some e):parM Ma i=parM Mb i:=by
  obtain ⟨ea,h1, -, -,h4⟩:=h i e he
  unfold parM
  rw [h1,he]
  exact h4
theorem toldM_nil (M:Dm) (nm:Bs) (n:Int):toldM M [] nm n=atM M n nm:=by
  unfold toldM
  cases atM M n nm with
  | none=>rfl
  | some v=>rfl
theorem AlkE.ofF (h:AlkE Ma Mb) (hw:Wd Mb r) (nm:Bs):∀ (f:Nat) (i:Int),(i<0\/∃ e,Mb i=some e)->Go.Proofs.YtgphclgmmocdhaaGreatDoor.ofF Ma [] nm f i=Go.Proofs.YtgphclgmmocdhaaGreatDoor.ofF Mb [] nm f i
  | 0,_,_=>rfl
  | f+1,i,hi=>by
    unfold Go.Proofs.YtgphclgmmocdhaaGreatDoor.ofF
    by_cases h0:i<0
    · rw [if_pos h0,if_pos h0]
    · rw [if_neg h0,if_neg h0]
      obtain ⟨e,he⟩:=hi.resolve_left h0
      rw [toldM_nil,toldM_nil,h.at_ he,h.par he]
      cases atM Mb i nm with
      | some v=>rfl
      | none=>
        dsimp only
        split
        · refine h.ofF hw nm f _ ?_
          by_cases hz:i=0
          · subst hz
            exact .inl (by rw [hw.root_par];omega)
          · obtain ⟨q,hq, -⟩:=hw.up_par he hz
            exact .inr ⟨q,hq⟩
        · rfl
theorem AlkE.of_ (h:AlkE Ma Mb) (hw:Wd Mb r) (nm:Bs) {i:Int} {e:Elm} (he:Mb i=some e):ofM Ma [] nm i=ofM Mb [] nm i:=by
  obtain ⟨ea,h1, -⟩:=h i e he
  unfold ofM
  rw [h1,he,h.ofF hw nm 12 i (.inr ⟨e,he⟩)]
  rfl
theorem AlkE.name (h:AlkE Ma Mb) {i:Int} {e:Elm} (he:Mb i=some e):nmD Ma i=nmD Mb i:=by
  obtain ⟨ea,h1,h2, -⟩:=h i e he
  unfold nmD
  rw [h1,he]
  exact h2
theorem AlkE.val (h:AlkE Ma Mb) {i:Int} {e:Elm} (he:Mb i=some e) (nm:Bs):valM Ma i nm=valM Mb i nm:=by
  unfold valM
  rw [h.at_ he]
theorem AlkE.move (h:AlkE Ma Mb) {i:Int} {e:Elm} (he:Mb i=some e) (m:Mv):moveM Ma i m=moveM Mb i m:=by
  unfold moveM
  rw [h.val he]
theorem AlkE.frac (h:AlkE Ma Mb) {i:Int} {e:Elm} (he:Mb i=some e) (nm:Bs):fracM Ma i nm=fracM Mb i nm:=by
  unfold fracM
  rw [h.at_ he]
theorem AlkE.box (h:AlkE Ma Mb) {i:Int} {e:Elm} (he:Mb i=some e):boxM Ma i=boxM Mb i:=by
  unfold boxM
  rw [h.frac he,h.frac he,h.frac he,h.frac he]
theorem AlkE.poly (h:AlkE Ma Mb) {i:Int} {e:Elm} (he:Mb i=some e):polyM Ma i=polyM Mb i:=by
  unfold polyM
  rw [h.val he]
theorem AlkE.shown (h:AlkE Ma Mb) (hw:Wd Mb r) {i:Int} {e:Elm} (he:Mb i=some e):shownE Ma [] i=shownE Mb [] i:=by
  unfold shownE
  rw [h.name he,h.of_ hw kShow he]
def SameP (a b:Nat) (x y:Except Ft (Nat × List Pc)):Prop:=match x,y with
  | .error e,.error e'=>e=e'
  | .ok s,.ok t=>s.2=t.2/\s.1<=a/\t.1<=b
  | _,_=>False
theorem SameP.mono {a b a' b':Nat} {x y:Except Ft (Nat × List Pc)} (h:SameP a b x y) (ha:a<=a') (hb:b<=b'):SameP a' b' x y:=by
  cases x with
  | error e=>cases y with
    | error e'=>exact h
    | ok t=>exact h
  | ok s=>cases y with
    | error e'=>exact h
    | ok t=>exact ⟨h.1,Nat.le_trans h.2.1 ha,Nat.le_trans h.2.2 hb⟩
theorem same_piece (h:AlkE Ma Mb) (hw:Wd Mb r) {i:Int} {e:Elm} (he:Mb i=some e) (m:Mv) (x:Except Nat (List Qt)) (ca cb:Nat) (ps:List Pc):SameP ca cb (pieceM Ma [] i m x (ca,ps)) (pieceM Mb [] i m x (cb,ps)):=by
  unfold pieceM
  cases x with
  | error c=>exact rfl
  | ok q=>
    dsimp only
    cases goM m q with
    | none=>exact rfl
    | some q'=>
      dsimp only
      rw [h.of_ hw kFill he,h.of_ hw kRule he,h.of_ hw kLevel he]
      by_cases hf:ofM Mb [] kFill i=kNone
      · rw [if_pos hf,if_pos hf]
        exact ⟨rfl,Nat.le_refl _,Nat.le_refl _⟩
      · rw [if_neg hf,if_neg hf]
        exact ⟨rfl,Nat.le_refl _,Nat.le_refl _⟩
def szM (M:Dm) (f:Nat) (i:Int):Nat:=(pre M f i 0).length
theorem pre_len (M:Dm):∀ (f:Nat) (i d d':Int),(pre M f i d).length=(pre M f i d').length
  | 0,_,_,_=>rfl
  | f+1,i,d,d'=>by
    rw [pre,pre]
    cases M i with
    | none=>rfl
    | some e=>
      simp only [List.length_cons,List.length_flatMap]
      congr 2
      exact List.map_congr_left fun k _=>pre_len M f k _ _
theorem szM_in {M:Dm} {f:Nat} {i:Int} {e:Elm} (he:M i=some e):szM M (f+1) i=(e.kids.map (szM M f)).sum+1:=by
  unfold szM
  rw [pre,he]
  simp only [List.length_cons,List.length_flatMap]
  congr 2
  exact List.map_congr_left fun k _=>pre_len M f k _ _
structure HidV (Ma Mb:Dm) (n0:Int):Prop where
  alk:AlkE Ma Mb
  kids:∀ i ea eb,Ma i=some ea->Mb i=some eb->eb.kids=ea.kids.filter (fun k => !(k==n0))
  out:shownE Ma [] n0=false
  at0:∃ e,Ma n0=some e
theorem fold_two {n0:Int} {A B:Nat × List Pc->Int->Except Ft (Nat × List Pc)} {sa sb:Int->Nat}:∀ (l:List Int) (ca cb:Nat) (ps:List Pc),
    (∀ k ∈ l,∀ ca cb ps,ca+sa k<=100->cb+(if k=n0 then 0 else sb k)<=100->if k=n0 then ∃ c,A (ca,ps) k=.ok (c,ps)/\c<=ca+sa k else SameP (ca+sa k) (cb+sb k) (A (ca,ps) k) (B (cb,ps) k))->
    ca+(l.map sa).sum<=100->cb+((l.filter (fun k => !(k==n0))).map sb).sum<=100->
    SameP (ca+(l.map sa).sum) (cb+((l.filter (fun k => !(k==n0))).map sb).sum) (l.foldlM A (ca,ps)) ((l.filter (fun k => !(k==n0))).foldlM B (cb,ps))
  | [],ca,cb,ps,_,_,_=>⟨rfl,Nat.le_refl _,Nat.le_refl _⟩
  | k :: l,ca,cb,ps,H,ha,hb=>by
    have hk:=H k (by simp) ca cb ps
    rw [List.map_cons,List.sum_cons] at ha
    by_cases h0:k=n0
    · subst h0
      rw [if_pos rfl,if_pos rfl] at hk
      have hfl:(k :: l).filter (fun j => !(j==k))=l.filter (fun j => !(j==k)):=by simp
      rw [hfl] at hb ⊢
      obtain ⟨c,h1,h2⟩:=hk (by omega) (by omega)
      rw [List.foldlM_cons,h1]
      have:=fold_two l c cb ps (fun x hx=>H x (by simp [hx])) (by omega) hb
      refine this.mono ?_ Nat.le.refl
      rw [List.map_cons,List.sum_cons]
      omega
    · rw [if_neg h0,if_neg h0] at hk
      have hfl:(k :: l).filter (fun j => !(j==n0))=k :: l.filter (fun j => !(j==n0)):=by simp [h0]
      rw [hfl] at hb ⊢
      rw [List.map_cons,List.sum_cons] at hb ⊢
      rw [List.map_cons,List.sum_cons]
      have h1:=hk (by omega) (by omega)
      rw [List.foldlM_cons,List.foldlM_cons]
      cases hA:A (ca,ps) k with
      | error e=>
        cases hB:B (cb,ps) k with
        | error e'=>rw [hA,hB] at h1;exact h1
        | ok t=>rw [hA,hB] at h1;exact h1.elim
      | ok s=>
        cases hB:B (cb,ps) k with
        | error e'=>rw [hA,hB] at h1;exact h1.elim
        | ok t=>
          rw [hA,hB] at h1
          obtain ⟨h2,h3,h4⟩:=h1
          obtain ⟨s1,s2⟩:=s
          obtain ⟨t1,t2⟩:=t
          simp only at h2 h3 h4
          subst h2
          have:=fold_two l s1 t1 s2 (fun x hx=>H x (by simp [hx])) (by omega) (by omega)
          exact this.mono (by omega) (by omega)
theorem come_hid {M:Dm} {f:Nat} {n:Int} {path:List Int} {m:Mv} {c:Nat} {ps:List Pc} (hp:n ∉ path) (hc:c<100) (hs:shownE M [] n=false):comeM M [] (f+1) n path m (c,ps)=.ok (c+1,ps):=by
  rw [comeM,if_neg hp,if_neg (show ¬ 100<=(c,ps).1 from by dsimp only;omega),if_pos hs]
theorem come_two {n0:Int} {ra:Int->Nat} (hv:HidV Ma Mb n0) (hwa:Wd Ma ra) (hwb:Wd Mb ra) (nouse:∀ i e,Mb i=some e->e.name≠kUse):∀ (f:Nat) (i:Int) (e:Elm) (path:List Int) (m:Mv) (ca cb:Nat) (ps:List Pc),Mb i=some e->(∀ y ∈ path,y<0\/ra y<ra i)->11<=f+ra i->
    ca+szM Ma f i<=100->cb+szM Mb f i<=100->SameP (ca+szM Ma f i) (cb+szM Mb f i) (comeM Ma [] f i path m (ca,ps)) (comeM Mb [] f i path m (cb,ps))
  | 0,i,e,_,_,_,_,_,he,_,hf,_,_=>by
    have:=(hwb.rb i e he).2
    omega
  | f+1,i,e,path,m,ca,cb,ps,he,hp,hf,hsa,hsb=>by
    obtain ⟨ea,hea,h2,h3,h4⟩:=hv.alk i e he
    have hi0:0<=i:=hwb.pos he
    have hnp:i ∉ path:=fun h=>by
      rcases hp i h with h | h <;> omega
    rw [szM_in hea] at hsa ⊢
    rw [szM_in he] at hsb ⊢
    rw [comeM,comeM,if_neg hnp,if_neg hnp,if_neg (show ¬ 100<=(ca,ps).1 from by dsimp only;omega),if_neg (show ¬ 100<=(cb,ps).1 from by dsimp only;omega)]
    rw [hv.alk.shown hwb he]
    by_cases hs:shownE Mb [] i=false
    · rw [if_pos hs,if_pos hs]
      exact ⟨rfl,by dsimp only;omega,by dsimp only;omega⟩
    · rw [if_neg hs,if_neg hs,hv.alk.move he m]
      cases moveM Mb i m with
      | error c=>exact rfl
      | ok m'=>
        dsimp only
        rw [hv.alk.name he,hv.alk.box he,hv.alk.poly he]
        by_cases hb:nmD Mb i=kBox
        · rw [if_pos hb,if_pos hb]
          exact (same_piece hv.alk hwb he m' _ _ _ ps).mono (by omega) (by omega)
        · rw [if_neg hb,if_neg hb]
          by_cases hy:nmD Mb i=kPoly
          · rw [if_pos hy,if_pos hy]
            exact (same_piece hv.alk hwb he m' _ _ _ ps).mono (by omega) (by omega)
          · rw [if_neg hy,if_neg hy]
            have hnm:nmD Mb i=e.name:=by unfold nmD;rw [he]
            by_cases hg:nmD Mb i=kGroup
            · rw [if_pos hg,if_pos hg]
              have hka:comeM.kidsM Ma i=ea.kids:=by unfold comeM.kidsM;rw [hea]
              have hkb:comeM.kidsM Mb i=ea.kids.filter (fun k => !(k==n0)):=by
                unfold comeM.kidsM
                rw [he]
                exact hv.kids i ea e hea he
              have hkb':e.kids=ea.kids.filter (fun k => !(k==n0)):=hv.kids i ea e hea he
              rw [hka,hkb]
              rw [hkb'] at hsb ⊢
              have key:=fold_two (n0:=n0) (A:=fun s k=>comeM Ma [] f k (i :: path) m' s) (B:=fun s k=>comeM Mb [] f k (i :: path) m' s) (sa:=szM Ma f) (sb:=szM Mb f) ea.kids (ca+1) (cb+1) ps (fun k hk ca' cb' ps' h5 h6=>?_) (by omega) (by omega)
              · exact key.mono (by omega) (by omega)
              · obtain ⟨x,hx,hxp,hx0⟩:=hwa.down i ea k hea hk
                obtain ⟨hrk, -⟩:=hwa.step hea hk
                have hpk:∀ y ∈ i :: path,y<0\/ra y<ra k:=fun y hy=>by
                  rcases List.mem_cons.1 hy with rfl | hy
                  · exact .inr (by omega)
                  · rcases hp y hy with h | h
                    · exact .inl h
                    · exact .inr (by omega)
                have hk0:0<=k:=hwa.pos hx
                have hkp:k ∉ i :: path:=fun h=>by
                  rcases hpk k h with h | h <;> omega
                have hrb:=(hwa.rb k x hx).2
                by_cases h0:k=n0
                · rw [if_pos h0] at h6 ⊢
                  subst h0
                  obtain ⟨f',rfl⟩:∃ f',f=f'+1:=⟨f - 1,by omega⟩
                  rw [szM_in hx] at h5 ⊢
                  exact ⟨ca'+1,come_hid hkp (by omega) hv.out,by omega⟩
                · rw [if_neg h0] at h6 ⊢
                  have hkk:k ∈ e.kids:=by rw [hkb'];simp [hk,h0]
                  obtain ⟨xb,hxb, -⟩:=hwb.down i e k he hkk
                  exact come_two hv hwa hwb nouse f k xb (i :: path) m' ca' cb' ps' hxb hpk (by omega) h5 h6
            · exfalso
              have hsh:shownE Mb [] i=true:=by simpa using hs
              unfold shownE isFour at hsh
              have hu:=nouse i e he
              rw [hnm] at hb hy hg hsh
              simp [hb,hy,hg,hu] at hsh
theorem hide_all {n0:Int} {ra:Int->Nat} (hv:HidV Ma Mb n0) (hwa:Wd Ma ra) (hwb:Wd Mb ra) (nouse:∀ i e,Mb i=some e->e.name≠kUse) {a b:Nat} (hca:Cd Ma a) (hcb:Cd Mb b) (ha:a<=100) (hb:b<=100):piecesM Ma []=piecesM Mb []:=by
  obtain ⟨e0,he0, -⟩:=hwb.root
  obtain ⟨a0,ha0, -⟩:=hwa.root
  have h1:szM Ma 101 0=a:=by
    have:=hwa.count (d:=0) hca (hwa.dp 101 0 a0 ha0 (by omega))
    rw [List.length_map] at this
    exact this
  have h2:szM Mb 101 0=b:=by
    have:=hwb.count (d:=0) hcb (hwb.dp 101 0 e0 he0 (by omega))
    rw [List.length_map] at this
    exact this
  have key:=come_two hv hwa hwb nouse 101 0 e0 [-1] .one 0 0 [] he0 (fun y hy=>.inl (by rw [List.mem_singleton.1 hy];omega)) (by omega) (by omega) (by omega)
  unfold piecesM
  cases hA:comeM Ma [] 101 0 [-1] .one (0,[]) with
  | error e=>
    cases hB:comeM Mb [] 101 0 [-1] .one (0,[]) with
    | error e'=>rw [hA,hB] at key;rw [show e=e' from key]
    | ok t=>rw [hA,hB] at key;exact key.elim
  | ok s=>
    cases hB:comeM Mb [] 101 0 [-1] .one (0,[]) with
    | error e'=>rw [hA,hB] at key;exact key.elim
    | ok t=>
      rw [hA,hB] at key
      dsimp only
      rw [show s.2=t.2 from key.1]
end
theorem sortM_up (l:List Pc):(sortM l).Pairwise (fun a b=>a.lv<=b.lv):=by
  unfold sortM
  rw [List.pairwise_flatMap]
  refine ⟨fun k _=>?_,?_⟩
  · refine List.Pairwise.imp_of_mem ?_ (List.pairwise_of_forall (R:=fun _ _=>True) (fun _ _=>trivial))
    intro a b ha hb _
    simp only [List.mem_filter,beq_iff_eq] at ha hb
    omega
  · refine List.Pairwise.imp ?_ List.pairwise_lt_range
    intro a b hab x hx y hy
    simp only [List.mem_filter,beq_iff_eq] at hx hy
    omega
end
section
theorem hid_of {M Mb:Dm} {r:Int->Nat} {n0:Int} {e0:Elm} (hw:Wd M r) (he:M n0=some e0)
  (hb:∀ i e,Mb i=some e->i≠n0/\∃ x,M i=some x/\x.name=e.name/\x.ats=e.ats/\x.parent=e.parent/\e.kids=x.kids.filter (fun k => !(k==n0))):HidV (atsE M n0 e0 (setA e0.ats kShow kNo)) Mb n0 where
 alk:=fun i e hi=>by
  obtain ⟨h1,x,h2,h3,h4,h5, -⟩:=hb i e hi
  exact ⟨x,by unfold atsE putE;rw [if_neg h1];exact h2,h3,h4,h5⟩
 kids:=fun i ea eb ha hi=>by
  obtain ⟨h1,x,h2, -, -, -,h6⟩:=hb i eb hi
  unfold atsE putE at ha
  rw [if_neg h1,h2] at ha
  cases ha
  exact h6
 out:=by
  have hm:atsE M n0 e0 (setA e0.ats kShow kNo) n0=some ⟨e0.name,setA e0.ats kShow kNo,e0.parent,e0.kids⟩:=if_pos rfl
  have ha:atM (atsE M n0 e0 (setA e0.ats kShow kNo)) n0 kShow=some kNo:=by
   unfold atM
   rw [hm]
   exact at_setA _ _ _
  have:=ofM_own (hw.ats he (setA e0.ats kShow kNo)) (l:=[]) hm (nm:=kShow) (by decide) ha
  unfold shownE
  rw [this]
  simp
 at0:=⟨_,if_pos rfl⟩
theorem hid_out {M Mb:Dm} {r:Int->Nat} {n0:Int} {e0 o:Elm} (hw:Wd M r) (he:M n0=some e0) (ho:M e0.parent=some o) {L:List Int} (hL:n0 ∈ L)
  (hMb:∀ i,Mb i=if i ∈ L then none else if i=e0.parent then some ⟨o.name,o.ats,o.parent,o.kids.filter (fun k => !(k==n0))⟩ else M i) :
  ∀ i e,Mb i=some e->i≠n0/\∃ x,M i=some x/\x.name=e.name/\x.ats=e.ats/\x.parent=e.parent/\e.kids=x.kids.filter (fun k => !(k==n0)):=fun i e hi=>by
 rw [hMb] at hi
 by_cases h1:i ∈ L
 ·rw [if_pos h1] at hi;cases hi
 ·rw [if_neg h1] at hi
  refine ⟨fun e1=>h1 (e1 ▸ hL),?_⟩
  by_cases h2:i=e0.parent
  ·rw [if_pos h2] at hi
   cases hi
   exact ⟨o,by rw [h2];exact ho,rfl,rfl,rfl,rfl⟩
  ·rw [if_neg h2] at hi
   refine ⟨e,hi,rfl,rfl,rfl,?_⟩
   refine (List.filter_eq_self.2 fun k hk=>?_).symm
   have:k≠n0:=by
    rintro rfl
    obtain ⟨x,hx,hp, -⟩:=hw.down i e k hi hk
    rw [he] at hx
    cases hx
    exact h2 hp.symm
   simpa using this
end
section
open Go.RowKit Go.Shelf
def VaOk (M:Dm):Prop:=∀ i e,M i=some e->e.name≠[]/\∀ a ∈ e.ats,a.2.length<=200
theorem VaOk.fit {M:Dm} (h:VaOk M):FitD M:=fun i e he=>⟨(h i e he).1,fun a ha=>Nat.le_trans ((h i e he).2 a ha) (by omega)⟩
theorem VaOk.sz {M:Dm} (h:VaOk M):SzD M:=fun i e he=>(h i e he).2
theorem VaOk.new (n:Nd) (hc:(ckN n 1 0).1=0):VaOk (newD n):=fun j e he=>by
 have hk:=ckN_ok n 1 0 hc
 have hf:=FitD.new n hc j e he
 refine ⟨hf.1,fun a ha=>?_⟩
 unfold newD extE at he
 split at he
 ·have h1:=elN_va n 0 (-1) hk e (List.mem_of_getElem? he) a ha
  unfold isVal at h1
  simp only [Bool.and_eq_true,decide_eq_true_eq] at h1
  exact h1.1
 ·cases he
theorem VaOk.set {M:Dm} (h:VaOk M) {n:Int} {e:Elm} (he:M n=some e) (nm v:Bs) (hv:v.length<=200):VaOk (atsE M n e (setA e.ats nm v)):=fun i x hx=>by
 unfold atsE putE at hx
 split at hx
 ·cases hx
  refine ⟨(h n e he).1,fun a ha=>?_⟩
  rcases setA_mem _ _ _ ha with rfl | h1
  ·exact hv
  ·exact (h n e he).2 a h1
 ·exact h i x hx
section
variable {E:Nat->Addr} {B:Nat} {tg:Tags} {W:World} {DB MB:Nat} {p:Int->Option Nat} {M:Dm} {nx c:Nat} {r:Int->Nat}
theorem Remove_M (h:DocS B tg W DB MB p M nx c r) (n:Int) (e:Elm) (hn:M n=some e) (h0:n≠0) :
  Calls Tryz.prog 12 #[.pointer (some ⟨DB,0,none⟩),.int .i64 n] W fun e1 w'=>e1=.returned .nilIface/\KT tg W w'/\∃ (tg':Tags) (p':Int->Option Nat) (Mb:Dm) (c':Nat) (o:Elm) (L:List Int),(∀ x,x<W.heap.size->tg' x=tg x)/\DocS B tg' w' DB MB p' Mb nx c' r/\M e.parent=some o/\n ∈ L/\∀ i,Mb i=if i ∈ L then none else if i=e.parent then some ⟨o.name,o.ats,o.parent,o.kids.filter (fun k => !(k==n))⟩ else M i:=by
 obtain ⟨o,ho,hno,_⟩:=h.d.up n e hn h0
 have hdp:=h.d.dp 11 n e hn (by omega)
 have hpre:=h.d.outE_pre (o:=o) (d:=1) hn h0 hdp
 have hfl:fromL (outE M n e o) 11 n=fromL M 11 n:=by unfold fromL;rw [hpre]
 have hL:∀ x,x ∈ fromL M 11 n↔Bl M n x:=fun x=>h.d.mem hdp
 have hnd:(fromL M 11 n).Nodup:=h.d.pre_nodup 11 n 1
 have hv:=h.d.cutV hn ho hL
 have hct:=hv.count h.n hnd hL
 have hle:=h.le
 refine (Remove_doc h.w n e o hn h0 ho (List.ne_nil_of_mem hno) 11 (by omega) (fromL M 11 n) (h.d.outE_dp hn ho hdp) hfl (fun k hk=>?_) hnd (by omega)).mono ?_
 ·obtain ⟨x,hx⟩:=((hL k).1 hk).in_
  obtain ⟨x',h1,_⟩:=h.d.outE_at hn ho hx
  have h1:putE M e.parent ⟨o.name,o.ats,o.parent,woL o.kids n⟩ k=some x':=h1
  rw [h1]
  simp
 ·rintro e1 w' ⟨rfl,hk,tg',p',ht,hd⟩
  exact ⟨rfl,hk,tg',p',_,_,o,fromL M 11 n,ht,⟨hd,h.d.cut hv (h.d.top h0),hct.1,by omega,Nat.le_trans h.low hk.size⟩,ho,(hL n).2 (.self hn),fun i=>rfl⟩
theorem En.of (hd:DocS B tg W DB MB p M nx c r) (hN:NE E W) (hv:VaOk M):En E B tg W DB MB p M nx c r [] W.heap.size (.slice none 0 0):=⟨hd,hN,hv.fit,hv.sz,fun x hx=>(by cases hx),World.ownsRow_nil _ _ _ _⟩
end
def ndBx:Nd:=.mk [98,111,120] [([102,105,108,108],[97]),([119],[50]),([104],[50])] []
theorem come_bx:comeM (newD ndBx) [] 101 0 [-1] .one (0,[])=.ok (1,[⟨0,sqL 2,[97],[119,105,110,100],0⟩]):=by kernel_rfl
theorem pieces_bx:piecesM (newD ndBx) []=.ok [⟨0,sqL 2,[97],[119,105,110,100],0⟩]:=by
 unfold piecesM
 rw [come_bx]
 kernel_rfl
end
section
open Go.RowKit Go.Shelf
set_option maxHeartbeats 8000000
set_option maxRecDepth 20000
abbrev oBx:Obj:=.cells #[.string ⟨#[102,105,108,108]⟩,.string ⟨#[97]⟩,.string ⟨#[119]⟩,.string ⟨#[50]⟩,.string ⟨#[104]⟩,.string ⟨#[50]⟩] 49
theorem nd_bx (W:World):NdC (W.alloc oBx) (.string ⟨#[98,111,120]⟩) (.slice (some ⟨W.heap.size,0,none⟩) 3 3) (.slice none 0 0) ndBx:=by
 unfold ndBx NdC
 have n0:=mbox W #[.string ⟨#[102,105,108,108]⟩,.string ⟨#[97]⟩,.string ⟨#[119]⟩,.string ⟨#[50]⟩,.string ⟨#[104]⟩,.string ⟨#[50]⟩] 49
 refine ⟨rfl,by rw [maxLen_eq];decide,⟨some ⟨W.heap.size,0,none⟩,3,rfl,Nat.le_refl _,by rw [maxLen_eq];decide,(fun h=>by cases h),fun i x h=>?_⟩,none,0,rfl,Nat.le_refl _,Nat.zero_le _,fun _=>rfl,?_⟩
 ·match i,h with
  | 0,h=>cases h;exact ⟨_,_,rfl,bcell n0 0 _ rfl,bcell n0 1 _ rfl,by rw [maxLen_eq];decide,by rw [maxLen_eq];decide⟩
  | 1,h=>cases h;exact ⟨_,_,rfl,bcell n0 2 _ rfl,bcell n0 3 _ rfl,by rw [maxLen_eq];decide,by rw [maxLen_eq];decide⟩
  | 2,h=>cases h;exact ⟨_,_,rfl,bcell n0 4 _ rfl,bcell n0 5 _ rfl,by rw [maxLen_eq];decide,by rw [maxLen_eq];decide⟩
 ·unfold KdsAt
  trivial
theorem pcs_one {qs:List P5S} {x:Pc} (h:qs.map P5S.pc=[x]):∃ o cap,qs=[⟨x.nd,o,cap,x.pts,x.fill,x.rule,x.lv⟩]:=by
 match qs,h with
 | [y],h=>cases h;exact ⟨y.o,y.cap,rfl⟩
theorem scened_any {E:Nat->Addr} (W:World) (hN:NE E W) (hD:DE E W) :
  Calls Tryz.prog 8 #[] W fun e w'=>e=.returned (.bool true)/\Below W.heap.size W w':=by
 have b0:=mal W oBx
 have NW:=New_S E ndBx _ _ _ _ (hD.below b0 Nat.le.refl).ce (nd_bx W) (by decide) (by decide)
 have HN:Hid (NE E W):=hN
 clear hD hN
 go_enter Tryz.func8,Tryz.ntmps8
 go_upto_region 4 with (go_at_call 10;refine NW.mono ?_;rintro e w1 ⟨b1,DB,MB,tg,p,rfl,d1⟩)
 have B1:=mbel b0 b1
 have PC:=Pieces_any (En.of d1 (HN.out.below B1) (VaOk.new ndBx (by decide)))
 rw [pieces_bx] at PC
 clear NW d1
 have PC':Calls Tryz.prog 13 #[.pointer (some ⟨DB,0,none⟩),.slice none 0 0] w1 fun e w'=>∃ g cap o c,e=.returned (.tuple #[.slice (some ⟨g,0,none⟩) 1 cap,.nilIface])/\w'.cell? ⟨g,1,none⟩=some (.slice o 4 c)/\w'.cell? ⟨g,2,none⟩=some (.string ⟨#[97]⟩)/\w'.cell? ⟨g,3,none⟩=some (.string ⟨#[119,105,110,100]⟩)/\1<=cap/\PtsAt w' o (sqL 2)/\Below w1.heap.size w1 w':=PC.mono fun e w' ⟨⟨qs,v,h1,h2,h3,h4,h5⟩,h6⟩=>by
  obtain ⟨o,c,rfl⟩:=pcs_one h1
  obtain ⟨ov,cap,hv,hc, -, -,hg⟩:=row_slice h3
  obtain ⟨g,hg1,c1⟩:=row_get h3 1 _ rfl
  have hov:=hg g hg1
  obtain ⟨g2,hg2,c2⟩:=row_get h3 2 _ rfl
  obtain ⟨g3,hg3,c3⟩:=row_get h3 3 _ rfl
  rw [hg1] at hg2 hg3
  cases hg2
  cases hg3
  subst hov
  have hp:=h4 _ (List.mem_singleton.2 rfl)
  obtain ⟨o',c',he,hpt⟩:=OwnP.at_ hp (fun a ha=>chkP_pi (h5 _ (List.mem_singleton.2 rfl) a ha))
  cases he
  exact ⟨g,cap,o,c,by rw [h2,hv];rfl,c1,c2,c3,hc,hpt,h6⟩
 clear PC
 go_upto_region 5 with (go_at_call 13;refine PC'.mono ?_;rintro e w2 ⟨g,cap,o,c,rfl,k1,k2,k3,hcap,hpt,b2⟩)
 have B2:=mbel B1 b2
 have SQ:=square_any 2 w2.drew (by omega) (by omega)
 have KP:∀ U,Below w2.heap.size w2 U->U.cell? ⟨g,1,none⟩=some (.slice o 4 c)/\U.cell? ⟨g,2,none⟩=some (.string ⟨#[97]⟩)/\U.cell? ⟨g,3,none⟩=some (.string ⟨#[119,105,110,100]⟩):=fun U hU=>⟨(hU.cell (cell_lt k1)).trans k1,(hU.cell (cell_lt k2)).trans k2,(hU.cell (cell_lt k3)).trans k3⟩
 have hcz:(1:Int)<=(cap:Int):=by omega
 go_region_held3 (fun w'=>w'.cell? ⟨g,1,none⟩=some (.slice o 4 c)/\w'.cell? ⟨g,2,none⟩=some (.string ⟨#[97]⟩)/\w'.cell? ⟨g,3,none⟩=some (.string ⟨#[119,105,110,100]⟩)) (first | exact ⟨k1,k2,k3⟩ | exact KP _ bb3 | exact KP _ bb4) (first
  | (go_at_call 31;refine SQ.mono ?_;rintro e w3 ⟨o3,c3,rfl,hp3,b3⟩;have bb3:Below w2.heap.size w2 w3:=⟨b3.os,b3.tape,b3.output,b3.size,b3.block⟩)
  | (go_at_call 14;refine (samePoints_same (sqL 2) o _ c _ w3 (by decide) (hpt.below bb3 Nat.le.refl) hp3).mono ?_;rintro e w4 ⟨rfl,b4⟩;have bb4:=mbel bb3 b4))
 go_wp2_with fail
 go_ret
 exact ⟨rfl,mbel B2 bb4⟩
end
section
open Go.RowKit Go.Shelf
mutual
theorem flN_nm:∀ (n:Nd) (k:Nat) (p:Int) (d:Nat),(flN k p d n).map Fl.name=(elN k p n).map Elm.name
  | .mk nm ats ks,k,p,d=>by
    rw [flN,elN,List.map_cons,List.map_cons,flL_nm ks]
theorem flL_nm:∀ (l:List Nd) (k:Nat) (p:Int) (d:Nat),(flL k p d l).map Fl.name=(elL k p l).map Elm.name
  | [],_,_,_=>by rw [flL,elL];rfl
  | n :: l,k,p,d=>by
    rw [flL,elL,List.map_append,List.map_append,flN_nm n,flL_nm l,flN_len]
end
theorem FlRs.nm {w:World}:∀ {M:List FlM} {L:List Fl},FlRs w M L->M.map FlM.nm=L.map Fl.name
  | [],[],_=>rfl
  | x :: r,f :: q,h=>by rw [List.map_cons,List.map_cons,FlRs.nm h.2,h.1.1]
  | [],_ :: _,h=>h.elim
  | _ :: _,[],h=>h.elim
theorem no_use {w:World} {n:Nd} {M:List FlM} (h:FlRs w M (flN 0 (-1) 1 n)) (hu:∀ (i:Nat) (x:FlM),M[i]? = some x->(x.nm==kUse)=false):∀ i e,newD n i=some e->e.name≠kUse:=fun i e he hne=>by
  unfold newD extE at he
  split at he
  · have hm:=List.mem_of_getElem? he
    have h1:e.name ∈ (elN 0 (-1) n).map Elm.name:=List.mem_map_of_mem hm
    rw [<- flN_nm n 0 (-1) 1,<- h.nm] at h1
    obtain ⟨x,hx,hxe⟩:=List.mem_map.1 h1
    obtain ⟨j,hj⟩:=List.getElem?_of_mem hx
    have:=hu j x hj
    rw [hxe,hne] at this
    simp at this
  · cases he
def PRow (w:World) (g:Nat) (qs:List P5S):Prop:=∀ i x,qs[i]? = some x->w.cell? ⟨g,i * 5,none⟩=some (.int .i64 x.nd)/\w.cell? ⟨g,i * 5+1,none⟩=some (ptsV x)/\w.cell? ⟨g,i * 5+2,none⟩=some (bV x.fill)/\w.cell? ⟨g,i * 5+3,none⟩=some (bV x.rule)/\w.cell? ⟨g,i * 5+4,none⟩=some (.int .i64 x.lv)
theorem row_P {w:World} {base:Nat} {v:Value} {qs:List P5S} (h:w.ownsRow base 45 5 v qs.length (cellsS qs)):∃ o cap,v=.slice o qs.length cap/\qs.length<=cap/\(0<qs.length->∃ g,o=some ⟨g,0,none⟩/\PRow w g qs):=by
  obtain ⟨o,cap,hv,hc, -, -,hg⟩:=row_slice h
  refine ⟨o,cap,hv,hc,fun hp=>?_⟩
  have AT:∀ i x,qs[i]? = some x->∀ c,c<5->(cellsS qs)[i * 5+c]? = ([.int .i64 x.nd,ptsV x,bV x.fill,bV x.rule,.int .i64 x.lv]:List Value)[c]? := fun i x hx c hc=>by
    obtain ⟨hi,rfl⟩:=List.getElem?_eq_some_iff.1 hx
    exact cellsS_get qs i c hi hc
  obtain ⟨x0,hx0⟩:∃ x,qs[0]? = some x:=⟨_,List.getElem?_eq_getElem hp⟩
  obtain ⟨g,hg1, -⟩:=row_get h _ _ (AT 0 x0 hx0 0 (by omega))
  refine ⟨g,hg g hg1,fun i x hx=>?_⟩
  have GET:∀ c u,c<5->([.int .i64 x.nd,ptsV x,bV x.fill,bV x.rule,.int .i64 x.lv]:List Value)[c]? = some u->w.cell? ⟨g,i * 5+c,none⟩=some u:=fun c u hc hu=>by
    obtain ⟨g',hg',h2⟩:=row_get h (i * 5+c) u ((AT i x hx c hc).trans hu)
    rw [hg1] at hg'
    cases hg'
    exact h2
  exact ⟨GET 0 _ (by omega) rfl,GET 1 _ (by omega) rfl,GET 2 _ (by omega) rfl,GET 3 _ (by omega) rfl,GET 4 _ (by omega) rfl⟩
theorem pc_same {x y:P5S} (h:x.pc=y.pc):y.nd=x.nd/\y.pts=x.pts/\y.fill=x.fill/\y.rule=x.rule/\y.lv=x.lv:=by
  unfold P5S.pc at h
  injection h with h1 h2 h3 h4 h5
  exact ⟨h1.symm,h2.symm,h3.symm,h4.symm,h5.symm⟩
structure Pcs (W:World) (l:List Pc) (v:Value) (w:World) (qs:List P5S):Prop where
  pc:qs.map P5S.pc=l
  row:w.ownsRow W.heap.size 45 5 v qs.length (cellsS qs)
  pts:∀ x ∈ qs,OwnP w W.heap.size (ptsV x) x.pts
  rt:∀ x ∈ qs,∀ a ∈ x.pts,chkP a=0
theorem Pcs.below {W:World} {l:List Pc} {v:Value} {w w':World} {qs:List P5S} (h:Pcs W l v w qs) (hb:Below w.heap.size w w'):Pcs W l v w' qs:=⟨h.pc,own_bel h.row hb,fun x hx=>(h.pts x hx).keep hb,h.rt⟩
theorem Pcs.at_ {W:World} {l:List Pc} {v:Value} {w:World} {qs:List P5S} (h:Pcs W l v w qs) {x:P5S} (hx:x ∈ qs):PtsAt w x.o x.pts:=by
  obtain ⟨o,c,h1,h2⟩:=OwnP.at_ (h.pts x hx) (fun a ha=>chkP_pi (h.rt x hx a ha))
  cases h1
  exact h2
end
end Go.Proofs.YtgphclgmmocdhaaGreatDoor

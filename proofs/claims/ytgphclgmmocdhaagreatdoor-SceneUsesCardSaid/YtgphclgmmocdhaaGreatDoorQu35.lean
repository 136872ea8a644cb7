/-
  Parts of the proof.
-/
import Derived.Test.YtgphclgmmocdhaaGreatDoorQu34
namespace Go.Proofs.YtgphclgmmocdhaaGreatDoor
section
open Go.RowKit Go.Shelf
set_option maxHeartbeats 1000000
abbrev fnV (f WB:Nat):Value:=.func (.func f) #[.pointer (some ⟨WB,0,none⟩)] #[]
abbrev shV (Br Bw:Nat):Value:=.func (.func 164) #[] #[.pointer (some ⟨Br,0,none⟩),.pointer (some ⟨Bw,0,none⟩)]
def ByR (WB f:Nat) (W:World) (e:Ending) (w':World):Prop:=∃ Br Bw,e=.returned (shV Br Bw)/\w'.cell? ⟨Br,0,none⟩=some (fnV f WB)/\w'.heap[Bw]? = some (.cells #[.pointer (some ⟨WB,0,none⟩)] 105)/\Below W.heap.size W w'
theorem byShape_any (WB f:Nat) (W:World):Calls Tryz.prog 116 #[.pointer (some ⟨WB,0,none⟩),fnV f WB] W fun e w'=>ByR WB f W e w':=by
 have b0:=mal W (.cells #[.pointer (some ⟨WB,0,none⟩)] 105)
 have K0:=mbox W #[.pointer (some ⟨WB,0,none⟩)] 105
 have b1:=mal (W.alloc (.cells #[.pointer (some ⟨WB,0,none⟩)] 105)) (.cells #[fnV f WB] 202)
 have K1:=mbox (W.alloc (.cells #[.pointer (some ⟨WB,0,none⟩)] 105)) #[fnV f WB] 202
 have K2:=(b1.block _ (blk_lt K0)).trans K0
 rw [World.size_alloc] at K1
 have HH:Hid (ByR WB f W (.returned (shV (W.heap.size+1) W.heap.size)) ((W.alloc (.cells #[.pointer (some ⟨WB,0,none⟩)] 105)).alloc (.cells #[fnV f WB] 202))):=⟨_,_,rfl,bcell K1 0 _ rfl,K2,mbel b0 b1⟩
 clear b0 K0 b1 K1 K2
 go_enter Tryz.func116,Tryz.ntmps116
 go_wp2
 go_ret
 exact HH.out
section
variable (WB:Nat) (W:World)
theorem way_box:Calls Tryz.prog 83 #[.pointer (some ⟨WB,0,none⟩),bV kBox] W fun e w'=>ByR WB 117 W e w':=by
 have BY:=byShape_any WB 117 W
 unfold kBox
 go_enter Tryz.func83,Tryz.ntmps83
 go_wp2_with (go_at_call 116;refine BY.mono ?_;rintro e w1 ⟨Br,Bw,rfl,h1,h2,h3⟩)
 go_ret
 exact ⟨Br,Bw,rfl,h1,h2,h3⟩
theorem way_poly:Calls Tryz.prog 83 #[.pointer (some ⟨WB,0,none⟩),bV kPoly] W fun e w'=>ByR WB 118 W e w':=by
 have BY:=byShape_any WB 118 W
 unfold kPoly
 go_enter Tryz.func83,Tryz.ntmps83
 go_wp2_with (go_at_call 116;refine BY.mono ?_;rintro e w1 ⟨Br,Bw,rfl,h1,h2,h3⟩)
 go_ret
 exact ⟨Br,Bw,rfl,h1,h2,h3⟩
theorem way_group:Calls Tryz.prog 83 #[.pointer (some ⟨WB,0,none⟩),bV kGroup] W fun e w'=>e=.returned (fnV 119 WB)/\w'=W:=by
 unfold kGroup
 go_enter Tryz.func83,Tryz.ntmps83
 go_wp2
 go_ret
 exact ⟨rfl,rfl⟩
theorem way_use:Calls Tryz.prog 83 #[.pointer (some ⟨WB,0,none⟩),bV kUse] W fun e w'=>e=.returned (fnV 120 WB)/\w'=W:=by
 unfold kUse
 go_enter Tryz.func83,Tryz.ntmps83
 go_wp2
 go_ret
 exact ⟨rfl,rfl⟩
theorem way_none (nm:Bs) (h:isFour nm=false):Calls Tryz.prog 83 #[.pointer (some ⟨WB,0,none⟩),bV nm] W fun e w'=>e=.returned .nilFunc/\w'=W:=by
 have h1:=ba_toL nm kBox
 have h2:=ba_toL nm kPoly
 have h3:=ba_toL nm kGroup
 have h4:=ba_toL nm kUse
 have hh:(nm==kBox)=false/\(nm==kPoly)=false/\(nm==kGroup)=false/\(nm==kUse)=false:=by
  unfold isFour at h
  simp only [Bool.or_eq_false_iff] at h
  exact ⟨h.1.1.1,h.1.1.2,h.1.2,h.2⟩
 obtain ⟨q1,q2,q3,q4⟩:=hh
 rw [q1] at h1
 rw [q2] at h2
 rw [q3] at h3
 rw [q4] at h4
 unfold kBox at h1 q1
 unfold kPoly at h2 q2
 unfold kGroup at h3 q3
 unfold kUse at h4 q4
 clear h
 go_enter Tryz.func83,Tryz.ntmps83
 go_wp2
 go_ret
 exact ⟨rfl,rfl⟩
end
end
section
open Go.RowKit Go.Shelf
structure En (E:Nat->Addr) (B:Nat) (tg:Tags) (W0:World) (DB MB:Nat) (p:Int->Option Nat) (M:Dm) (nx c:Nat) (r:Int->Nat) (l:List Rl) (B0:Nat) (rv:Value):Prop where
 ds:DocS B tg W0 DB MB p M nx c r
 ne:NE E W0
 fit:FitD M
 sz:SzD M
 ok:∀ x ∈ l,RlOk x
 row:W0.ownsRow B0 180 3 rv l.length (cellsR l)
structure Wks (WB DB Bd Bl:Nat) (rv:Value) (W0:World) (k:Nat) (ps:List P5S) (v:Value) (V:World):Prop where
 low:Below W0.heap.size W0 V
 wb:W0.heap.size<=WB
 bd:V.heap[Bd]? = some (.cells #[.pointer (some ⟨DB,0,none⟩)] 29)
 bl:V.heap[Bl]? = some (.cells #[rv] 104)
 sc:Sc W0.heap.size WB DB (stV Bd Bl) k ps v V
section
variable {WB DB Bd Bl:Nat} {rv:Value} {W0:World} {k k':Nat} {ps ps':List P5S} {v v':Value} {V V':World}
theorem Wks.next (h:Wks WB DB Bd Bl rv W0 k ps v V) (hk:Kw WB v V V') (hs:Sc W0.heap.size WB DB (stV Bd Bl) k' ps' v' V'):Wks WB DB Bd Bl rv W0 k' ps' v' V':=
 ⟨h.low.trans (Sc.low h.sc hk h.wb h.low.size),h.wb,h.sc.keep hk h.bd (by decide) (by decide),h.sc.keep hk h.bl (by decide) (by decide),hs⟩
theorem Wks.below (h:Wks WB DB Bd Bl rv W0 k ps v V) (hb:Below V.heap.size V V'):Wks WB DB Bd Bl rv W0 k ps v V':=h.next (Kw.of_below hb) (h.sc.below hb)
theorem Wks.ints (h:Wks WB DB Bd Bl rv W0 k ps v V) (hk:Kw WB v V V') {b n:Nat} {u:Value} {xs:List Value} (ho:V.ownsRow b 3 1 u n xs):V'.ownsRow b 3 1 u n xs:=
 own_same ho fun g hg=>by
  obtain ⟨cs,f,h1, -⟩:=own_type ho g hg
  rw [h1]
  exact h.sc.keep hk h1 (by decide) (by decide)
end
theorem fold_at {α β ε:Type} (g:β->α->Except ε β) (l:List α) (s s':β) (j:Nat) (h:(l.take j).foldlM g s=.ok s'):l.foldlM g s=(l.drop j).foldlM g s':=by
 conv=>lhs;rw [<- List.take_append_drop j l]
 rw [List.foldlM_append,h]
 rfl
theorem fold_next {α β ε:Type} (g:β->α->Except ε β) (l:List α) (s s' s'':β) (j:Nat) (x:α) (h:(l.take j).foldlM g s=.ok s') (hx:l[j]? = some x) (h2:g s' x=.ok s''):(l.take (j+1)).foldlM g s=.ok s'':=by
 rw [List.take_add_one,hx,List.foldlM_append,h]
 show ([x].foldlM g s')=_
 rw [List.foldlM_cons,h2]
 rfl
theorem fold_err {α β ε:Type} (g:β->α->Except ε β) (l:List α) (s s':β) (j:Nat) (x:α) (e:ε) (h:(l.take j).foldlM g s=.ok s') (hx:l[j]? = some x) (h2:g s' x=.error e):l.foldlM g s=.error e:=by
 obtain ⟨hj,hx'⟩:=List.getElem?_eq_some_iff.1 hx
 rw [fold_at g l s s' j h,List.drop_eq_getElem_cons hj,List.foldlM_cons,hx',h2]
 rfl
theorem fold_grow {α:Type} (g:Nat × List Pc->α->Except Ft (Nat × List Pc)) (hg:∀ s x s',g s x=.ok s'->s.1<=s'.1):∀ (l:List α) (s s':Nat × List Pc),l.foldlM g s=.ok s'->s.1<=s'.1
 | [],s,s',h=>by cases h;exact Nat.le_refl _
 | x :: l,s,s',h=>by
  rw [List.foldlM_cons] at h
  cases hx:g s x with
  | error e=>rw [hx] at h;cases h
  | ok t=>
   rw [hx] at h
   exact Nat.le_trans (hg s x t hx) (fold_grow g hg l t s' h)
theorem come_grow (M:Dm) (l:List Rl):∀ (f:Nat) (n:Int) (path:List Int) (m:Mv) (st s':Nat × List Pc),comeM M l f n path m st=.ok s'->st.1<=s'.1
 | 0,n,path,m,st,s',h=>by
  unfold comeM at h
  split at h <;> cases h
 | f+1,n,path,m,st,s',h=>by
  unfold comeM at h
  split at h
  ·cases h
  split at h
  ·cases h
  split at h
  ·cases h;exact Nat.le_succ _
  have PC:∀ (m':Mv) (x:Except Nat (List Qt)),pieceM M l n m' x (st.1+1,st.2)=.ok s'->st.1<=s'.1:=fun m' x h=>by
   unfold pieceM at h
   split at h
   ·cases h
   ·split at h
    ·cases h
    ·split at h <;> cases h <;> exact Nat.le_succ _
  split at h
  ·cases h
  ·split at h
   ·exact PC _ _ h
   ·split at h
    ·exact PC _ _ h
    ·split at h
     ·exact Nat.le_trans (Nat.le_succ _) (fold_grow _ (fun s x s' h=>come_grow M l f x _ _ s s' h) _ (st.1+1,st.2) s' h)
     ·split at h
      ·cases h
      ·exact Nat.le_trans (Nat.le_succ _) (come_grow M l f _ _ _ (st.1+1,st.2) s' h)
theorem fold_few {α:Type} (g:Nat × List Pc->α->Except Ft (Nat × List Pc)) (hg:∀ s x s',g s x=.ok s'->s.2.length<=s.1->s'.2.length<=s'.1):∀ (l:List α) (s s':Nat × List Pc),l.foldlM g s=.ok s'->s.2.length<=s.1->s'.2.length<=s'.1
 | [],s,s',h,h0=>by cases h;exact h0
 | x :: l,s,s',h,h0=>by
  rw [List.foldlM_cons] at h
  cases hx:g s x with
  | error e=>rw [hx] at h;cases h
  | ok t=>
   rw [hx] at h
   exact fold_few g hg l t s' h (hg s x t hx h0)
theorem come_few (M:Dm) (l:List Rl):∀ (f:Nat) (n:Int) (path:List Int) (m:Mv) (st s':Nat × List Pc),comeM M l f n path m st=.ok s'->st.2.length<=st.1->s'.2.length<=s'.1
 | 0,n,path,m,st,s',h,_=>by
  unfold comeM at h
  split at h <;> cases h
 | f+1,n,path,m,st,s',h,h0=>by
  unfold comeM at h
  split at h
  ·cases h
  split at h
  ·cases h
  split at h
  ·cases h;exact Nat.le_succ_of_le h0
  have PC:∀ (m':Mv) (x:Except Nat (List Qt)),pieceM M l n m' x (st.1+1,st.2)=.ok s'->s'.2.length<=s'.1:=fun m' x h=>by
   unfold pieceM at h
   split at h
   ·cases h
   ·split at h
    ·cases h
    ·split at h
     ·cases h;exact Nat.le_succ_of_le h0
     ·cases h;rw [List.length_append];exact Nat.succ_le_succ h0
  split at h
  ·cases h
  ·split at h
   ·exact PC _ _ h
   ·split at h
    ·exact PC _ _ h
    ·split at h
     ·exact fold_few _ (fun s x s' h=>come_few M l f x _ _ s s' h) _ (st.1+1,st.2) s' h (Nat.le_succ_of_le h0)
     ·split at h
      ·cases h
      ·exact come_few M l f _ _ _ (st.1+1,st.2) s' h (Nat.le_succ_of_le h0)
theorem moveM_ok {M:Dm} {n:Int} {m m':Mv} (hm:m.ok) (h:moveM M n m=.ok m'):m'.ok:=by
 unfold moveM at h
 split at h
 ·cases h
 ·next h1=>
  split at h
  ·next h2=>
   cases h
   exact ((then_step (readR_ok (by omega)) hm).2 h2).1
  ·cases h
theorem hv_len (p:Rl->Bool):∀ (l:List Rl),(∀ x ∈ l,RlOk x)->(hvM p l).1.length<=12:=fun l=>by
 have key:∀ (l:List Rl) (a:Bs × Bool × Nat),(∀ x ∈ l,RlOk x)->a.1.length<=12->(l.foldl (hvStep p) a).1.length<=12:=fun l=>by
  induction l with
  | nil=>intro a _ ha;exact ha
  | cons x l ih=>
   intro a hl ha
   refine ih _ (fun y hy=>hl y (by simp [hy])) ?_
   have hv:=(hl x (by simp)).2.2.1
   unfold isValM at hv
   simp only [Bool.and_eq_true,decide_eq_true_eq] at hv
   by_cases h1:a.2.2<=wtM x.wh
   ·cases h2:p x with
    | true=>rw [hvStep_yes h1 h2];exact hv.1.2
    | false=>rw [hvStep_no h2];exact ha
   ·rw [hvStep_big h1];exact ha
 intro hl
 exact key l _ hl (by simp)
theorem of_len {M:Dm} {l:List Rl} (hz:SzD M) (hl:∀ x ∈ l,RlOk x) (nm:Bs) (n:Int):(ofM M l nm n).length<=200:=by
 have F:(firstM nm).length<=200:=by
  unfold firstM
  repeat' split
  all_goals decide
 have key:∀ (f:Nat) (n:Int),(ofF M l nm f n).length<=200:=fun f=>by
  induction f with
  | zero=>intro n;exact F
  | succ f ih=>
   intro n
   unfold ofF
   split
   ·exact F
   ·split
    ·next v hv=>
     unfold toldM at hv
     split at hv
     ·next v' ha=>cases hv;exact atM_len hz ha
     ·split at hv
      ·cases hv;exact Nat.le_trans (hv_len _ l hl) (by omega)
      ·cases hv
    ·split
     ·exact ih _
     ·exact F
 unfold ofM
 split
 ·exact key 12 n
 ·simp
section
variable {E:Nat->Addr} {B:Nat} {tg:Tags} {W0:World} {DB MB:Nat} {p:Int->Option Nat} {M:Dm} {nx c:Nat} {r:Int->Nat} {l:List Rl} {B0:Nat} {rv:Value} {WB Bd Bl:Nat}
theorem En.style (h:En E B tg W0 DB MB p M nx c r l B0 rv) {k:Nat} {ps:List P5S} {v:Value} {V:World} (hw:Wks WB DB Bd Bl rv W0 k ps v V) (n:Int) (hn:Wf64 n) (nm:Bs) :
  Calls Tryz.prog 42 #[.int .i64 n,bV nm,.pointer (some ⟨Bd,0,none⟩),.pointer (some ⟨Bl,0,none⟩)] V fun e w'=>e=.returned (bV (ofM M l nm n))/\Below V.heap.size V w':=
 style_any (h.ds.below hw.low).w h.ds.d h.fit l h.ok B0 rv (own_bel h.row hw.low) Bd Bl (bcell hw.bd 0 _ rfl) (bcell hw.bl 0 _ rfl) n hn nm
def COME (E:Nat->Addr) (WB DB Bd Bl:Nat) (rv:Value) (W0:World) (M:Dm) (l:List Rl) (f:Nat):Prop:=∀ (k:Nat) (ps:List P5S) (v:Value) (V:World) (n n0:Int) (m:Mv) (path:List (Int × Mv)) (q:Nat),101<=f+k->ps.length<=k->Wf64 n->Wks WB DB Bd Bl rv W0 k ps v V->PathAt V (some q) ((n0,m) :: path)->m.ok->
 Calls Tryz.prog 44 #[.pointer (some ⟨WB,0,none⟩),.int .i64 n,.pointer (some ⟨q,0,none⟩)] V fun e w'=>ComeR E W0.heap.size WB DB (stV Bd Bl) v V (comeM M l f n (n0 :: path.map Prod.fst) m (k,ps.map P5S.pc)) e w'/\Kw WB v V w'
def GrL (WB DB Bd Bl:Nat) (rv:Value) (W0:World) (V:World) (v:Value) (g:Nat × List Pc->Int->Except Ft (Nat × List Pc)) (ks:List Int) (s:Nat × List Pc) (j:Nat) (wr:World):Prop:=∃ ps' v',(ks.take j).foldlM g s=.ok ps'/\∃ qs,qs.map P5S.pc=ps'.2/\Wks WB DB Bd Bl rv W0 ps'.1 qs v' wr/\Kw WB v V wr/\(v'.ownBlock=v.ownBlock\/∀ b,v'.ownBlock=some b->V.heap.size<=b)
end
end
section
open Go.RowKit Go.Shelf
set_option maxHeartbeats 4000000
set_option maxRecDepth 20000
section
variable {E:Nat->Addr} {B:Nat} {tg:Tags} {W0:World} {DB MB:Nat} {p:Int->Option Nat} {M:Dm} {nx c:Nat} {r:Int->Nat} {l:List Rl} {B0:Nat} {rv:Value} {WB Bd Bl:Nat}
theorem kids_wf (h:En E B tg W0 DB MB p M nx c r l B0 rv) (n:Int):(∀ x ∈ kidsD M n,Wf64 x)/\(kidsD M n).length<=100:=by
 unfold kidsD
 cases hm:M n with
 | none=>exact ⟨fun x hx=>(by cases hx),Nat.zero_le _⟩
 | some e=>exact ⟨(h.ds.w.wf n e hm).2,h.ds.few hm⟩
theorem loc_more {v v' v2:Value} {V wr:World} (h:v'.ownBlock=v.ownBlock\/∀ b,v'.ownBlock=some b->V.heap.size<=b) (h2:v2.ownBlock=v'.ownBlock\/∀ b,v2.ownBlock=some b->wr.heap.size<=b) (hs:V.heap.size<=wr.heap.size):v2.ownBlock=v.ownBlock\/∀ b,v2.ownBlock=some b->V.heap.size<=b:=by
 rcases h2 with e | e
 ·rw [e];exact h
 ·exact .inr fun b hb=>Nat.le_trans hs (e b hb)
theorem showGroup_any (h:En E B tg W0 DB MB p M nx c r l B0 rv) (f:Nat) (hC:COME E WB DB Bd Bl rv W0 M l f) (k:Nat) (ps:List P5S) (v:Value) (V:World) (n:Int) (m:Mv) (path:List (Int × Mv)) (q:Nat) (hf:101<=f+k) (hfew:ps.length<=k) (hn:Wf64 n) (hw:Wks WB DB Bd Bl rv W0 k ps v V) (hp:PathAt V (some q) ((n,m) :: path)) (hm:m.ok) :
  Calls Tryz.prog 119 #[.pointer (some ⟨WB,0,none⟩),.pointer (some ⟨q,0,none⟩)] V fun e w'=>ComeR E W0.heap.size WB DB (stV Bd Bl) v V ((comeM.kidsM M n).foldlM (fun s x=>comeM M l f x (n :: path.map Prod.fst) m s) (k,ps.map P5S.pc)) e w'/\Kw WB v V w':=by
 obtain ⟨hkw,hkl⟩:=kids_wf h n
 have hwd:=hw.below (below_drewN (Below.refl V.heap.size V) 1)
 have KD:=Kids_doc (h.ds.below hwd.low).w n hn (by omega)
 have HC:Hid (COME E WB DB Bd Bl rv W0 M l f):=hC
 have HW:Hid (Wks WB DB Bd Bl rv W0 k ps v V):=hw
 have HP:Hid (PathAt V (some q) ((n,m) :: path)):=hp
 have HM:Hid m.ok:=hm
 have HKW:Hid (∀ x ∈ kidsD M n,Wf64 x):=hkw
 have w0:=bcell hw.sc.wb 0 _ rfl
 have q0:V.cell? ⟨q,0,none⟩=some (.int .i64 n):=by
  obtain ⟨b,q',h1,h2, -⟩:=hp
  cases h1
  exact bcell h2 0 _ rfl
 obtain ⟨g,hg⟩:∃ g:Nat × List Pc->Int->Except Ft (Nat × List Pc),(fun s x=>comeM M l f x (n :: path.map Prod.fst) m s)=g:=⟨_,rfl⟩
 rw [hg]
 have HG:Hid ((fun s x=>comeM M l f x (n :: path.map Prod.fst) m s)=g):=hg
 have hgr:Hid (∀ (L:List Int) (s s':Nat × List Pc),L.foldlM g s=.ok s'->s.1<=s'.1):=(fun L s s' h=>fold_grow g (fun s x s' hs=>come_grow M l f x _ m s s' (by rw [<- hg] at hs;exact hs)) L s s' h:∀ (L:List Int) (s s':Nat × List Pc),L.foldlM g s=.ok s'->s.1<=s'.1)
 have hfw:Hid (∀ (L:List Int) (s':Nat × List Pc),L.foldlM g (k,ps.map P5S.pc)=.ok s'->s'.2.length<=s'.1):=(fun L s' h=>fold_few g (fun s x s' hs=>come_few M l f x _ m s s' (by rw [<- hg] at hs;exact hs)) L (k,ps.map P5S.pc) s' h (by simpa using hfew):∀ (L:List Int) (s':Nat × List Pc),L.foldlM g (k,ps.map P5S.pc)=.ok s'->s'.2.length<=s'.1)
 show Calls _ _ _ _ fun e w'=>ComeR E W0.heap.size WB DB (stV Bd Bl) v V ((kidsD M n).foldlM g (k,ps.map P5S.pc)) e w'/\Kw WB v V w'
 generalize kidsD M n=ks at KD HKW hkl ⊢
 clear hkw hw hp hm hC hg hwd
 go_enter Tryz.func119,Tryz.ntmps119
 go_upto_region 1 with fail
 go_region_held3 (fun w'=>w'.cell? ⟨WB,0,none⟩=some (.pointer (some ⟨DB,0,none⟩))/\w'.cell? ⟨q,0,none⟩=some (.int .i64 n)) (first | exact ⟨w0,q0⟩ | exact ⟨z1,z2⟩) (first | (go_at_call 170;refine KD.mono ?_;rintro e w1 ⟨ok,kk,rfl,hown,hb1⟩;have z1:=(hb1.cell (cell_lt (w:=V.drew) w0)).trans w0;have z2:=(hb1.cell (cell_lt (w:=V.drew) q0)).trans q0))
 all_goals
  have bV1:Below V.heap.size V w1:=⟨hb1.os,hb1.tape,hb1.output,hb1.size,hb1.block⟩
  have W1:Hid (Wks WB DB Bd Bl rv W0 k ps v w1):=(HW.out.below bV1:Wks WB DB Bd Bl rv W0 k ps v w1)
  have HO:Hid (w1.ownsRow V.drew.heap.size 3 1 (.slice ok ks.length kk) ks.length (intsV ks)):=hown
  clear hown hb1 KD w0 q0
  have hcap:(ks.length:Int)<=(kk:Int):=by
   obtain ⟨o',c',h1,h2, -⟩:=row_slice HO.out
   cases h1
   omega
  clear z1 z2
  go_wp2_with fail
  go_loopw [18] (fun y wr=>∃ j:Nat,j<=ks.length/\y=.int .i64 j/\GrL WB DB Bd Bl rv W0 w1 v g ks (k,ps.map P5S.pc) j wr) (fun y _=>ks.length - (intOf y).toNat)
  case atStart=>exact ⟨0,Nat.zero_le _,rfl,(k,ps.map P5S.pc),v,rfl,ps,rfl,W1.out,Kw.refl _ _ _,.inl rfl⟩
  case round=>
   obtain ⟨j,hj,rfl,st,v',hfo,qs,hqs,hwk,hkw,hloc⟩:=hrel
   have HFO:Hid ((ks.take j).foldlM g (k,ps.map P5S.pc)=.ok st):=hfo
   have HQS:Hid (qs.map P5S.pc=st.2):=hqs
   have HWK:Hid (Wks WB DB Bd Bl rv W0 st.1 qs v' wr):=hwk
   have HK:Hid (Kw WB v w1 wr):=hkw
   have HL:Hid (v'.ownBlock=v.ownBlock\/∀ b,v'.ownBlock=some b->w1.heap.size<=b):=hloc
   clear hfo hqs hwk hkw hloc
   by_cases hlt:j<ks.length
   ·have hlt':(j:Int)<(ks.length:Int):=by omega
    obtain ⟨x,hx, -⟩:=drop_at hlt
    have HX:Hid (ks[j]? = some x):=hx
    have hOr:=W1.out.ints HK.out HO.out
    obtain ⟨gb,c0⟩:∃ gb,ok=some ⟨gb,0,none⟩/\wr.cell? ⟨gb,j,none⟩=some (.int .i64 x):=by
     rcases ints_at hOr with ⟨h1, -⟩ | ⟨gb,cap,h1, -,h3⟩
     ·rw [h1] at hlt;simp at hlt
     ·cases h1
      exact ⟨gb,rfl,h3 j x hx⟩
    obtain ⟨rfl,c0⟩:=c0
    clear hOr
    have hcnt:=hgr.out _ _ _ HFO.out
    have hqf:qs.length<=st.1:=by
     have:=hfw.out _ _ HFO.out
     rw [<- HQS.out,List.length_map] at this
     exact this
    have hpt:PathAt wr (some q) ((n,m) :: path):=W1.out.sc.path HK.out (HW.out.sc.path (Kw.of_below bV1) HP.out)
    have CM:=HC.out st.1 qs v' wr x n m path q (by simp only at hcnt;omega) hqf (HKW.out x (List.mem_of_getElem? hx)) HWK.out hpt HM.out
    have hst:(st.1,qs.map P5S.pc)=st:=by rw [HQS.out]
    rw [hst] at CM
    obtain ⟨res,hres⟩:∃ res,comeM M l f x (n :: path.map Prod.fst) m st=res:=⟨_,rfl⟩
    rw [hres] at CM
    have HRES:Hid (g st x=res):=by
     have h2:g st x=comeM M l f x (n :: path.map Prod.fst) m st:=by rw [<- HG.out]
     exact h2.trans hres
    clear hres hst hpt hcnt hx
    cases res with
    | error ft=>
     have CM':Calls Tryz.prog 44 #[.pointer (some ⟨WB,0,none⟩),.int .i64 x,.pointer (some ⟨q,0,none⟩)] wr fun e w'=>∃ pb,e=.returned (.iface 143 (.pointer (some ⟨pb,0,none⟩)))/\Hid (FtV E ft wr.heap.size (.iface 143 (.pointer (some ⟨pb,0,none⟩))) w'/\Kw WB v' wr w'):=CM.mono fun e w' ⟨⟨u,h1,h2⟩,h3⟩=>by
      obtain ⟨pb,h4,rfl,h5⟩:=h2
      exact ⟨pb,h1,⟨pb,h4,rfl,h5⟩,h3⟩
     clear CM
     go_wp2_with (go_at_call 44;refine CM'.mono ?_;rintro e w2 ⟨pb,rfl,h2⟩)
     go_ret
     obtain ⟨h2,h3⟩:=h2.out
     have h4:=fold_err g ks _ _ j x ft HFO.out HX.out HRES.out
     rw [h4]
     have hs1:=bV1.size
     have hs2:=HK.out.size
     exact ⟨⟨_,rfl,h2.low (by omega)⟩,(Kw.of_below bV1).trans (.inl rfl) (HK.out.trans HL.out h3)⟩
    | ok s2=>
     have CM':Calls Tryz.prog 44 #[.pointer (some ⟨WB,0,none⟩),.int .i64 x,.pointer (some ⟨q,0,none⟩)] wr fun e w'=>e=.returned .nilIface/\Hid ((∃ ps2 v2,ps2.map P5S.pc=s2.2/\Sc W0.heap.size WB DB (stV Bd Bl) s2.1 ps2 v2 w'/\(v2.ownBlock=v'.ownBlock\/∀ b,v2.ownBlock=some b->wr.heap.size<=b))/\Kw WB v' wr w'):=CM.mono fun e w' ⟨⟨h1,h2⟩,h3⟩=>⟨h1,h2,h3⟩
     clear CM
     go_wp2_with (go_at_call 44;refine CM'.mono ?_;rintro e w2 ⟨rfl,h2⟩)
     go_roundw
     case rel=>
      obtain ⟨⟨ps2,v2,h3,h4,h5⟩,h6⟩:=h2.out
      exact ⟨j+1,by omega,by go_num,s2,v2,fold_next g ks _ _ _ j x HFO.out HX.out HRES.out,ps2,h3,HWK.out.next h6 h4,HK.out.trans HL.out h6,loc_more HL.out h5 HK.out.size⟩
     case measure=>simp [intOf];omega
   ·obtain rfl:j=ks.length:=by omega
    have hge:¬ (ks.length:Int)<(ks.length:Int):=by omega
    go_wp2_with fail
    go_ret
    have h1:=HFO.out
    rw [List.take_length] at h1
    rw [h1]
    exact ⟨⟨rfl,qs,v',HQS.out,HWK.out.sc,loc_more (.inl rfl) HL.out bV1.size⟩,(Kw.of_below bV1).trans (.inl rfl) HK.out⟩
theorem showUse_any (h:En E B tg W0 DB MB p M nx c r l B0 rv) (f:Nat) (hC:COME E WB DB Bd Bl rv W0 M l f) (k:Nat) (ps:List P5S) (v:Value) (V:World) (n:Int) (m:Mv) (path:List (Int × Mv)) (q:Nat) (hf:101<=f+k) (hfew:ps.length<=k) (hn:Wf64 n) (hw:Wks WB DB Bd Bl rv W0 k ps v V) (hp:PathAt V (some q) ((n,m) :: path)) (hm:m.ok) :
  Calls Tryz.prog 120 #[.pointer (some ⟨WB,0,none⟩),.pointer (some ⟨q,0,none⟩)] V fun e w'=>ComeR E W0.heap.size WB DB (stV Bd Bl) v V (match ledM M n with | none=>.error ⟨10,n⟩ | some x=>comeM M l f x (n :: path.map Prod.fst) m (k,ps.map P5S.pc)) e w'/\Kw WB v V w':=by
 have LD:=ledTo_any (h.ds.below hw.low) WB (bcell hw.sc.wb 0 _ rfl) n hn
 have q0:V.cell? ⟨q,0,none⟩=some (.int .i64 n):=by
  obtain ⟨b,q',h1,h2, -⟩:=hp
  cases h1
  exact bcell h2 0 _ rfl
 have hwf:∀ x,ledM M n=some x->Wf64 x:=fun x hx=>by
  unfold ledM at hx
  split at hx
  ·cases hx
  ·exact wf_all h.ds x (List.mem_of_find?_eq_some hx)
 have e10:=(h.ne.below hw.low).c10
 cases hl:ledM M n with
 | none=>
  rw [hl] at LD
  have K10:∀ V',Below V.heap.size V V'->V'.cell? ⟨2,0,none⟩=some (eV (E 10))/\V'.cell? ⟨q,0,none⟩=some (.int .i64 n):=fun V' hb=>⟨(hb.cell (cell_lt e10)).trans e10,(hb.cell (cell_lt q0)).trans q0⟩
  clear hC hf hw hp hm h hwf hl
  go_enter Tryz.func120,Tryz.ntmps120
  go_upto_region 3 with (go_at_call 171;refine LD.mono ?_;rintro e w1 ⟨he,hb1⟩;obtain rfl:e=.returned (.tuple #[.int .i64 0,.bool false]):=he;obtain ⟨k1,k2⟩:=K10 w1 hb1)
  go_region
  all_goals
   go_wp2
   go_ret
   exact ⟨⟨_,rfl,w1.heap.size,hb1.size,rfl,mbox _ _ _⟩,Kw.of_below (mbel (hb1.trans (below_drewN (Below.refl _ _) 1)) (mal _ _))⟩
 | some x=>
  rw [hl] at LD
  have HC:Hid (∀ w1,Below V.heap.size V w1->Calls Tryz.prog 44 #[.pointer (some ⟨WB,0,none⟩),.int .i64 x,.pointer (some ⟨q,0,none⟩)] w1 fun e w'=>ComeR E W0.heap.size WB DB (stV Bd Bl) v w1 (comeM M l f x (n :: path.map Prod.fst) m (k,ps.map P5S.pc)) e w'/\Kw WB v w1 w'):=(fun w1 hb=>hC k ps v w1 x n m path q hf hfew (hwf x hl) (hw.below hb) (hw.sc.path (Kw.of_below hb) hp) hm:∀ w1,Below V.heap.size V w1->Calls Tryz.prog 44 #[.pointer (some ⟨WB,0,none⟩),.int .i64 x,.pointer (some ⟨q,0,none⟩)] w1 fun e w'=>ComeR E W0.heap.size WB DB (stV Bd Bl) v w1 (comeM M l f x (n :: path.map Prod.fst) m (k,ps.map P5S.pc)) e w'/\Kw WB v w1 w')
  clear hC hf hw hp hm h hwf hl e10
  simp only
  generalize comeM M l f x (n :: path.map Prod.fst) m (k,ps.map P5S.pc)=res at HC ⊢
  go_enter Tryz.func120,Tryz.ntmps120
  go_wp2_with (first | (go_at_call 171;refine LD.mono ?_;rintro e w1 ⟨he,hb1⟩;obtain rfl:e=.returned (.tuple #[.int .i64 x,.bool true]):=he;have CM:=HC.out w1 hb1) | (go_at_call 44;refine CM.mono ?_;rintro e w2 ⟨h1,h2⟩;obtain ⟨u,rfl⟩:∃ u,e=.returned u:=(by cases res with | error ft=>(obtain ⟨u,h3, -⟩:=h1;exact ⟨u,h3⟩) | ok s2=>exact ⟨_,h1.1⟩)))
  go_ret
  refine ⟨?_,(Kw.of_below hb1).trans (.inl rfl) h2⟩
  cases res with
  | error ft=>obtain ⟨u',h3,h4⟩:=h1;cases h3;exact ⟨_,rfl,h4.low hb1.size⟩
  | ok s2=>
   obtain ⟨h3,ps2,v2,h4,h5,h6⟩:=h1
   exact ⟨h3,ps2,v2,h4,h5,loc_more (.inl rfl) h6 hb1.size⟩
end
end
section
open Go.RowKit Go.Shelf
set_option maxHeartbeats 8000000
set_option maxRecDepth 20000
theorem fn_eqIn (d:Nat) (w:World):(Op.equalIn (d+1) 156 .nilFunc .nilFunc).run Tryz.prog w=.ok true w:=by simp [Op.equalIn,run_underlying Tryz.underlying156]
theorem fn_eqIn' (d:Nat) (w:World) (f:Fn) (a b:Array Value):(Op.equalIn (d+1) 156 (.func f a b) .nilFunc).run Tryz.prog w=.ok false w:=by simp [Op.equalIn,run_underlying Tryz.underlying156]
theorem fn_none (w:World):(binOp BinOp.eql 156 .nilFunc .nilFunc).run Tryz.prog w=.ok (.bool true) w:=by
 have h:(Op.equal 156 .nilFunc .nilFunc).run Tryz.prog w=.ok true w:=fn_eqIn 9999 w
 simp [binOp,h]
theorem fn_some (w:World) (f:Fn) (a b:Array Value):(binOp BinOp.eql 156 (.func f a b) .nilFunc).run Tryz.prog w=.ok (.bool false) w:=by
 have h:(Op.equal 156 (.func f a b) .nilFunc).run Tryz.prog w=.ok false w:=fn_eqIn' 9999 w f a b
 simp [binOp,h]
theorem Wks.count {WB DB Bd Bl:Nat} {rv:Value} {W0:World} {k:Nat} {ps:List P5S} {v:Value} {V:World} (h:Wks WB DB Bd Bl rv W0 k ps v V):Wks WB DB Bd Bl rv W0 (k+1) ps v (V.setCell ⟨WB,2,none⟩ (.int .i64 ((k:Int)+1)))/\Kw WB v V (V.setCell ⟨WB,2,none⟩ (.int .i64 ((k:Int)+1))):=by
 have far:∀ b,b≠WB->(V.setCell ⟨WB,2,none⟩ (.int .i64 ((k:Int)+1))).heap[b]? = V.heap[b]? := fun b hne=>Below.heap_setCell _ _ _ b hne
 have hK:Kw WB v V (V.setCell ⟨WB,2,none⟩ (.int .i64 ((k:Int)+1))):=⟨(Below.setCell (Below.refl WB V) (p:=⟨WB,2,none⟩) Nat.le.refl _).os,(Below.setCell (Below.refl WB V) (p:=⟨WB,2,none⟩) Nat.le.refl _).tape,(Below.setCell (Below.refl WB V) (p:=⟨WB,2,none⟩) Nat.le.refl _).output,Nat.le_of_eq (World.size_setCell _ _ _).symm,fun b _ h1 _=>far b h1⟩
 refine ⟨h.next hK ⟨?_,?_,?_,h.sc.rt⟩,hK⟩
 ·have:=heap_setCell_same V WB 2 _ _ (.int .i64 ((k:Int)+1)) h.sc.wb
  simpa using this
 ·exact own_same h.sc.own fun g hg=>far g (fun e=>by
   obtain ⟨cs,f,h1, -⟩:=own_type h.sc.own g hg
   rw [e,h.sc.wb] at h1
   cases h1)
 ·intro x hx
  exact own_same (h.sc.pts x hx) fun g hg=>far g (fun e=>by
   obtain ⟨cs,f,h1, -⟩:=own_type (h.sc.pts x hx) g hg
   rw [e,h.sc.wb] at h1
   cases h1)
theorem ComeR.ret {E:Nat->Addr} {base WB DB:Nat} {sf v:Value} {V:World} {x:Except Ft (Nat × List Pc)} {e:Ending} {w':World} (h:ComeR E base WB DB sf v V x e w'):∃ u,e=.returned u:=by
 cases x with
 | error f=>obtain ⟨u,h1, -⟩:=h;exact ⟨u,h1⟩
 | ok s=>exact ⟨_,h.1⟩
theorem ComeR.low {E:Nat->Addr} {base WB DB:Nat} {sf v:Value} {V V':World} {x:Except Ft (Nat × List Pc)} {e:Ending} {w':World} (h:ComeR E base WB DB sf v V' x e w') (hs:V.heap.size<=V'.heap.size):ComeR E base WB DB sf v V x e w':=by
 cases x with
 | error f=>obtain ⟨u,h1,h2⟩:=h;exact ⟨u,h1,h2.low hs⟩
 | ok s=>obtain ⟨h1,ps,v',h2,h3,h4⟩:=h;exact ⟨h1,ps,v',h2,h3,loc_more (.inl rfl) h4 hs⟩
section
variable {E:Nat->Addr} {B:Nat} {tg:Tags} {W0:World} {DB MB:Nat} {p:Int->Option Nat} {M:Dm} {nx c:Nat} {r:Int->Nat} {l:List Rl} {B0:Nat} {rv:Value} {WB Bd Bl:Nat}
theorem come_none (h:En E B tg W0 DB MB p M nx c r l B0 rv) (k:Nat) (ps:List P5S) (v:Value) (V:World) (n n0:Int) (m:Mv) (path:List (Int × Mv)) (q:Nat) (hk:k<100) (hn:Wf64 n) (hw:Wks WB DB Bd Bl rv W0 k ps v V) (hp:PathAt V (some q) ((n0,m) :: path)) (hni:n ∉ n0 :: path.map Prod.fst) (hnm:isFour (nmD M n)=false) :
  Calls Tryz.prog 44 #[.pointer (some ⟨WB,0,none⟩),.int .i64 n,.pointer (some ⟨q,0,none⟩)] V fun e w'=>ComeR E W0.heap.size WB DB (stV Bd Bl) v V (.ok (k+1,ps.map P5S.pc)) e w'/\Kw WB v V w':=by
 have WI:=within_any V (some q) ((n0,m) :: path) n hp
 have hdec:decide (n ∈ ((n0,m) :: path).map Prod.fst)=false:=decide_eq_false hni
 unfold WiR at WI
 rw [hdec] at WI
 simp only [pV,Option.map_some] at WI
 replace WI:Calls Tryz.prog 82 #[.pointer (some ⟨q,0,none⟩),.int .i64 n] V fun e w'=>e=.returned (.bool false)/\V=w':=WI.mono fun e w' h=>⟨h.1,h.2.symm⟩
 obtain ⟨hw1,hk1⟩:=hw.count
 have NA:=Name_doc (h.ds.below hw1.low).w n hn
 have c2:=bcell hw.sc.wb 2 _ rfl
 have f2:=bfrozQ hw.sc.wb 2
 have c0:=bcell hw1.sc.wb 0 _ rfl
 have c1:=bcell hw1.sc.wb 1 _ rfl
 have hkz:(k:Int)<100:=by omega
 have fnn:=fn_none
 have fns:=fn_some
 have NA':Calls Tryz.prog 76 #[.pointer (some ⟨DB,0,none⟩),.int .i64 n] (V.setCell ⟨WB,2,none⟩ (.int .i64 ((k:Int)+1))) fun r w'=>r=.returned (bV (nmD M n))/\w'=V.setCell ⟨WB,2,none⟩ (.int .i64 ((k:Int)+1)):=NA
 have WY:=way_none WB (V.setCell ⟨WB,2,none⟩ (.int .i64 ((k:Int)+1))) (nmD M n) hnm
 have HF:Hid (ComeR E W0.heap.size WB DB (stV Bd Bl) v V (.ok (k+1,ps.map P5S.pc)) (.returned .nilIface) (V.setCell ⟨WB,2,none⟩ (.int .i64 ((k:Int)+1)))/\Kw WB v V (V.setCell ⟨WB,2,none⟩ (.int .i64 ((k:Int)+1)))):=⟨⟨rfl,ps,v,rfl,hw1.sc,.inl rfl⟩,hk1⟩
 generalize nmD M n=nm at NA' WY
 clear NA hw hp hni hw1 hk1 h hnm hdec
 go_enter Tryz.func44,Tryz.ntmps44
 go_wp2_with (first | (go_at_call 82;refine WI.mono ?_;rintro e w1 ⟨rfl,rfl⟩) | (go_at_call 76;refine NA'.mono ?_;rintro e w1 ⟨rfl,rfl⟩) | (go_at_call 83;refine WY.mono ?_;rintro e w1 ⟨rfl,rfl⟩))
 go_ret
 exact HF.out
theorem come_box (h:En E B tg W0 DB MB p M nx c r l B0 rv) (k:Nat) (ps:List P5S) (v:Value) (V:World) (n n0:Int) (m:Mv) (path:List (Int × Mv)) (q:Nat) (hk:k<100) (hn:Wf64 n) (hw:Wks WB DB Bd Bl rv W0 k ps v V) (hp:PathAt V (some q) ((n0,m) :: path)) (hni:n ∉ n0 :: path.map Prod.fst) (hm:m.ok) (hnm:nmD M n=kBox) (res:Mv->Except Ft (Nat × List Pc))
  (SH:∀ (m':Mv) (V':World) (PB:Nat),m'.ok->Wks WB DB Bd Bl rv W0 (k+1) ps v V'->PathAt V' (some PB) ((n,m') :: (n0,m) :: path)->∀ (Br Bw:Nat),V'.cell? ⟨Br,0,none⟩=some (fnV 117 WB)->V'.heap[Bw]? = some (.cells #[.pointer (some ⟨WB,0,none⟩)] 105)->Calls Tryz.prog 164 #[.pointer (some ⟨PB,0,none⟩),.pointer (some ⟨Br,0,none⟩),.pointer (some ⟨Bw,0,none⟩)] V' fun e w'=>ComeR E W0.heap.size WB DB (stV Bd Bl) v V' (res m') e w'/\Kw WB v V' w') :
  Calls Tryz.prog 44 #[.pointer (some ⟨WB,0,none⟩),.int .i64 n,.pointer (some ⟨q,0,none⟩)] V fun e w'=>ComeR E W0.heap.size WB DB (stV Bd Bl) v V (if (ofM M l kShow n==kNo)=true then .ok (k+1,ps.map P5S.pc) else match moveM M n m with | .error c=>.error ⟨kindC c,n⟩ | .ok m'=>res m') e w'/\Kw WB v V w':=by
 have WI:=within_any V (some q) ((n0,m) :: path) n hp
 have hdec:decide (n ∈ ((n0,m) :: path).map Prod.fst)=false:=decide_eq_false hni
 unfold WiR at WI
 rw [hdec] at WI
 simp only [pV,Option.map_some] at WI
 replace WI:Calls Tryz.prog 82 #[.pointer (some ⟨q,0,none⟩),.int .i64 n] V fun e w'=>e=.returned (.bool false)/\V=w':=WI.mono fun e w' h=>⟨h.1,h.2.symm⟩
 obtain ⟨hw1,hk1⟩:=hw.count
 have NA:=Name_doc (h.ds.below hw1.low).w n hn
 have c2:=bcell hw.sc.wb 2 _ rfl
 have f2:=bfrozQ hw.sc.wb 2
 have c0:=bcell hw1.sc.wb 0 _ rfl
 have c1:=bcell hw1.sc.wb 1 _ rfl
 have hkz:(k:Int)<100:=by omega
 have fnn:=fn_none
 have fns:=fn_some
 have NA':Calls Tryz.prog 76 #[.pointer (some ⟨DB,0,none⟩),.int .i64 n] (V.setCell ⟨WB,2,none⟩ (.int .i64 ((k:Int)+1))) fun r w'=>r=.returned (bV kBox)/\w'=(V.setCell ⟨WB,2,none⟩ (.int .i64 ((k:Int)+1))):=by rw [<- hnm];exact NA
 have WY:=way_box WB (V.setCell ⟨WB,2,none⟩ (.int .i64 ((k:Int)+1)))
 have ST:=fun w1 (b1:Below (V.setCell ⟨WB,2,none⟩ (.int .i64 ((k:Int)+1))).heap.size (V.setCell ⟨WB,2,none⟩ (.int .i64 ((k:Int)+1))) w1)=>h.style (hw1.below b1) n hn kShow
 have HW1:Hid (Wks WB DB Bd Bl rv W0 (k+1) ps v (V.setCell ⟨WB,2,none⟩ (.int .i64 ((k:Int)+1)))):=hw1
 have HK1:Hid (Kw WB v V (V.setCell ⟨WB,2,none⟩ (.int .i64 ((k:Int)+1)))):=hk1
 have C1:Hid (∀ w1,Below (V.setCell ⟨WB,2,none⟩ (.int .i64 ((k:Int)+1))).heap.size (V.setCell ⟨WB,2,none⟩ (.int .i64 ((k:Int)+1))) w1->w1.cell? ⟨WB,1,none⟩=some (stV Bd Bl)):=(fun w1 b1=>(b1.cell (cell_lt c1)).trans c1:∀ w1,Below (V.setCell ⟨WB,2,none⟩ (.int .i64 ((k:Int)+1))).heap.size (V.setCell ⟨WB,2,none⟩ (.int .i64 ((k:Int)+1))) w1->w1.cell? ⟨WB,1,none⟩=some (stV Bd Bl))
 have HH:Hid (En E B tg W0 DB MB p M nx c r l B0 rv):=h
 have HP1:Hid (PathAt (V.setCell ⟨WB,2,none⟩ (.int .i64 ((k:Int)+1))) (some q) ((n0,m) :: path)):=(hw.sc.path hk1 hp:PathAt (V.setCell ⟨WB,2,none⟩ (.int .i64 ((k:Int)+1))) (some q) ((n0,m) :: path))
 have HM:Hid m.ok:=hm
 have hq:=ba_toL (ofM M l kShow n) kNo
 clear NA hw hp hni hw1 hk1 h hnm hdec hm
 generalize ofM M l kShow n=s at ST hq ⊢
 cases hs:(s==kNo) with
 | true=>
  rw [hs] at hq
  rw [if_pos rfl]
  unfold kNo at hq hs
  unfold kShow at ST
  clear SH
  go_enter Tryz.func44,Tryz.ntmps44
  go_wp2_with (first | (go_at_call 82;refine WI.mono ?_;rintro e w1 ⟨rfl,rfl⟩) | (go_at_call 76;refine NA'.mono ?_;rintro e w1 ⟨rfl,rfl⟩) | (go_at_call 83;refine WY.mono ?_;rintro e w1 ⟨Br,Bw,rfl,hBr,hBw,b1⟩;have k1:=C1.out _ b1;have ST1:=ST _ b1) | (go_at_call 42;refine ST1.mono ?_;rintro e w2 ⟨rfl,b2⟩))
  go_ret
  have b12:=mbel b1 b2
  exact ⟨⟨rfl,ps,v,rfl,(HW1.out.below b12).sc,.inl rfl⟩,HK1.out.trans (.inl rfl) (Kw.of_below b12)⟩
 | false=>
  rw [hs] at hq
  rw [if_neg (by simp)]
  unfold kNo at hq hs
  unfold kShow at ST
  have MO:∀ w2,Below (V.setCell ⟨WB,2,none⟩ (.int .i64 ((k:Int)+1))).heap.size (V.setCell ⟨WB,2,none⟩ (.int .i64 ((k:Int)+1))) w2->Calls Tryz.prog 84 #[.pointer (some ⟨WB,0,none⟩),.int .i64 n,.pointer (some ⟨q,0,none⟩)] w2 fun e w'=>MvR E (moveM M n m) e w'/\Below w2.heap.size w2 w':=fun w2 b2=>by
   obtain ⟨b,q',h1,h2, -⟩:=HW1.out.sc.path (Kw.of_below b2) HP1.out
   cases h1
   exact moveOf_any (HH.out.ne.below (HW1.out.below b2).low) (HH.out.ds.below (HW1.out.below b2).low).w HH.out.sz WB (bcell (HW1.out.below b2).sc.wb 0 _ rfl) n hn q n0 (.pointer (q'.map fun x=>⟨x,0,none⟩)) m HM.out h2
  obtain ⟨mo,hmo⟩:∃ x,moveM M n m=x:=⟨_,rfl⟩
  rw [hmo] at MO ⊢
  cases mo with
  | error cd=>
   clear SH
   have FO:=fun w3 (hN:NE E w3) ev (hev:ErC E cd ev w3)=>faultOf_any hN hev n
   have MO':∀ w2,Below (V.setCell ⟨WB,2,none⟩ (.int .i64 ((k:Int)+1))).heap.size (V.setCell ⟨WB,2,none⟩ (.int .i64 ((k:Int)+1))) w2->Calls Tryz.prog 84 #[.pointer (some ⟨WB,0,none⟩),.int .i64 n,.pointer (some ⟨q,0,none⟩)] w2 fun e w'=>∃ ev,e=.returned (.tuple #[mv .zero,ev])/\ErC E cd ev w'/\Below w2.heap.size w2 w':=fun w2 b2=>(MO w2 b2).mono fun e w' ⟨⟨ev,h1,h2⟩,h3⟩=>⟨ev,h1,h2,h3⟩
   have NN:Hid (∀ w3,Below (V.setCell ⟨WB,2,none⟩ (.int .i64 ((k:Int)+1))).heap.size (V.setCell ⟨WB,2,none⟩ (.int .i64 ((k:Int)+1))) w3->NE E w3):=(fun w3 b3=>HH.out.ne.below (HW1.out.below b3).low:∀ w3,Below (V.setCell ⟨WB,2,none⟩ (.int .i64 ((k:Int)+1))).heap.size (V.setCell ⟨WB,2,none⟩ (.int .i64 ((k:Int)+1))) w3->NE E w3)
   clear MO hmo
   go_enter Tryz.func44,Tryz.ntmps44
   go_upto_region 10 with (first | (go_at_call 82;refine WI.mono ?_;rintro e w1 ⟨rfl,rfl⟩) | (go_at_call 76;refine NA'.mono ?_;rintro e w1 ⟨rfl,rfl⟩) | (go_at_call 83;refine WY.mono ?_;rintro e w1 ⟨Br,Bw,rfl,hBr,hBw,b1⟩;have k1:=C1.out _ b1;have ST1:=ST _ b1) | (go_at_call 42;refine ST1.mono ?_;rintro e w2 ⟨rfl,b2⟩;have b12:=mbel b1 b2;have MO2:=MO' w2 b12) | (go_at_call 84;refine MO2.mono ?_;rintro e w3 ⟨ev,rfl,hev,b3⟩))
   have b123:=mbel b12 b3
   have HV:=hev
   obtain ⟨-, -,hv2⟩:=hev
   rcases hv2 with rfl | ⟨pb,po,rfl, -⟩
   ·go_wp2_with (go_at_call 85;refine (FO _ ?_ _ ?_).mono ?_;exact NN.out _ (mbel b123 (mal _ _));exact HV.below (mal _ _);rintro e w5 ⟨u,rfl,hf,b5⟩)
    go_ret
    have bb:=mbel (mbel b123 (mal _ _)) b5
    exact ⟨⟨u,rfl,hf.low (Nat.le_trans HK1.out.size (mbel b123 (mal _ _)).size)⟩,HK1.out.trans (.inl rfl) (Kw.of_below bb)⟩
   ·go_wp2_with (go_at_call 85;refine (FO _ ?_ _ ?_).mono ?_;exact NN.out _ (mbel b123 (mal _ _));exact HV.below (mal _ _);rintro e w5 ⟨u,rfl,hf,b5⟩)
    go_ret
    have bb:=mbel (mbel b123 (mal _ _)) b5
    exact ⟨⟨u,rfl,hf.low (Nat.le_trans HK1.out.size (mbel b123 (mal _ _)).size)⟩,HK1.out.trans (.inl rfl) (Kw.of_below bb)⟩
  | ok m'=>
   have hm':Hid m'.ok:=moveM_ok HM.out hmo
   have MO':∀ w2,Below (V.setCell ⟨WB,2,none⟩ (.int .i64 ((k:Int)+1))).heap.size (V.setCell ⟨WB,2,none⟩ (.int .i64 ((k:Int)+1))) w2->Calls Tryz.prog 84 #[.pointer (some ⟨WB,0,none⟩),.int .i64 n,.pointer (some ⟨q,0,none⟩)] w2 fun e w'=>e=.returned (.tuple #[mv m',.nilIface])/\Below w2.heap.size w2 w':=fun w2 b2=>(MO w2 b2).mono fun e w' ⟨h1,h3⟩=>⟨h1,h3⟩
   have HSH:Hid (∀ (V':World) (PB:Nat),Wks WB DB Bd Bl rv W0 (k+1) ps v V'->PathAt V' (some PB) ((n,m') :: (n0,m) :: path)->∀ (Br Bw:Nat),V'.cell? ⟨Br,0,none⟩=some (fnV 117 WB)->V'.heap[Bw]? = some (.cells #[.pointer (some ⟨WB,0,none⟩)] 105)->Calls Tryz.prog 164 #[.pointer (some ⟨PB,0,none⟩),.pointer (some ⟨Br,0,none⟩),.pointer (some ⟨Bw,0,none⟩)] V' fun e w'=>∃ u,e=.returned u/\Hid (ComeR E W0.heap.size WB DB (stV Bd Bl) v V' (res m') (.returned u) w'/\Kw WB v V' w')):=(fun V' PB h1 h2 Br Bw h3 h4=>(SH m' V' PB hm'.out h1 h2 Br Bw h3 h4).mono fun e w' h=>by
    obtain ⟨u,rfl⟩:=h.1.ret
    exact ⟨u,rfl,h⟩:∀ (V':World) (PB:Nat),Wks WB DB Bd Bl rv W0 (k+1) ps v V'->PathAt V' (some PB) ((n,m') :: (n0,m) :: path)->∀ (Br Bw:Nat),V'.cell? ⟨Br,0,none⟩=some (fnV 117 WB)->V'.heap[Bw]? = some (.cells #[.pointer (some ⟨WB,0,none⟩)] 105)->Calls Tryz.prog 164 #[.pointer (some ⟨PB,0,none⟩),.pointer (some ⟨Br,0,none⟩),.pointer (some ⟨Bw,0,none⟩)] V' fun e w'=>∃ u,e=.returned u/\Hid (ComeR E W0.heap.size WB DB (stV Bd Bl) v V' (res m') (.returned u) w'/\Kw WB v V' w'))
   clear MO hmo SH
   go_enter Tryz.func44,Tryz.ntmps44
   go_upto_region 12 with (first | (go_at_call 82;refine WI.mono ?_;rintro e w1 ⟨rfl,rfl⟩) | (go_at_call 76;refine NA'.mono ?_;rintro e w1 ⟨rfl,rfl⟩) | (go_at_call 83;refine WY.mono ?_;rintro e w1 ⟨Br,Bw,rfl,hBr,hBw,b1⟩;have k1:=C1.out _ b1;have ST1:=ST _ b1) | (go_at_call 42;refine ST1.mono ?_;rintro e w2 ⟨rfl,b2⟩;have b12:=mbel b1 b2;have MO2:=MO' w2 b12) | (go_at_call 84;refine MO2.mono ?_;rintro e w3 ⟨rfl,b3⟩))
   have b123:=mbel b12 b3
   have bU:=mal w3 (.cells #[.int .i64 m'.a.n,.int .i64 m'.a.d,.int .i64 m'.b.n,.int .i64 m'.b.d,.int .i64 m'.c.n,.int .i64 m'.c.d,.int .i64 m'.d.n,.int .i64 m'.d.d,.int .i64 m'.e.n,.int .i64 m'.e.d,.int .i64 m'.f.n,.int .i64 m'.f.d] 113)
   have KP:=mbox (w3.alloc (.cells #[.int .i64 m'.a.n,.int .i64 m'.a.d,.int .i64 m'.b.n,.int .i64 m'.b.d,.int .i64 m'.c.n,.int .i64 m'.c.d,.int .i64 m'.d.n,.int .i64 m'.d.d,.int .i64 m'.e.n,.int .i64 m'.e.d,.int .i64 m'.f.n,.int .i64 m'.f.d] 113)) (plA n (.pointer (some ⟨q,0,none⟩)) m') 116
   have b5:=mbel b123 (mbel bU (mal (w3.alloc (.cells #[.int .i64 m'.a.n,.int .i64 m'.a.d,.int .i64 m'.b.n,.int .i64 m'.b.d,.int .i64 m'.c.n,.int .i64 m'.c.d,.int .i64 m'.d.n,.int .i64 m'.d.d,.int .i64 m'.e.n,.int .i64 m'.e.d,.int .i64 m'.f.n,.int .i64 m'.f.d] 113)) (.cells (plA n (.pointer (some ⟨q,0,none⟩)) m') 116)))
   have HWK:=HW1.out.below b5
   have HPT:PathAt ((w3.alloc (.cells #[.int .i64 m'.a.n,.int .i64 m'.a.d,.int .i64 m'.b.n,.int .i64 m'.b.d,.int .i64 m'.c.n,.int .i64 m'.c.d,.int .i64 m'.d.n,.int .i64 m'.d.d,.int .i64 m'.e.n,.int .i64 m'.e.d,.int .i64 m'.f.n,.int .i64 m'.f.d] 113)).alloc (.cells (plA n (.pointer (some ⟨q,0,none⟩)) m') 116)) (some (w3.alloc (.cells #[.int .i64 m'.a.n,.int .i64 m'.a.d,.int .i64 m'.b.n,.int .i64 m'.b.d,.int .i64 m'.c.n,.int .i64 m'.c.d,.int .i64 m'.d.n,.int .i64 m'.d.d,.int .i64 m'.e.n,.int .i64 m'.e.d,.int .i64 m'.f.n,.int .i64 m'.f.d] 113)).heap.size) ((n,m') :: (n0,m) :: path):=⟨_,some q,rfl,KP,HW1.out.sc.path (Kw.of_below b5) HP1.out⟩
   rw [World.size_alloc] at HPT
   have CALL:=HSH.out _ (w3.heap.size+1) HWK HPT Br Bw (((mbel (mbel b2 b3) (mbel (mal _ _) (mal _ _))).cell (cell_lt hBr)).trans hBr) (((mbel (mbel b2 b3) (mbel (mal _ _) (mal _ _))).block _ (blk_lt hBw)).trans hBw)
   have HB5:Hid (Below (V.setCell ⟨WB,2,none⟩ (.int .i64 ((k:Int)+1))).heap.size (V.setCell ⟨WB,2,none⟩ (.int .i64 ((k:Int)+1))) ((w3.alloc (.cells #[.int .i64 m'.a.n,.int .i64 m'.a.d,.int .i64 m'.b.n,.int .i64 m'.b.d,.int .i64 m'.c.n,.int .i64 m'.c.d,.int .i64 m'.d.n,.int .i64 m'.d.d,.int .i64 m'.e.n,.int .i64 m'.e.d,.int .i64 m'.f.n,.int .i64 m'.f.d] 113)).alloc (.cells (plA n (.pointer (some ⟨q,0,none⟩)) m') 116))):=b5
   have m0:=mnew w3 #[.int .i64 m'.a.n,.int .i64 m'.a.d,.int .i64 m'.b.n,.int .i64 m'.b.d,.int .i64 m'.c.n,.int .i64 m'.c.d,.int .i64 m'.d.n,.int .i64 m'.d.d,.int .i64 m'.e.n,.int .i64 m'.e.d,.int .i64 m'.f.n,.int .i64 m'.f.d] 113
   clear bU KP HWK HPT HSH b5
   go_wp2_with (go_at_call 164;refine CALL.mono ?_;rintro e w6 ⟨u,rfl,h6⟩)
   go_ret
   exact ⟨h6.out.1.low (Nat.le_trans HK1.out.size HB5.out.size),HK1.out.trans (.inl rfl) ((Kw.of_below HB5.out).trans (.inl rfl) h6.out.2)⟩
theorem come_group (h:En E B tg W0 DB MB p M nx c r l B0 rv) (k:Nat) (ps:List P5S) (v:Value) (V:World) (n n0:Int) (m:Mv) (path:List (Int × Mv)) (q:Nat) (hk:k<100) (hn:Wf64 n) (hw:Wks WB DB Bd Bl rv W0 k ps v V) (hp:PathAt V (some q) ((n0,m) :: path)) (hni:n ∉ n0 :: path.map Prod.fst) (hm:m.ok) (hnm:nmD M n=kGroup) (res:Mv->Except Ft (Nat × List Pc))
  (SH:∀ (m':Mv) (V':World) (PB:Nat),m'.ok->Wks WB DB Bd Bl rv W0 (k+1) ps v V'->PathAt V' (some PB) ((n,m') :: (n0,m) :: path)->Calls Tryz.prog 119 #[.pointer (some ⟨WB,0,none⟩),.pointer (some ⟨PB,0,none⟩)] V' fun e w'=>ComeR E W0.heap.size WB DB (stV Bd Bl) v V' (res m') e w'/\Kw WB v V' w') :
  Calls Tryz.prog 44 #[.pointer (some ⟨WB,0,none⟩),.int .i64 n,.pointer (some ⟨q,0,none⟩)] V fun e w'=>ComeR E W0.heap.size WB DB (stV Bd Bl) v V (if (ofM M l kShow n==kNo)=true then .ok (k+1,ps.map P5S.pc) else match moveM M n m with | .error c=>.error ⟨kindC c,n⟩ | .ok m'=>res m') e w'/\Kw WB v V w':=by
 have WI:=within_any V (some q) ((n0,m) :: path) n hp
 have hdec:decide (n ∈ ((n0,m) :: path).map Prod.fst)=false:=decide_eq_false hni
 unfold WiR at WI
 rw [hdec] at WI
 simp only [pV,Option.map_some] at WI
 replace WI:Calls Tryz.prog 82 #[.pointer (some ⟨q,0,none⟩),.int .i64 n] V fun e w'=>e=.returned (.bool false)/\V=w':=WI.mono fun e w' h=>⟨h.1,h.2.symm⟩
 obtain ⟨hw1,hk1⟩:=hw.count
 have NA:=Name_doc (h.ds.below hw1.low).w n hn
 have c2:=bcell hw.sc.wb 2 _ rfl
 have f2:=bfrozQ hw.sc.wb 2
 have c0:=bcell hw1.sc.wb 0 _ rfl
 have c1:=bcell hw1.sc.wb 1 _ rfl
 have hkz:(k:Int)<100:=by omega
 have fnn:=fn_none
 have fns:=fn_some
 have NA':Calls Tryz.prog 76 #[.pointer (some ⟨DB,0,none⟩),.int .i64 n] (V.setCell ⟨WB,2,none⟩ (.int .i64 ((k:Int)+1))) fun r w'=>r=.returned (bV kGroup)/\w'=(V.setCell ⟨WB,2,none⟩ (.int .i64 ((k:Int)+1))):=by rw [<- hnm];exact NA
 have WY:=way_group WB (V.setCell ⟨WB,2,none⟩ (.int .i64 ((k:Int)+1)))
 have ST:=fun w1 (b1:Below (V.setCell ⟨WB,2,none⟩ (.int .i64 ((k:Int)+1))).heap.size (V.setCell ⟨WB,2,none⟩ (.int .i64 ((k:Int)+1))) w1)=>h.style (hw1.below b1) n hn kShow
 have HW1:Hid (Wks WB DB Bd Bl rv W0 (k+1) ps v (V.setCell ⟨WB,2,none⟩ (.int .i64 ((k:Int)+1)))):=hw1
 have HK1:Hid (Kw WB v V (V.setCell ⟨WB,2,none⟩ (.int .i64 ((k:Int)+1)))):=hk1
 have C1:Hid (∀ w1,Below (V.setCell ⟨WB,2,none⟩ (.int .i64 ((k:Int)+1))).heap.size (V.setCell ⟨WB,2,none⟩ (.int .i64 ((k:Int)+1))) w1->w1.cell? ⟨WB,1,none⟩=some (stV Bd Bl)):=(fun w1 b1=>(b1.cell (cell_lt c1)).trans c1:∀ w1,Below (V.setCell ⟨WB,2,none⟩ (.int .i64 ((k:Int)+1))).heap.size (V.setCell ⟨WB,2,none⟩ (.int .i64 ((k:Int)+1))) w1->w1.cell? ⟨WB,1,none⟩=some (stV Bd Bl))
 have HH:Hid (En E B tg W0 DB MB p M nx c r l B0 rv):=h
 have HP1:Hid (PathAt (V.setCell ⟨WB,2,none⟩ (.int .i64 ((k:Int)+1))) (some q) ((n0,m) :: path)):=(hw.sc.path hk1 hp:PathAt (V.setCell ⟨WB,2,none⟩ (.int .i64 ((k:Int)+1))) (some q) ((n0,m) :: path))
 have HM:Hid m.ok:=hm
 have hq:=ba_toL (ofM M l kShow n) kNo
 clear NA hw hp hni hw1 hk1 h hnm hdec hm
 generalize ofM M l kShow n=s at ST hq ⊢
 cases hs:(s==kNo) with
 | true=>
  rw [hs] at hq
  rw [if_pos rfl]
  unfold kNo at hq hs
  unfold kShow at ST
  clear SH
  go_enter Tryz.func44,Tryz.ntmps44
  go_wp2_with (first | (go_at_call 82;refine WI.mono ?_;rintro e w1 ⟨rfl,rfl⟩) | (go_at_call 76;refine NA'.mono ?_;rintro e w1 ⟨rfl,rfl⟩) | (go_at_call 83;refine WY.mono ?_;rintro e w1 ⟨rfl,rfl⟩;have b1:=Below.refl (V.setCell ⟨WB,2,none⟩ (.int .i64 ((k:Int)+1))).heap.size (V.setCell ⟨WB,2,none⟩ (.int .i64 ((k:Int)+1)));have k1:=C1.out _ b1;have ST1:=ST _ b1) | (go_at_call 42;refine ST1.mono ?_;rintro e w2 ⟨rfl,b2⟩))
  go_ret
  have b12:=mbel b1 b2
  exact ⟨⟨rfl,ps,v,rfl,(HW1.out.below b12).sc,.inl rfl⟩,HK1.out.trans (.inl rfl) (Kw.of_below b12)⟩
 | false=>
  rw [hs] at hq
  rw [if_neg (by simp)]
  unfold kNo at hq hs
  unfold kShow at ST
  have MO:∀ w2,Below (V.setCell ⟨WB,2,none⟩ (.int .i64 ((k:Int)+1))).heap.size (V.setCell ⟨WB,2,none⟩ (.int .i64 ((k:Int)+1))) w2->Calls Tryz.prog 84 #[.pointer (some ⟨WB,0,none⟩),.int .i64 n,.pointer (some ⟨q,0,none⟩)] w2 fun e w'=>MvR E (moveM M n m) e w'/\Below w2.heap.size w2 w':=fun w2 b2=>by
   obtain ⟨b,q',h1,h2, -⟩:=HW1.out.sc.path (Kw.of_below b2) HP1.out
   cases h1
   exact moveOf_any (HH.out.ne.below (HW1.out.below b2).low) (HH.out.ds.below (HW1.out.below b2).low).w HH.out.sz WB (bcell (HW1.out.below b2).sc.wb 0 _ rfl) n hn q n0 (.pointer (q'.map fun x=>⟨x,0,none⟩)) m HM.out h2
  obtain ⟨mo,hmo⟩:∃ x,moveM M n m=x:=⟨_,rfl⟩
  rw [hmo] at MO ⊢
  cases mo with
  | error cd=>
   clear SH
   have FO:=fun w3 (hN:NE E w3) ev (hev:ErC E cd ev w3)=>faultOf_any hN hev n
   have MO':∀ w2,Below (V.setCell ⟨WB,2,none⟩ (.int .i64 ((k:Int)+1))).heap.size (V.setCell ⟨WB,2,none⟩ (.int .i64 ((k:Int)+1))) w2->Calls Tryz.prog 84 #[.pointer (some ⟨WB,0,none⟩),.int .i64 n,.pointer (some ⟨q,0,none⟩)] w2 fun e w'=>∃ ev,e=.returned (.tuple #[mv .zero,ev])/\ErC E cd ev w'/\Below w2.heap.size w2 w':=fun w2 b2=>(MO w2 b2).mono fun e w' ⟨⟨ev,h1,h2⟩,h3⟩=>⟨ev,h1,h2,h3⟩
   have NN:Hid (∀ w3,Below (V.setCell ⟨WB,2,none⟩ (.int .i64 ((k:Int)+1))).heap.size (V.setCell ⟨WB,2,none⟩ (.int .i64 ((k:Int)+1))) w3->NE E w3):=(fun w3 b3=>HH.out.ne.below (HW1.out.below b3).low:∀ w3,Below (V.setCell ⟨WB,2,none⟩ (.int .i64 ((k:Int)+1))).heap.size (V.setCell ⟨WB,2,none⟩ (.int .i64 ((k:Int)+1))) w3->NE E w3)
   clear MO hmo
   go_enter Tryz.func44,Tryz.ntmps44
   go_upto_region 10 with (first | (go_at_call 82;refine WI.mono ?_;rintro e w1 ⟨rfl,rfl⟩) | (go_at_call 76;refine NA'.mono ?_;rintro e w1 ⟨rfl,rfl⟩) | (go_at_call 83;refine WY.mono ?_;rintro e w1 ⟨rfl,rfl⟩;have b1:=Below.refl (V.setCell ⟨WB,2,none⟩ (.int .i64 ((k:Int)+1))).heap.size (V.setCell ⟨WB,2,none⟩ (.int .i64 ((k:Int)+1)));have k1:=C1.out _ b1;have ST1:=ST _ b1) | (go_at_call 42;refine ST1.mono ?_;rintro e w2 ⟨rfl,b2⟩;have b12:=mbel b1 b2;have MO2:=MO' w2 b12) | (go_at_call 84;refine MO2.mono ?_;rintro e w3 ⟨ev,rfl,hev,b3⟩))
   have b123:=mbel b12 b3
   have HV:=hev
   obtain ⟨-, -,hv2⟩:=hev
   rcases hv2 with rfl | ⟨pb,po,rfl, -⟩
   ·go_wp2_with (go_at_call 85;refine (FO _ ?_ _ ?_).mono ?_;exact NN.out _ (mbel b123 (mal _ _));exact HV.below (mal _ _);rintro e w5 ⟨u,rfl,hf,b5⟩)
    go_ret
    have bb:=mbel (mbel b123 (mal _ _)) b5
    exact ⟨⟨u,rfl,hf.low (Nat.le_trans HK1.out.size (mbel b123 (mal _ _)).size)⟩,HK1.out.trans (.inl rfl) (Kw.of_below bb)⟩
   ·go_wp2_with (go_at_call 85;refine (FO _ ?_ _ ?_).mono ?_;exact NN.out _ (mbel b123 (mal _ _));exact HV.below (mal _ _);rintro e w5 ⟨u,rfl,hf,b5⟩)
    go_ret
    have bb:=mbel (mbel b123 (mal _ _)) b5
    exact ⟨⟨u,rfl,hf.low (Nat.le_trans HK1.out.size (mbel b123 (mal _ _)).size)⟩,HK1.out.trans (.inl rfl) (Kw.of_below bb)⟩
  | ok m'=>
   have hm':Hid m'.ok:=moveM_ok HM.out hmo
   have MO':∀ w2,Below (V.setCell ⟨WB,2,none⟩ (.int .i64 ((k:Int)+1))).heap.size (V.setCell ⟨WB,2,none⟩ (.int .i64 ((k:Int)+1))) w2->Calls Tryz.prog 84 #[.pointer (some ⟨WB,0,none⟩),.int .i64 n,.pointer (some ⟨q,0,none⟩)] w2 fun e w'=>e=.returned (.tuple #[mv m',.nilIface])/\Below w2.heap.size w2 w':=fun w2 b2=>(MO w2 b2).mono fun e w' ⟨h1,h3⟩=>⟨h1,h3⟩
   have HSH:Hid (∀ (V':World) (PB:Nat),Wks WB DB Bd Bl rv W0 (k+1) ps v V'->PathAt V' (some PB) ((n,m') :: (n0,m) :: path)->Calls Tryz.prog 119 #[.pointer (some ⟨WB,0,none⟩),.pointer (some ⟨PB,0,none⟩)] V' fun e w'=>∃ u,e=.returned u/\Hid (ComeR E W0.heap.size WB DB (stV Bd Bl) v V' (res m') (.returned u) w'/\Kw WB v V' w')):=(fun V' PB h1 h2  => (SH m' V' PB hm'.out h1 h2 ).mono fun e w' h=>by
    obtain ⟨u,rfl⟩:=h.1.ret
    exact ⟨u,rfl,h⟩:∀ (V':World) (PB:Nat),Wks WB DB Bd Bl rv W0 (k+1) ps v V'->PathAt V' (some PB) ((n,m') :: (n0,m) :: path)->Calls Tryz.prog 119 #[.pointer (some ⟨WB,0,none⟩),.pointer (some ⟨PB,0,none⟩)] V' fun e w'=>∃ u,e=.returned u/\Hid (ComeR E W0.heap.size WB DB (stV Bd Bl) v V' (res m') (.returned u) w'/\Kw WB v V' w'))
   clear MO hmo SH
   go_enter Tryz.func44,Tryz.ntmps44
   go_upto_region 12 with (first | (go_at_call 82;refine WI.mono ?_;rintro e w1 ⟨rfl,rfl⟩) | (go_at_call 76;refine NA'.mono ?_;rintro e w1 ⟨rfl,rfl⟩) | (go_at_call 83;refine WY.mono ?_;rintro e w1 ⟨rfl,rfl⟩;have b1:=Below.refl (V.setCell ⟨WB,2,none⟩ (.int .i64 ((k:Int)+1))).heap.size (V.setCell ⟨WB,2,none⟩ (.int .i64 ((k:Int)+1)));have k1:=C1.out _ b1;have ST1:=ST _ b1) | (go_at_call 42;refine ST1.mono ?_;rintro e w2 ⟨rfl,b2⟩;have b12:=mbel b1 b2;have MO2:=MO' w2 b12) | (go_at_call 84;refine MO2.mono ?_;rintro e w3 ⟨rfl,b3⟩))
   have b123:=mbel b12 b3
   have bU:=mal w3 (.cells #[.int .i64 m'.a.n,.int .i64 m'.a.d,.int .i64 m'.b.n,.int .i64 m'.b.d,.int .i64 m'.c.n,.int .i64 m'.c.d,.int .i64 m'.d.n,.int .i64 m'.d.d,.int .i64 m'.e.n,.int .i64 m'.e.d,.int .i64 m'.f.n,.int .i64 m'.f.d] 113)
   have KP:=mbox (w3.alloc (.cells #[.int .i64 m'.a.n,.int .i64 m'.a.d,.int .i64 m'.b.n,.int .i64 m'.b.d,.int .i64 m'.c.n,.int .i64 m'.c.d,.int .i64 m'.d.n,.int .i64 m'.d.d,.int .i64 m'.e.n,.int .i64 m'.e.d,.int .i64 m'.f.n,.int .i64 m'.f.d] 113)) (plA n (.pointer (some ⟨q,0,none⟩)) m') 116
   have b5:=mbel b123 (mbel bU (mal (w3.alloc (.cells #[.int .i64 m'.a.n,.int .i64 m'.a.d,.int .i64 m'.b.n,.int .i64 m'.b.d,.int .i64 m'.c.n,.int .i64 m'.c.d,.int .i64 m'.d.n,.int .i64 m'.d.d,.int .i64 m'.e.n,.int .i64 m'.e.d,.int .i64 m'.f.n,.int .i64 m'.f.d] 113)) (.cells (plA n (.pointer (some ⟨q,0,none⟩)) m') 116)))
   have HWK:=HW1.out.below b5
   have HPT:PathAt ((w3.alloc (.cells #[.int .i64 m'.a.n,.int .i64 m'.a.d,.int .i64 m'.b.n,.int .i64 m'.b.d,.int .i64 m'.c.n,.int .i64 m'.c.d,.int .i64 m'.d.n,.int .i64 m'.d.d,.int .i64 m'.e.n,.int .i64 m'.e.d,.int .i64 m'.f.n,.int .i64 m'.f.d] 113)).alloc (.cells (plA n (.pointer (some ⟨q,0,none⟩)) m') 116)) (some (w3.alloc (.cells #[.int .i64 m'.a.n,.int .i64 m'.a.d,.int .i64 m'.b.n,.int .i64 m'.b.d,.int .i64 m'.c.n,.int .i64 m'.c.d,.int .i64 m'.d.n,.int .i64 m'.d.d,.int .i64 m'.e.n,.int .i64 m'.e.d,.int .i64 m'.f.n,.int .i64 m'.f.d] 113)).heap.size) ((n,m') :: (n0,m) :: path):=⟨_,some q,rfl,KP,HW1.out.sc.path (Kw.of_below b5) HP1.out⟩
   rw [World.size_alloc] at HPT
   have CALL:=HSH.out _ (w3.heap.size+1) HWK HPT 
   have HB5:Hid (Below (V.setCell ⟨WB,2,none⟩ (.int .i64 ((k:Int)+1))).heap.size (V.setCell ⟨WB,2,none⟩ (.int .i64 ((k:Int)+1))) ((w3.alloc (.cells #[.int .i64 m'.a.n,.int .i64 m'.a.d,.int .i64 m'.b.n,.int .i64 m'.b.d,.int .i64 m'.c.n,.int .i64 m'.c.d,.int .i64 m'.d.n,.int .i64 m'.d.d,.int .i64 m'.e.n,.int .i64 m'.e.d,.int .i64 m'.f.n,.int .i64 m'.f.d] 113)).alloc (.cells (plA n (.pointer (some ⟨q,0,none⟩)) m') 116))):=b5
   have m0:=mnew w3 #[.int .i64 m'.a.n,.int .i64 m'.a.d,.int .i64 m'.b.n,.int .i64 m'.b.d,.int .i64 m'.c.n,.int .i64 m'.c.d,.int .i64 m'.d.n,.int .i64 m'.d.d,.int .i64 m'.e.n,.int .i64 m'.e.d,.int .i64 m'.f.n,.int .i64 m'.f.d] 113
   clear bU KP HWK HPT HSH b5
   go_wp2_with (go_at_call 119;refine CALL.mono ?_;rintro e w6 ⟨u,rfl,h6⟩)
   go_ret
   exact ⟨h6.out.1.low (Nat.le_trans HK1.out.size HB5.out.size),HK1.out.trans (.inl rfl) ((Kw.of_below HB5.out).trans (.inl rfl) h6.out.2)⟩
end
end
section
open Go.RowKit Go.Shelf
set_option maxHeartbeats 8000000
set_option maxRecDepth 20000
section
variable {E:Nat->Addr} {B:Nat} {tg:Tags} {W0:World} {DB MB:Nat} {p:Int->Option Nat} {M:Dm} {nx c:Nat} {r:Int->Nat} {l:List Rl} {B0:Nat} {rv:Value} {WB Bd Bl:Nat}
theorem come_poly (h:En E B tg W0 DB MB p M nx c r l B0 rv) (k:Nat) (ps:List P5S) (v:Value) (V:World) (n n0:Int) (m:Mv) (path:List (Int × Mv)) (q:Nat) (hk:k<100) (hn:Wf64 n) (hw:Wks WB DB Bd Bl rv W0 k ps v V) (hp:PathAt V (some q) ((n0,m) :: path)) (hni:n ∉ n0 :: path.map Prod.fst) (hm:m.ok) (hnm:nmD M n=kPoly) (res:Mv->Except Ft (Nat × List Pc))
  (SH:∀ (m':Mv) (V':World) (PB:Nat),m'.ok->Wks WB DB Bd Bl rv W0 (k+1) ps v V'->PathAt V' (some PB) ((n,m') :: (n0,m) :: path)->∀ (Br Bw:Nat),V'.cell? ⟨Br,0,none⟩=some (fnV 118 WB)->V'.heap[Bw]? = some (.cells #[.pointer (some ⟨WB,0,none⟩)] 105)->Calls Tryz.prog 164 #[.pointer (some ⟨PB,0,none⟩),.pointer (some ⟨Br,0,none⟩),.pointer (some ⟨Bw,0,none⟩)] V' fun e w'=>ComeR E W0.heap.size WB DB (stV Bd Bl) v V' (res m') e w'/\Kw WB v V' w') :
  Calls Tryz.prog 44 #[.pointer (some ⟨WB,0,none⟩),.int .i64 n,.pointer (some ⟨q,0,none⟩)] V fun e w'=>ComeR E W0.heap.size WB DB (stV Bd Bl) v V (if (ofM M l kShow n==kNo)=true then .ok (k+1,ps.map P5S.pc) else match moveM M n m with | .error c=>.error ⟨kindC c,n⟩ | .ok m'=>res m') e w'/\Kw WB v V w':=by
 have WI:=within_any V (some q) ((n0,m) :: path) n hp
 have hdec:decide (n ∈ ((n0,m) :: path).map Prod.fst)=false:=decide_eq_false hni
 unfold WiR at WI
 rw [hdec] at WI
 simp only [pV,Option.map_some] at WI
 replace WI:Calls Tryz.prog 82 #[.pointer (some ⟨q,0,none⟩),.int .i64 n] V fun e w'=>e=.returned (.bool false)/\V=w':=WI.mono fun e w' h=>⟨h.1,h.2.symm⟩
 obtain ⟨hw1,hk1⟩:=hw.count
 have NA:=Name_doc (h.ds.below hw1.low).w n hn
 have c2:=bcell hw.sc.wb 2 _ rfl
 have f2:=bfrozQ hw.sc.wb 2
 have c0:=bcell hw1.sc.wb 0 _ rfl
 have c1:=bcell hw1.sc.wb 1 _ rfl
 have hkz:(k:Int)<100:=by omega
 have fnn:=fn_none
 have fns:=fn_some
 have NA':Calls Tryz.prog 76 #[.pointer (some ⟨DB,0,none⟩),.int .i64 n] (V.setCell ⟨WB,2,none⟩ (.int .i64 ((k:Int)+1))) fun r w'=>r=.returned (bV kPoly)/\w'=(V.setCell ⟨WB,2,none⟩ (.int .i64 ((k:Int)+1))):=by rw [<- hnm];exact NA
 have WY:=way_poly WB (V.setCell ⟨WB,2,none⟩ (.int .i64 ((k:Int)+1)))
 have ST:=fun w1 (b1:Below (V.setCell ⟨WB,2,none⟩ (.int .i64 ((k:Int)+1))).heap.size (V.setCell ⟨WB,2,none⟩ (.int .i64 ((k:Int)+1))) w1)=>h.style (hw1.below b1) n hn kShow
 have HW1:Hid (Wks WB DB Bd Bl rv W0 (k+1) ps v (V.setCell ⟨WB,2,none⟩ (.int .i64 ((k:Int)+1)))):=hw1
 have HK1:Hid (Kw WB v V (V.setCell ⟨WB,2,none⟩ (.int .i64 ((k:Int)+1)))):=hk1
 have C1:Hid (∀ w1,Below (V.setCell ⟨WB,2,none⟩ (.int .i64 ((k:Int)+1))).heap.size (V.setCell ⟨WB,2,none⟩ (.int .i64 ((k:Int)+1))) w1->w1.cell? ⟨WB,1,none⟩=some (stV Bd Bl)):=(fun w1 b1=>(b1.cell (cell_lt c1)).trans c1:∀ w1,Below (V.setCell ⟨WB,2,none⟩ (.int .i64 ((k:Int)+1))).heap.size (V.setCell ⟨WB,2,none⟩ (.int .i64 ((k:Int)+1))) w1->w1.cell? ⟨WB,1,none⟩=some (stV Bd Bl))
 have HH:Hid (En E B tg W0 DB MB p M nx c r l B0 rv):=h
 have HP1:Hid (PathAt (V.setCell ⟨WB,2,none⟩ (.int .i64 ((k:Int)+1))) (some q) ((n0,m) :: path)):=(hw.sc.path hk1 hp:PathAt (V.setCell ⟨WB,2,none⟩ (.int .i64 ((k:Int)+1))) (some q) ((n0,m) :: path))
 have HM:Hid m.ok:=hm
 have hq:=ba_toL (ofM M l kShow n) kNo
 clear NA hw hp hni hw1 hk1 h hnm hdec hm
 generalize ofM M l kShow n=s at ST hq ⊢
 cases hs:(s==kNo) with
 | true=>
  rw [hs] at hq
  rw [if_pos rfl]
  unfold kNo at hq hs
  unfold kShow at ST
  clear SH
  go_enter Tryz.func44,Tryz.ntmps44
  go_wp2_with (first | (go_at_call 82;refine WI.mono ?_;rintro e w1 ⟨rfl,rfl⟩) | (go_at_call 76;refine NA'.mono ?_;rintro e w1 ⟨rfl,rfl⟩) | (go_at_call 83;refine WY.mono ?_;rintro e w1 ⟨Br,Bw,rfl,hBr,hBw,b1⟩;have k1:=C1.out _ b1;have ST1:=ST _ b1) | (go_at_call 42;refine ST1.mono ?_;rintro e w2 ⟨rfl,b2⟩))
  go_ret
  have b12:=mbel b1 b2
  exact ⟨⟨rfl,ps,v,rfl,(HW1.out.below b12).sc,.inl rfl⟩,HK1.out.trans (.inl rfl) (Kw.of_below b12)⟩
 | false=>
  rw [hs] at hq
  rw [if_neg (by simp)]
  unfold kNo at hq hs
  unfold kShow at ST
  have MO:∀ w2,Below (V.setCell ⟨WB,2,none⟩ (.int .i64 ((k:Int)+1))).heap.size (V.setCell ⟨WB,2,none⟩ (.int .i64 ((k:Int)+1))) w2->Calls Tryz.prog 84 #[.pointer (some ⟨WB,0,none⟩),.int .i64 n,.pointer (some ⟨q,0,none⟩)] w2 fun e w'=>MvR E (moveM M n m) e w'/\Below w2.heap.size w2 w':=fun w2 b2=>by
   obtain ⟨b,q',h1,h2, -⟩:=HW1.out.sc.path (Kw.of_below b2) HP1.out
   cases h1
   exact moveOf_any (HH.out.ne.below (HW1.out.below b2).low) (HH.out.ds.below (HW1.out.below b2).low).w HH.out.sz WB (bcell (HW1.out.below b2).sc.wb 0 _ rfl) n hn q n0 (.pointer (q'.map fun x=>⟨x,0,none⟩)) m HM.out h2
  obtain ⟨mo,hmo⟩:∃ x,moveM M n m=x:=⟨_,rfl⟩
  rw [hmo] at MO ⊢
  cases mo with
  | error cd=>
   clear SH
   have FO:=fun w3 (hN:NE E w3) ev (hev:ErC E cd ev w3)=>faultOf_any hN hev n
   have MO':∀ w2,Below (V.setCell ⟨WB,2,none⟩ (.int .i64 ((k:Int)+1))).heap.size (V.setCell ⟨WB,2,none⟩ (.int .i64 ((k:Int)+1))) w2->Calls Tryz.prog 84 #[.pointer (some ⟨WB,0,none⟩),.int .i64 n,.pointer (some ⟨q,0,none⟩)] w2 fun e w'=>∃ ev,e=.returned (.tuple #[mv .zero,ev])/\ErC E cd ev w'/\Below w2.heap.size w2 w':=fun w2 b2=>(MO w2 b2).mono fun e w' ⟨⟨ev,h1,h2⟩,h3⟩=>⟨ev,h1,h2,h3⟩
   have NN:Hid (∀ w3,Below (V.setCell ⟨WB,2,none⟩ (.int .i64 ((k:Int)+1))).heap.size (V.setCell ⟨WB,2,none⟩ (.int .i64 ((k:Int)+1))) w3->NE E w3):=(fun w3 b3=>HH.out.ne.below (HW1.out.below b3).low:∀ w3,Below (V.setCell ⟨WB,2,none⟩ (.int .i64 ((k:Int)+1))).heap.size (V.setCell ⟨WB,2,none⟩ (.int .i64 ((k:Int)+1))) w3->NE E w3)
   clear MO hmo
   go_enter Tryz.func44,Tryz.ntmps44
   go_upto_region 10 with (first | (go_at_call 82;refine WI.mono ?_;rintro e w1 ⟨rfl,rfl⟩) | (go_at_call 76;refine NA'.mono ?_;rintro e w1 ⟨rfl,rfl⟩) | (go_at_call 83;refine WY.mono ?_;rintro e w1 ⟨Br,Bw,rfl,hBr,hBw,b1⟩;have k1:=C1.out _ b1;have ST1:=ST _ b1) | (go_at_call 42;refine ST1.mono ?_;rintro e w2 ⟨rfl,b2⟩;have b12:=mbel b1 b2;have MO2:=MO' w2 b12) | (go_at_call 84;refine MO2.mono ?_;rintro e w3 ⟨ev,rfl,hev,b3⟩))
   have b123:=mbel b12 b3
   have HV:=hev
   obtain ⟨-, -,hv2⟩:=hev
   rcases hv2 with rfl | ⟨pb,po,rfl, -⟩
   ·go_wp2_with (go_at_call 85;refine (FO _ ?_ _ ?_).mono ?_;exact NN.out _ (mbel b123 (mal _ _));exact HV.below (mal _ _);rintro e w5 ⟨u,rfl,hf,b5⟩)
    go_ret
    have bb:=mbel (mbel b123 (mal _ _)) b5
    exact ⟨⟨u,rfl,hf.low (Nat.le_trans HK1.out.size (mbel b123 (mal _ _)).size)⟩,HK1.out.trans (.inl rfl) (Kw.of_below bb)⟩
   ·go_wp2_with (go_at_call 85;refine (FO _ ?_ _ ?_).mono ?_;exact NN.out _ (mbel b123 (mal _ _));exact HV.below (mal _ _);rintro e w5 ⟨u,rfl,hf,b5⟩)
    go_ret
    have bb:=mbel (mbel b123 (mal _ _)) b5
    exact ⟨⟨u,rfl,hf.low (Nat.le_trans HK1.out.size (mbel b123 (mal _ _)).size)⟩,HK1.out.trans (.inl rfl) (Kw.of_below bb)⟩
  | ok m'=>
   have hm':Hid m'.ok:=moveM_ok HM.out hmo
   have MO':∀ w2,Below (V.setCell ⟨WB,2,none⟩ (.int .i64 ((k:Int)+1))).heap.size (V.setCell ⟨WB,2,none⟩ (.int .i64 ((k:Int)+1))) w2->Calls Tryz.prog 84 #[.pointer (some ⟨WB,0,none⟩),.int .i64 n,.pointer (some ⟨q,0,none⟩)] w2 fun e w'=>e=.returned (.tuple #[mv m',.nilIface])/\Below w2.heap.size w2 w':=fun w2 b2=>(MO w2 b2).mono fun e w' ⟨h1,h3⟩=>⟨h1,h3⟩
   have HSH:Hid (∀ (V':World) (PB:Nat),Wks WB DB Bd Bl rv W0 (k+1) ps v V'->PathAt V' (some PB) ((n,m') :: (n0,m) :: path)->∀ (Br Bw:Nat),V'.cell? ⟨Br,0,none⟩=some (fnV 118 WB)->V'.heap[Bw]? = some (.cells #[.pointer (some ⟨WB,0,none⟩)] 105)->Calls Tryz.prog 164 #[.pointer (some ⟨PB,0,none⟩),.pointer (some ⟨Br,0,none⟩),.pointer (some ⟨Bw,0,none⟩)] V' fun e w'=>∃ u,e=.returned u/\Hid (ComeR E W0.heap.size WB DB (stV Bd Bl) v V' (res m') (.returned u) w'/\Kw WB v V' w')):=(fun V' PB h1 h2 Br Bw h3 h4=>(SH m' V' PB hm'.out h1 h2 Br Bw h3 h4).mono fun e w' h=>by
    obtain ⟨u,rfl⟩:=h.1.ret
    exact ⟨u,rfl,h⟩:∀ (V':World) (PB:Nat),Wks WB DB Bd Bl rv W0 (k+1) ps v V'->PathAt V' (some PB) ((n,m') :: (n0,m) :: path)->∀ (Br Bw:Nat),V'.cell? ⟨Br,0,none⟩=some (fnV 118 WB)->V'.heap[Bw]? = some (.cells #[.pointer (some ⟨WB,0,none⟩)] 105)->Calls Tryz.prog 164 #[.pointer (some ⟨PB,0,none⟩),.pointer (some ⟨Br,0,none⟩),.pointer (some ⟨Bw,0,none⟩)] V' fun e w'=>∃ u,e=.returned u/\Hid (ComeR E W0.heap.size WB DB (stV Bd Bl) v V' (res m') (.returned u) w'/\Kw WB v V' w'))
   clear MO hmo SH
   go_enter Tryz.func44,Tryz.ntmps44
   go_upto_region 12 with (first | (go_at_call 82;refine WI.mono ?_;rintro e w1 ⟨rfl,rfl⟩) | (go_at_call 76;refine NA'.mono ?_;rintro e w1 ⟨rfl,rfl⟩) | (go_at_call 83;refine WY.mono ?_;rintro e w1 ⟨Br,Bw,rfl,hBr,hBw,b1⟩;have k1:=C1.out _ b1;have ST1:=ST _ b1) | (go_at_call 42;refine ST1.mono ?_;rintro e w2 ⟨rfl,b2⟩;have b12:=mbel b1 b2;have MO2:=MO' w2 b12) | (go_at_call 84;refine MO2.mono ?_;rintro e w3 ⟨rfl,b3⟩))
   have b123:=mbel b12 b3
   have bU:=mal w3 (.cells #[.int .i64 m'.a.n,.int .i64 m'.a.d,.int .i64 m'.b.n,.int .i64 m'.b.d,.int .i64 m'.c.n,.int .i64 m'.c.d,.int .i64 m'.d.n,.int .i64 m'.d.d,.int .i64 m'.e.n,.int .i64 m'.e.d,.int .i64 m'.f.n,.int .i64 m'.f.d] 113)
   have KP:=mbox (w3.alloc (.cells #[.int .i64 m'.a.n,.int .i64 m'.a.d,.int .i64 m'.b.n,.int .i64 m'.b.d,.int .i64 m'.c.n,.int .i64 m'.c.d,.int .i64 m'.d.n,.int .i64 m'.d.d,.int .i64 m'.e.n,.int .i64 m'.e.d,.int .i64 m'.f.n,.int .i64 m'.f.d] 113)) (plA n (.pointer (some ⟨q,0,none⟩)) m') 116
   have b5:=mbel b123 (mbel bU (mal (w3.alloc (.cells #[.int .i64 m'.a.n,.int .i64 m'.a.d,.int .i64 m'.b.n,.int .i64 m'.b.d,.int .i64 m'.c.n,.int .i64 m'.c.d,.int .i64 m'.d.n,.int .i64 m'.d.d,.int .i64 m'.e.n,.int .i64 m'.e.d,.int .i64 m'.f.n,.int .i64 m'.f.d] 113)) (.cells (plA n (.pointer (some ⟨q,0,none⟩)) m') 116)))
   have HWK:=HW1.out.below b5
   have HPT:PathAt ((w3.alloc (.cells #[.int .i64 m'.a.n,.int .i64 m'.a.d,.int .i64 m'.b.n,.int .i64 m'.b.d,.int .i64 m'.c.n,.int .i64 m'.c.d,.int .i64 m'.d.n,.int .i64 m'.d.d,.int .i64 m'.e.n,.int .i64 m'.e.d,.int .i64 m'.f.n,.int .i64 m'.f.d] 113)).alloc (.cells (plA n (.pointer (some ⟨q,0,none⟩)) m') 116)) (some (w3.alloc (.cells #[.int .i64 m'.a.n,.int .i64 m'.a.d,.int .i64 m'.b.n,.int .i64 m'.b.d,.int .i64 m'.c.n,.int .i64 m'.c.d,.int .i64 m'.d.n,.int .i64 m'.d.d,.int .i64 m'.e.n,.int .i64 m'.e.d,.int .i64 m'.f.n,.int .i64 m'.f.d] 113)).heap.size) ((n,m') :: (n0,m) :: path):=⟨_,some q,rfl,KP,HW1.out.sc.path (Kw.of_below b5) HP1.out⟩
   rw [World.size_alloc] at HPT
   have CALL:=HSH.out _ (w3.heap.size+1) HWK HPT Br Bw (((mbel (mbel b2 b3) (mbel (mal _ _) (mal _ _))).cell (cell_lt hBr)).trans hBr) (((mbel (mbel b2 b3) (mbel (mal _ _) (mal _ _))).block _ (blk_lt hBw)).trans hBw)
   have HB5:Hid (Below (V.setCell ⟨WB,2,none⟩ (.int .i64 ((k:Int)+1))).heap.size (V.setCell ⟨WB,2,none⟩ (.int .i64 ((k:Int)+1))) ((w3.alloc (.cells #[.int .i64 m'.a.n,.int .i64 m'.a.d,.int .i64 m'.b.n,.int .i64 m'.b.d,.int .i64 m'.c.n,.int .i64 m'.c.d,.int .i64 m'.d.n,.int .i64 m'.d.d,.int .i64 m'.e.n,.int .i64 m'.e.d,.int .i64 m'.f.n,.int .i64 m'.f.d] 113)).alloc (.cells (plA n (.pointer (some ⟨q,0,none⟩)) m') 116))):=b5
   have m0:=mnew w3 #[.int .i64 m'.a.n,.int .i64 m'.a.d,.int .i64 m'.b.n,.int .i64 m'.b.d,.int .i64 m'.c.n,.int .i64 m'.c.d,.int .i64 m'.d.n,.int .i64 m'.d.d,.int .i64 m'.e.n,.int .i64 m'.e.d,.int .i64 m'.f.n,.int .i64 m'.f.d] 113
   clear bU KP HWK HPT HSH b5
   go_wp2_with (go_at_call 164;refine CALL.mono ?_;rintro e w6 ⟨u,rfl,h6⟩)
   go_ret
   exact ⟨h6.out.1.low (Nat.le_trans HK1.out.size HB5.out.size),HK1.out.trans (.inl rfl) ((Kw.of_below HB5.out).trans (.inl rfl) h6.out.2)⟩
theorem come_use (h:En E B tg W0 DB MB p M nx c r l B0 rv) (k:Nat) (ps:List P5S) (v:Value) (V:World) (n n0:Int) (m:Mv) (path:List (Int × Mv)) (q:Nat) (hk:k<100) (hn:Wf64 n) (hw:Wks WB DB Bd Bl rv W0 k ps v V) (hp:PathAt V (some q) ((n0,m) :: path)) (hni:n ∉ n0 :: path.map Prod.fst) (hm:m.ok) (hnm:nmD M n=kUse) (res:Mv->Except Ft (Nat × List Pc))
  (SH:∀ (m':Mv) (V':World) (PB:Nat),m'.ok->Wks WB DB Bd Bl rv W0 (k+1) ps v V'->PathAt V' (some PB) ((n,m') :: (n0,m) :: path)->Calls Tryz.prog 120 #[.pointer (some ⟨WB,0,none⟩),.pointer (some ⟨PB,0,none⟩)] V' fun e w'=>ComeR E W0.heap.size WB DB (stV Bd Bl) v V' (res m') e w'/\Kw WB v V' w') :
  Calls Tryz.prog 44 #[.pointer (some ⟨WB,0,none⟩),.int .i64 n,.pointer (some ⟨q,0,none⟩)] V fun e w'=>ComeR E W0.heap.size WB DB (stV Bd Bl) v V (if (ofM M l kShow n==kNo)=true then .ok (k+1,ps.map P5S.pc) else match moveM M n m with | .error c=>.error ⟨kindC c,n⟩ | .ok m'=>res m') e w'/\Kw WB v V w':=by
 have WI:=within_any V (some q) ((n0,m) :: path) n hp
 have hdec:decide (n ∈ ((n0,m) :: path).map Prod.fst)=false:=decide_eq_false hni
 unfold WiR at WI
 rw [hdec] at WI
 simp only [pV,Option.map_some] at WI
 replace WI:Calls Tryz.prog 82 #[.pointer (some ⟨q,0,none⟩),.int .i64 n] V fun e w'=>e=.returned (.bool false)/\V=w':=WI.mono fun e w' h=>⟨h.1,h.2.symm⟩
 obtain ⟨hw1,hk1⟩:=hw.count
 have NA:=Name_doc (h.ds.below hw1.low).w n hn
 have c2:=bcell hw.sc.wb 2 _ rfl
 have f2:=bfrozQ hw.sc.wb 2
 have c0:=bcell hw1.sc.wb 0 _ rfl
 have c1:=bcell hw1.sc.wb 1 _ rfl
 have hkz:(k:Int)<100:=by omega
 have fnn:=fn_none
 have fns:=fn_some
 have NA':Calls Tryz.prog 76 #[.pointer (some ⟨DB,0,none⟩),.int .i64 n] (V.setCell ⟨WB,2,none⟩ (.int .i64 ((k:Int)+1))) fun r w'=>r=.returned (bV kUse)/\w'=(V.setCell ⟨WB,2,none⟩ (.int .i64 ((k:Int)+1))):=by rw [<- hnm];exact NA
 have WY:=way_use WB (V.setCell ⟨WB,2,none⟩ (.int .i64 ((k:Int)+1)))
 have ST:=fun w1 (b1:Below (V.setCell ⟨WB,2,none⟩ (.int .i64 ((k:Int)+1))).heap.size (V.setCell ⟨WB,2,none⟩ (.int .i64 ((k:Int)+1))) w1)=>h.style (hw1.below b1) n hn kShow
 have HW1:Hid (Wks WB DB Bd Bl rv W0 (k+1) ps v (V.setCell ⟨WB,2,none⟩ (.int .i64 ((k:Int)+1)))):=hw1
 have HK1:Hid (Kw WB v V (V.setCell ⟨WB,2,none⟩ (.int .i64 ((k:Int)+1)))):=hk1
 have C1:Hid (∀ w1,Below (V.setCell ⟨WB,2,none⟩ (.int .i64 ((k:Int)+1))).heap.size (V.setCell ⟨WB,2,none⟩ (.int .i64 ((k:Int)+1))) w1->w1.cell? ⟨WB,1,none⟩=some (stV Bd Bl)):=(fun w1 b1=>(b1.cell (cell_lt c1)).trans c1:∀ w1,Below (V.setCell ⟨WB,2,none⟩ (.int .i64 ((k:Int)+1))).heap.size (V.setCell ⟨WB,2,none⟩ (.int .i64 ((k:Int)+1))) w1->w1.cell? ⟨WB,1,none⟩=some (stV Bd Bl))
 have HH:Hid (En E B tg W0 DB MB p M nx c r l B0 rv):=h
 have HP1:Hid (PathAt (V.setCell ⟨WB,2,none⟩ (.int .i64 ((k:Int)+1))) (some q) ((n0,m) :: path)):=(hw.sc.path hk1 hp:PathAt (V.setCell ⟨WB,2,none⟩ (.int .i64 ((k:Int)+1))) (some q) ((n0,m) :: path))
 have HM:Hid m.ok:=hm
 have hq:=ba_toL (ofM M l kShow n) kNo
 clear NA hw hp hni hw1 hk1 h hnm hdec hm
 generalize ofM M l kShow n=s at ST hq ⊢
 cases hs:(s==kNo) with
 | true=>
  rw [hs] at hq
  rw [if_pos rfl]
  unfold kNo at hq hs
  unfold kShow at ST
  clear SH
  go_enter Tryz.func44,Tryz.ntmps44
  go_wp2_with (first | (go_at_call 82;refine WI.mono ?_;rintro e w1 ⟨rfl,rfl⟩) | (go_at_call 76;refine NA'.mono ?_;rintro e w1 ⟨rfl,rfl⟩) | (go_at_call 83;refine WY.mono ?_;rintro e w1 ⟨rfl,rfl⟩;have b1:=Below.refl (V.setCell ⟨WB,2,none⟩ (.int .i64 ((k:Int)+1))).heap.size (V.setCell ⟨WB,2,none⟩ (.int .i64 ((k:Int)+1)));have k1:=C1.out _ b1;have ST1:=ST _ b1) | (go_at_call 42;refine ST1.mono ?_;rintro e w2 ⟨rfl,b2⟩))
  go_ret
  have b12:=mbel b1 b2
  exact ⟨⟨rfl,ps,v,rfl,(HW1.out.below b12).sc,.inl rfl⟩,HK1.out.trans (.inl rfl) (Kw.of_below b12)⟩
 | false=>
  rw [hs] at hq
  rw [if_neg (by simp)]
  unfold kNo at hq hs
  unfold kShow at ST
  have MO:∀ w2,Below (V.setCell ⟨WB,2,none⟩ (.int .i64 ((k:Int)+1))).heap.size (V.setCell ⟨WB,2,none⟩ (.int .i64 ((k:Int)+1))) w2->Calls Tryz.prog 84 #[.pointer (some ⟨WB,0,none⟩),.int .i64 n,.pointer (some ⟨q,0,none⟩)] w2 fun e w'=>MvR E (moveM M n m) e w'/\Below w2.heap.size w2 w':=fun w2 b2=>by
   obtain ⟨b,q',h1,h2, -⟩:=HW1.out.sc.path (Kw.of_below b2) HP1.out
   cases h1
   exact moveOf_any (HH.out.ne.below (HW1.out.below b2).low) (HH.out.ds.below (HW1.out.below b2).low).w HH.out.sz WB (bcell (HW1.out.below b2).sc.wb 0 _ rfl) n hn q n0 (.pointer (q'.map fun x=>⟨x,0,none⟩)) m HM.out h2
  obtain ⟨mo,hmo⟩:∃ x,moveM M n m=x:=⟨_,rfl⟩
  rw [hmo] at MO ⊢
  cases mo with
  | error cd=>
   clear SH
   have FO:=fun w3 (hN:NE E w3) ev (hev:ErC E cd ev w3)=>faultOf_any hN hev n
   have MO':∀ w2,Below (V.setCell ⟨WB,2,none⟩ (.int .i64 ((k:Int)+1))).heap.size (V.setCell ⟨WB,2,none⟩ (.int .i64 ((k:Int)+1))) w2->Calls Tryz.prog 84 #[.pointer (some ⟨WB,0,none⟩),.int .i64 n,.pointer (some ⟨q,0,none⟩)] w2 fun e w'=>∃ ev,e=.returned (.tuple #[mv .zero,ev])/\ErC E cd ev w'/\Below w2.heap.size w2 w':=fun w2 b2=>(MO w2 b2).mono fun e w' ⟨⟨ev,h1,h2⟩,h3⟩=>⟨ev,h1,h2,h3⟩
   have NN:Hid (∀ w3,Below (V.setCell ⟨WB,2,none⟩ (.int .i64 ((k:Int)+1))).heap.size (V.setCell ⟨WB,2,none⟩ (.int .i64 ((k:Int)+1))) w3->NE E w3):=(fun w3 b3=>HH.out.ne.below (HW1.out.below b3).low:∀ w3,Below (V.setCell ⟨WB,2,none⟩ (.int .i64 ((k:Int)+1))).heap.size (V.setCell ⟨WB,2,none⟩ (.int .i64 ((k:Int)+1))) w3->NE E w3)
   clear MO hmo
   go_enter Tryz.func44,Tryz.ntmps44
   go_upto_region 10 with (first | (go_at_call 82;refine WI.mono ?_;rintro e w1 ⟨rfl,rfl⟩) | (go_at_call 76;refine NA'.mono ?_;rintro e w1 ⟨rfl,rfl⟩) | (go_at_call 83;refine WY.mono ?_;rintro e w1 ⟨rfl,rfl⟩;have b1:=Below.refl (V.setCell ⟨WB,2,none⟩ (.int .i64 ((k:Int)+1))).heap.size (V.setCell ⟨WB,2,none⟩ (.int .i64 ((k:Int)+1)));have k1:=C1.out _ b1;have ST1:=ST _ b1) | (go_at_call 42;refine ST1.mono ?_;rintro e w2 ⟨rfl,b2⟩;have b12:=mbel b1 b2;have MO2:=MO' w2 b12) | (go_at_call 84;refine MO2.mono ?_;rintro e w3 ⟨ev,rfl,hev,b3⟩))
   have b123:=mbel b12 b3
   have HV:=hev
   obtain ⟨-, -,hv2⟩:=hev
   rcases hv2 with rfl | ⟨pb,po,rfl, -⟩
   ·go_wp2_with (go_at_call 85;refine (FO _ ?_ _ ?_).mono ?_;exact NN.out _ (mbel b123 (mal _ _));exact HV.below (mal _ _);rintro e w5 ⟨u,rfl,hf,b5⟩)
    go_ret
    have bb:=mbel (mbel b123 (mal _ _)) b5
    exact ⟨⟨u,rfl,hf.low (Nat.le_trans HK1.out.size (mbel b123 (mal _ _)).size)⟩,HK1.out.trans (.inl rfl) (Kw.of_below bb)⟩
   ·go_wp2_with (go_at_call 85;refine (FO _ ?_ _ ?_).mono ?_;exact NN.out _ (mbel b123 (mal _ _));exact HV.below (mal _ _);rintro e w5 ⟨u,rfl,hf,b5⟩)
    go_ret
    have bb:=mbel (mbel b123 (mal _ _)) b5
    exact ⟨⟨u,rfl,hf.low (Nat.le_trans HK1.out.size (mbel b123 (mal _ _)).size)⟩,HK1.out.trans (.inl rfl) (Kw.of_below bb)⟩
  | ok m'=>
   have hm':Hid m'.ok:=moveM_ok HM.out hmo
   have MO':∀ w2,Below (V.setCell ⟨WB,2,none⟩ (.int .i64 ((k:Int)+1))).heap.size (V.setCell ⟨WB,2,none⟩ (.int .i64 ((k:Int)+1))) w2->Calls Tryz.prog 84 #[.pointer (some ⟨WB,0,none⟩),.int .i64 n,.pointer (some ⟨q,0,none⟩)] w2 fun e w'=>e=.returned (.tuple #[mv m',.nilIface])/\Below w2.heap.size w2 w':=fun w2 b2=>(MO w2 b2).mono fun e w' ⟨h1,h3⟩=>⟨h1,h3⟩
   have HSH:Hid (∀ (V':World) (PB:Nat),Wks WB DB Bd Bl rv W0 (k+1) ps v V'->PathAt V' (some PB) ((n,m') :: (n0,m) :: path)->Calls Tryz.prog 120 #[.pointer (some ⟨WB,0,none⟩),.pointer (some ⟨PB,0,none⟩)] V' fun e w'=>∃ u,e=.returned u/\Hid (ComeR E W0.heap.size WB DB (stV Bd Bl) v V' (res m') (.returned u) w'/\Kw WB v V' w')):=(fun V' PB h1 h2  => (SH m' V' PB hm'.out h1 h2 ).mono fun e w' h=>by
    obtain ⟨u,rfl⟩:=h.1.ret
    exact ⟨u,rfl,h⟩:∀ (V':World) (PB:Nat),Wks WB DB Bd Bl rv W0 (k+1) ps v V'->PathAt V' (some PB) ((n,m') :: (n0,m) :: path)->Calls Tryz.prog 120 #[.pointer (some ⟨WB,0,none⟩),.pointer (some ⟨PB,0,none⟩)] V' fun e w'=>∃ u,e=.returned u/\Hid (ComeR E W0.heap.size WB DB (stV Bd Bl) v V' (res m') (.returned u) w'/\Kw WB v V' w'))
   clear MO hmo SH
   go_enter Tryz.func44,Tryz.ntmps44
   go_upto_region 12 with (first | (go_at_call 82;refine WI.mono ?_;rintro e w1 ⟨rfl,rfl⟩) | (go_at_call 76;refine NA'.mono ?_;rintro e w1 ⟨rfl,rfl⟩) | (go_at_call 83;refine WY.mono ?_;rintro e w1 ⟨rfl,rfl⟩;have b1:=Below.refl (V.setCell ⟨WB,2,none⟩ (.int .i64 ((k:Int)+1))).heap.size (V.setCell ⟨WB,2,none⟩ (.int .i64 ((k:Int)+1)));have k1:=C1.out _ b1;have ST1:=ST _ b1) | (go_at_call 42;refine ST1.mono ?_;rintro e w2 ⟨rfl,b2⟩;have b12:=mbel b1 b2;have MO2:=MO' w2 b12) | (go_at_call 84;refine MO2.mono ?_;rintro e w3 ⟨rfl,b3⟩))
   have b123:=mbel b12 b3
   have bU:=mal w3 (.cells #[.int .i64 m'.a.n,.int .i64 m'.a.d,.int .i64 m'.b.n,.int .i64 m'.b.d,.int .i64 m'.c.n,.int .i64 m'.c.d,.int .i64 m'.d.n,.int .i64 m'.d.d,.int .i64 m'.e.n,.int .i64 m'.e.d,.int .i64 m'.f.n,.int .i64 m'.f.d] 113)
   have KP:=mbox (w3.alloc (.cells #[.int .i64 m'.a.n,.int .i64 m'.a.d,.int .i64 m'.b.n,.int .i64 m'.b.d,.int .i64 m'.c.n,.int .i64 m'.c.d,.int .i64 m'.d.n,.int .i64 m'.d.d,.int .i64 m'.e.n,.int .i64 m'.e.d,.int .i64 m'.f.n,.int .i64 m'.f.d] 113)) (plA n (.pointer (some ⟨q,0,none⟩)) m') 116
   have b5:=mbel b123 (mbel bU (mal (w3.alloc (.cells #[.int .i64 m'.a.n,.int .i64 m'.a.d,.int .i64 m'.b.n,.int .i64 m'.b.d,.int .i64 m'.c.n,.int .i64 m'.c.d,.int .i64 m'.d.n,.int .i64 m'.d.d,.int .i64 m'.e.n,.int .i64 m'.e.d,.int .i64 m'.f.n,.int .i64 m'.f.d] 113)) (.cells (plA n (.pointer (some ⟨q,0,none⟩)) m') 116)))
   have HWK:=HW1.out.below b5
   have HPT:PathAt ((w3.alloc (.cells #[.int .i64 m'.a.n,.int .i64 m'.a.d,.int .i64 m'.b.n,.int .i64 m'.b.d,.int .i64 m'.c.n,.int .i64 m'.c.d,.int .i64 m'.d.n,.int .i64 m'.d.d,.int .i64 m'.e.n,.int .i64 m'.e.d,.int .i64 m'.f.n,.int .i64 m'.f.d] 113)).alloc (.cells (plA n (.pointer (some ⟨q,0,none⟩)) m') 116)) (some (w3.alloc (.cells #[.int .i64 m'.a.n,.int .i64 m'.a.d,.int .i64 m'.b.n,.int .i64 m'.b.d,.int .i64 m'.c.n,.int .i64 m'.c.d,.int .i64 m'.d.n,.int .i64 m'.d.d,.int .i64 m'.e.n,.int .i64 m'.e.d,.int .i64 m'.f.n,.int .i64 m'.f.d] 113)).heap.size) ((n,m') :: (n0,m) :: path):=⟨_,some q,rfl,KP,HW1.out.sc.path (Kw.of_below b5) HP1.out⟩
   rw [World.size_alloc] at HPT
   have CALL:=HSH.out _ (w3.heap.size+1) HWK HPT 
   have HB5:Hid (Below (V.setCell ⟨WB,2,none⟩ (.int .i64 ((k:Int)+1))).heap.size (V.setCell ⟨WB,2,none⟩ (.int .i64 ((k:Int)+1))) ((w3.alloc (.cells #[.int .i64 m'.a.n,.int .i64 m'.a.d,.int .i64 m'.b.n,.int .i64 m'.b.d,.int .i64 m'.c.n,.int .i64 m'.c.d,.int .i64 m'.d.n,.int .i64 m'.d.d,.int .i64 m'.e.n,.int .i64 m'.e.d,.int .i64 m'.f.n,.int .i64 m'.f.d] 113)).alloc (.cells (plA n (.pointer (some ⟨q,0,none⟩)) m') 116))):=b5
   have m0:=mnew w3 #[.int .i64 m'.a.n,.int .i64 m'.a.d,.int .i64 m'.b.n,.int .i64 m'.b.d,.int .i64 m'.c.n,.int .i64 m'.c.d,.int .i64 m'.d.n,.int .i64 m'.d.d,.int .i64 m'.e.n,.int .i64 m'.e.d,.int .i64 m'.f.n,.int .i64 m'.f.d] 113
   clear bU KP HWK HPT HSH b5
   go_wp2_with (go_at_call 120;refine CALL.mono ?_;rintro e w6 ⟨u,rfl,h6⟩)
   go_ret
   exact ⟨h6.out.1.low (Nat.le_trans HK1.out.size HB5.out.size),HK1.out.trans (.inl rfl) ((Kw.of_below HB5.out).trans (.inl rfl) h6.out.2)⟩
end
end
section
open Go.RowKit Go.Shelf
set_option maxHeartbeats 2000000
set_option maxRecDepth 20000
theorem cfAny (f:Nat) (fn:Func) (hf:Tryz.prog.funcs[f]? = some fn) (h1:(fn.name == "runtime.NumGoroutine")=false) (h2:fn.body.isNone=false) (av:Array Value) (w:World):Sem.run Tryz.prog (callFunc f av) w=.ok (.enter f av) w:=by
 unfold callFunc
 simp only [Sem.run_bind,run_program,Result.andThen_ok,hf,h1,h2]
 rfl
section
variable {E:Nat->Addr} {B:Nat} {tg:Tags} {W0:World} {DB MB:Nat} {p:Int->Option Nat} {M:Dm} {nx c:Nat} {r:Int->Nat} {l:List Rl} {B0:Nat} {rv:Value} {WB Bd Bl:Nat}
theorem shape_piece (n:Int) (m:Mv) (x:Except Nat (List Qt)) (st:Nat × List Pc):shapeN n m x (ofM M l kFill n) (ofM M l kRule n) (ofM M l kLevel n) st=pieceM M l n m x st:=rfl
theorem box_way (h:En E B tg W0 DB MB p M nx c r l B0 rv) {k:Nat} {ps:List P5S} {v:Value} (hps:ps.length<=1000) (n:Int) (hn:Wf64 n) (rest:List (Int × Mv)) (m':Mv) (V':World) (PB:Nat) (hm:m'.ok) (hw:Wks WB DB Bd Bl rv W0 k ps v V') (hp:PathAt V' (some PB) ((n,m') :: rest)) (Br Bw:Nat)
  (hr:V'.cell? ⟨Br,0,none⟩=some (fnV 117 WB)) (hb:V'.heap[Bw]? = some (.cells #[.pointer (some ⟨WB,0,none⟩)] 105)) :
  Calls Tryz.prog 164 #[.pointer (some ⟨PB,0,none⟩),.pointer (some ⟨Br,0,none⟩),.pointer (some ⟨Bw,0,none⟩)] V' fun e w'=>ComeR E W0.heap.size WB DB (stV Bd Bl) v V' (pieceM M l n m' (boxM M n) (k,ps.map P5S.pc)) e w'/\Kw WB v V' w':=by
 obtain ⟨b,q',h1,h2, -⟩:=hp
 cases h1
 have hl:=of_len h.sz h.ok kLevel n
 rw [<- shape_piece]
 exact byShape1_any (h.ne.below hw.low) Bd Bl hw.sc PB Br Bw _ (cfAny _ _ Tryz.func117 (by kernel_rfl) (by kernel_rfl)) n _ m' hm h2 hr hb (boxM M n) _ _ _ (by omega) hw.low.size hps (fun U hU=>boxOf_any (h.ne.below (hw.below hU).low) (h.ds.below (hw.below hU).low).w h.sz WB (bcell (hw.below hU).sc.wb 0 _ rfl) n hn) (fun U hU=>h.style (hw.below hU) n hn kFill) (fun U hU=>h.style (hw.below hU) n hn kRule) (fun U hU=>h.style (hw.below hU) n hn kLevel)
theorem poly_way (h:En E B tg W0 DB MB p M nx c r l B0 rv) {k:Nat} {ps:List P5S} {v:Value} (hps:ps.length<=1000) (n:Int) (hn:Wf64 n) (rest:List (Int × Mv)) (m':Mv) (V':World) (PB:Nat) (hm:m'.ok) (hw:Wks WB DB Bd Bl rv W0 k ps v V') (hp:PathAt V' (some PB) ((n,m') :: rest)) (Br Bw:Nat)
  (hr:V'.cell? ⟨Br,0,none⟩=some (fnV 118 WB)) (hb:V'.heap[Bw]? = some (.cells #[.pointer (some ⟨WB,0,none⟩)] 105)) :
  Calls Tryz.prog 164 #[.pointer (some ⟨PB,0,none⟩),.pointer (some ⟨Br,0,none⟩),.pointer (some ⟨Bw,0,none⟩)] V' fun e w'=>ComeR E W0.heap.size WB DB (stV Bd Bl) v V' (pieceM M l n m' (polyM M n) (k,ps.map P5S.pc)) e w'/\Kw WB v V' w':=by
 obtain ⟨b,q',h1,h2, -⟩:=hp
 cases h1
 have hl:=of_len h.sz h.ok kLevel n
 rw [<- shape_piece]
 exact byShape1_any (h.ne.below hw.low) Bd Bl hw.sc PB Br Bw _ (cfAny _ _ Tryz.func118 (by kernel_rfl) (by kernel_rfl)) n _ m' hm h2 hr hb (polyM M n) _ _ _ (by omega) hw.low.size hps (fun U hU=>polyOf_any (h.ne.below (hw.below hU).low) (h.ds.below (hw.below hU).low).w h.sz WB (bcell (hw.below hU).sc.wb 0 _ rfl) n hn) (fun U hU=>h.style (hw.below hU) n hn kFill) (fun U hU=>h.style (hw.below hU) n hn kRule) (fun U hU=>h.style (hw.below hU) n hn kLevel)
theorem come_cycle (h:En E B tg W0 DB MB p M nx c r l B0 rv) (k:Nat) (ps:List P5S) (v:Value) (V:World) (n n0:Int) (m:Mv) (path:List (Int × Mv)) (q:Nat) (hw:Wks WB DB Bd Bl rv W0 k ps v V) (hp:PathAt V (some q) ((n0,m) :: path)) (hni:n ∈ n0 :: path.map Prod.fst) :
  Calls Tryz.prog 44 #[.pointer (some ⟨WB,0,none⟩),.int .i64 n,.pointer (some ⟨q,0,none⟩)] V fun e w'=>ComeR E W0.heap.size WB DB (stV Bd Bl) v V (.error ⟨9,n⟩) e w'/\Kw WB v V w':=by
 have WI:=within_any V (some q) ((n0,m) :: path) n hp
 have hdec:decide (n ∈ ((n0,m) :: path).map Prod.fst)=true:=decide_eq_true hni
 unfold WiR at WI
 rw [hdec] at WI
 simp only [pV,Option.map_some] at WI
 have e9:=(h.ne.below hw.low).c9
 clear h hw hp hni hdec
 go_enter Tryz.func44,Tryz.ntmps44
 go_wp2_with (go_at_call 82;refine WI.mono ?_;rintro e w1 ⟨rfl,rfl⟩)
 go_ret
 exact ⟨⟨_,rfl,_,Nat.le_refl _,rfl,mbox _ _ _⟩,Kw.of_below (mal _ _)⟩
theorem come_full (h:En E B tg W0 DB MB p M nx c r l B0 rv) (k:Nat) (ps:List P5S) (v:Value) (V:World) (n n0:Int) (m:Mv) (path:List (Int × Mv)) (q:Nat) (hk:100<=k) (hw:Wks WB DB Bd Bl rv W0 k ps v V) (hp:PathAt V (some q) ((n0,m) :: path)) (hni:n ∉ n0 :: path.map Prod.fst) :
  Calls Tryz.prog 44 #[.pointer (some ⟨WB,0,none⟩),.int .i64 n,.pointer (some ⟨q,0,none⟩)] V fun e w'=>ComeR E W0.heap.size WB DB (stV Bd Bl) v V (.error ⟨7,n⟩) e w'/\Kw WB v V w':=by
 have WI:=within_any V (some q) ((n0,m) :: path) n hp
 have hdec:decide (n ∈ ((n0,m) :: path).map Prod.fst)=false:=decide_eq_false hni
 unfold WiR at WI
 rw [hdec] at WI
 simp only [pV,Option.map_some] at WI
 have e7:=(h.ne.below hw.low).c7
 have c2:=bcell hw.sc.wb 2 _ rfl
 have hkz:(100:Int)<=(k:Int):=by omega
 clear h hw hp hni hdec
 go_enter Tryz.func44,Tryz.ntmps44
 go_wp2_with (go_at_call 82;refine WI.mono ?_;rintro e w1 ⟨rfl,rfl⟩)
 go_ret
 exact ⟨⟨_,rfl,_,Nat.le_refl _,rfl,mbox _ _ _⟩,Kw.of_below (mal _ _)⟩
theorem kinds_four (s:Bs):isFour s=false\/s=kBox\/s=kPoly\/s=kGroup\/s=kUse:=by
 unfold isFour
 by_cases h1:s=kBox
 ·exact .inr (.inl h1)
 by_cases h2:s=kPoly
 ·exact .inr (.inr (.inl h2))
 by_cases h3:s=kGroup
 ·exact .inr (.inr (.inr (.inl h3)))
 by_cases h4:s=kUse
 ·exact .inr (.inr (.inr (.inr h4)))
 exact .inl (by simp [h1,h2,h3,h4])
theorem shown_four {n:Int} (h:isFour (nmD M n)=true):(shownE M l n=false)↔(ofM M l kShow n==kNo)=true:=by
 unfold shownE
 rw [h]
 cases ofM M l kShow n==kNo <;> simp
theorem come_any (h:En E B tg W0 DB MB p M nx c r l B0 rv):∀ f,COME E WB DB Bd Bl rv W0 M l f
 | 0=>fun k ps v V n n0 m path q hf hfew hn hw hp hm=>by
  unfold comeM
  by_cases hni:n ∈ n0 :: path.map Prod.fst
  ·rw [if_pos hni];exact come_cycle h k ps v V n n0 m path q hw hp hni
  ·rw [if_neg hni];exact come_full h k ps v V n n0 m path q (by omega) hw hp hni
 | f+1=>fun k ps v V n n0 m path q hf hfew hn hw hp hm=>by
  have IH:=come_any h f
  unfold comeM
  by_cases hni:n ∈ n0 :: path.map Prod.fst
  ·rw [if_pos hni];exact come_cycle h k ps v V n n0 m path q hw hp hni
  rw [if_neg hni]
  by_cases hk:100<=k
  ·rw [if_pos hk];exact come_full h k ps v V n n0 m path q hk hw hp hni
  rw [if_neg hk]
  have hk':k<100:=by omega
  rcases kinds_four (nmD M n) with hf4 | hb | hb | hb | hb
  ·have hs:shownE M l n=false:=by unfold shownE;rw [hf4];rfl
   rw [if_pos hs]
   exact come_none h k ps v V n n0 m path q hk' hn hw hp hni hf4
  ·have h4:isFour (nmD M n)=true:=by rw [hb];decide
   have:=come_box h k ps v V n n0 m path q hk' hn hw hp hni hm hb (fun m'=>pieceM M l n m' (boxM M n) (k+1,ps.map P5S.pc)) (fun m' V' PB h1 h2 h3 Br Bw h5 h6=>box_way h (by omega) n hn _ m' V' PB h1 h2 h3 Br Bw h5 h6)
   simp only [shown_four h4]
   refine this.mono fun e w' hr=>?_
   cases hmv:moveM M n m with
   | error cd=>rw [hmv] at hr;exact hr
   | ok m'=>rw [hmv] at hr;simp only [hb,if_true];exact hr
  ·have h4:isFour (nmD M n)=true:=by rw [hb];decide
   have:=come_poly h k ps v V n n0 m path q hk' hn hw hp hni hm hb (fun m'=>pieceM M l n m' (polyM M n) (k+1,ps.map P5S.pc)) (fun m' V' PB h1 h2 h3 Br Bw h5 h6=>poly_way h (by omega) n hn _ m' V' PB h1 h2 h3 Br Bw h5 h6)
   simp only [shown_four h4]
   refine this.mono fun e w' hr=>?_
   have n1:¬ kPoly=kBox:=by decide
   cases hmv:moveM M n m with
   | error cd=>rw [hmv] at hr;exact hr
   | ok m'=>rw [hmv] at hr;simp only [hb,if_neg n1,if_true];exact hr
  ·have h4:isFour (nmD M n)=true:=by rw [hb];decide
   have:=come_group h k ps v V n n0 m path q hk' hn hw hp hni hm hb (fun m'=>(comeM.kidsM M n).foldlM (fun s x=>comeM M l f x (n :: n0 :: path.map Prod.fst) m' s) (k+1,ps.map P5S.pc)) (fun m' V' PB h1 h2 h3=>showGroup_any h f IH (k+1) ps v V' n m' ((n0,m) :: path) PB (by omega) (by omega) hn h2 h3 h1)
   simp only [shown_four h4]
   refine this.mono fun e w' hr=>?_
   have n1:¬ kGroup=kBox:=by decide
   have n2:¬ kGroup=kPoly:=by decide
   cases hmv:moveM M n m with
   | error cd=>rw [hmv] at hr;exact hr
   | ok m'=>rw [hmv] at hr;simp only [hb,if_neg n1,if_neg n2,if_true];exact hr
  ·have h4:isFour (nmD M n)=true:=by rw [hb];decide
   have:=come_use h k ps v V n n0 m path q hk' hn hw hp hni hm hb (fun m'=>match ledM M n with | none=>.error ⟨10,n⟩ | some x=>comeM M l f x (n :: n0 :: path.map Prod.fst) m' (k+1,ps.map P5S.pc)) (fun m' V' PB h1 h2 h3=>showUse_any h f IH (k+1) ps v V' n m' ((n0,m) :: path) PB (by omega) (by omega) hn h2 h3 h1)
   simp only [shown_four h4]
   refine this.mono fun e w' hr=>?_
   have n1:¬ kUse=kBox:=by decide
   have n2:¬ kUse=kPoly:=by decide
   have n3:¬ kUse=kGroup:=by decide
   cases hmv:moveM M n m with
   | error cd=>rw [hmv] at hr;exact hr
   | ok m'=>rw [hmv] at hr;simp only [hb,if_neg n1,if_neg n2,if_neg n3];exact hr
end
end
end Go.Proofs.YtgphclgmmocdhaaGreatDoor

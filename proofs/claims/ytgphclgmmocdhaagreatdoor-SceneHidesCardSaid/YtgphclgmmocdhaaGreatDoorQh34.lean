/-
  Parts of the proof.
-/
import Derived.Test.YtgphclgmmocdhaaGreatDoorQh33
namespace Go.Proofs.YtgphclgmmocdhaaGreatDoor
section
open Go.RowKit Go.Shelf
set_option maxHeartbeats 4000000
set_option maxRecDepth 20000
def idxI (q:Int->Bool):Nat->List Int->Int
  | _,[] => -1
  | k,x :: l=>if q x then (k:Int) else idxI q (k+1) l
theorem idxI_find (q:Int->Bool):∀ (l:List Int) (k:Nat),(idxI q k l = -1/\l.find? q=none)\/∃ i x,idxI q k l=((k+i:Nat):Int)/\l[i]? = some x/\l.find? q=some x
  | [],_=>.inl ⟨rfl,rfl⟩
  | x :: l,k=>by
    unfold idxI
    rw [List.find?_cons]
    cases hx:q x with
    | true=>exact .inr ⟨0,x,by simp,rfl,rfl⟩
    | false=>
      rcases idxI_find q l (k+1) with ⟨h1,h2⟩ | ⟨i,y,h1,h2,h3⟩
      · exact .inl ⟨by simpa using h1,h2⟩
      · exact .inr ⟨i+1,y,by rw [if_neg (by simp),h1];congr 1;omega,by simpa using h2,h3⟩
theorem ints_at {w:World} {B0:Nat} {v:Value} {l:List Int} (h:w.ownsRow B0 3 1 v l.length (intsV l)):(l=[]/\∃ o c,v=.slice o 0 c)\/∃ g cap,v=.slice (some ⟨g,0,none⟩) l.length cap/\l.length<=cap/\∀ k x,l[k]? = some x->w.cell? ⟨g,k,none⟩=some (.int .i64 x):=by
  obtain ⟨o,cap,hvo,h1,h2,h3,h5⟩:=row_slice h
  cases l with
  | nil=>exact .inl ⟨rfl,_,_,hvo⟩
  | cons x0 r=>
    have AT:∀ (k:Nat) (x:Int),(x0 :: r)[k]? = some x->(intsV (x0 :: r))[k]? = some (.int .i64 x):=fun k x hx=>by
      unfold intsV
      rw [List.getElem?_map,hx]
      rfl
    obtain ⟨g,hg, -⟩:=row_get h 0 _ (AT 0 x0 rfl)
    have hog:=h5 g hg
    subst hvo hog
    refine .inr ⟨g,cap,rfl,by omega,fun k x hx=>?_⟩
    obtain ⟨g1,hg1,c1⟩:=row_get h _ _ (AT k x hx)
    rw [hg] at hg1
    cases hg1
    exact c1
def IxL (q:Int->Bool) (l:List Int) (W:World) (y:Value) (wr:World):Prop:=∃ k:Nat,k<=l.length/\y=.int .i64 k/\idxI q 0 l=idxI q k (l.drop k)/\Below W.heap.size W wr
theorem IndexI_any (q:Int->Bool) (l:List Int) (W:World) (f:Nat) (cv:Array Value) (B0:Nat) (v:Value) (hl:l.length<=1000000) (h:W.ownsRow B0 3 1 v l.length (intsV l))
    (HQ:∀ x ∈ l,∀ V,Below W.heap.size W V->Calls Tryz.prog f (#[.int .i64 x]++cv) V fun e w'=>e=.returned (.bool (q x))/\Below V.heap.size V w') (hf:f=220) (hcv:∃ a b,cv=#[.pointer (some a),.pointer (some b)]) :
    Calls Tryz.prog 112 #[v,.func (.func f) #[] cv] W fun e w'=>e=.returned (.int .i64 (idxI q 0 l))/\Below W.heap.size W w':=by
  subst hf
  obtain ⟨a,b,rfl⟩:=hcv
  have HH:Hid (∀ x ∈ l,∀ V,Below W.heap.size W V->Calls Tryz.prog 220 #[.int .i64 x,.pointer (some a),.pointer (some b)] V fun e w'=>e=.returned (.bool (q x))/\Below V.heap.size V w'):=HQ
  clear HQ
  rcases ints_at h with ⟨rfl,o,c,rfl⟩ | ⟨g,cap,rfl,hcap,hc⟩
  · clear h
    go_enter Tryz.func112,Tryz.ntmps112
    go_wp2_with fail
    go_loopw [8] (fun y wr=>y=.int .i64 0/\wr=W) (fun _ _=>0)
    case atStart=>exact ⟨rfl,rfl⟩
    case round=>
      obtain ⟨rfl,rfl⟩:=hrel
      go_wp2_with fail
      go_ret
      exact ⟨rfl,Below.refl _ _⟩
  · have H4:Hid (∀ k x,l[k]? = some x->W.cell? ⟨g,k,none⟩=some (.int .i64 x)):=hc
    clear h hc
    have hcap':(l.length:Int)<=(cap:Int):=by omega
    go_enter Tryz.func112,Tryz.ntmps112
    go_wp2_with fail
    go_loopw [8] (fun y wr=>IxL q l W y wr) (fun y _=>l.length - (intOf y).toNat)
    case atStart=>exact ⟨0,Nat.zero_le _,rfl,rfl,Below.refl _ _⟩
    case round=>
      obtain ⟨k,hk,rfl,hf,hb⟩:=hrel
      have HF:Hid (idxI q 0 l=idxI q k (l.drop k)):=hf
      clear hf
      by_cases hlt:k<l.length
      · have hlt':(k:Int)<(l.length:Int):=by omega
        obtain ⟨x,hx,hd⟩:=drop_at hlt
        have k0:=H4.out k x hx
        have k0:=(hb.cell (cell_lt k0)).trans k0
        have HS:=HH.out x (List.mem_of_getElem? hx) wr hb
        have HD:Hid (l.drop k=x :: l.drop (k+1)):=hd
        clear hx hd
        cases hs:q x with
        | true=>
          rw [hs] at HS
          have hf':Hid (idxI q 0 l=k):=by show _=_;rw [HF.out,HD.out];unfold idxI;rw [if_pos hs]
          clear hs
          go_wp2_with (go_at_call 220;refine HS.mono ?_;rintro e w1 ⟨rfl,hb1⟩)
          go_ret
          exact ⟨by rw [hf'.out];rfl,mbel hb hb1⟩
        | false=>
          rw [hs] at HS
          have hf':Hid (idxI q 0 l=idxI q (k+1) (l.drop (k+1))):=by show _=_;rw [HF.out,HD.out,idxI,if_neg (by rw [hs];simp)]
          clear hs
          go_wp2_with (go_at_call 220;refine HS.mono ?_;rintro e w1 ⟨rfl,hb1⟩)
          go_roundw
          case rel=>exact ⟨k+1,by omega,by go_num,hf'.out,mbel hb hb1⟩
          case measure=>simp [intOf];omega
      · obtain rfl:k=l.length:=by omega
        have hf':Hid (idxI q 0 l = -1):=by show _=_;rw [HF.out,List.drop_length];rfl
        go_wp2_with fail
        go_ret
        exact ⟨by rw [hf'.out];rfl,hb⟩
section
variable {E:Nat->Addr} {B:Nat} {tg:Tags} {W:World} {DB MB:Nat} {p:Int->Option Nat} {M:Dm} {nx c:Nat} {r:Int->Nat}
theorem led1_any (hd:DocW B tg W DB MB p M nx c) (WB BW BO:Nat) (v:Bs) (hw:W.cell? ⟨WB,0,none⟩=some (.pointer (some ⟨DB,0,none⟩))) (h1:W.cell? ⟨BW,0,none⟩=some (.pointer (some ⟨WB,0,none⟩))) (h2:W.cell? ⟨BO,0,none⟩=some (bV v)) (n:Int) (hn:Wf64 n) :
    Calls Tryz.prog 220 #[.int .i64 n,.pointer (some ⟨BW,0,none⟩),.pointer (some ⟨BO,0,none⟩)] W fun e w'=>e=.returned (.bool (atM M n kId==some v))/\Below W.heap.size W w':=by
  have AT:=Attr_doc hd n hn kId
  rw [attD_atM] at AT
  have H2:=fun V (hV:Below W.heap.size W V)=>(hV.cell (cell_lt h2)).trans h2
  clear hd h2
  cases ha:atM M n kId with
  | none=>
    rw [ha] at AT
    clear ha
    go_enter Tryz.func220,Tryz.ntmps220
    go_wp2_with (go_at_call 28;refine AT.mono ?_;rintro e w1 ⟨rfl,b1⟩)
    go_ret
    exact ⟨rfl,b1⟩
  | some s=>
    rw [ha] at AT
    have hq:=ba_toL s v
    have hs:(some s==some v)=(s==v):=rfl
    rw [hs]
    clear ha hs
    cases hsv:(s==v) with
    | true=>
      rw [hsv] at hq
      go_enter Tryz.func220,Tryz.ntmps220
      go_wp2_with (go_at_call 28;refine AT.mono ?_;rintro e w1 ⟨rfl,b1⟩;have k2:=H2 w1 b1)
      go_ret
      exact ⟨rfl,b1⟩
    | false=>
      rw [hsv] at hq
      go_enter Tryz.func220,Tryz.ntmps220
      go_wp2_with (go_at_call 28;refine AT.mono ?_;rintro e w1 ⟨rfl,b1⟩;have k2:=H2 w1 b1)
      go_ret
      exact ⟨rfl,b1⟩
theorem DocS.all11 (h:DocS B tg W DB MB p M nx c r):Dp M 11 0/\(fromL M 11 0).length<=100:=by
  obtain ⟨e0,he0, -⟩:=h.d.root
  have hp:=h.d.dp 11 0 e0 he0 (by omega)
  refine ⟨hp,?_⟩
  unfold fromL
  rw [h.d.count h.n hp]
  exact h.le
def LdR (x:Option Int) (e:Ending):Prop:=match x with
  | some k=>e=.returned (.tuple #[.int .i64 k,.bool true])
  | none=>e=.returned (.tuple #[.int .i64 0,.bool false])
theorem wf_all (h:DocS B tg W DB MB p M nx c r):∀ x ∈ fromL M 11 0,Wf64 x:=fun x hx=>by
  obtain ⟨e,he⟩:=((h.d.mem h.all11.1).1 hx).in_
  have h1:=h.w.dom x e he
  have h2:=h.w.few
  exact WalkArith.wf_i64 (by omega)
theorem ledTo_any (h:DocS B tg W DB MB p M nx c r) (WB:Nat) (hw:W.cell? ⟨WB,0,none⟩=some (.pointer (some ⟨DB,0,none⟩))) (n:Int) (hn:Wf64 n) :
    Calls Tryz.prog 171 #[.pointer (some ⟨WB,0,none⟩),.int .i64 n] W fun e w'=>LdR (ledM M n) e/\Below W.heap.size W w':=by
  have b0:=mal W (.cells #[.pointer (some ⟨WB,0,none⟩)] 105)
  have K0:=mbox W #[.pointer (some ⟨WB,0,none⟩)] 105
  have AT:=Attr_doc (h.w.below b0) n hn kOf
  have hw0:=(b0.cell (cell_lt hw)).trans hw
  rw [attD_atM] at AT
  have HS:Hid (DocS B tg W DB MB p M nx c r):=h
  unfold ledM
  cases ha:atM M n kOf with
  | none=>
    rw [ha] at AT
    clear ha h
    go_enter Tryz.func171,Tryz.ntmps171
    go_wp2_with (go_at_call 28;refine AT.mono ?_;rintro e w1 ⟨rfl,b1⟩)
    go_ret2
    exact ⟨rfl,mbel (mbel b0 b1) (mal w1 _)⟩
  | some s=>
    rw [ha] at AT
    have AT:Calls Tryz.prog 28 #[.pointer (some ⟨DB,0,none⟩),.int .i64 n,.string ⟨#[111,102]⟩] (W.alloc (.cells #[.pointer (some ⟨WB,0,none⟩)] 105)) fun r w'=>r=.returned (.tuple #[bV s,.bool true])/\Below (W.alloc (.cells #[.pointer (some ⟨WB,0,none⟩)] 105)).heap.size (W.alloc (.cells #[.pointer (some ⟨WB,0,none⟩)] 105)) w':=AT
    clear ha h
    dsimp only
    obtain ⟨L,hL⟩:∃ L,fromL M 11 0=L:=⟨_,rfl⟩
    have hAL:allM M=L:=hL
    rw [hAL]
    have hwfL:=wf_all HS.out
    have hall:=HS.out.all11.2
    rw [hL] at hwfL hall
    have HLL:Hid (fromL M 11 0=L):=hL
    clear hL hAL
    obtain ⟨ans,hans⟩:∃ x,L.find? (fun k=>atM M k kId==some s)=x:=⟨_,rfl⟩
    rw [hans]
    have HANS:Hid (L.find? (fun k=>atM M k kId==some s)=ans):=hans
    clear hans
    go_enter Tryz.func171,Tryz.ntmps171
    go_upto_region 4 with (go_at_call 28;refine AT.mono ?_;rintro e w1 ⟨rfl,b1⟩)
    have b2:=mal w1 (.cells #[bV s] 9)
    have KO:=mbox w1 #[bV s] 9
    obtain ⟨V,hV⟩:∃ V,w1.alloc (.cells #[bV s] 9)=V:=⟨_,rfl⟩
    obtain ⟨BO,hBO⟩:∃ b,w1.heap.size=b:=⟨_,rfl⟩
    rw [hV] at b2 KO ⊢
    rw [hBO] at KO ⊢
    have bV1:=mbel b1 b2
    have bWV:=mbel b0 bV1
    have KW:=(bV1.block _ (blk_lt K0)).trans K0
    have hwV:=(bWV.cell (cell_lt hw)).trans hw
    have SV:=HS.out.below bWV
    have AL:=All_doc SV.w 11 (by decide) SV.all11.1 (by have:=SV.all11.2;omega)
    rw [HLL.out] at AL
    have c0:=bcell KW 0 _ rfl
    clear AT hV hBO b1 b2 b0 K0 hw0 bV1
    go_upto_region 5 with (go_at_call 219;refine AL.mono ?_;rintro e w2 ⟨o,k,rfl,b3,own⟩)
    clear AL
    have B2:=mbel bWV b3
    have hw2:=(b3.cell (cell_lt hwV)).trans hwV
    have KW2:=(b3.block _ (blk_lt KW)).trans KW
    have KO2:=(b3.block _ (blk_lt KO)).trans KO
    have IX:=IndexI_any (fun k=>atM M k kId==some s) L w2 220 #[.pointer (some ⟨W.heap.size,0,none⟩),.pointer (some ⟨BO,0,none⟩)] _ _ (by omega) own
      (fun x hx V2 hV2=>led1_any (HS.out.below (mbel B2 hV2)).w WB W.heap.size BO s ((hV2.cell (cell_lt hw2)).trans hw2) (bcell ((hV2.block _ (blk_lt KW2)).trans KW2) 0 _ rfl) (bcell ((hV2.block _ (blk_lt KO2)).trans KO2) 0 _ rfl) x (hwfL x hx)) rfl ⟨_,_,rfl⟩
    have HI:=idxI_find (fun k=>atM M k kId==some s) L 0
    have HOWN:Hid (w2.ownsRow (V.heap.size+1) 3 1 (.slice o L.length k) L.length (intsV L)):=own
    have han:L.find? (fun k=>atM M k kId==some s)=ans:=HANS.out
    rw [han] at HI
    clear own han
    rcases HI with ⟨h1,rfl⟩ | ⟨i,x,h1,h2,rfl⟩
    · rw [h1] at IX
      clear h1
      go_wp2_with (go_at_call 112;refine IX.mono ?_;rintro e w3 ⟨rfl,b4⟩)
      go_ret2
      exact ⟨rfl,mbel B2 b4⟩
    · rw [h1,Nat.zero_add] at IX
      have hil:=(List.getElem?_eq_some_iff.1 h2).1
      have R3:∀ w3,Below w2.heap.size w2 w3->∃ g,o=some ⟨g,0,none⟩/\w3.cell? ⟨g,i,none⟩=some (.int .i64 x):=fun w3 b4=>by
        rcases ints_at HOWN.out with ⟨he, -⟩ | ⟨g,cap,hv, -,hc⟩
        · rw [he] at hil;simp at hil
        · injection hv with hv1
          exact ⟨g,hv1,(b4.cell (cell_lt (hc i x h2))).trans (hc i x h2)⟩
      obtain ⟨g,rfl, -⟩:=R3 w2 (Below.refl _ _)
      have hiz:(i:Int)<(L.length:Int):=by omega
      clear h1 h2
      go_wp2_with (go_at_call 112;refine IX.mono ?_;rintro e w3 ⟨rfl,b4⟩;obtain ⟨g',hg',cg⟩:=R3 w3 b4;cases hg')
      go_ret2
      exact ⟨rfl,mbel B2 b4⟩
end
end
section
open Go.RowKit Go.Shelf
set_option maxHeartbeats 2000000
abbrev stV (Bd Bl:Nat):Value:=.func (.func 42) #[] #[.pointer (some ⟨Bd,0,none⟩),.pointer (some ⟨Bl,0,none⟩)]
section
variable {E:Nat->Addr} {B:Nat} {tg:Tags} {W:World} {DB MB:Nat} {p:Int->Option Nat} {M:Dm} {nx c:Nat} {r:Int->Nat}
theorem style_any (h:DocW B tg W DB MB p M nx c) (hw:Wd M r) (hF:FitD M) (l:List Rl) (hok:∀ x ∈ l,RlOk x) (B0:Nat) (v:Value) (hl:W.ownsRow B0 180 3 v l.length (cellsR l)) (Bd Bl:Nat) (h1:W.cell? ⟨Bd,0,none⟩=some (.pointer (some ⟨DB,0,none⟩))) (h2:W.cell? ⟨Bl,0,none⟩=some v) (n:Int) (hn:Wf64 n) (nm:Bs) :
  Calls Tryz.prog 42 #[.int .i64 n,bV nm,.pointer (some ⟨Bd,0,none⟩),.pointer (some ⟨Bl,0,none⟩)] W fun e w'=>e=.returned (bV (ofM M l nm n))/\Below W.heap.size W w':=by
 have OF:=Of_any h hw hF l hok B0 v hl n hn nm
 obtain ⟨ov,kv,rfl⟩:=own_slice hl
 clear h hw hF hok hl
 go_enter Tryz.func42,Tryz.ntmps42
 go_wp2_with (go_at_call 43;refine OF.mono ?_;rintro e w1 ⟨rfl,b1⟩)
 go_ret
 exact ⟨rfl,b1⟩
end
structure P5S where
 nd:Int
 o:Option Addr
 cap:Nat
 pts:List Qt
 fill:Bs
 rule:Bs
 lv:Int
def P5S.pc (x:P5S):Pc:=⟨x.nd,x.pts,x.fill,x.rule,x.lv⟩
abbrev ptsV (x:P5S):Value:=.slice x.o x.pts.length x.cap
def cellsS:List P5S->List Value
 | []=>[]
 | x :: l=>.int .i64 x.nd :: ptsV x :: bV x.fill :: bV x.rule :: .int .i64 x.lv :: cellsS l
theorem cellsS_len:∀ l:List P5S,(cellsS l).length=l.length * 5
 | []=>rfl
 | x :: l=>by simp [cellsS,cellsS_len l];omega
theorem cellsS_app:∀ l m:List P5S,cellsS (l++m)=cellsS l++cellsS m
 | [],_=>rfl
 | x :: l,m=>by simp [cellsS,cellsS_app l m]
structure Sc (base WB DB:Nat) (sf:Value) (k:Nat) (ps:List P5S) (v:Value) (V:World):Prop where
 wb:V.heap[WB]? = some (.cells #[.pointer (some ⟨DB,0,none⟩),sf,.int .i64 k,v] 109)
 own:V.ownsRow base 45 5 v ps.length (cellsS ps)
 pts:∀ x ∈ ps,OwnP V base (ptsV x) x.pts
 rt:∀ x ∈ ps,∀ a ∈ x.pts,chkP a=0
structure Kw (WB:Nat) (v:Value) (V V':World):Prop where
 os:V'.os=V.os
 tape:V'.tape=V.tape
 output:V'.output=V.output
 size:V.heap.size<=V'.heap.size
 block:∀ b,b<V.heap.size->b≠WB->v.ownBlock≠some b->V'.heap[b]? = V.heap[b]?
theorem Kw.refl (WB:Nat) (v:Value) (V:World):Kw WB v V V:=⟨rfl,rfl,rfl,Nat.le_refl _,fun _ _ _ _=>rfl⟩
theorem Kw.of_below {WB:Nat} {v:Value} {V V':World} (h:Below V.heap.size V V'):Kw WB v V V':=⟨h.os,h.tape,h.output,h.size,fun b hb _ _=>h.block b hb⟩
theorem Kw.trans {WB:Nat} {v v':Value} {V V' V'':World} (h:Kw WB v V V') (hv:v'.ownBlock=v.ownBlock\/∀ b,v'.ownBlock=some b->V.heap.size<=b) (h':Kw WB v' V' V''):Kw WB v V V'':=
 ⟨h'.os.trans h.os,h'.tape.trans h.tape,h'.output.trans h.output,Nat.le_trans h.size h'.size,fun b hb h1 h2=>(h'.block b (Nat.lt_of_lt_of_le hb h.size) h1 (fun e=>by
  rcases hv with hv | hv
  ·exact h2 (hv ▸ e)
  ·have:=hv b e;omega)).trans (h.block b hb h1 h2)⟩
theorem own_type {w:World} {base k n:Nat} {t:TypeId} {v:Value} {xs:List Value} (h:w.ownsRow base t k v n xs):∀ g,v.ownBlock=some g->∃ cs f,w.heap[g]? = some (.cells cs t f)/\base<=g:=fun g hg=>by
 rcases h.2 with ⟨h1, -⟩ | ⟨g',cap,cur,h3,h4,h5, -⟩
 ·rw [h1] at hg;cases hg
 ·rw [h3] at hg
  cases hg
  exact ⟨_,_,h5,h4⟩
section
variable {base WB DB:Nat} {sf:Value} {k:Nat} {ps:List P5S} {v:Value} {V V':World}
theorem Sc.keep (h:Sc base WB DB sf k ps v V) (hk:Kw WB v V V') {b:Nat} {cs:Array Value} {t:TypeId} {f:Nat × Nat} (hb:V.heap[b]? = some (.cells cs t f)) (h1:t≠109) (h2:t≠45):V'.heap[b]? = some (.cells cs t f):=by
 refine (hk.block b (blk_lt hb) ?_ ?_).trans hb
 ·rintro rfl
  rw [h.wb] at hb
  cases hb
  exact h1 rfl
 ·intro e
  obtain ⟨cs',f',h3, -⟩:=own_type h.own b e
  rw [h3] at hb
  cases hb
  exact h2 rfl
theorem Sc.low (h:Sc base WB DB sf k ps v V) (hk:Kw WB v V V') (hW:base<=WB) (hb:base<=V.heap.size):Below base V V':=
 ⟨hk.os,hk.tape,hk.output,hk.size,fun j hj=>hk.block j (by omega) (by omega) (fun e=>by
  obtain ⟨-, -, -,h3⟩:=own_type h.own j e
  omega)⟩
theorem Sc.path (h:Sc base WB DB sf k ps v V) (hk:Kw WB v V V') {q:Option Nat} {l:List (Int × Mv)} (hp:PathAt V q l):PathAt V' q l:=
 PathAt.keep (fun b t ht ⟨c,hc⟩=>by subst hc;exact h.keep hk ht (by decide) (by decide)) hp
theorem Sc.below (h:Sc base WB DB sf k ps v V) (hb:Below V.heap.size V V'):Sc base WB DB sf k ps v V':=
 ⟨(hb.block _ (blk_lt h.wb)).trans h.wb,own_bel h.own hb,fun x hx=>(h.pts x hx).keep hb,h.rt⟩
end
end
end Go.Proofs.YtgphclgmmocdhaaGreatDoor

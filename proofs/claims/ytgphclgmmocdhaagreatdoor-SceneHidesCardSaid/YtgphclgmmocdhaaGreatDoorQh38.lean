/-
  Parts of the proof.
-/
import Derived.Test.YtgphclgmmocdhaaGreatDoorQh37
namespace Go.Proofs.YtgphclgmmocdhaaGreatDoor
section
open Go.RowKit Go.Shelf
set_option maxHeartbeats 8000000
set_option maxRecDepth 20000
section
variable {E:Nat->Addr} {B:Nat} {tg:Tags} {W0:World} {DB MB:Nat} {p:Int->Option Nat} {M:Dm} {nx c:Nat} {r:Int->Nat} {l:List Rl} {B0:Nat} {rv:Value} {WB Bd Bl:Nat}
theorem come_poly (h:En E B tg W0 DB MB p M nx c r l B0 rv) (k:Nat) (ps:List P5S) (v:Value) (V:World) (n n0:Int) (m:Mv) (path:List (Int × Mv)) (q:Nat) (hk:k<100) (hn:Wf64 n) (hw:Wks WB DB Bd Bl rv W0 k ps v V) (hp:PathAt V (some q) ((n0,m) :: path)) (hni:n ∉ n0 :: path.map Prod.fst) (hm:m.ok) (hnm:nmD M n=kPoly) (res:Mv->Except Ft (Nat × List Pc))
    (SH:∀ (m':Mv) (V':World) (PB:Nat),m'.ok->Wks WB DB Bd Bl rv W0 (k+1) ps v V'->PathAt V' (some PB) ((n,m') :: (n0,m) :: path)->∀ (Br Bw:Nat),V'.cell? ⟨Br,0,none⟩=some (fnV 118 WB)->V'.heap[Bw]? = some (.cells #[.pointer (some ⟨WB,0,none⟩)] 105)->Calls Tryz.prog 164 #[.pointer (some ⟨PB,0,none⟩),.pointer (some ⟨Br,0,none⟩),.pointer (some ⟨Bw,0,none⟩)] V' fun e w'=>ComeR E W0.heap.size WB DB (stV Bd Bl) v V' (res m') e w'/\Kw WB v V' w') :
    Calls Tryz.prog 44 #[.pointer (some ⟨WB,0,none⟩),.int .i64 n,.pointer (some ⟨q,0,none⟩)] V fun e w'=>ComeR E W0.heap.size WB DB (stV Bd Bl) v V (if (ofM M l kShow n==kNo)=true then .ok (k+1,ps.map P5S.pc) else match moveM M n m with | .error c=>.error ⟨kindC c,n⟩ | .ok m'=>res m') e w'/\Kw WB v V w':=by
  have WI:=within_any V (some q) ((n0,m) :: path) n hp
  have hdec:decide (n ∈ ((n0,m) :: path).map Prod.fst)=false:=decide_eq_false hni
  unfold WiR at WI
  rw [hdec] at WI
  simp only [pV,Option.map_some] at WI
  replace WI:Calls Tryz.prog 82 #[.pointer (some ⟨q,0,none⟩),.int .i64 n] V fun e w'=>e=.returned (.bool false)/\V=w':=WI.mono fun e w' h=>⟨h.1,h.2.symm⟩
  obtain ⟨hw1,hk1⟩:=hw.count
  have NA:=Name_doc (h.ds.below hw1.low).w n hn
  have c2:=bcell hw.sc.wb 2 _ rfl
  have f2:=bfrozQ hw.sc.wb 2
  have c0:=bcell hw1.sc.wb 0 _ rfl
  have c1:=bcell hw1.sc.wb 1 _ rfl
  have hkz:(k:Int)<100:=by omega
  have fnn:=fn_none
  have fns:=fn_some
  have NA':Calls Tryz.prog 76 #[.pointer (some ⟨DB,0,none⟩),.int .i64 n] (V.setCell ⟨WB,2,none⟩ (.int .i64 ((k:Int)+1))) fun r w'=>r=.returned (bV kPoly)/\w'=(V.setCell ⟨WB,2,none⟩ (.int .i64 ((k:Int)+1))):=by rw [<- hnm];exact NA
  have WY:=way_poly WB (V.setCell ⟨WB,2,none⟩ (.int .i64 ((k:Int)+1)))
  have ST:=fun w1 (b1:Below (V.setCell ⟨WB,2,none⟩ (.int .i64 ((k:Int)+1))).heap.size (V.setCell ⟨WB,2,none⟩ (.int .i64 ((k:Int)+1))) w1)=>h.style (hw1.below b1) n hn kShow
  have HW1:Hid (Wks WB DB Bd Bl rv W0 (k+1) ps v (V.setCell ⟨WB,2,none⟩ (.int .i64 ((k:Int)+1)))):=hw1
  have HK1:Hid (Kw WB v V (V.setCell ⟨WB,2,none⟩ (.int .i64 ((k:Int)+1)))):=hk1
  have C1:Hid (∀ w1,Below (V.setCell ⟨WB,2,none⟩ (.int .i64 ((k:Int)+1))).heap.size (V.setCell ⟨WB,2,none⟩ (.int .i64 ((k:Int)+1))) w1->w1.cell? ⟨WB,1,none⟩=some (stV Bd Bl)):=(fun w1 b1=>(b1.cell (cell_lt c1)).trans c1:∀ w1,Below (V.setCell ⟨WB,2,none⟩ (.int .i64 ((k:Int)+1))).heap.size (V.setCell ⟨WB,2,none⟩ (.int .i64 ((k:Int)+1))) w1->w1.cell? ⟨WB,1,none⟩=some (stV Bd Bl))
  have HH:Hid (En E B tg W0 DB MB p M nx c r l B0 rv):=h
  have HP1:Hid (PathAt (V.setCell ⟨WB,2,none⟩ (.int .i64 ((k:Int)+1))) (some q) ((n0,m) :: path)):=(hw.sc.path hk1 hp:PathAt (V.setCell ⟨WB,2,none⟩ (.int .i64 ((k:Int)+1))) (some q) ((n0,m) :: path))
  have HM:Hid m.ok:=hm
  have hq:=ba_toL (ofM M l kShow n) kNo
  clear NA hw hp hni hw1 hk1 h hnm hdec hm
  generalize ofM M l kShow n=s at ST hq ⊢
  cases hs:(s==kNo) with
  | true=>
    rw [hs] at hq
    rw [if_pos rfl]
    unfold kNo at hq hs
    unfold kShow at ST
    clear SH
    go_enter Tryz.func44,Tryz.ntmps44
    go_wp2_with (first | (go_at_call 82;refine WI.mono ?_;rintro e w1 ⟨rfl,rfl⟩) | (go_at_call 76;refine NA'.mono ?_;rintro e w1 ⟨rfl,rfl⟩) | (go_at_call 83;refine WY.mono ?_;rintro e w1 ⟨Br,Bw,rfl,hBr,hBw,b1⟩;have k1:=C1.out _ b1;have ST1:=ST _ b1) | (go_at_call 42;refine ST1.mono ?_;rintro e w2 ⟨rfl,b2⟩))
    go_ret
    have b12:=mbel b1 b2
    exact ⟨⟨rfl,ps,v,rfl,(HW1.out.below b12).sc,.inl rfl⟩,HK1.out.trans (.inl rfl) (Kw.of_below b12)⟩
  | false=>
    rw [hs] at hq
    rw [if_neg (by simp)]
    unfold kNo at hq hs
    unfold kShow at ST
    have MO:∀ w2,Below (V.setCell ⟨WB,2,none⟩ (.int .i64 ((k:Int)+1))).heap.size (V.setCell ⟨WB,2,none⟩ (.int .i64 ((k:Int)+1))) w2->Calls Tryz.prog 84 #[.pointer (some ⟨WB,0,none⟩),.int .i64 n,.pointer (some ⟨q,0,none⟩)] w2 fun e w'=>MvR E (moveM M n m) e w'/\Below w2.heap.size w2 w':=fun w2 b2=>by
      obtain ⟨b,q',h1,h2, -⟩:=HW1.out.sc.path (Kw.of_below b2) HP1.out
      cases h1
      exact moveOf_any (HH.out.ne.below (HW1.out.below b2).low) (HH.out.ds.below (HW1.out.below b2).low).w HH.out.sz WB (bcell (HW1.out.below b2).sc.wb 0 _ rfl) n hn q n0 (.pointer (q'.map fun x=>⟨x,0,none⟩)) m HM.out h2
    obtain ⟨mo,hmo⟩:∃ x,moveM M n m=x:=⟨_,rfl⟩
    rw [hmo] at MO ⊢
    cases mo with
    | error cd=>
      clear SH
      have FO:=fun w3 (hN:NE E w3) ev (hev:ErC E cd ev w3)=>faultOf_any hN hev n
      have MO':∀ w2,Below (V.setCell ⟨WB,2,none⟩ (.int .i64 ((k:Int)+1))).heap.size (V.setCell ⟨WB,2,none⟩ (.int .i64 ((k:Int)+1))) w2->Calls Tryz.prog 84 #[.pointer (some ⟨WB,0,none⟩),.int .i64 n,.pointer (some ⟨q,0,none⟩)] w2 fun e w'=>∃ ev,e=.returned (.tuple #[mv .zero,ev])/\ErC E cd ev w'/\Below w2.heap.size w2 w':=fun w2 b2=>(MO w2 b2).mono fun e w' ⟨⟨ev,h1,h2⟩,h3⟩=>⟨ev,h1,h2,h3⟩
      have NN:Hid (∀ w3,Below (V.setCell ⟨WB,2,none⟩ (.int .i64 ((k:Int)+1))).heap.size (V.setCell ⟨WB,2,none⟩ (.int .i64 ((k:Int)+1))) w3->NE E w3):=(fun w3 b3=>HH.out.ne.below (HW1.out.below b3).low:∀ w3,Below (V.setCell ⟨WB,2,none⟩ (.int .i64 ((k:Int)+1))).heap.size (V.setCell ⟨WB,2,none⟩ (.int .i64 ((k:Int)+1))) w3->NE E w3)
      clear MO hmo
      go_enter Tryz.func44,Tryz.ntmps44
      go_upto_region 10 with (first | (go_at_call 82;refine WI.mono ?_;rintro e w1 ⟨rfl,rfl⟩) | (go_at_call 76;refine NA'.mono ?_;rintro e w1 ⟨rfl,rfl⟩) | (go_at_call 83;refine WY.mono ?_;rintro e w1 ⟨Br,Bw,rfl,hBr,hBw,b1⟩;have k1:=C1.out _ b1;have ST1:=ST _ b1) | (go_at_call 42;refine ST1.mono ?_;rintro e w2 ⟨rfl,b2⟩;have b12:=mbel b1 b2;have MO2:=MO' w2 b12) | (go_at_call 84;refine MO2.mono ?_;rintro e w3 ⟨ev,rfl,hev,b3⟩))
      have b123:=mbel b12 b3
      have HV:=hev
      obtain ⟨-, -,hv2⟩:=hev
      rcases hv2 with rfl | ⟨pb,po,rfl, -⟩
      · go_wp2_with (go_at_call 85;refine (FO _ ?_ _ ?_).mono ?_;exact NN.out _ (mbel b123 (mal _ _));exact HV.below (mal _ _);rintro e w5 ⟨u,rfl,hf,b5⟩)
        go_ret
        have bb:=mbel (mbel b123 (mal _ _)) b5
        exact ⟨⟨u,rfl,hf.low (Nat.le_trans HK1.out.size (mbel b123 (mal _ _)).size)⟩,HK1.out.trans (.inl rfl) (Kw.of_below bb)⟩
      · go_wp2_with (go_at_call 85;refine (FO _ ?_ _ ?_).mono ?_;exact NN.out _ (mbel b123 (mal _ _));exact HV.below (mal _ _);rintro e w5 ⟨u,rfl,hf,b5⟩)
        go_ret
        have bb:=mbel (mbel b123 (mal _ _)) b5
        exact ⟨⟨u,rfl,hf.low (Nat.le_trans HK1.out.size (mbel b123 (mal _ _)).size)⟩,HK1.out.trans (.inl rfl) (Kw.of_below bb)⟩
    | ok m'=>
      have hm':Hid m'.ok:=moveM_ok HM.out hmo
      have MO':∀ w2,Below (V.setCell ⟨WB,2,none⟩ (.int .i64 ((k:Int)+1))).heap.size (V.setCell ⟨WB,2,none⟩ (.int .i64 ((k:Int)+1))) w2->Calls Tryz.prog 84 #[.pointer (some ⟨WB,0,none⟩),.int .i64 n,.pointer (some ⟨q,0,none⟩)] w2 fun e w'=>e=.returned (.tuple #[mv m',.nilIface])/\Below w2.heap.size w2 w':=fun w2 b2=>(MO w2 b2).mono fun e w' ⟨h1,h3⟩=>⟨h1,h3⟩
      have HSH:Hid (∀ (V':World) (PB:Nat),Wks WB DB Bd Bl rv W0 (k+1) ps v V'->PathAt V' (some PB) ((n,m') :: (n0,m) :: path)->∀ (Br Bw:Nat),V'.cell? ⟨Br,0,none⟩=some (fnV 118 WB)->V'.heap[Bw]? = some (.cells #[.pointer (some ⟨WB,0,none⟩)] 105)->Calls Tryz.prog 164 #[.pointer (some ⟨PB,0,none⟩),.pointer (some ⟨Br,0,none⟩),.pointer (some ⟨Bw,0,none⟩)] V' fun e w'=>∃ u,e=.returned u/\Hid (ComeR E W0.heap.size WB DB (stV Bd Bl) v V' (res m') (.returned u) w'/\Kw WB v V' w')):=(fun V' PB h1 h2 Br Bw h3 h4=>(SH m' V' PB hm'.out h1 h2 Br Bw h3 h4).mono fun e w' h=>by
        obtain ⟨u,rfl⟩:=h.1.ret
        exact ⟨u,rfl,h⟩:∀ (V':World) (PB:Nat),Wks WB DB Bd Bl rv W0 (k+1) ps v V'->PathAt V' (some PB) ((n,m') :: (n0,m) :: path)->∀ (Br Bw:Nat),V'.cell? ⟨Br,0,none⟩=some (fnV 118 WB)->V'.heap[Bw]? = some (.cells #[.pointer (some ⟨WB,0,none⟩)] 105)->Calls Tryz.prog 164 #[.pointer (some ⟨PB,0,none⟩),.pointer (some ⟨Br,0,none⟩),.pointer (some ⟨Bw,0,none⟩)] V' fun e w'=>∃ u,e=.returned u/\Hid (ComeR E W0.heap.size WB DB (stV Bd Bl) v V' (res m') (.returned u) w'/\Kw WB v V' w'))
      clear MO hmo SH
      go_enter Tryz.func44,Tryz.ntmps44
      go_upto_region 12 with (first | (go_at_call 82;refine WI.mono ?_;rintro e w1 ⟨rfl,rfl⟩) | (go_at_call 76;refine NA'.mono ?_;rintro e w1 ⟨rfl,rfl⟩) | (go_at_call 83;refine WY.mono ?_;rintro e w1 ⟨Br,Bw,rfl,hBr,hBw,b1⟩;have k1:=C1.out _ b1;have ST1:=ST _ b1) | (go_at_call 42;refine ST1.mono ?_;rintro e w2 ⟨rfl,b2⟩;have b12:=mbel b1 b2;have MO2:=MO' w2 b12) | (go_at_call 84;refine MO2.mono ?_;rintro e w3 ⟨rfl,b3⟩))
      have b123:=mbel b12 b3
      have bU:=mal w3 (.cells #[.int .i64 m'.a.n,.int .i64 m'.a.d,.int .i64 m'.b.n,.int .i64 m'.b.d,.int .i64 m'.c.n,.int .i64 m'.c.d,.int .i64 m'.d.n,.int .i64 m'.d.d,.int .i64 m'.e.n,.int .i64 m'.e.d,.int .i64 m'.f.n,.int .i64 m'.f.d] 113)
      have KP:=mbox (w3.alloc (.cells #[.int .i64 m'.a.n,.int .i64 m'.a.d,.int .i64 m'.b.n,.int .i64 m'.b.d,.int .i64 m'.c.n,.int .i64 m'.c.d,.int .i64 m'.d.n,.int .i64 m'.d.d,.int .i64 m'.e.n,.int .i64 m'.e.d,.int .i64 m'.f.n,.int .i64 m'.f.d] 113)) (plA n (.pointer (some ⟨q,0,none⟩)) m') 116
      have b5:=mbel b123 (mbel bU (mal (w3.alloc (.cells #[.int .i64 m'.a.n,.int .i64 m'.a.d,.int .i64 m'.b.n,.int .i64 m'.b.d,.int .i64 m'.c.n,.int .i64 m'.c.d,.int .i64 m'.d.n,.int .i64 m'.d.d,.int .i64 m'.e.n,.int .i64 m'.e.d,.int .i64 m'.f.n,.int .i64 m'.f.d] 113)) (.cells (plA n (.pointer (some ⟨q,0,none⟩)) m') 116)))
      have HWK:=HW1.out.below b5
      have HPT:PathAt ((w3.alloc (.cells #[.int .i64 m'.a.n,.int .i64 m'.a.d,.int .i64 m'.b.n,.int .i64 m'.b.d,.int .i64 m'.c.n,.int .i64 m'.c.d,.int .i64 m'.d.n,.int .i64 m'.d.d,.int .i64 m'.e.n,.int .i64 m'.e.d,.int .i64 m'.f.n,.int .i64 m'.f.d] 113)).alloc (.cells (plA n (.pointer (some ⟨q,0,none⟩)) m') 116)) (some (w3.alloc (.cells #[.int .i64 m'.a.n,.int .i64 m'.a.d,.int .i64 m'.b.n,.int .i64 m'.b.d,.int .i64 m'.c.n,.int .i64 m'.c.d,.int .i64 m'.d.n,.int .i64 m'.d.d,.int .i64 m'.e.n,.int .i64 m'.e.d,.int .i64 m'.f.n,.int .i64 m'.f.d] 113)).heap.size) ((n,m') :: (n0,m) :: path):=⟨_,some q,rfl,KP,HW1.out.sc.path (Kw.of_below b5) HP1.out⟩
      rw [World.size_alloc] at HPT
      have CALL:=HSH.out _ (w3.heap.size+1) HWK HPT Br Bw (((mbel (mbel b2 b3) (mbel (mal _ _) (mal _ _))).cell (cell_lt hBr)).trans hBr) (((mbel (mbel b2 b3) (mbel (mal _ _) (mal _ _))).block _ (blk_lt hBw)).trans hBw)
      have HB5:Hid (Below (V.setCell ⟨WB,2,none⟩ (.int .i64 ((k:Int)+1))).heap.size (V.setCell ⟨WB,2,none⟩ (.int .i64 ((k:Int)+1))) ((w3.alloc (.cells #[.int .i64 m'.a.n,.int .i64 m'.a.d,.int .i64 m'.b.n,.int .i64 m'.b.d,.int .i64 m'.c.n,.int .i64 m'.c.d,.int .i64 m'.d.n,.int .i64 m'.d.d,.int .i64 m'.e.n,.int .i64 m'.e.d,.int .i64 m'.f.n,.int .i64 m'.f.d] 113)).alloc (.cells (plA n (.pointer (some ⟨q,0,none⟩)) m') 116))):=b5
      have m0:=mnew w3 #[.int .i64 m'.a.n,.int .i64 m'.a.d,.int .i64 m'.b.n,.int .i64 m'.b.d,.int .i64 m'.c.n,.int .i64 m'.c.d,.int .i64 m'.d.n,.int .i64 m'.d.d,.int .i64 m'.e.n,.int .i64 m'.e.d,.int .i64 m'.f.n,.int .i64 m'.f.d] 113
      clear bU KP HWK HPT HSH b5
      go_wp2_with (go_at_call 164;refine CALL.mono ?_;rintro e w6 ⟨u,rfl,h6⟩)
      go_ret
      exact ⟨h6.out.1.low (Nat.le_trans HK1.out.size HB5.out.size),HK1.out.trans (.inl rfl) ((Kw.of_below HB5.out).trans (.inl rfl) h6.out.2)⟩
theorem come_use (h:En E B tg W0 DB MB p M nx c r l B0 rv) (k:Nat) (ps:List P5S) (v:Value) (V:World) (n n0:Int) (m:Mv) (path:List (Int × Mv)) (q:Nat) (hk:k<100) (hn:Wf64 n) (hw:Wks WB DB Bd Bl rv W0 k ps v V) (hp:PathAt V (some q) ((n0,m) :: path)) (hni:n ∉ n0 :: path.map Prod.fst) (hm:m.ok) (hnm:nmD M n=kUse) (res:Mv->Except Ft (Nat × List Pc))
    (SH:∀ (m':Mv) (V':World) (PB:Nat),m'.ok->Wks WB DB Bd Bl rv W0 (k+1) ps v V'->PathAt V' (some PB) ((n,m') :: (n0,m) :: path)->Calls Tryz.prog 120 #[.pointer (some ⟨WB,0,none⟩),.pointer (some ⟨PB,0,none⟩)] V' fun e w'=>ComeR E W0.heap.size WB DB (stV Bd Bl) v V' (res m') e w'/\Kw WB v V' w') :
    Calls Tryz.prog 44 #[.pointer (some ⟨WB,0,none⟩),.int .i64 n,.pointer (some ⟨q,0,none⟩)] V fun e w'=>ComeR E W0.heap.size WB DB (stV Bd Bl) v V (if (ofM M l kShow n==kNo)=true then .ok (k+1,ps.map P5S.pc) else match moveM M n m with | .error c=>.error ⟨kindC c,n⟩ | .ok m'=>res m') e w'/\Kw WB v V w':=by
  have WI:=within_any V (some q) ((n0,m) :: path) n hp
  have hdec:decide (n ∈ ((n0,m) :: path).map Prod.fst)=false:=decide_eq_false hni
  unfold WiR at WI
  rw [hdec] at WI
  simp only [pV,Option.map_some] at WI
  replace WI:Calls Tryz.prog 82 #[.pointer (some ⟨q,0,none⟩),.int .i64 n] V fun e w'=>e=.returned (.bool false)/\V=w':=WI.mono fun e w' h=>⟨h.1,h.2.symm⟩
  obtain ⟨hw1,hk1⟩:=hw.count
  have NA:=Name_doc (h.ds.below hw1.low).w n hn
  have c2:=bcell hw.sc.wb 2 _ rfl
  have f2:=bfrozQ hw.sc.wb 2
  have c0:=bcell hw1.sc.wb 0 _ rfl
  have c1:=bcell hw1.sc.wb 1 _ rfl
  have hkz:(k:Int)<100:=by omega
  have fnn:=fn_none
  have fns:=fn_some
  have NA':Calls Tryz.prog 76 #[.pointer (some ⟨DB,0,none⟩),.int .i64 n] (V.setCell ⟨WB,2,none⟩ (.int .i64 ((k:Int)+1))) fun r w'=>r=.returned (bV kUse)/\w'=(V.setCell ⟨WB,2,none⟩ (.int .i64 ((k:Int)+1))):=by rw [<- hnm];exact NA
  have WY:=way_use WB (V.setCell ⟨WB,2,none⟩ (.int .i64 ((k:Int)+1)))
  have ST:=fun w1 (b1:Below (V.setCell ⟨WB,2,none⟩ (.int .i64 ((k:Int)+1))).heap.size (V.setCell ⟨WB,2,none⟩ (.int .i64 ((k:Int)+1))) w1)=>h.style (hw1.below b1) n hn kShow
  have HW1:Hid (Wks WB DB Bd Bl rv W0 (k+1) ps v (V.setCell ⟨WB,2,none⟩ (.int .i64 ((k:Int)+1)))):=hw1
  have HK1:Hid (Kw WB v V (V.setCell ⟨WB,2,none⟩ (.int .i64 ((k:Int)+1)))):=hk1
  have C1:Hid (∀ w1,Below (V.setCell ⟨WB,2,none⟩ (.int .i64 ((k:Int)+1))).heap.size (V.setCell ⟨WB,2,none⟩ (.int .i64 ((k:Int)+1))) w1->w1.cell? ⟨WB,1,none⟩=some (stV Bd Bl)):=(fun w1 b1=>(b1.cell (cell_lt c1)).trans c1:∀ w1,Below (V.setCell ⟨WB,2,none⟩ (.int .i64 ((k:Int)+1))).heap.size (V.setCell ⟨WB,2,none⟩ (.int .i64 ((k:Int)+1))) w1->w1.cell? ⟨WB,1,none⟩=some (stV Bd Bl))
  have HH:Hid (En E B tg W0 DB MB p M nx c r l B0 rv):=h
  have HP1:Hid (PathAt (V.setCell ⟨WB,2,none⟩ (.int .i64 ((k:Int)+1))) (some q) ((n0,m) :: path)):=(hw.sc.path hk1 hp:PathAt (V.setCell ⟨WB,2,none⟩ (.int .i64 ((k:Int)+1))) (some q) ((n0,m) :: path))
  have HM:Hid m.ok:=hm
  have hq:=ba_toL (ofM M l kShow n) kNo
  clear NA hw hp hni hw1 hk1 h hnm hdec hm
  generalize ofM M l kShow n=s at ST hq ⊢
  cases hs:(s==kNo) with
  | true=>
    rw [hs] at hq
    rw [if_pos rfl]
    unfold kNo at hq hs
    unfold kShow at ST
    clear SH
    go_enter Tryz.func44,Tryz.ntmps44
    go_wp2_with (first | (go_at_call 82;refine WI.mono ?_;rintro e w1 ⟨rfl,rfl⟩) | (go_at_call 76;refine NA'.mono ?_;rintro e w1 ⟨rfl,rfl⟩) | (go_at_call 83;refine WY.mono ?_;rintro e w1 ⟨rfl,rfl⟩;have b1:=Below.refl (V.setCell ⟨WB,2,none⟩ (.int .i64 ((k:Int)+1))).heap.size (V.setCell ⟨WB,2,none⟩ (.int .i64 ((k:Int)+1)));have k1:=C1.out _ b1;have ST1:=ST _ b1) | (go_at_call 42;refine ST1.mono ?_;rintro e w2 ⟨rfl,b2⟩))
    go_ret
    have b12:=mbel b1 b2
    exact ⟨⟨rfl,ps,v,rfl,(HW1.out.below b12).sc,.inl rfl⟩,HK1.out.trans (.inl rfl) (Kw.of_below b12)⟩
  | false=>
    rw [hs] at hq
    rw [if_neg (by simp)]
    unfold kNo at hq hs
    unfold kShow at ST
    have MO:∀ w2,Below (V.setCell ⟨WB,2,none⟩ (.int .i64 ((k:Int)+1))).heap.size (V.setCell ⟨WB,2,none⟩ (.int .i64 ((k:Int)+1))) w2->Calls Tryz.prog 84 #[.pointer (some ⟨WB,0,none⟩),.int .i64 n,.pointer (some ⟨q,0,none⟩)] w2 fun e w'=>MvR E (moveM M n m) e w'/\Below w2.heap.size w2 w':=fun w2 b2=>by
      obtain ⟨b,q',h1,h2, -⟩:=HW1.out.sc.path (Kw.of_below b2) HP1.out
      cases h1
      exact moveOf_any (HH.out.ne.below (HW1.out.below b2).low) (HH.out.ds.below (HW1.out.below b2).low).w HH.out.sz WB (bcell (HW1.out.below b2).sc.wb 0 _ rfl) n hn q n0 (.pointer (q'.map fun x=>⟨x,0,none⟩)) m HM.out h2
    obtain ⟨mo,hmo⟩:∃ x,moveM M n m=x:=⟨_,rfl⟩
    rw [hmo] at MO ⊢
    cases mo with
    | error cd=>
      clear SH
      have FO:=fun w3 (hN:NE E w3) ev (hev:ErC E cd ev w3)=>faultOf_any hN hev n
      have MO':∀ w2,Below (V.setCell ⟨WB,2,none⟩ (.int .i64 ((k:Int)+1))).heap.size (V.setCell ⟨WB,2,none⟩ (.int .i64 ((k:Int)+1))) w2->Calls Tryz.prog 84 #[.pointer (some ⟨WB,0,none⟩),.int .i64 n,.pointer (some ⟨q,0,none⟩)] w2 fun e w'=>∃ ev,e=.returned (.tuple #[mv .zero,ev])/\ErC E cd ev w'/\Below w2.heap.size w2 w':=fun w2 b2=>(MO w2 b2).mono fun e w' ⟨⟨ev,h1,h2⟩,h3⟩=>⟨ev,h1,h2,h3⟩
      have NN:Hid (∀ w3,Below (V.setCell ⟨WB,2,none⟩ (.int .i64 ((k:Int)+1))).heap.size (V.setCell ⟨WB,2,none⟩ (.int .i64 ((k:Int)+1))) w3->NE E w3):=(fun w3 b3=>HH.out.ne.below (HW1.out.below b3).low:∀ w3,Below (V.setCell ⟨WB,2,none⟩ (.int .i64 ((k:Int)+1))).heap.size (V.setCell ⟨WB,2,none⟩ (.int .i64 ((k:Int)+1))) w3->NE E w3)
      clear MO hmo
      go_enter Tryz.func44,Tryz.ntmps44
      go_upto_region 10 with (first | (go_at_call 82;refine WI.mono ?_;rintro e w1 ⟨rfl,rfl⟩) | (go_at_call 76;refine NA'.mono ?_;rintro e w1 ⟨rfl,rfl⟩) | (go_at_call 83;refine WY.mono ?_;rintro e w1 ⟨rfl,rfl⟩;have b1:=Below.refl (V.setCell ⟨WB,2,none⟩ (.int .i64 ((k:Int)+1))).heap.size (V.setCell ⟨WB,2,none⟩ (.int .i64 ((k:Int)+1)));have k1:=C1.out _ b1;have ST1:=ST _ b1) | (go_at_call 42;refine ST1.mono ?_;rintro e w2 ⟨rfl,b2⟩;have b12:=mbel b1 b2;have MO2:=MO' w2 b12) | (go_at_call 84;refine MO2.mono ?_;rintro e w3 ⟨ev,rfl,hev,b3⟩))
      have b123:=mbel b12 b3
      have HV:=hev
      obtain ⟨-, -,hv2⟩:=hev
      rcases hv2 with rfl | ⟨pb,po,rfl, -⟩
      · go_wp2_with (go_at_call 85;refine (FO _ ?_ _ ?_).mono ?_;exact NN.out _ (mbel b123 (mal _ _));exact HV.below (mal _ _);rintro e w5 ⟨u,rfl,hf,b5⟩)
        go_ret
        have bb:=mbel (mbel b123 (mal _ _)) b5
        exact ⟨⟨u,rfl,hf.low (Nat.le_trans HK1.out.size (mbel b123 (mal _ _)).size)⟩,HK1.out.trans (.inl rfl) (Kw.of_below bb)⟩
      · go_wp2_with (go_at_call 85;refine (FO _ ?_ _ ?_).mono ?_;exact NN.out _ (mbel b123 (mal _ _));exact HV.below (mal _ _);rintro e w5 ⟨u,rfl,hf,b5⟩)
        go_ret
        have bb:=mbel (mbel b123 (mal _ _)) b5
        exact ⟨⟨u,rfl,hf.low (Nat.le_trans HK1.out.size (mbel b123 (mal _ _)).size)⟩,HK1.out.trans (.inl rfl) (Kw.of_below bb)⟩
    | ok m'=>
      have hm':Hid m'.ok:=moveM_ok HM.out hmo
      have MO':∀ w2,Below (V.setCell ⟨WB,2,none⟩ (.int .i64 ((k:Int)+1))).heap.size (V.setCell ⟨WB,2,none⟩ (.int .i64 ((k:Int)+1))) w2->Calls Tryz.prog 84 #[.pointer (some ⟨WB,0,none⟩),.int .i64 n,.pointer (some ⟨q,0,none⟩)] w2 fun e w'=>e=.returned (.tuple #[mv m',.nilIface])/\Below w2.heap.size w2 w':=fun w2 b2=>(MO w2 b2).mono fun e w' ⟨h1,h3⟩=>⟨h1,h3⟩
      have HSH:Hid (∀ (V':World) (PB:Nat),Wks WB DB Bd Bl rv W0 (k+1) ps v V'->PathAt V' (some PB) ((n,m') :: (n0,m) :: path)->Calls Tryz.prog 120 #[.pointer (some ⟨WB,0,none⟩),.pointer (some ⟨PB,0,none⟩)] V' fun e w'=>∃ u,e=.returned u/\Hid (ComeR E W0.heap.size WB DB (stV Bd Bl) v V' (res m') (.returned u) w'/\Kw WB v V' w')):=(fun V' PB h1 h2  => (SH m' V' PB hm'.out h1 h2 ).mono fun e w' h=>by
        obtain ⟨u,rfl⟩:=h.1.ret
        exact ⟨u,rfl,h⟩:∀ (V':World) (PB:Nat),Wks WB DB Bd Bl rv W0 (k+1) ps v V'->PathAt V' (some PB) ((n,m') :: (n0,m) :: path)->Calls Tryz.prog 120 #[.pointer (some ⟨WB,0,none⟩),.pointer (some ⟨PB,0,none⟩)] V' fun e w'=>∃ u,e=.returned u/\Hid (ComeR E W0.heap.size WB DB (stV Bd Bl) v V' (res m') (.returned u) w'/\Kw WB v V' w'))
      clear MO hmo SH
      go_enter Tryz.func44,Tryz.ntmps44
      go_upto_region 12 with (first | (go_at_call 82;refine WI.mono ?_;rintro e w1 ⟨rfl,rfl⟩) | (go_at_call 76;refine NA'.mono ?_;rintro e w1 ⟨rfl,rfl⟩) | (go_at_call 83;refine WY.mono ?_;rintro e w1 ⟨rfl,rfl⟩;have b1:=Below.refl (V.setCell ⟨WB,2,none⟩ (.int .i64 ((k:Int)+1))).heap.size (V.setCell ⟨WB,2,none⟩ (.int .i64 ((k:Int)+1)));have k1:=C1.out _ b1;have ST1:=ST _ b1) | (go_at_call 42;refine ST1.mono ?_;rintro e w2 ⟨rfl,b2⟩;have b12:=mbel b1 b2;have MO2:=MO' w2 b12) | (go_at_call 84;refine MO2.mono ?_;rintro e w3 ⟨rfl,b3⟩))
      have b123:=mbel b12 b3
      have bU:=mal w3 (.cells #[.int .i64 m'.a.n,.int .i64 m'.a.d,.int .i64 m'.b.n,.int .i64 m'.b.d,.int .i64 m'.c.n,.int .i64 m'.c.d,.int .i64 m'.d.n,.int .i64 m'.d.d,.int .i64 m'.e.n,.int .i64 m'.e.d,.int .i64 m'.f.n,.int .i64 m'.f.d] 113)
      have KP:=mbox (w3.alloc (.cells #[.int .i64 m'.a.n,.int .i64 m'.a.d,.int .i64 m'.b.n,.int .i64 m'.b.d,.int .i64 m'.c.n,.int .i64 m'.c.d,.int .i64 m'.d.n,.int .i64 m'.d.d,.int .i64 m'.e.n,.int .i64 m'.e.d,.int .i64 m'.f.n,.int .i64 m'.f.d] 113)) (plA n (.pointer (some ⟨q,0,none⟩)) m') 116
      have b5:=mbel b123 (mbel bU (mal (w3.alloc (.cells #[.int .i64 m'.a.n,.int .i64 m'.a.d,.int .i64 m'.b.n,.int .i64 m'.b.d,.int .i64 m'.c.n,.int .i64 m'.c.d,.int .i64 m'.d.n,.int .i64 m'.d.d,.int .i64 m'.e.n,.int .i64 m'.e.d,.int .i64 m'.f.n,.int .i64 m'.f.d] 113)) (.cells (plA n (.pointer (some ⟨q,0,none⟩)) m') 116)))
      have HWK:=HW1.out.below b5
      have HPT:PathAt ((w3.alloc (.cells #[.int .i64 m'.a.n,.int .i64 m'.a.d,.int .i64 m'.b.n,.int .i64 m'.b.d,.int .i64 m'.c.n,.int .i64 m'.c.d,.int .i64 m'.d.n,.int .i64 m'.d.d,.int .i64 m'.e.n,.int .i64 m'.e.d,.int .i64 m'.f.n,.int .i64 m'.f.d] 113)).alloc (.cells (plA n (.pointer (some ⟨q,0,none⟩)) m') 116)) (some (w3.alloc (.cells #[.int .i64 m'.a.n,.int .i64 m'.a.d,.int .i64 m'.b.n,.int .i64 m'.b.d,.int .i64 m'.c.n,.int .i64 m'.c.d,.int .i64 m'.d.n,.int .i64 m'.d.d,.int .i64 m'.e.n,.int .i64 m'.e.d,.int .i64 m'.f.n,.int .i64 m'.f.d] 113)).heap.size) ((n,m') :: (n0,m) :: path):=⟨_,some q,rfl,KP,HW1.out.sc.path (Kw.of_below b5) HP1.out⟩
      rw [World.size_alloc] at HPT
      have CALL:=HSH.out _ (w3.heap.size+1) HWK HPT 
      have HB5:Hid (Below (V.setCell ⟨WB,2,none⟩ (.int .i64 ((k:Int)+1))).heap.size (V.setCell ⟨WB,2,none⟩ (.int .i64 ((k:Int)+1))) ((w3.alloc (.cells #[.int .i64 m'.a.n,.int .i64 m'.a.d,.int .i64 m'.b.n,.int .i64 m'.b.d,.int .i64 m'.c.n,.int .i64 m'.c.d,.int .i64 m'.d.n,.int .i64 m'.d.d,.int .i64 m'.e.n,.int .i64 m'.e.d,.int .i64 m'.f.n,.int .i64 m'.f.d] 113)).alloc (.cells (plA n (.pointer (some ⟨q,0,none⟩)) m') 116))):=b5
      have m0:=mnew w3 #[.int .i64 m'.a.n,.int .i64 m'.a.d,.int .i64 m'.b.n,.int .i64 m'.b.d,.int .i64 m'.c.n,.int .i64 m'.c.d,.int .i64 m'.d.n,.int .i64 m'.d.d,.int .i64 m'.e.n,.int .i64 m'.e.d,.int .i64 m'.f.n,.int .i64 m'.f.d] 113
      clear bU KP HWK HPT HSH b5
      go_wp2_with (go_at_call 120;refine CALL.mono ?_;rintro e w6 ⟨u,rfl,h6⟩)
      go_ret
      exact ⟨h6.out.1.low (Nat.le_trans HK1.out.size HB5.out.size),HK1.out.trans (.inl rfl) ((Kw.of_below HB5.out).trans (.inl rfl) h6.out.2)⟩
end
end
section
open Go.RowKit Go.Shelf
set_option maxHeartbeats 2000000
set_option maxRecDepth 20000
theorem cfAny (f:Nat) (fn:Func) (hf:Tryz.prog.funcs[f]? = some fn) (h1:(fn.name == "runtime.NumGoroutine")=false) (h2:fn.body.isNone=false) (av:Array Value) (w:World):Sem.run Tryz.prog (callFunc f av) w=.ok (.enter f av) w:=by
  unfold callFunc
  simp only [Sem.run_bind,run_program,Result.andThen_ok,hf,h1,h2]
  rfl
section
variable {E:Nat->Addr} {B:Nat} {tg:Tags} {W0:World} {DB MB:Nat} {p:Int->Option Nat} {M:Dm} {nx c:Nat} {r:Int->Nat} {l:List Rl} {B0:Nat} {rv:Value} {WB Bd Bl:Nat}
theorem shape_piece (n:Int) (m:Mv) (x:Except Nat (List Qt)) (st:Nat × List Pc):shapeN n m x (ofM M l kFill n) (ofM M l kRule n) (ofM M l kLevel n) st=pieceM M l n m x st:=rfl
theorem box_way (h:En E B tg W0 DB MB p M nx c r l B0 rv) {k:Nat} {ps:List P5S} {v:Value} (hps:ps.length<=1000) (n:Int) (hn:Wf64 n) (rest:List (Int × Mv)) (m':Mv) (V':World) (PB:Nat) (hm:m'.ok) (hw:Wks WB DB Bd Bl rv W0 k ps v V') (hp:PathAt V' (some PB) ((n,m') :: rest)) (Br Bw:Nat)
    (hr:V'.cell? ⟨Br,0,none⟩=some (fnV 117 WB)) (hb:V'.heap[Bw]? = some (.cells #[.pointer (some ⟨WB,0,none⟩)] 105)) :
    Calls Tryz.prog 164 #[.pointer (some ⟨PB,0,none⟩),.pointer (some ⟨Br,0,none⟩),.pointer (some ⟨Bw,0,none⟩)] V' fun e w'=>ComeR E W0.heap.size WB DB (stV Bd Bl) v V' (pieceM M l n m' (boxM M n) (k,ps.map P5S.pc)) e w'/\Kw WB v V' w':=by
  obtain ⟨b,q',h1,h2, -⟩:=hp
  cases h1
  have hl:=of_len h.sz h.ok kLevel n
  rw [<- shape_piece]
  exact byShape1_any (h.ne.below hw.low) Bd Bl hw.sc PB Br Bw _ (cfAny _ _ Tryz.func117 (by kernel_rfl) (by kernel_rfl)) n _ m' hm h2 hr hb (boxM M n) _ _ _ (by omega) hw.low.size hps (fun U hU=>boxOf_any (h.ne.below (hw.below hU).low) (h.ds.below (hw.below hU).low).w h.sz WB (bcell (hw.below hU).sc.wb 0 _ rfl) n hn) (fun U hU=>h.style (hw.below hU) n hn kFill) (fun U hU=>h.style (hw.below hU) n hn kRule) (fun U hU=>h.style (hw.below hU) n hn kLevel)
theorem poly_way (h:En E B tg W0 DB MB p M nx c r l B0 rv) {k:Nat} {ps:List P5S} {v:Value} (hps:ps.length<=1000) (n:Int) (hn:Wf64 n) (rest:List (Int × Mv)) (m':Mv) (V':World) (PB:Nat) (hm:m'.ok) (hw:Wks WB DB Bd Bl rv W0 k ps v V') (hp:PathAt V' (some PB) ((n,m') :: rest)) (Br Bw:Nat)
    (hr:V'.cell? ⟨Br,0,none⟩=some (fnV 118 WB)) (hb:V'.heap[Bw]? = some (.cells #[.pointer (some ⟨WB,0,none⟩)] 105)) :
    Calls Tryz.prog 164 #[.pointer (some ⟨PB,0,none⟩),.pointer (some ⟨Br,0,none⟩),.pointer (some ⟨Bw,0,none⟩)] V' fun e w'=>ComeR E W0.heap.size WB DB (stV Bd Bl) v V' (pieceM M l n m' (polyM M n) (k,ps.map P5S.pc)) e w'/\Kw WB v V' w':=by
  obtain ⟨b,q',h1,h2, -⟩:=hp
  cases h1
  have hl:=of_len h.sz h.ok kLevel n
  rw [<- shape_piece]
  exact byShape1_any (h.ne.below hw.low) Bd Bl hw.sc PB Br Bw _ (cfAny _ _ Tryz.func118 (by kernel_rfl) (by kernel_rfl)) n _ m' hm h2 hr hb (polyM M n) _ _ _ (by omega) hw.low.size hps (fun U hU=>polyOf_any (h.ne.below (hw.below hU).low) (h.ds.below (hw.below hU).low).w h.sz WB (bcell (hw.below hU).sc.wb 0 _ rfl) n hn) (fun U hU=>h.style (hw.below hU) n hn kFill) (fun U hU=>h.style (hw.below hU) n hn kRule) (fun U hU=>h.style (hw.below hU) n hn kLevel)
theorem come_cycle (h:En E B tg W0 DB MB p M nx c r l B0 rv) (k:Nat) (ps:List P5S) (v:Value) (V:World) (n n0:Int) (m:Mv) (path:List (Int × Mv)) (q:Nat) (hw:Wks WB DB Bd Bl rv W0 k ps v V) (hp:PathAt V (some q) ((n0,m) :: path)) (hni:n ∈ n0 :: path.map Prod.fst) :
    Calls Tryz.prog 44 #[.pointer (some ⟨WB,0,none⟩),.int .i64 n,.pointer (some ⟨q,0,none⟩)] V fun e w'=>ComeR E W0.heap.size WB DB (stV Bd Bl) v V (.error ⟨9,n⟩) e w'/\Kw WB v V w':=by
  have WI:=within_any V (some q) ((n0,m) :: path) n hp
  have hdec:decide (n ∈ ((n0,m) :: path).map Prod.fst)=true:=decide_eq_true hni
  unfold WiR at WI
  rw [hdec] at WI
  simp only [pV,Option.map_some] at WI
  have e9:=(h.ne.below hw.low).c9
  clear h hw hp hni hdec
  go_enter Tryz.func44,Tryz.ntmps44
  go_wp2_with (go_at_call 82;refine WI.mono ?_;rintro e w1 ⟨rfl,rfl⟩)
  go_ret
  exact ⟨⟨_,rfl,_,Nat.le_refl _,rfl,mbox _ _ _⟩,Kw.of_below (mal _ _)⟩
theorem come_full (h:En E B tg W0 DB MB p M nx c r l B0 rv) (k:Nat) (ps:List P5S) (v:Value) (V:World) (n n0:Int) (m:Mv) (path:List (Int × Mv)) (q:Nat) (hk:100<=k) (hw:Wks WB DB Bd Bl rv W0 k ps v V) (hp:PathAt V (some q) ((n0,m) :: path)) (hni:n ∉ n0 :: path.map Prod.fst) :
    Calls Tryz.prog 44 #[.pointer (some ⟨WB,0,none⟩),.int .i64 n,.pointer (some ⟨q,0,none⟩)] V fun e w'=>ComeR E W0.heap.size WB DB (stV Bd Bl) v V (.error ⟨7,n⟩) e w'/\Kw WB v V w':=by
  have WI:=within_any V (some q) ((n0,m) :: path) n hp
  have hdec:decide (n ∈ ((n0,m) :: path).map Prod.fst)=false:=decide_eq_false hni
  unfold WiR at WI
  rw [hdec] at WI
  simp only [pV,Option.map_some] at WI
  have e7:=(h.ne.below hw.low).c7
  have c2:=bcell hw.sc.wb 2 _ rfl
  have hkz:(100:Int)<=(k:Int):=by omega
  clear h hw hp hni hdec
  go_enter Tryz.func44,Tryz.ntmps44
  go_wp2_with (go_at_call 82;refine WI.mono ?_;rintro e w1 ⟨rfl,rfl⟩)
  go_ret
  exact ⟨⟨_,rfl,_,Nat.le_refl _,rfl,mbox _ _ _⟩,Kw.of_below (mal _ _)⟩
theorem kinds_four (s:Bs):isFour s=false\/s=kBox\/s=kPoly\/s=kGroup\/s=kUse:=by
  unfold isFour
  by_cases h1:s=kBox
  · exact .inr (.inl h1)
  by_cases h2:s=kPoly
  · exact .inr (.inr (.inl h2))
  by_cases h3:s=kGroup
  · exact .inr (.inr (.inr (.inl h3)))
  by_cases h4:s=kUse
  · exact .inr (.inr (.inr (.inr h4)))
  exact .inl (by simp [h1,h2,h3,h4])
theorem shown_four {n:Int} (h:isFour (nmD M n)=true):(shownE M l n=false)↔(ofM M l kShow n==kNo)=true:=by
  unfold shownE
  rw [h]
  cases ofM M l kShow n==kNo <;> simp
theorem come_any (h:En E B tg W0 DB MB p M nx c r l B0 rv):∀ f,COME E WB DB Bd Bl rv W0 M l f
  | 0=>fun k ps v V n n0 m path q hf hfew hn hw hp hm=>by
    unfold comeM
    by_cases hni:n ∈ n0 :: path.map Prod.fst
    · rw [if_pos hni];exact come_cycle h k ps v V n n0 m path q hw hp hni
    · rw [if_neg hni];exact come_full h k ps v V n n0 m path q (by omega) hw hp hni
  | f+1=>fun k ps v V n n0 m path q hf hfew hn hw hp hm=>by
    have IH:=come_any h f
    unfold comeM
    by_cases hni:n ∈ n0 :: path.map Prod.fst
    · rw [if_pos hni];exact come_cycle h k ps v V n n0 m path q hw hp hni
    rw [if_neg hni]
    by_cases hk:100<=k
    · rw [if_pos hk];exact come_full h k ps v V n n0 m path q hk hw hp hni
    rw [if_neg hk]
    have hk':k<100:=by omega
    rcases kinds_four (nmD M n) with hf4 | hb | hb | hb | hb
    · have hs:shownE M l n=false:=by unfold shownE;rw [hf4];rfl
      rw [if_pos hs]
      exact come_none h k ps v V n n0 m path q hk' hn hw hp hni hf4
    · have h4:isFour (nmD M n)=true:=by rw [hb];decide
      have:=come_box h k ps v V n n0 m path q hk' hn hw hp hni hm hb (fun m'=>pieceM M l n m' (boxM M n) (k+1,ps.map P5S.pc)) (fun m' V' PB h1 h2 h3 Br Bw h5 h6=>box_way h (by omega) n hn _ m' V' PB h1 h2 h3 Br Bw h5 h6)
      simp only [shown_four h4]
      refine this.mono fun e w' hr=>?_
      cases hmv:moveM M n m with
      | error cd=>rw [hmv] at hr;exact hr
      | ok m'=>rw [hmv] at hr;simp only [hb,if_true];exact hr
    · have h4:isFour (nmD M n)=true:=by rw [hb];decide
      have:=come_poly h k ps v V n n0 m path q hk' hn hw hp hni hm hb (fun m'=>pieceM M l n m' (polyM M n) (k+1,ps.map P5S.pc)) (fun m' V' PB h1 h2 h3 Br Bw h5 h6=>poly_way h (by omega) n hn _ m' V' PB h1 h2 h3 Br Bw h5 h6)
      simp only [shown_four h4]
      refine this.mono fun e w' hr=>?_
      have n1:¬ kPoly=kBox:=by decide
      cases hmv:moveM M n m with
      | error cd=>rw [hmv] at hr;exact hr
      | ok m'=>rw [hmv] at hr;simp only [hb,if_neg n1,if_true];exact hr
    · have h4:isFour (nmD M n)=true:=by rw [hb];decide
      have:=come_group h k ps v V n n0 m path q hk' hn hw hp hni hm hb (fun m'=>(comeM.kidsM M n).foldlM (fun s x=>comeM M l f x (n :: n0 :: path.map Prod.fst) m' s) (k+1,ps.map P5S.pc)) (fun m' V' PB h1 h2 h3=>showGroup_any h f IH (k+1) ps v V' n m' ((n0,m) :: path) PB (by omega) (by omega) hn h2 h3 h1)
      simp only [shown_four h4]
      refine this.mono fun e w' hr=>?_
      have n1:¬ kGroup=kBox:=by decide
      have n2:¬ kGroup=kPoly:=by decide
      cases hmv:moveM M n m with
      | error cd=>rw [hmv] at hr;exact hr
      | ok m'=>rw [hmv] at hr;simp only [hb,if_neg n1,if_neg n2,if_true];exact hr
    · have h4:isFour (nmD M n)=true:=by rw [hb];decide
      have:=come_use h k ps v V n n0 m path q hk' hn hw hp hni hm hb (fun m'=>match ledM M n with | none=>.error ⟨10,n⟩ | some x=>comeM M l f x (n :: n0 :: path.map Prod.fst) m' (k+1,ps.map P5S.pc)) (fun m' V' PB h1 h2 h3=>showUse_any h f IH (k+1) ps v V' n m' ((n0,m) :: path) PB (by omega) (by omega) hn h2 h3 h1)
      simp only [shown_four h4]
      refine this.mono fun e w' hr=>?_
      have n1:¬ kUse=kBox:=by decide
      have n2:¬ kUse=kPoly:=by decide
      have n3:¬ kUse=kGroup:=by decide
      cases hmv:moveM M n m with
      | error cd=>rw [hmv] at hr;exact hr
      | ok m'=>rw [hmv] at hr;simp only [hb,if_neg n1,if_neg n2,if_neg n3];exact hr
end
end
end Go.Proofs.YtgphclgmmocdhaaGreatDoor

/-
  Parts of the proof.
-/
import Derived.Test.YtgphclgmmocdhaaGreatDoorQu32
import Derived.Test.YtgphclgmmocdhaaGreatDoorQu33
namespace Go.Proofs.YtgphclgmmocdhaaGreatDoor
open Go.RowKit Go.Shelf
set_option maxHeartbeats 8000000
set_option maxRecDepth 20000
def ComeR (E:Nat->Addr) (base WB DB:Nat) (sf:Value) (v:Value) (V:World) (x:Except Ft (Nat × List Pc)) (e:Ending) (w':World):Prop:=match x with
  | .error f=>∃ u,e=.returned u/\FtV E f V.heap.size u w'
  | .ok st=>e=.returned .nilIface/\∃ ps v',ps.map P5S.pc=st.2/\Sc base WB DB sf st.1 ps v' w'/\(v'.ownBlock=v.ownBlock\/∀ b,v'.ownBlock=some b->V.heap.size<=b)
def shapeN (n:Int) (m:Mv) (x:Except Nat (List Qt)) (fill rule level:Bs) (st:Nat × List Pc):Except Ft (Nat × List Pc):=match x with
  | .error c=>.error ⟨kindC c,n⟩
  | .ok q=>match goM m q with
    | none=>.error ⟨2,n⟩
    | some q'=>if fill=kNone then .ok st else .ok (st.1,st.2++[⟨n,q',fill,rule,lvM level⟩])
theorem ErC.below {E:Nat->Addr} {c:Nat} {v:Value} {w w':World} (h:ErC E c v w) (hb:Below w.heap.size w w'):ErC E c v w':=by
  obtain ⟨h1,h2,h3⟩:=h
  refine ⟨h1,h2,?_⟩
  rcases h3 with h3 | ⟨pb,po,h3,h4⟩
  · exact .inl h3
  · exact .inr ⟨pb,po,h3,(hb.cell (cell_lt h4)).trans h4⟩
theorem ShpR.below {E:Nat->Addr} {x:Except Nat (List Qt)} {e:Ending} {w w':World} (h:ShpR E x e w) (hb:Below w.heap.size w w'):ShpR E x e w':=by
  cases x with
  | error k=>
    obtain ⟨v,h1,h2⟩:=h
    exact ⟨v,h1,h2.below hb⟩
  | ok l=>
    obtain ⟨h0,h1,o,cap,h2,h3⟩:=h
    exact ⟨h0,h1,o,cap,h2,h3.below hb Nat.le.refl⟩
def Cut1 (E:Nat->Addr) (x:Except Nat (List Qt)) (V:World) (b rv:Value) (wx:World):Prop:=∃ BS ro rn rc,b=.pointer (some ⟨BS,0,none⟩)/\V.heap.size<=BS/\wx.heap[BS]? = some (.cells #[.slice ro rn rc] 43)/\ShpR E x (.returned (.tuple #[.agg #[.slice ro rn rc],rv])) wx/\Below V.heap.size V wx
theorem cut1_new {E:Nat->Addr} {x:Except Nat (List Qt)} {V w1:World} {ro:Option Addr} {rn rc:Nat} {rv:Value} (h:ShpR E x (.returned (.tuple #[.agg #[.slice ro rn rc],rv])) w1) (b:Below V.heap.size V w1):Cut1 E x V (.pointer (some ⟨w1.heap.size,0,none⟩)) rv (w1.alloc (.cells #[.slice ro rn rc] 43)):=
  ⟨_,ro,rn,rc,rfl,b.size,mbox w1 _ _,ShpR.below h (mal w1 _),mbel b (mal w1 _)⟩
theorem cut1_old {E:Nat->Addr} {x:Except Nat (List Qt)} {V w1:World} {ro:Option Addr} {rn rc:Nat} {rv:Value} (h:ShpR E x (.returned (.tuple #[.agg #[.slice ro rn rc],rv])) w1) (b:Below (V.alloc (.cells #[.slice none 0 0] 43)).heap.size (V.alloc (.cells #[.slice none 0 0] 43)) w1):Cut1 E x V (.pointer (some ⟨V.heap.size,0,none⟩)) rv (w1.setCell ⟨V.heap.size,0,none⟩ (.slice ro rn rc)):=by
  have K:=mbox V #[.slice none 0 0] 43
  have K1:=(b.block _ (blk_lt K)).trans K
  refine ⟨_,ro,rn,rc,rfl,Nat.le_refl _,?_,h.far K1,(mbel (mal V _) b).setCell Nat.le.refl _⟩
  have:=heap_setCell_same w1 V.heap.size 0 _ _ (.slice ro rn rc) K1
  simpa using this
theorem FtV.low {E:Nat->Addr} {f:Ft} {b b':Nat} {v:Value} {w:World} (h:FtV E f b v w) (hb:b'<=b):FtV E f b' v w:=by
  obtain ⟨pb,h1,h2,h3⟩:=h
  exact ⟨pb,Nat.le_trans hb h1,h2,h3⟩
def Cut4 (E:Nat->Addr) (m:Mv) (l:List Qt) (BS:Nat) (V:World) (rv:Value) (wx:World):Prop:=∃ ro rn rc,wx.heap[BS]? = some (.cells #[.slice ro rn rc] 43)/\GoR E m l V.heap.size (.returned (.tuple #[.agg #[.slice ro rn rc],rv])) wx/\Below V.heap.size V wx
theorem GoR.is {E:Nat->Addr} {m:Mv} {l:List Qt} {b:Nat} {e:Ending} {w:World} (h:GoR E m l b e w):∃ o n c v,e=.returned (.tuple #[.agg #[.slice o n c],v]):=by
  unfold GoR at h
  cases hg:goM m l with
  | none=>rw [hg] at h;obtain ⟨v,h1, -⟩:=h;exact ⟨_,_,_,_,h1⟩
  | some l'=>
    rw [hg] at h
    obtain ⟨v,h1,h2⟩:=h
    obtain ⟨o,cap,rfl⟩:=own_slice h2
    exact ⟨_,_,_,_,h1⟩
theorem cut4_new {E:Nat->Addr} {m:Mv} {l:List Qt} {BS:Nat} {V wc w2:World} {x:Value} {ro:Option Addr} {rn rc:Nat} {rv:Value} (h:GoR E m l wc.heap.size (.returned (.tuple #[.agg #[.slice ro rn rc],rv])) w2) (KB:wc.heap[BS]? = some (.cells #[x] 43)) (b1:Below V.heap.size V wc) (hBS:V.heap.size<=BS) (b2:Below wc.heap.size wc w2):Cut4 E m l BS V rv (w2.setCell ⟨BS,0,none⟩ (.slice ro rn rc)):=by
  have hlt:=blk_lt KB
  have K2:=(b2.block _ hlt).trans KB
  refine ⟨ro,rn,rc,?_,?_,(mbel b1 b2).setCell hBS _⟩
  · have:=heap_setCell_same w2 BS 0 _ _ (.slice ro rn rc) K2
    simpa using this
  · unfold GoR at h ⊢
    cases hg:goM m l with
    | none=>
      rw [hg] at h
      obtain ⟨v,h1,h2⟩:=h
      exact ⟨v,h1,h2.far⟩
    | some l'=>
      rw [hg] at h
      obtain ⟨v,h1,h2⟩:=h
      exact ⟨v,h1,(OwnP.far h2 hlt).low b1.size⟩
theorem cellsS_one (ps:List P5S) (x:P5S):cellsS (ps++[x])=cellsS ps++[.int .i64 x.nd,ptsV x,bV x.fill,bV x.rule,.int .i64 x.lv]:=by rw [cellsS_app];rfl
theorem goM_chk {m:Mv} {l l':List Qt} (hm:m.ok) (hl:okSh l) (h:goM m l=some l'):∀ a ∈ l',chkP a=0:=by
  unfold goM at h
  split at h
  · next ha=>
    cases h
    intro a hx
    obtain ⟨b,hb,rfl⟩:=List.mem_map.1 hx
    exact goOk_chk hm (hl.2 b hb) (goOk_code (List.all_eq_true.1 ha b hb))
  · cases h
theorem infoPcS:(Tryz.prog.info? 45).map (fun i=>(i.zero,i.size,i.bytes))=some (some (.agg #[.int .i64 0,.slice none 0 0,.string ⟨#[]⟩,.string ⟨#[]⟩,.int .i64 0]),5,72):=by kernel_rfl
def S9 (Bw WB PB BS:Nat) (n:Int) (sf pv v:Value) (w:World):Prop:=w.cell? ⟨Bw,0,none⟩=some (.pointer (some ⟨WB,0,none⟩))/\w.cell? ⟨WB,1,none⟩=some sf/\w.cell? ⟨PB,0,none⟩=some (.int .i64 n)/\w.cell? ⟨BS,0,none⟩=some pv/\w.cell? ⟨WB,3,none⟩=some v
theorem Sc.app {base WB DB:Nat} {sf:Value} {k:Nat} {ps:List P5S} {v:Value} {V w6 w7:World} {x:P5S} {g cap:Nat} (h:Sc base WB DB sf k ps v V) (hb:Below V.heap.size V w6) (ho:OwnP w6 base (ptsV x) x.pts) (hrt:∀ a ∈ x.pts,chkP a=0)
    (ow:w7.ownsRow base 45 5 (.slice (some ⟨g,0,none⟩) (ps.length+1) cap) (ps.length+1) (cellsS ps++[.int .i64 x.nd,ptsV x,bV x.fill,bV x.rule,.int .i64 x.lv])) (gr:w6.grownBy w7 v.ownBlock) (hat:v.ownBlock=some g\/g=w6.heap.size) :
    Sc base WB DB sf k (ps++[x]) (.slice (some ⟨g,0,none⟩) (ps.length+1) cap) (w7.setCell ⟨WB,3,none⟩ (.slice (some ⟨g,0,none⟩) (ps.length+1) cap))/\Kw WB v V (w7.setCell ⟨WB,3,none⟩ (.slice (some ⟨g,0,none⟩) (ps.length+1) cap))/\((Value.slice (some ⟨g,0,none⟩) (ps.length+1) cap).ownBlock=v.ownBlock\/∀ b,(Value.slice (some ⟨g,0,none⟩) (ps.length+1) cap).ownBlock=some b->V.heap.size<=b):=by
  have wlt:=blk_lt h.wb
  have neW:v.ownBlock≠some WB:=fun e=>by
    obtain ⟨cs,f,h1, -⟩:=own_type h.own WB e
    rw [h.wb] at h1
    cases h1
  have gW:g≠WB:=fun e=>by
    rcases hat with h1 | h1
    · exact neW (by rw [h1,e])
    · have:=hb.size;omega
  have w7WB:w7.heap[WB]? = some (.cells #[.pointer (some ⟨DB,0,none⟩),sf,.int .i64 k,v] 109):=by
    rw [gr.block WB (Nat.lt_of_lt_of_le wlt hb.size) (fun e=>neW e.symm),hb.block WB wlt]
    exact h.wb
  have far:∀ b,b≠WB->(w7.setCell ⟨WB,3,none⟩ (.slice (some ⟨g,0,none⟩) (ps.length+1) cap)).heap[b]? = w7.heap[b]? := fun b hne=>Below.heap_setCell _ _ _ b hne
  have ptk:∀ y:P5S,OwnP w6 base (ptsV y) y.pts->OwnP (w7.setCell ⟨WB,3,none⟩ (.slice (some ⟨g,0,none⟩) (ps.length+1) cap)) base (ptsV y) y.pts:=fun y hy=>by
    refine own_same hy fun j hj=>?_
    obtain ⟨cs,f,h1, -⟩:=own_type hy j hj
    have hlt:=blk_lt h1
    have n1:j≠WB:=fun e=>by
      subst e
      rw [hb.block j wlt,h.wb] at h1
      cases h1
    have n2:some j≠v.ownBlock:=fun e=>by
      obtain ⟨cs',f',h3, -⟩:=own_type (own_bel h.own hb) j e.symm
      rw [h1] at h3
      cases h3
    rw [far j n1]
    exact gr.block j hlt n2
  have szs:(w7.setCell ⟨WB,3,none⟩ (.slice (some ⟨g,0,none⟩) (ps.length+1) cap)).heap.size=w7.heap.size:=World.size_setCell _ _ _
  refine ⟨⟨?_,?_,?_,?_⟩,⟨?_,?_,?_,?_,?_⟩,?_⟩
  · have:=heap_setCell_same w7 WB 3 _ _ (.slice (some ⟨g,0,none⟩) (ps.length+1) cap) w7WB
    simpa using this
  · rw [cellsS_one,List.length_append]
    exact own_same ow fun j hj=>far j (fun e=>gW (by cases hj;exact e))
  · intro y hy
    rcases List.mem_append.1 hy with hy | hy
    · exact ptk y ((h.pts y hy).keep hb)
    · simp at hy;subst hy;exact ptk _ ho
  · intro y hy
    rcases List.mem_append.1 hy with hy | hy
    · exact h.rt y hy
    · simp at hy;subst hy;exact hrt
  · exact gr.os.trans hb.os
  · exact gr.tape.trans hb.tape
  · exact gr.output.trans hb.output
  · rw [szs];exact Nat.le_trans hb.size gr.size
  · intro b hlt h1 h2
    rw [far b h1,gr.block b (Nat.lt_of_lt_of_le hlt hb.size) (fun e=>h2 e.symm),hb.block b hlt]
  · rcases hat with h1 | h1
    · exact .inl h1.symm
    · exact .inr fun b hb'=>by cases hb';rw [h1];exact hb.size
section
variable {E:Nat->Addr} {base WB DB:Nat} {k:Nat} {ps:List P5S} {v:Value} {V:World}
theorem byShape1_any (hN:NE E V) (Bd Bl:Nat) (hS:Sc base WB DB (stV Bd Bl) k ps v V) (PB Br Bw fr:Nat) (hcf:∀ (av:Array Value) (w:World),Sem.run Tryz.prog (callFunc fr av) w=.ok (.enter fr av) w) (n:Int) (q:Value) (m:Mv) (hm:m.ok) (hp:V.heap[PB]? = some (.cells (plA n q m) 116))
    (hr:V.cell? ⟨Br,0,none⟩=some (.func (.func fr) #[.pointer (some ⟨WB,0,none⟩)] #[])) (hwB:V.heap[Bw]? = some (.cells #[.pointer (some ⟨WB,0,none⟩)] 105)) (x:Except Nat (List Qt)) (fill rule level:Bs) (hlv:level.length<=1000000) (hbase:base<=V.heap.size) (hps:ps.length<=1000)
    (RD:∀ U,Below V.heap.size V U->Calls Tryz.prog fr #[.pointer (some ⟨WB,0,none⟩),.int .i64 n] U fun e w'=>ShpR E x e w'/\Below U.heap.size U w')
    (SF:∀ U,Below V.heap.size V U->Calls Tryz.prog 42 #[.int .i64 n,bV kFill,.pointer (some ⟨Bd,0,none⟩),.pointer (some ⟨Bl,0,none⟩)] U fun e w'=>e=.returned (bV fill)/\Below U.heap.size U w')
    (SR:∀ U,Below V.heap.size V U->Calls Tryz.prog 42 #[.int .i64 n,bV kRule,.pointer (some ⟨Bd,0,none⟩),.pointer (some ⟨Bl,0,none⟩)] U fun e w'=>e=.returned (bV rule)/\Below U.heap.size U w')
    (SL:∀ U,Below V.heap.size V U->Calls Tryz.prog 42 #[.int .i64 n,bV kLevel,.pointer (some ⟨Bd,0,none⟩),.pointer (some ⟨Bl,0,none⟩)] U fun e w'=>e=.returned (bV level)/\Below U.heap.size U w') :
    Calls Tryz.prog 164 #[.pointer (some ⟨PB,0,none⟩),.pointer (some ⟨Br,0,none⟩),.pointer (some ⟨Bw,0,none⟩)] V fun e w'=>ComeR E base WB DB (stV Bd Bl) v V (shapeN n m x fill rule level (k,ps.map P5S.pc)) e w'/\Kw WB v V w':=by
  have hw:=bcell hwB 0 _ rfl
  have HN:Hid (NE E V):=hN
  have HS:Hid (Sc base WB DB (stV Bd Bl) k ps v V):=hS
  have HM:Hid m.ok:=hm
  have p0:=bcell hp 0 _ rfl
  have R1:=RD V.drew (below_drewN (Below.refl _ _) 1)
  obtain ⟨ans,hans⟩:∃ a,shapeN n m x fill rule level (k,ps.map P5S.pc)=a:=⟨_,rfl⟩
  rw [hans]
  have HA:Hid (shapeN n m x fill rule level (k,ps.map P5S.pc)=ans):=hans
  clear hans hN hS hm
  go_enter Tryz.func164,Tryz.ntmps164
  go_upto_region 1 with fail
  go_cut [5,6] from 8 to 87 (fun b rv wx=>Cut1 E x V b rv wx)
  case first=>
    have R2:=RD (V.alloc (.cells #[.slice none 0 0] 43)).drew (below_drewN (mal V _) 1)
    have KK:∀ w1,Below (V.alloc (.cells #[.slice none 0 0] 43)).drew.heap.size (V.alloc (.cells #[.slice none 0 0] 43)).drew w1->w1.cell? ⟨V.heap.size,0,none⟩=some (.slice none 0 0)/\w1.frozen? ⟨V.heap.size,0,none⟩=false:=fun w1 b1=>by
      have K:=mbox V #[.slice none 0 0] 43
      have K1:=(b1.block V.heap.size (blk_lt K)).trans K
      exact ⟨bcell K1 0 _ rfl,bfrozQ K1 0⟩
    have Q1:Calls Tryz.prog fr #[.pointer (some ⟨WB,0,none⟩),.int .i64 n] V.drew fun e w'=>∃ ro rn rc rv,e=.returned (.tuple #[.agg #[.slice ro rn rc],rv])/\ShpR E x (.returned (.tuple #[.agg #[.slice ro rn rc],rv])) w'/\Below V.drew.heap.size V.drew w':=R1.mono fun e w' ⟨h1,b1⟩=>by
      obtain ⟨ro,rn,rc,rv,rfl⟩:=h1.is
      exact ⟨ro,rn,rc,rv,rfl,h1,b1⟩
    have Q2:Calls Tryz.prog fr #[.pointer (some ⟨WB,0,none⟩),.int .i64 n] (V.alloc (.cells #[.slice none 0 0] 43)).drew fun e w'=>∃ ro rn rc rv,e=.returned (.tuple #[.agg #[.slice ro rn rc],rv])/\ShpR E x (.returned (.tuple #[.agg #[.slice ro rn rc],rv])) w'/\Below (V.alloc (.cells #[.slice none 0 0] 43)).drew.heap.size (V.alloc (.cells #[.slice none 0 0] 43)).drew w':=R2.mono fun e w' ⟨h1,b1⟩=>by
      obtain ⟨ro,rn,rc,rv,rfl⟩:=h1.is
      exact ⟨ro,rn,rc,rv,rfl,h1,b1⟩
    have ba:=mal V (.cells #[.slice none 0 0] 43)
    have p0a:=(ba.cell (cell_lt p0)).trans p0
    have hra:=(ba.cell (cell_lt hr)).trans hr
    clear R1 R2 RD SF SR SL hp ba hw
    go_region_with (first | (refine Q1.mono ?_;rintro e w1 ⟨ro,rn,rc,rv,rfl,h1,b1⟩) | (refine Q2.mono ?_;rintro e w1 ⟨ro,rn,rc,rv,rfl,h1,b1⟩;obtain ⟨u0,uf⟩:=KK w1 b1))
    all_goals go_wp2_with fail
    all_goals go_meet
    all_goals first | (have hu:=u0;exact cut1_old h1 ((below_drewN (Below.refl _ _) 1).trans b1)) | exact cut1_new h1 ((below_drewN (Below.refl _ _) 1).trans b1)
  case rest=>
    obtain ⟨BS,ro,rn,rc,rfl,hBS,KB,h1,b1⟩:=hcut
    have hpw:=(b1.block _ (blk_lt hp)).trans hp
    have pw0:=bcell hpw 0 _ rfl
    have NW:=HN.out.below b1
    have HX:Hid (ShpR E x (.returned (.tuple #[.agg #[.slice ro rn rc],u6])) wc):=h1
    clear h1
    cases x with
    | error cd=>
      obtain ⟨ev,he,hev⟩:=HX.out
      have hrv:u6=ev:=by simp at he;exact he.2
      subst hrv
      have FO:=faultOf_any NW hev n
      have hne:u6≠.nilIface:=by
        rintro rfl
        obtain ⟨-, -,h | ⟨pb,po,h, -⟩⟩:=hev <;> cases h
      have hpk:∀ f:Except Ft (Nat × List Pc),ans=f->shapeN n m (.error cd) fill rule level (k,ps.map P5S.pc)=f:=fun f hf=>by rw [<- hf];exact HA.out
      have ha:ans=.error ⟨kindC cd,n⟩:=HA.out.symm
      subst ha
      obtain ⟨-, -,hv2⟩:=hev
      clear hpk he HX
      rcases hv2 with rfl | ⟨pb,po,rfl, -⟩
      · go_wp2_with (go_at_call 85;refine FO.mono ?_;rintro e w2 ⟨u,rfl,hf,b2⟩)
        go_ret
        exact ⟨⟨u,rfl,FtV.low hf b1.size⟩,Kw.of_below (mbel b1 b2)⟩
      · go_wp2_with (go_at_call 85;refine FO.mono ?_;rintro e w2 ⟨u,rfl,hf,b2⟩)
        go_ret
        exact ⟨⟨u,rfl,FtV.low hf b1.size⟩,Kw.of_below (mbel b1 b2)⟩
    | ok l=>
      obtain ⟨hch,hok,o1,cap1,he,hpt⟩:=HX.out
      obtain ⟨⟨rfl,rfl,rfl⟩,rfl⟩:(ro=o1/\rn=l.length/\rc=cap1)/\u6=.nilIface:=by simp at he;exact ⟨⟨he.1.1,he.1.2.1,he.1.2.2⟩,he.2⟩
      have bd:=below_drewN (Below.refl wc.heap.size wc) 1
      have MV:=ShMove_rt m HM.out l ro rc wc.drew ((okB_iff l).1 hok) (hpt.below bd Nat.le.refl) (NW.below bd)
      have s0:=bcell KB 0 _ rfl
      clear he HX
      have HL:Hid (okB l=true):=hok
      have HCH:Hid (∀ a ∈ l,chkP a=0):=hch
      clear hok hch hpt
      have q2:=bcell hpw 2 _ rfl
      have q3:=bcell hpw 3 _ rfl
      have q4:=bcell hpw 4 _ rfl
      have q5:=bcell hpw 5 _ rfl
      have q6:=bcell hpw 6 _ rfl
      have q7:=bcell hpw 7 _ rfl
      have q8:=bcell hpw 8 _ rfl
      have q9:=bcell hpw 9 _ rfl
      have q10:=bcell hpw 10 _ rfl
      have q11:=bcell hpw 11 _ rfl
      have q12:=bcell hpw 12 _ rfl
      have q13:=bcell hpw 13 _ rfl
      go_upto_region 4 with fail
      go_cut [6] from 8 to 87 (fun rv wx=>Cut4 E m l BS V rv wx)
      case first=>
        have MQ:Calls Tryz.prog 165 #[.agg #[.slice ro l.length rc],mv m] wc.drew fun e w'=>∃ o n c rv,e=.returned (.tuple #[.agg #[.slice o n c],rv])/\GoR E m l wc.heap.size (.returned (.tuple #[.agg #[.slice o n c],rv])) w'/\Below wc.heap.size wc w'/\w'.cell? ⟨BS,0,none⟩=some (.slice ro l.length rc)/\w'.frozen? ⟨BS,0,none⟩=false:=MV.mono fun e w' ⟨h1,b2⟩=>by
          obtain ⟨o,n,c,rv,rfl⟩:=h1.is
          have bb:Below wc.heap.size wc w':=⟨b2.os,b2.tape,b2.output,b2.size,b2.block⟩
          have K2:=(bb.block _ (blk_lt KB)).trans KB
          exact ⟨o,n,c,rv,rfl,h1,bb,bcell K2 0 _ rfl,bfrozQ K2 0⟩
        clear MV RD SF SR SL hpw hp
        go_region_with (go_at_call 165;refine MQ.mono ?_;rintro e w2 ⟨o2,n2,c2,rv2,rfl,h2,b2,k2,f2⟩)
        all_goals go_wp2_with fail
        all_goals go_meet
        all_goals exact cut4_new h2 KB b1 hBS b2
      case rest=>
        obtain ⟨ro2,rn2,rc2,KB2,h2,b2⟩:=hcut
        have hpw2:=(b2.block _ (blk_lt hp)).trans hp
        have pz0:=bcell hpw2 0 _ rfl
        have NW2:=HN.out.below b2
        unfold GoR at h2
        cases hg:goM m l with
        | none=>
          rw [hg] at h2
          obtain ⟨ev,he,hev⟩:=h2
          have hrv:u6=ev:=by simp at he;exact he.2
          subst hrv
          have FO:=faultOf_any NW2 hev n
          have ha:ans=.error ⟨2,n⟩:=by
            have:=HA.out
            unfold shapeN at this
            simp only [hg] at this
            exact this.symm
          subst ha
          obtain ⟨-, -,hv2⟩:=hev
          rcases hv2 with rfl | ⟨pb,po,rfl, -⟩ -- FASTA
          · go_wp2_with (go_at_call 85;refine FO.mono ?_;rintro e w2 ⟨u,rfl,hf,b3⟩)
            go_ret
            exact ⟨⟨u,rfl,FtV.low hf b2.size⟩,Kw.of_below (mbel b2 b3)⟩
          · go_wp2_with (go_at_call 85;refine FO.mono ?_;rintro e w2 ⟨u,rfl,hf,b3⟩)
            go_ret
            exact ⟨⟨u,rfl,FtV.low hf b2.size⟩,Kw.of_below (mbel b2 b3)⟩
        | some l'=>
          rw [hg] at h2
          obtain ⟨v2,he,hown2⟩:=h2
          obtain ⟨hv2,rfl⟩:v2=.slice ro2 rn2 rc2/\u6=.nilIface:=by simp at he;exact ⟨he.1.symm,he.2⟩
          subst hv2
          obtain ⟨o9,c9,h9⟩:=own_slice hown2
          obtain ⟨rfl,rfl,rfl⟩:ro2=o9/\rn2=l'.length/\rc2=c9:=by simp at h9;exact h9
          have HOW:Hid (OwnP wc V.heap.size (.slice ro2 l'.length rc2) l'):=hown2
          have hans:Hid (shapeN n m (.ok l) fill rule level (k,ps.map P5S.pc)=if fill=kNone then .ok (k,ps.map P5S.pc) else .ok (k,ps.map P5S.pc++[⟨n,l',fill,rule,lvM level⟩])):=by
            show _=_
            unfold shapeN
            simp only [hg]
          have HA2:Hid (ans=if fill=kNone then .ok (k,ps.map P5S.pc) else .ok (k,ps.map P5S.pc++[⟨n,l',fill,rule,lvM level⟩])):=HA.out.symm.trans hans.out
          have HR:Hid (∀ a ∈ l',chkP a=0):=goM_chk HM.out ((okB_iff l).1 HL.out) hg
          have bw0:=(b2.cell (cell_lt hw)).trans hw
          have wbk:=(b2.block _ (blk_lt HS.out.wb)).trans HS.out.wb
          have wb1:=bcell wbk 1 _ rfl
          have wb3:=bcell wbk 3 _ rfl
          have bs0:=bcell KB2 0 _ rfl
          have SFd:=SF wc.drew (b2.trans (below_drewN (Below.refl _ _) 1))
          clear hans HA h9 he RD q2 q3 q4 q5 q6 q7 q8 q9 q10 q11 q12 q13 MV
          go_upto_region 7 with fail
          go_region_held3 (fun w'=>w'.cell? ⟨Bw,0,none⟩=some (.pointer (some ⟨WB,0,none⟩))/\w'.cell? ⟨WB,1,none⟩=some (stV Bd Bl)/\w'.cell? ⟨PB,0,none⟩=some (.int .i64 n)) (go_keep) (first | (go_at_call 42;refine SFd.mono ?_;rintro e w3 ⟨rfl,b3⟩;have x1:=(b3.cell (cell_lt (w:=wc.drew) bw0)).trans bw0;have x2:=(b3.cell (cell_lt (w:=wc.drew) wb1)).trans wb1;have x3:=(b3.cell (cell_lt (w:=wc.drew) pz0)).trans pz0))
          have b23:Below V.heap.size V w3:=mbel b2 ⟨b3.os,b3.tape,b3.output,b3.size,b3.block⟩
          have hq:=ba_toL fill kNone
          by_cases hf:fill=kNone
          · have hqt:(fill==kNone)=true:=by simp [hf]
            rw [hqt] at hq
            unfold kNone at hq hqt
            have ha:ans=.ok (k,ps.map P5S.pc):=by rw [HA2.out,if_pos hf]
            subst ha
            clear HA2 hf
            go_wp2_with fail
            go_ret
            exact ⟨⟨rfl,ps,v,rfl,HS.out.below b23,.inl rfl⟩,Kw.of_below b23⟩
          · have hqt:(fill==kNone)=false:=by simpa using hf
            rw [hqt] at hq
            unfold kNone at hq hqt
            have ha:ans=.ok (k,ps.map P5S.pc++[⟨n,l',fill,rule,lvM level⟩]):=by rw [HA2.out,if_neg hf]
            subst ha
            clear HA2 hf SFd
            have hVs:=b23.size
            have y4:w3.cell? ⟨BS,0,none⟩=some (.slice ro2 l'.length rc2):=(b3.cell (cell_lt (w:=wc.drew) bs0)).trans bs0
            have y5:w3.cell? ⟨WB,3,none⟩=some v:=(b3.cell (cell_lt (w:=wc.drew) wb3)).trans wb3
            obtain ⟨ov,kv,hvo⟩:=own_slice HS.out.own
            subst hvo
            obtain ⟨i0,hi,hz0,hz1,hz2⟩:=info_parts infoPcS
            have SRd:=fun U (hU:Below w3.heap.size w3 U)=>SR U (mbel b23 hU)
            have SLd:=fun U (hU:Below w3.heap.size w3 U)=>SL U (mbel b23 hU)
            have RLd:=fun U (hU:Below w3.heap.size w3 U)=>readLevel_any (HN.out.below (mbel b23 hU)) level hlv
            have KEEP:∀ U,Below w3.heap.size w3 U->U.cell? ⟨Bw,0,none⟩=some (.pointer (some ⟨WB,0,none⟩))/\U.cell? ⟨WB,1,none⟩=some (stV Bd Bl)/\U.cell? ⟨PB,0,none⟩=some (.int .i64 n)/\U.cell? ⟨BS,0,none⟩=some (.slice ro2 l'.length rc2)/\U.cell? ⟨WB,3,none⟩=some (.slice ov ps.length kv):=fun U hU=>⟨(hU.cell (cell_lt x1)).trans x1,(hU.cell (cell_lt x2)).trans x2,(hU.cell (cell_lt x3)).trans x3,(hU.cell (cell_lt y4)).trans y4,(hU.cell (cell_lt y5)).trans y5⟩
            have neW:(Value.slice ov ps.length kv).ownBlock≠some WB:=fun e1=>by
              obtain ⟨cs,f,h1, -⟩:=own_type HS.out.own WB e1
              rw [HS.out.wb] at h1
              cases h1
            have OW6:∀ U,Below w3.heap.size w3 U->(U.alloc (.cells #[.int .i64 n,.slice ro2 l'.length rc2,bV fill,bV rule,.int .i64 (lvM level)] 45)).ownsRow base 45 5 (.slice ov ps.length kv) ps.length (cellsS ps):=fun U hU=>World.ownsRow.alloc (own_bel HS.out.own (mbel b23 hU)) _
            have kw3:=(b23.block _ (blk_lt hwB)).trans hwB
            have kW3:=(b23.block _ (blk_lt HS.out.wb)).trans HS.out.wb
            have kP3:=(b23.block _ (blk_lt hp)).trans hp
            have kB3:w3.heap[BS]? = some (.cells #[.slice ro2 l'.length rc2] 43):=(b3.block _ (blk_lt (w:=wc.drew) KB2)).trans KB2
            have ROW:∀ U,Below w3.heap.size w3 U->∀ w7,(U.alloc (.cells #[.int .i64 n,.slice ro2 l'.length rc2,bV fill,bV rule,.int .i64 (lvM level)] 45)).grownBy w7 (Value.slice ov ps.length kv).ownBlock->∀ (b:Nat) (cs:Array Value) (t:TypeId),w3.heap[b]? = some (Obj.cells cs t)->t≠45->w7.heap[b]? = some (Obj.cells cs t):=fun U hU w7 gr b cs t hb ht=>by
              have b8:=mbel hU (mal U (.cells #[.int .i64 n,.slice ro2 l'.length rc2,bV fill,bV rule,.int .i64 (lvM level)] 45))
              refine (gr.block b (Nat.lt_of_lt_of_le (blk_lt hb) b8.size) (fun e1=>?_)).trans ((b8.block b (blk_lt hb)).trans hb)
              obtain ⟨cs',f',h1, -⟩:=own_type (own_bel HS.out.own b23) b e1.symm
              rw [hb] at h1
              cases h1
              exact ht rfl
            have A7:∀ U,Below w3.heap.size w3 U->∀ w7,(U.alloc (.cells #[.int .i64 n,.slice ro2 l'.length rc2,bV fill,bV rule,.int .i64 (lvM level)] 45)).grownBy w7 (Value.slice ov ps.length kv).ownBlock->S9 Bw WB PB BS n (stV Bd Bl) (.slice ro2 l'.length rc2) (.slice ov ps.length kv) w7/\w7.frozen? ⟨WB,3,none⟩=false:=fun U hU w7 gr=>by
              have rW:=ROW U hU w7 gr WB _ _ kW3 (by decide)
              exact ⟨⟨bcell (ROW U hU w7 gr Bw _ _ kw3 (by decide)) 0 _ rfl,bcell rW 1 _ rfl,bcell (ROW U hU w7 gr PB _ _ kP3 (by decide)) 0 _ rfl,bcell (ROW U hU w7 gr BS _ _ kB3 (by decide)) 0 _ rfl,bcell rW 3 _ rfl⟩,bfrozQ rW 3⟩
            have HB3:Hid (OwnP w3 V.heap.size (.slice ro2 l'.length rc2) l'):=(HOW.out.keep (⟨b3.os,b3.tape,b3.output,b3.size,b3.block⟩:Below wc.heap.size wc w3):OwnP w3 V.heap.size (.slice ro2 l'.length rc2) l')
            have HB23:Hid (Below V.heap.size V w3):=b23
            clear ROW kw3 kW3 kP3 kB3 hown2 HOW hwB NW2 NW b1 b2 b3 b23 hpw hpw2 KB KB2 wbk wb1 wb3 bs0 pz0 bw0 hr hw hp p0 pw0 SF SR SL
            go_upto_region 9 with fail
            refine region_U (S9 Bw WB PB BS n (stV Bd Bl) (.slice ro2 l'.length rc2) (.slice ov ps.length kv)) 35 (by kernel_rfl) ?_
            have hS:S9 Bw WB PB BS n (stV Bd Bl) (.slice ro2 l'.length rc2) (.slice ov ps.length kv) w3.drew:=⟨x1,x2,x3,y4,y5⟩
            refine U_take (v:=?v0) 0 rfl (by kernel_rfl) (by kernel_rfl) (by kernel_rfl) (by kernel_rfl) (fun _ _ _ h=>h) hS (.inl ⟨rfl,fun w hw=>?hy0⟩) ?hr0
            case hy0=>obtain ⟨g1,g2,g3,g4,g5⟩:=hw;go_simp;try with_reducible rfl
            simp only [Act.put,List.setIfInBounds_toArray]
            refine U_take (v:=?v1) 1 rfl (by kernel_rfl) (by kernel_rfl) (by kernel_rfl) (by kernel_rfl) (fun _ _ _ h=>h) hS (.inl ⟨rfl,fun w hw=>?hy1⟩) ?hr1
            case hy1=>obtain ⟨g1,g2,g3,g4,g5⟩:=hw;go_simp;try with_reducible rfl
            simp only [Act.put]
            refine U_take (v:=?v2) 2 rfl (by kernel_rfl) (by kernel_rfl) (by kernel_rfl) (by kernel_rfl) (fun _ _ _ h=>h) hS (.inl ⟨rfl,fun w hw=>?hy2⟩) ?hr2
            case hy2=>obtain ⟨g1,g2,g3,g4,g5⟩:=hw;go_simp;try with_reducible rfl
            simp only [Act.put]
            refine U_take (v:=?v3) 3 rfl (by kernel_rfl) (by kernel_rfl) (by kernel_rfl) (by kernel_rfl) (fun _ _ _ h=>h) hS (.inl ⟨rfl,fun w hw=>?hy3⟩) ?hr3
            case hy3=>obtain ⟨g1,g2,g3,g4,g5⟩:=hw;go_simp;try with_reducible rfl
            simp only [Act.put]
            refine U_take (v:=?v4) 4 rfl (by kernel_rfl) (by kernel_rfl) (by kernel_rfl) (by kernel_rfl) (fun _ _ _ h=>h) hS (.inl ⟨rfl,fun w hw=>?hy4⟩) ?hr4
            case hy4=>obtain ⟨g1,g2,g3,g4,g5⟩:=hw;go_simp;try with_reducible rfl
            simp only [Act.put]
            refine U_take (v:=?v5) 5 rfl (by kernel_rfl) (by kernel_rfl) (by kernel_rfl) (by kernel_rfl) (fun _ _ _ h=>h) hS (.inl ⟨rfl,fun w hw=>?hy5⟩) ?hr5
            case hy5=>obtain ⟨g1,g2,g3,g4,g5⟩:=hw;go_simp;try with_reducible rfl
            simp only [Act.put]
            refine U_take (v:=?v6) 6 rfl (by kernel_rfl) (by kernel_rfl) (by kernel_rfl) (by kernel_rfl) (fun _ _ _ h=>h) hS (.inl ⟨rfl,fun w hw=>?hy6⟩) ?hr6
            case hy6=>obtain ⟨g1,g2,g3,g4,g5⟩:=hw;go_simp;try with_reducible rfl
            simp only [Act.put]
            refine U_take (v:=?v7) 7 rfl (by kernel_rfl) (by kernel_rfl) (by kernel_rfl) (by kernel_rfl) (fun _ _ _ h=>h) hS (.inl ⟨rfl,fun w hw=>?hy7⟩) ?hr7
            case hy7=>obtain ⟨g1,g2,g3,g4,g5⟩:=hw;go_simp;try with_reducible rfl
            simp only [Act.put]
            refine U_take (v:=?v8) 8 rfl (by kernel_rfl) (by kernel_rfl) (by kernel_rfl) (by kernel_rfl) (fun _ _ _ h=>h) hS (.inl ⟨rfl,fun w hw=>?hy8⟩) ?hr8
            case hy8=>obtain ⟨g1,g2,g3,g4,g5⟩:=hw;go_simp;try with_reducible rfl
            simp only [Act.put]
            refine U_take (v:=?v9) 9 rfl (by kernel_rfl) (by kernel_rfl) (by kernel_rfl) (by kernel_rfl) (fun _ _ _ h=>h) hS (.inl ⟨rfl,fun w hw=>?hy9⟩) ?hr9
            case hy9=>obtain ⟨g1,g2,g3,g4,g5⟩:=hw;go_simp;try with_reducible rfl
            simp only [Act.put]
            refine U_take (v:=?v10) 10 rfl (by kernel_rfl) (by kernel_rfl) (by kernel_rfl) (by kernel_rfl) (fun _ _ _ h=>h) hS (.inl ⟨rfl,fun w hw=>?hy10⟩) ?hr10
            case hy10=>obtain ⟨g1,g2,g3,g4,g5⟩:=hw;go_simp;try with_reducible rfl
            simp only [Act.put]
            refine U_take (v:=?v11) 11 rfl (by kernel_rfl) (by kernel_rfl) (by kernel_rfl) (by kernel_rfl) (fun _ _ _ h=>h) hS (.inl ⟨rfl,fun w hw=>?hy11⟩) ?hr11
            case hy11=>obtain ⟨g1,g2,g3,g4,g5⟩:=hw;go_simp;try with_reducible rfl
            simp only [Act.put]
            refine U_take (v:=?v12) 12 rfl (by kernel_rfl) (by kernel_rfl) (by kernel_rfl) (by kernel_rfl) (fun _ _ _ h=>h) hS (.inl ⟨rfl,fun w hw=>?hy12⟩) ?hr12
            case hy12=>obtain ⟨g1,g2,g3,g4,g5⟩:=hw;go_simp;try with_reducible rfl
            simp only [Act.put]
            refine U_take (v:=?v13) 13 rfl (by kernel_rfl) (by kernel_rfl) (by kernel_rfl) (by kernel_rfl) (fun _ _ _ h=>h) hS (.inl ⟨rfl,fun w hw=>?hy13⟩) ?hr13
            case hy13=>obtain ⟨g1,g2,g3,g4,g5⟩:=hw;go_simp;try with_reducible rfl
            simp only [Act.put]
            refine U_take (v:=?v14) 14 rfl (by kernel_rfl) (by kernel_rfl) (by kernel_rfl) (by kernel_rfl) (fun _ _ _ h=>h) hS (.inl ⟨rfl,fun w hw=>?hy14⟩) ?hr14
            case hy14=>obtain ⟨g1,g2,g3,g4,g5⟩:=hw;go_simp;try with_reducible rfl
            simp only [Act.put]
            refine U_take (v:=?v15) 15 rfl (by kernel_rfl) (by kernel_rfl) (by kernel_rfl) (by kernel_rfl) (fun _ _ _ h=>h) hS (.inl ⟨rfl,fun w hw=>?hy15⟩) ?hr15
            case hy15=>obtain ⟨g1,g2,g3,g4,g5⟩:=hw;go_simp;try with_reducible rfl
            simp only [Act.put]
            refine U_take (v:=?v16) 16 rfl (by kernel_rfl) (by kernel_rfl) (by kernel_rfl) (by kernel_rfl) (fun _ _ _ h=>h) hS (.inl ⟨rfl,fun w hw=>?hy16⟩) ?hr16
            case hy16=>obtain ⟨g1,g2,g3,g4,g5⟩:=hw;go_simp;try with_reducible rfl
            simp only [Act.put]
            refine U_take (v:=?v17) 17 rfl (by kernel_rfl) (by kernel_rfl) (by kernel_rfl) (by kernel_rfl) (fun _ _ _ h=>h) hS (.inl ⟨rfl,fun w hw=>?hy17⟩) ?hr17
            case hy17=>obtain ⟨g1,g2,g3,g4,g5⟩:=hw;go_simp;try with_reducible rfl
            simp only [Act.put]
            refine U_take (v:=?v18) 18 rfl (by kernel_rfl) (by kernel_rfl) (by kernel_rfl) (by kernel_rfl) (fun _ _ _ h=>h) hS (.inl ⟨rfl,fun w hw=>?hy18⟩) ?hr18
            case hy18=>obtain ⟨g1,g2,g3,g4,g5⟩:=hw;go_simp;try with_reducible rfl
            simp only [Act.put]
            refine U_take (v:=?v20) 20 rfl (by kernel_rfl) (by kernel_rfl) (by kernel_rfl) (by kernel_rfl) (fun _ _ _ h=>h) hS (.inl ⟨rfl,fun w hw=>?hy20⟩) ?hr20
            case hy20=>obtain ⟨g1,g2,g3,g4,g5⟩:=hw;go_simp;try with_reducible rfl
            simp only [Act.put]
            refine U_take (v:=?v21) 21 rfl (by kernel_rfl) (by kernel_rfl) (by kernel_rfl) (by kernel_rfl) (fun _ _ _ h=>h) hS (.inl ⟨rfl,fun w hw=>?hy21⟩) ?hr21
            case hy21=>obtain ⟨g1,g2,g3,g4,g5⟩:=hw;go_simp;try with_reducible rfl
            simp only [Act.put]
            refine U_take (v:=?v22) 22 rfl (by kernel_rfl) (by kernel_rfl) (by kernel_rfl) (by kernel_rfl) (fun _ _ _ h=>h) hS (.inl ⟨rfl,fun w hw=>?hy22⟩) ?hr22
            case hy22=>obtain ⟨g1,g2,g3,g4,g5⟩:=hw;go_simp;try with_reducible rfl
            simp only [Act.put]
            refine U_take (v:=?v23) 23 rfl (by kernel_rfl) (by kernel_rfl) (by kernel_rfl) (by kernel_rfl) (fun _ _ _ h=>h) hS (.inl ⟨rfl,fun w hw=>?hy23⟩) ?hr23
            case hy23=>obtain ⟨g1,g2,g3,g4,g5⟩:=hw;go_simp;try with_reducible rfl
            simp only [Act.put]
            refine U_take (v:=?v24) 24 rfl (by kernel_rfl) (by kernel_rfl) (by kernel_rfl) (by kernel_rfl) (fun _ _ _ h=>h) hS (.inl ⟨rfl,fun w hw=>?hy24⟩) ?hr24
            case hy24=>obtain ⟨g1,g2,g3,g4,g5⟩:=hw;go_simp;try with_reducible rfl
            simp only [Act.put]
            refine U_take (v:=?v25) 25 rfl (by kernel_rfl) (by kernel_rfl) (by kernel_rfl) (by kernel_rfl) (fun _ _ _ h=>h) hS (.inl ⟨rfl,fun w hw=>?hy25⟩) ?hr25
            case hy25=>obtain ⟨g1,g2,g3,g4,g5⟩:=hw;go_simp;try with_reducible rfl
            simp only [Act.put]
            refine U_take (v:=?v26) 26 rfl (by kernel_rfl) (by kernel_rfl) (by kernel_rfl) (by kernel_rfl) (fun _ _ _ h=>h) hS (.inl ⟨rfl,fun w hw=>?hy26⟩) ?hr26
            case hy26=>obtain ⟨g1,g2,g3,g4,g5⟩:=hw;go_simp;try with_reducible rfl
            simp only [Act.put]
            refine U_take (v:=?v27) 27 rfl (by kernel_rfl) (by kernel_rfl) (by kernel_rfl) (by kernel_rfl) (fun _ _ _ h=>h) hS (.inl ⟨rfl,fun w hw=>?hy27⟩) ?hr27
            case hy27=>obtain ⟨g1,g2,g3,g4,g5⟩:=hw;go_simp;try with_reducible rfl
            simp only [Act.put]
            refine U_one 19 (by kernel_rfl) rfl (fun K hK=>?_)
            go_simp
            go_wp2_with (go_at_call 42;refine (SRd _ (below_drewN (Below.refl _ _) 1)).mono ?_;rintro e w4 ⟨rfl,b4⟩)
            have bb4:Below w3.heap.size w3 w4:=mbel (below_drewN (Below.refl w3.heap.size w3) 1) b4
            have hS4:S9 Bw WB PB BS n (stV Bd Bl) (.slice ro2 l'.length rc2) (.slice ov ps.length kv) w4:=KEEP w4 bb4
            refine hK.out _ _ (fun _=>hS4) ?_
            clear hK
            refine U_one 28 (by kernel_rfl) rfl (fun K hK=>?_)
            go_simp
            go_wp2_with (go_at_call 42;refine (SLd _ bb4).mono ?_;rintro e w5 ⟨rfl,b5⟩)
            have bb5:=mbel bb4 b5
            have hS5:S9 Bw WB PB BS n (stV Bd Bl) (.slice ro2 l'.length rc2) (.slice ov ps.length kv) w5:=KEEP w5 bb5
            refine hK.out _ _ (fun _=>hS5) ?_
            clear hK
            refine U_one 29 (by kernel_rfl) rfl (fun K hK=>?_)
            go_simp
            go_wp2_with (go_at_call 166;refine (RLd _ bb5).mono ?_;rintro e w6 ⟨rfl,b6⟩)
            have bb6:=mbel bb5 b6
            have hS6:S9 Bw WB PB BS n (stV Bd Bl) (.slice ro2 l'.length rc2) (.slice ov ps.length kv) w6:=KEEP w6 bb6
            refine hK.out _ _ (fun _=>hS6) ?_
            clear hK
            refine U_take (v:=?v30) 30 rfl (by kernel_rfl) (by kernel_rfl) (by kernel_rfl) (by kernel_rfl) (fun _ _ _ h=>h) hS6 (.inl ⟨rfl,fun w hw=>?hy30⟩) ?hr30
            case hy30=>obtain ⟨g1,g2,g3,g4,g5⟩:=hw;go_simp;try with_reducible rfl
            simp only [Act.put]
            refine U_one 31 (by kernel_rfl) rfl (fun K hK=>?_)
            go_simp
            have hS7:S9 Bw WB PB BS n (stV Bd Bl) (.slice ro2 l'.length rc2) (.slice ov ps.length kv) (w6.alloc (.cells #[.int .i64 n,.slice ro2 l'.length rc2,bV fill,bV rule,.int .i64 (lvM level)] 45)):=⟨mcell_al _ hS6.1,mcell_al _ hS6.2.1,mcell_al _ hS6.2.2.1,mcell_al _ hS6.2.2.2.1,mcell_al _ hS6.2.2.2.2⟩
            have ow6:=OW6 w6 bb6
            have hs6:=bb6.size
            have H0:=mbox w6 #[.int .i64 n,.slice ro2 l'.length rc2,bV fill,bV rule,.int .i64 (lvM level)] 45
            refine hK.out _ _ (fun _=>hS7) ?_
            clear hK
            refine U_one 32 (by kernel_rfl) rfl (fun K hK=>?_)
            refine step_append_lies _ rfl (.tmp 57) (.tmp 84) 38 rfl base 45 i0 (.agg #[.int .i64 0,.slice none 0 0,.string ⟨#[]⟩,.string ⟨#[]⟩,.int .i64 0]) 5 72 Tryz.underlying38 hi hz0 hz1 hz2 rfl (by decide) (.slice ov ps.length kv) ps.length (cellsS ps) rfl ow6 ⟨w6.heap.size,0,none⟩ 1 1 [.int .i64 n,.slice ro2 l'.length rc2,bV fill,bV rule,.int .i64 (lvM level)] rfl rfl (World.news_of_block H0) (fun u hu=>by simp at hu;rcases hu with rfl | rfl | rfl | rfl | rfl <;> rfl) (by decide) (by simp only [maxLen];omega) (by omega) (by simp;omega) _ rfl ?_
            intro g7 cap7 w7 ow7 gr7 hat7 hlt7
            obtain ⟨hS8,t6⟩:=A7 w6 bb6 w7 gr7
            have t5:=hS8.2.2.2.2
            refine hK.out _ _ (fun _=>hS8) ?_
            clear hK
            simp only [Act.put]
            refine U_one 33 (by kernel_rfl) rfl (fun K hK=>?_)
            go_simp
            refine hK.out _ _ (fun _=>hS8) ?_
            clear hK
            refine U_one 34 (by kernel_rfl) rfl (fun K hK=>?_)
            go_simp
            refine hK.out _ _ (fun _=>hS8) ?_
            clear hK
            refine U_one 35 (by kernel_rfl) rfl (fun K hK=>?_)
            go_simp
            refine hK.out _ _ (fun h=>absurd rfl h) ?_
            clear hK
            refine U_done (by kernel_rfl) ?_ _
            go_wp2_with fail
            go_ret
            have b37:=mbel HB23.out (mbel bb6 (mal w6 (.cells #[.int .i64 n,.slice ro2 l'.length rc2,bV fill,bV rule,.int .i64 (lvM level)] 45)))
            obtain ⟨r1,r2,r3⟩:=Sc.app (x:=⟨n,ro2,rc2,l',fill,rule,lvM level⟩) HS.out b37 ((HB3.out.keep (mbel bb6 (mal w6 _))).low hbase) HR.out ow7 gr7 hat7
            exact ⟨⟨rfl,ps++[⟨n,ro2,rc2,l',fill,rule,lvM level⟩],_,by rw [List.map_append];rfl,r1,r3⟩,r2⟩
end
end Go.Proofs.YtgphclgmmocdhaaGreatDoor

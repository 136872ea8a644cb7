/-
  Parts of the proof.
-/
import Derived.Test.YtgphclgmmocdhaaGreatDoorQh32
namespace Go.Proofs.YtgphclgmmocdhaaGreatDoor
section
theorem chk_whole {x:Int} (h1 : -1000<=x) (h2:x<=1000):chk x 1=0:=by
 rw [chk_zero]
 refine ⟨by decide,?_,by omega,by decide⟩
 unfold gcdI
 simp
end
section
open Go.RowKit
def qtP (a:Qt):Pt:=⟨⟨a.xn,a.xd⟩,⟨a.yn,a.yd⟩⟩
theorem chkP_pi {a:Qt} (h:chkP a=0):PI a:=by
 obtain ⟨c1,c2⟩:=chkP_zero.1 h
 obtain ⟨i1,i2⟩:=i64_of_chk c1
 obtain ⟨i3,i4⟩:=i64_of_chk c2
 exact ⟨i1,i2,i3,i4⟩
theorem heap3 (w:World) (o0 o1 o2:Obj):∀ U,((w.alloc o0).alloc o1).alloc o2=U->
  U.heap[w.heap.size]? = some o0/\U.heap[w.heap.size+1]? = some o1/\U.heap[w.heap.size+1+1]? = some o2/\Below w.heap.size w U:=by
 rintro U rfl
 refine ⟨?_,?_,?_,?_⟩
 ·exact al_old _ (al_old _ (al_new _ rfl))
 ·exact al_old _ (al_new _ (by simp))
 ·exact al_new _ (by simp)
 ·exact (((Below.refl _ _).alloc Nat.le.refl _).alloc (by simp) _).alloc (by simp;omega) _
theorem blk_keepQ {w w':World} {b n:Nat} {o:Obj} (hb:Below n w w') (hn:w.heap.size<=n) (h:w.heap[b]? = some o):w'.heap[b]? = some o:=(hb.block _ (Nat.lt_of_lt_of_le (Array.getElem?_eq_some_iff.1 h).1 hn)).trans h
theorem blk_keep {w w':World} {b:Nat} {o:Obj} (hb:Below w.heap.size w w') (h:w.heap[b]? = some o):w'.heap[b]? = some o:=blk_keepQ hb Nat.le.refl h
theorem OwnP.far {w:World} {base b:Nat} {v u:Value} {l:List Qt} (h:OwnP w base v l) (hb:b<base):OwnP (w.setCell ⟨b,0,none⟩ u) base v l:=by
 refine ⟨h.1,?_⟩
 rcases h.2 with h0 | ⟨g,cap,cur,h1,h2,h3,h4⟩
 ·exact .inl h0
 ·refine .inr ⟨g,cap,cur,h1,h2,?_,h4⟩
  rw [Below.heap_setCell _ _ _ g (by simp;omega)]
  exact h3
theorem OwnP.low {w:World} {base b:Nat} {v:Value} {l:List Qt} (h:OwnP w base v l) (hb:b<=base):OwnP w b v l:=by
 refine ⟨h.1,?_⟩
 rcases h.2 with h0 | ⟨g,cap,cur,h1,h2,h3⟩
 ·exact .inl h0
 ·exact .inr ⟨g,cap,cur,h1,Nat.le_trans hb h2,h3⟩
theorem OwnP.keep {w w':World} {base:Nat} {v:Value} {l:List Qt} (h:OwnP w base v l) (hb:Below w.heap.size w w'):OwnP w' base v l:=by
 refine ⟨h.1,?_⟩
 rcases h.2 with h0 | ⟨g,cap,cur,h1,h2,h3,h4⟩
 ·exact .inl h0
 ·exact .inr ⟨g,cap,cur,h1,h2,blk_keep hb h3,h4⟩
end
section
open Go.RowKit Go.Shelf
set_option maxHeartbeats 4000000
set_option maxRecDepth 20000
def CkR (E:Nat->Addr) (l:List Qt) (o:Option Addr) (cap:Nat) (e:Ending) (w':World):Prop:=
 (okB l=true/\e=.returned (.tuple #[.agg #[.slice o l.length cap],.nilIface]))\/(okB l=false/\∃ v,e=.returned (.tuple #[.agg #[.slice none 0 0],v])/\ErC E 2 v w')
theorem okB_iff (l:List Qt):okB l=true↔okSh l:=by
 unfold okB okSh
 simp
theorem chk_rt {E:Nat->Addr} {w W:World} {l:List Qt} {e:Ending} (hl:∀ y ∈ l,chkP y=0) (h:ChkR (E 2) (E 3) (E 2) w l e W):∃ v,e=.returned v/\((okB l=true/\v=.nilIface)\/(okB l=false/\(v=eV (E 2)\/∃ pb,w.heap.size<=pb/\v=.iface 143 (.pointer (some ⟨pb,0,none⟩))/\W.cell? ⟨pb,1,none⟩=some (eV (E 2))))):=by
 rcases h with ⟨h1,h2⟩ | ⟨-,⟨y,hy,hy2⟩, -⟩ | ⟨h1,h2,h3⟩
 ·exact ⟨_,h2,.inr ⟨by rw [<- Bool.not_eq_true,okB_iff];exact fun h=>by have:=h.1;omega,.inl rfl⟩⟩
 ·exact absurd (hl y hy) hy2
 ·rcases h3 with ⟨h4,h5⟩ | ⟨q,x,r,pb,h4, -,h6,h7,h8, -,h9⟩
  ·exact ⟨_,h5,.inl ⟨(okB_iff l).2 ⟨h1,fun y hy=>by unfold errP;rw [if_neg (by simp [h2 y hy])];exact h4 y hy⟩,rfl⟩⟩
  ·have hx:bigP x=2:=by have:=bigP_cases x;omega
   refine ⟨_,h8,.inr ⟨?_,.inr ⟨pb,h7,rfl,by rw [h9,hx];rfl⟩⟩⟩
   rw [<- Bool.not_eq_true,okB_iff]
   intro hh
   have hm:x ∈ l:=by rw [h4];simp
   have:=hh.2 x hm
   unfold errP at this
   rw [if_neg (by simp [h2 x hm])] at this
   exact h6 this
theorem checked_rt {E:Nat->Addr} (l:List Qt) (hl:∀ y ∈ l,chkP y=0) (o:Option Addr) (cap:Nat) (w:World) (h:PtsAt w o l) (hE:NE E w) :
  Calls Tryz.prog 216 #[.slice o l.length cap] w fun e W=>CkR E l o cap e W/\Below w.heap.size w W:=by
 go_enter Tryz.func216,Tryz.ntmps216
 go_upto_region 2 with fail
 obtain ⟨U,hU⟩:∃ U,(w.alloc (.cells #[.slice none 0 0] 43)).alloc (.cells #[.slice o l.length cap] 43)=U:=⟨_,rfl⟩
 have hbU:Below w.heap.size w U:=by rw [<- hU];exact ((Below.refl _ _).alloc Nat.le.refl _).alloc (by simp) _
 have c0:U.cell? ⟨w.heap.size,0,none⟩=some (.slice none 0 0)/\U.frozen? ⟨w.heap.size,0,none⟩=false:=by
  rw [<- hU]
  have h1:=mbelow (w.alloc (.cells #[.slice none 0 0] 43)) (.cells #[.slice o l.length cap] 43)
  exact ⟨(h1.cell (p:=⟨w.heap.size,0,none⟩) (by simp)).trans (cell_onew w _ _).1,(h1.frozen (p:=⟨w.heap.size,0,none⟩) (by simp)).trans (cell_onew w _ _).2⟩
 have c1:U.cell? ⟨w.heap.size+1,0,none⟩=some (.slice o l.length cap):=by
  have h1:=(cell_onew (w.alloc (.cells #[.slice none 0 0] 43)) (.slice o l.length cap) 43).1
  rw [show (w.alloc (.cells #[.slice none 0 0] 43)).heap.size=w.heap.size+1 from by simp,hU] at h1
  exact h1
 rw [hU]
 clear hU
 obtain ⟨c0,f0⟩:=c0
 have CK:=Check_sh (E 2) (E 3) (E 2) l o cap U (h.below hbU Nat.le.refl) (hE.e3.below hbU Nat.le.refl)
 have hUl:w.heap.size<U.heap.size:=cell_lt c0
 have HL:Hid (∀ y ∈ l,chkP y=0):=hl
 go_upto_region 3 with (go_at_call 194;refine CK.mono ?_;rintro e w1 ⟨hc,b1⟩;obtain ⟨v,rfl,hcv⟩:=chk_rt HL.out hc)
 have q0:=(b1.cell (cell_lt c0)).trans c0
 have g0:=(b1.frozen (cell_lt c0)).trans f0
 have q1:=(b1.cell (cell_lt c1)).trans c1
 have bw1:=bel_more hbU b1
 clear hc CK c0 f0 c1
 rcases hcv with ⟨hok,rfl⟩ | ⟨hno,hv⟩
 ·go_wp2_with fail
  have d0:(w1.setCell ⟨w.heap.size,0,none⟩ (.slice o l.length cap)).cell? ⟨w.heap.size,0,none⟩=some (.slice o l.length cap):=World.cell?_setCell_same' _ _ _ (by rw [q0];rfl)
  exact bodyPost_ret (v:=.tuple #[.agg #[.slice o l.length cap],.nilIface]) (by simp [results,Tryz.results216,go_sem,d0]) rfl ⟨.inl ⟨hok,rfl⟩,bw1.setCell (by simp) _⟩
 ·have d0:(w1.setCell ⟨w.heap.size,0,none⟩ (.slice none 0 0)).cell? ⟨w.heap.size,0,none⟩=some (.slice none 0 0):=World.cell?_setCell_same' _ _ _ (by rw [q0];rfl)
  rcases hv with rfl | ⟨pb,hpb,rfl,hp1⟩
  ·go_wp2_with fail
   exact bodyPost_ret (v:=.tuple #[.agg #[.slice none 0 0],eV (E 2)]) (by simp [results,Tryz.results216,go_sem,d0]) rfl ⟨.inr ⟨hno,_,rfl,by decide,by decide,.inl rfl⟩,bw1.setCell (by simp) _⟩
  ·go_wp2_with fail
   refine bodyPost_ret (v:=.tuple #[.agg #[.slice none 0 0],.iface 143 (.pointer (some ⟨pb,0,none⟩))]) (by simp [results,Tryz.results216,go_sem,d0]) rfl ⟨.inr ⟨hno,_,rfl,by decide,by decide,.inr ⟨pb,0,rfl,?_⟩⟩,bw1.setCell (by simp) _⟩
   exact (World.cell?_setCell_far _ _ _ _ (by show w.heap.size≠pb;omega)).trans hp1
end
section
open Go.RowKit Go.Shelf
set_option maxHeartbeats 8000000
set_option maxRecDepth 20000
def ShpR (E:Nat->Addr) (x:Except Nat (List Qt)) (e:Ending) (w':World):Prop:=match x with
  | .ok l=>(∀ a ∈ l,chkP a=0)/\okB l=true/\∃ o cap,e=.returned (.tuple #[.agg #[.slice o l.length cap],.nilIface])/\PtsAt w' o l
  | .error c=>∃ v,e=.returned (.tuple #[.agg #[.slice none 0 0],v])/\ErC E c v w'
def ptB (w:ByteArray):Option Qt:=ptM w.data.toList
theorem ptM_chk {w:Bs} {q:Qt} (h:ptM w=some q):chkP q=0:=by
  unfold ptM at h
  cases hb:behind 44 w with
  | none=>rw [hb] at h;cases h
  | some b=>
    rw [hb] at h
    dsimp only at h
    by_cases hc:(rd (ahead 44 w)).c=0/\(rd b).c=0
    · rw [if_pos hc] at h
      obtain rfl:=Option.some.inj h
      exact chkP_zero.2 ⟨rd_ok hc.1,rd_ok hc.2⟩
    · rw [if_neg hc] at h;cases h
theorem mapM_snoc {f:ByteArray->Option Qt} {ws:List ByteArray} {k:Nat} {L:List Qt} {x:ByteArray} {q:Qt} (h:(ws.take k).mapM f=some L) (hx:ws[k]? = some x) (hq:f x=some q):(ws.take (k+1)).mapM f=some (L++[q]):=by
  rw [List.take_add_one,hx]
  simp [List.mapM_append,h,hq]
theorem mapM_no {f:ByteArray->Option Qt}:∀ {ws:List ByteArray} {k:Nat} {x:ByteArray},ws[k]? = some x->f x=none->ws.mapM f=none
  | [],_,_,h,_=>by simp at h
  | y :: ws,0,x,h,hx=>by
    simp at h
    subst h
    simp [hx]
  | y :: ws,k+1,x,h,hx=>by
    have:=mapM_no (ws:=ws) (k:=k) (by simpa using h) hx
    simp [this]
def shpW (ws:List ByteArray):Except Nat (List Qt):=match ws.mapM ptB with
  | none=>.error 1
  | some l=>if okB l then .ok l else .error 2
theorem ErC.far {E:Nat->Addr} {c:Nat} {v u:Value} {w:World} {b:Nat} (h:ErC E c v w):ErC E c v (w.setCell ⟨b,0,none⟩ u):=by
  obtain ⟨h1,h2,h3⟩:=h
  refine ⟨h1,h2,?_⟩
  rcases h3 with h3 | ⟨pb,po,h3,h4⟩
  · exact .inl h3
  · exact .inr ⟨pb,po,h3,(World.cell?_setCell_other _ _ _ _ (by intro h;simp at h)).trans h4⟩
def SrL (ws:List ByteArray) (w1:World) (x y:Value) (wr:World):Prop:=∃ (k:Nat) (L:List Qt) (v:Value),x=v/\y=.int .i64 k/\k<=ws.length/\(ws.take k).mapM ptB=some L/\(∀ a ∈ L,chkP a=0)/\L.length=k/\OwnP wr w1.heap.size v L/\Below w1.heap.size w1 wr
section
variable {E:Nat->Addr} {W:World}
theorem ShRead_some (hN:NE E W) (s:ByteArray) (hs:s.size<=1000) (h0:s.size≠0) :
    Calls Tryz.prog 169 #[.string s] W fun e w'=>ShpR E (shpW (words s)) e w'/\Below W.heap.size W w':=by
  obtain ⟨i0,hi,hz0,hz1,hz2⟩:=info_parts infoPt
  have b0:=mal W (.cells #[.slice none 0 0] 43)
  have K0:=mbox W #[.slice none 0 0] 43
  have SP:=split_any s (by omega) (W.alloc (.cells #[.slice none 0 0] 43))
  have hlen:(words s).length=Lib.countB s ⟨#[32]⟩+1:=Lib.splitB_all ⟨#[32]⟩ (by decide) 0 _ s rfl
  have hle:=Lib.countB_le ⟨#[32]⟩ (by decide) s.size s Nat.le.refl
  have hsz:∀ a ∈ words s,a.size<=1000:=fun a ha=>by have:=split_le _ s a ha;omega
  have hws:(Lib.splitB ⟨#[32]⟩ 0 (Lib.countB s ⟨#[32]⟩) s)=words s:=rfl
  rw [hws,<- hlen] at SP
  have hn1:(words s).length<=1001:=by omega
  generalize words s=ws at SP hsz hn1 ⊢
  clear hws hlen hle
  have hne:s.toList.isEmpty=false:=by
    rw [ByteArray.toList_eq,List.isEmpty_eq_false_iff]
    intro e
    exact h0 (by rw [<- len_eq,e];rfl)
  have b1:=mal (W.alloc (.cells #[.slice none 0 0] 43)) (.cells (ws.map Value.string).toArray 9)
  have KW:=mbox (W.alloc (.cells #[.slice none 0 0] 43)) (ws.map Value.string).toArray 9
  have HN:Hid (NE E W):=hN
  clear hN
  go_enter Tryz.func169,Tryz.ntmps169
  go_upto_region 5 with (go_at_call 217;refine SP.mono ?_;rintro e w1 ⟨rfl,rfl⟩)
  clear SP
  obtain ⟨w1,hw1⟩:∃ U,(W.alloc (.cells #[.slice none 0 0] 43)).alloc (.cells (ws.map Value.string).toArray 9)=U:=⟨_,rfl⟩
  obtain ⟨WB,hWB⟩:∃ b,(W.alloc (.cells #[.slice none 0 0] 43)).heap.size=b:=⟨_,rfl⟩
  have hWBl:W.heap.size<WB:=by rw [<- hWB];simp
  have K1:=(b1.block _ (blk_lt K0)).trans K0
  have bw1:=mbel b0 b1
  rw [hw1] at bw1 K1 KW ⊢
  rw [hWB] at KW
  simp only [World.size_alloc] at hWB
  simp only [hWB]
  clear hw1 b0 b1 K0
  go_loopw [4,15] (fun x y wr=>SrL ws w1 x y wr) (fun _ y _=>ws.length - (intOf y).toNat)
  case atStart=>exact ⟨0,[],_,rfl,rfl,Nat.zero_le _,rfl,by simp,rfl,OwnP.nil _ _,Below.refl _ _⟩
  case round=>
    obtain ⟨k,L,v,rfl,rfl,hk,hL,hC,hLl,hO,hb⟩:=hrel
    have HL:Hid ((ws.take k).mapM ptB=some L):=hL
    have HC:Hid (∀ a ∈ L,chkP a=0):=hC
    obtain ⟨ov,cv,rfl,hPts⟩:=hO.at_ (fun a ha=>chkP_pi (hC a ha))
    rw [hLl] at hO ⊢
    have HLL:Hid (L.length=k):=hLl
    have HO:Hid (OwnP wr w1.heap.size (.slice ov k cv) L):=hO
    have HPT:Hid (PtsAt wr ov L):=hPts
    have NR:=HN.out.below (mbel bw1 hb)
    have KR:=(hb.block _ (blk_lt K1)).trans K1
    have KV:=(hb.block _ (blk_lt KW)).trans KW
    have r0:=bcell KR 0 _ rfl
    have f0:=bfrozQ KR 0
    have bWr:=mbel bw1 hb
    clear hL hC hLl hO hPts
    by_cases hlt:k<ws.length
    · have hltz:(k:Int)<(ws.length:Int):=by omega
      obtain ⟨x,hx⟩:∃ x,ws[k]? = some x:=⟨_,List.getElem?_eq_getElem hlt⟩
      have hc:=bcell KV k (.string x) (by simp [hx])
      have RP:=readPoint_any NR x (hsz x (List.mem_of_getElem? hx))
      have HX:Hid (ws[k]? = some x):=hx
      clear hx
      cases hq:ptM x.data.toList with
      | none=>
        rw [hq] at RP
        have HQ:Hid (ptB x=none):=hq
        clear hq
        have HA:Hid (shpW ws=.error 1):=by
          unfold shpW Hid
          rw [mapM_no HX.out HQ.out]
        go_upto_region 9 with (go_at_call 218;refine RP.mono ?_;rintro e w2 ⟨rfl,b2⟩)
        have b3:=mal w2 (.cells #[.int .i64 0,.int .i64 0,.int .i64 0,.int .i64 0] 121)
        obtain ⟨U,hU⟩:∃ U,w2.alloc (.cells #[.int .i64 0,.int .i64 0,.int .i64 0,.int .i64 0] 121)=U:=⟨_,rfl⟩
        rw [hU] at b3 ⊢
        have b4:=mbel b2 b3
        have NU:=NR.below b4
        have e1:=NU.c1
        have KU:=(b4.block _ (blk_lt KR)).trans KR
        have u0:=bcell KU 0 _ rfl
        have uf:=bfrozQ KU 0
        have hg:7<W.heap.size:=cell_lt HN.out.c1
        have e1':(U.setCell ⟨W.heap.size,0,none⟩ (.slice none 0 0)).cell? ⟨7,0,none⟩=some (eV (E 1)):=(World.cell?_setCell_far _ _ _ _ (by show W.heap.size≠7;omega)).trans e1
        clear RP hU b2 b3 hc
        go_region
        all_goals go_wp2_with fail
        all_goals refine bodyPost_ret (v:=.tuple #[.agg #[.slice none 0 0],eV (E 1)]) (by simp [results,Tryz.results169,go_sem,u0]) rfl ⟨?_,below_drewN ((mbel bWr b4).setCell Nat.le.refl _) 1⟩
        all_goals rw [HA.out]
        all_goals exact ⟨_,rfl,by decide,by decide,.inl rfl⟩
      | some q=>
        rw [hq] at RP
        have HQ:Hid (ptB x=some q):=hq
        have hqc:=ptM_chk hq
        clear hq
        go_upto_region 10 with (go_at_call 218;refine RP.mono ?_;rintro e w2 ⟨rfl,b2⟩)
        have b3:=mal w2 (.cells #[.int .i64 q.xn,.int .i64 q.xd,.int .i64 q.yn,.int .i64 q.yd] 121)
        have F3:=Four.new w2 (.int .i64 q.xn) (.int .i64 q.xd) (.int .i64 q.yn) (.int .i64 q.yd) 121
        obtain ⟨U,hU⟩:∃ U,w2.alloc (.cells #[.int .i64 q.xn,.int .i64 q.xd,.int .i64 q.yn,.int .i64 q.yd] 121)=U:=⟨_,rfl⟩
        obtain ⟨BQ,hBQ⟩:∃ b,w2.heap.size=b:=⟨_,rfl⟩
        rw [hU] at b3 F3 ⊢
        rw [hBQ] at F3 ⊢
        have b4:=mbel b2 b3
        have b8:=mbel hb b4
        have hz8:=b8.size
        have hownU:U.ownsRow w1.heap.size 121 4 (.slice ov k cv) k (cellsP L):=by
          have h:=HO.out.keep b4
          unfold OwnP at h
          rw [HLL.out] at h
          exact h
        have hnb:=World.alloc_heap_new U (.cells #[.int .i64 q.xn,.int .i64 q.xd,.int .i64 q.yn,.int .i64 q.yd] 121)
        have owj':(U.alloc (.cells #[.int .i64 q.xn,.int .i64 q.xd,.int .i64 q.yn,.int .i64 q.yd] 121)).ownsRow w1.heap.size 121 4 (.slice ov k cv) k (cellsP L):=World.ownsRow.alloc hownU _
        have HT:Hid ((ws.take (k+1)).mapM ptB=some (L++[q])):=mapM_snoc HL.out HX.out HQ.out
        obtain ⟨f0,f1,f2,f3⟩:=F3
        clear RP hU hBQ b2 b3 hc hownU r0 KR KV NR HPT
        go_wp2_with (at_builtin;refine wpList_append_own _ rfl _ _ 41 rfl (w1.heap.size) 121 i0 (.agg #[.int .i64 0,.int .i64 0,.int .i64 0,.int .i64 0]) 4 32 Tryz.underlying41 hi hz0 hz1 hz2 rfl (by decide) _ _ _ rfl owj' _ _ _ (cellsP [q]) rfl (cellsP_len [q]) (World.news_of_block hnb) (cellsP_one _) (by simp only [maxLen];omega) (by omega) (by simp;omega) ?_;intro v12 w12 ow12 gr12 _)
        go_roundw
        case rel=>
          refine ⟨k+1,L++[q],v12,rfl,by go_num,hlt,HT.out,fun a ha=>?_,by simp [HLL.out],?_,(b8.alloc hz8 _).grown gr12 (by simp;omega) (own_ge' owj')⟩
          · rcases List.mem_append.1 ha with h | h
            · exact HC.out a h
            · simp at h;rw [h];exact hqc
          · rw [<- HLL.out] at ow12
            exact OwnP.app (m:=[q]) ow12 rfl
        case measure=>simp [intOf];omega
    · have hltz:¬ (k:Int)<(ws.length:Int):=by omega
      obtain rfl:k=ws.length:=by omega
      have HT:Hid (ws.mapM ptB=some L):=by
        have:=HL.out
        rw [List.take_length] at this
        exact this
      have hll:=HLL.out
      have CK:=checked_rt L HC.out ov cv wr HPT.out NR
      rw [hll] at CK
      clear hll
      have HAN:Hid (shpW ws=if okB L then .ok L else .error 2):=by
        unfold shpW Hid
        rw [HT.out]
      go_upto_region 12 with fail
      have RES:∀ w2,Below wr.heap.size wr w2->w2.cell? ⟨W.heap.size,0,none⟩=some (.slice none 0 0)/\w2.frozen? ⟨W.heap.size,0,none⟩=false:=fun w2 b2=>by
        have:=(b2.block _ (blk_lt KR)).trans KR
        exact ⟨bcell this 0 _ rfl,bfrozQ this 0⟩
      clear r0 f0 KR KV
      cases hok:okB L with
      | true=>
        have CK2:Calls Tryz.prog 216 #[.slice ov ws.length cv] wr fun e w'=>e=.returned (.tuple #[.agg #[.slice ov ws.length cv],.nilIface])/\Below wr.heap.size wr w':=CK.mono fun e w' ⟨h,hb2⟩=>by
          rcases h with ⟨-,h⟩ | ⟨h, -⟩
          · rw [HLL.out] at h;exact ⟨h,hb2⟩
          · rw [hok] at h;cases h
        have HOK:Hid (okB L=true):=hok
        clear CK hok
        go_wp2_with (go_at_call 216;refine CK2.mono ?_;rintro e w2 ⟨rfl,b2⟩;obtain ⟨u0,uf⟩:=RES w2 b2)
        refine bodyPost_ret (v:=.tuple #[.agg #[.slice ov ws.length cv],.nilIface]) (by simp [results,Tryz.results169,go_sem,u0]) rfl ⟨?_,(mbel bWr b2).setCell Nat.le.refl _⟩
        rw [HAN.out,if_pos HOK.out]
        refine ⟨HC.out,HOK.out,ov,cv,by rw [HLL.out],?_⟩
        have ho:=(HO.out.keep b2).far (b:=W.heap.size) (u:=.slice ov ws.length cv) (by have:=blk_lt K1;have:=bw1.size;omega)
        obtain ⟨o',c',h1,h2⟩:=ho.at_ (fun a ha=>chkP_pi (HC.out a ha))
        injection h1 with h1
        subst h1
        exact h2
      | false=>
        have CK2:Calls Tryz.prog 216 #[.slice ov ws.length cv] wr fun e w'=>(∃ v,e=.returned (.tuple #[.agg #[.slice none 0 0],v])/\ErC E 2 v w')/\Below wr.heap.size wr w':=CK.mono fun e w' ⟨h,hb2⟩=>by
          rcases h with ⟨h, -⟩ | ⟨-,h⟩
          · rw [hok] at h;cases h
          · exact ⟨h,hb2⟩
        have HOK:Hid (¬ okB L=true):=by show ¬ _;rw [hok];simp
        clear CK hok
        go_wp2_with (go_at_call 216;refine CK2.mono ?_;rintro e w2 ⟨⟨v,rfl,hv⟩,b2⟩;obtain ⟨u0,uf⟩:=RES w2 b2)
        refine bodyPost_ret (v:=.tuple #[.agg #[.slice none 0 0],v]) (by simp [results,Tryz.results169,go_sem,u0]) rfl ⟨?_,(mbel bWr b2).setCell Nat.le.refl _⟩
        rw [HAN.out,if_neg HOK.out]
        exact ⟨v,rfl,hv.far⟩
theorem ShRead_any (hN:NE E W) (s:Bs) (hs:s.length<=1000) :
    Calls Tryz.prog 169 #[bV s] W fun e w'=>ShpR E (shapeM s) e w'/\Below W.heap.size W w':=by
  unfold shapeM
  by_cases h0:s=[]
  · subst h0
    rw [if_pos rfl]
    clear hN
    go_enter Tryz.func169,Tryz.ntmps169
    go_wp2
    have b0:=mal W (.cells #[.slice none 0 0] 43)
    refine bodyPost_ret (v:=.tuple #[.agg #[.slice none 0 0],.nilIface]) (by simp [results,Tryz.results169,go_sem]) rfl ⟨⟨by simp,rfl,none,0,rfl,fun i x h=>by simp at h⟩,b0⟩
  · rw [if_neg h0]
    have h:=ShRead_some hN ⟨s.toArray⟩ hs (fun h=>h0 (List.length_eq_zero_iff.1 h))
    have e:(fun (w:ByteArray)=>ptM w.toList)=ptB:=by
      funext w
      unfold ptB
      rw [ByteArray.toList_eq]
    rw [e]
    exact h
end
end
section
open Go.RowKit Go.Shelf
set_option maxHeartbeats 2000000
theorem pts_far {w:World} {b:Nat} {a:Option Addr} {n c:Nat} {t:TypeId} {u:Value} {o:Option Addr} {l:List Qt} (hk:w.heap[b]? = some (.cells #[.slice a n c] t)) (h:PtsAt w o l):PtsAt (w.setCell ⟨b,0,none⟩ u) o l:=fun i x hx=>by
  obtain ⟨b',off,h1,h2⟩:=h i x hx
  obtain ⟨c0,c1,c2,c3,hp⟩:=h2
  have hne:b≠b':=by
    rintro rfl
    simp only [World.cell?,hk] at c0
    have hi:off+i * 4<(#[Value.slice a n c]:Array Value).size:=(Array.getElem?_eq_some_iff.1 c0).1
    have h0:off+i * 4=0:=by simpa using hi
    rw [h0] at c0
    simp at c0
  have F:=fun (k:Nat)=>World.cell?_setCell_far w ⟨b,0,none⟩ ⟨b',k,none⟩ u hne
  exact ⟨b',off,h1,(F _).trans c0,(F _).trans c1,(F _).trans c2,(F _).trans c3,hp⟩
theorem ShpR.far {E:Nat->Addr} {x:Except Nat (List Qt)} {e:Ending} {w:World} {b:Nat} {a:Option Addr} {n c:Nat} {t:TypeId} {u:Value} (h:ShpR E x e w) (hk:w.heap[b]? = some (.cells #[.slice a n c] t)):ShpR E x e (w.setCell ⟨b,0,none⟩ u):=by
  cases x with
  | error k=>
    obtain ⟨v,h1,h2⟩:=h
    exact ⟨v,h1,h2.far⟩
  | ok l=>
    obtain ⟨h0,h1,o,cap,h2,h3⟩:=h
    exact ⟨h0,h1,o,cap,h2,pts_far hk h3⟩
theorem ShpR.is {E:Nat->Addr} {x:Except Nat (List Qt)} {e:Ending} {w:World} (h:ShpR E x e w):∃ o n c v,e=.returned (.tuple #[.agg #[.slice o n c],v]):=by
  cases x with
  | error k=>obtain ⟨v,h1, -⟩:=h;exact ⟨_,_,_,_,h1⟩
  | ok l=>obtain ⟨-, -,o,cap,h1, -⟩:=h;exact ⟨_,_,_,_,h1⟩
section
variable {E:Nat->Addr} {B:Nat} {tg:Tags} {W:World} {DB MB:Nat} {p:Int->Option Nat} {M:Dm} {nx c:Nat}
theorem polyOf_any (hN:NE E W) (hd:DocW B tg W DB MB p M nx c) (hz:SzD M) (WB:Nat) (hw:W.cell? ⟨WB,0,none⟩=some (.pointer (some ⟨DB,0,none⟩))) (n:Int) (hn:Wf64 n) :
    Calls Tryz.prog 118 #[.pointer (some ⟨WB,0,none⟩),.int .i64 n] W fun e w'=>ShpR E (polyM M n) e w'/\Below W.heap.size W w':=by
  have b0:=mal W (.cells #[.slice none 0 0] 43)
  have K0:=mbox W #[.slice none 0 0] 43
  have AT:=Attr_doc (hd.below b0) n hn kPoints
  have hw0:=(b0.cell (cell_lt hw)).trans hw
  rw [attD_atM] at AT
  have hl:=valM_len hz n kPoints
  unfold polyM
  unfold valM at hl ⊢
  generalize (atM M n kPoints).getD []=s at AT hl ⊢
  generalize (atM M n kPoints).isSome=bo at AT
  have RD:=fun V (hV:NE E V)=>ShRead_any hV s (by omega)
  generalize shapeM s=x at RD ⊢
  have HN:Hid (NE E W):=hN
  clear hd hN
  go_enter Tryz.func118,Tryz.ntmps118
  go_wp2_with (first | (go_at_call 28;refine AT.mono ?_;rintro e w1 ⟨rfl,b1⟩;have R1:=RD w1 (HN.out.below (mbel b0 b1))) | (go_at_call 169;refine R1.mono ?_;rintro e w2 ⟨h2,b2⟩;obtain ⟨ro,rn,rc,rv,rfl⟩:=h2.is;have K2:=((mbel b1 b2).block _ (blk_lt K0)).trans K0;have u0:=bcell K2 0 _ rfl;have uf:=bfrozQ K2 0))
  refine bodyPost_ret (v:=.tuple #[.agg #[.slice ro rn rc],rv]) (by simp [results,Tryz.results118,go_sem,u0]) rfl ⟨h2.far K2,(mbel b0 (mbel b1 b2)).setCell Nat.le.refl _⟩
end
end
section
open Go.RowKit Go.Shelf
set_option maxHeartbeats 8000000
set_option maxRecDepth 20000
theorem Box_rt {E:Nat->Addr} (xn xd yn yd wn wd hn hd:Int) (w:World) (cx0:chk xn xd=0) (cy0:chk yn yd=0) (cw0:chk wn wd=0) (ch0:chk hn hd=0) (hN:NE E w) :
  Calls Tryz.prog 168 #[.agg #[.int .i64 xn,.int .i64 xd],.agg #[.int .i64 yn,.int .i64 yd],.agg #[.int .i64 wn,.int .i64 wd],.agg #[.int .i64 hn,.int .i64 hd]] w fun e W=>ShpR E (boxOfM ⟨xn,xd,0⟩ ⟨yn,yd,0⟩ ⟨wn,wd,0⟩ ⟨hn,hd,0⟩) e W/\Below w.heap.size w W:=by
 obtain ⟨hx1,hx2⟩:=i64_of_chk cx0
 obtain ⟨hy1,hy2⟩:=i64_of_chk cy0
 obtain ⟨hw1,hw2⟩:=i64_of_chk cw0
 obtain ⟨hh1,hh2⟩:=i64_of_chk ch0
 have HNE:Hid (NE E w):=hN
 have hE:=hN.e3
 have HC4:Hid (chk xn xd=0/\chk yn yd=0/\chk wn wd=0/\chk hn hd=0):=⟨cx0,cy0,cw0,ch0⟩
 obtain ⟨ans,hans⟩:∃ a,boxOfM ⟨xn,xd,0⟩ ⟨yn,yd,0⟩ ⟨wn,wd,0⟩ ⟨hn,hd,0⟩=a:=⟨_,rfl⟩
 rw [hans]
 have HAN:Hid (boxOfM ⟨xn,xd,0⟩ ⟨yn,yd,0⟩ ⟨wn,wd,0⟩ ⟨hn,hd,0⟩=ans):=hans
 clear hN cx0 cy0 cw0 ch0 hans
 go_enter Tryz.func168,Tryz.ntmps168
 go_wp2
 obtain ⟨U,hU⟩:∃ U,(((((w.alloc (.cells #[.int .i64 xn,.int .i64 xd] 52)).alloc (.cells #[.int .i64 yn,.int .i64 yd] 52)).alloc (.cells #[.int .i64 wn,.int .i64 wd] 52)).alloc (.cells #[.int .i64 hn,.int .i64 hd] 52)).alloc (.cells #[.slice none 0 0] 43)).alloc (.cells #[.int .i64 xn,.int .i64 xd,.int .i64 yn,.int .i64 yd,.int .i64 wn,.int .i64 wd,.int .i64 hn,.int .i64 hd] 52)=U:=⟨_,rfl⟩
 obtain ⟨k0,k1,k2,k3,k4,k5,hbU⟩:=heap6 w _ _ _ _ _ _ U hU
 rw [hU]
 clear hU
 have hEU:=hE.below hbU Nat.le.refl
 obtain ⟨L,hL⟩:∃ L:List (Int × Int),L=[(xn,xd),(yn,yd),(wn,wd),(hn,hd)]:=⟨_,rfl⟩
 have hLl:L.length=4:=by rw [hL];rfl
 have hLc:∀ j n d,L[j]? = some (n,d)->U.cell? ⟨w.heap.size+1+1+1+1+1,j * 2,none⟩=some (.int .i64 n)/\U.cell? ⟨w.heap.size+1+1+1+1+1,j * 2+1,none⟩=some (.int .i64 d)/\I64 n/\I64 d:=fun j n d hj=>by
  rw [hL] at hj
  match j,hj with
  | 0,hj=>cases hj;exact ⟨bcellQ k5 0 _ rfl,bcellQ k5 1 _ rfl,hx1,hx2⟩
  | 1,hj=>cases hj;exact ⟨bcellQ k5 2 _ rfl,bcellQ k5 3 _ rfl,hy1,hy2⟩
  | 2,hj=>cases hj;exact ⟨bcellQ k5 4 _ rfl,bcellQ k5 5 _ rfl,hw1,hw2⟩
  | 3,hj=>cases hj;exact ⟨bcellQ k5 6 _ rfl,bcellQ k5 7 _ rfl,hh1,hh2⟩
  | (j+4),hj=>simp at hj
 have HL:Hid (L=[(xn,xd),(yn,yd),(wn,wd),(hn,hd)]):=hL
 have HLC:Hid _:=hLc
 have HLL:Hid (L.length=4):=hLl
 clear hL hLc hLl k5
 go_loopw [22] (fun y wr=>∃ k:Nat,k<=4/\y=.int .i64 k/\(∀ j n d,j<k->L[j]? = some (n,d)->chk n d=0)/\Below U.heap.size U wr) (fun y _=>4 - (intOf y).toNat)
 case atStart=>exact ⟨0,by omega,rfl,fun j n d hj=>by omega,Below.refl _ _⟩
 case round=>
  obtain ⟨k,hk,rfl,hall,hb⟩:=hrel
  have HA:Hid (∀ j n d,j<k->L[j]? = some (n,d)->chk n d=0):=hall
  clear hall
  by_cases hlt:k<4
  ·have hlt':(k:Int)<4:=by omega
   obtain ⟨⟨n,d⟩,hnd⟩:∃ x,L[k]? = some x:=⟨_,List.getElem?_eq_getElem (by have:=HLL.out;omega)⟩
   obtain ⟨c0,c1,hn',hd'⟩:=HLC.out k n d hnd
   have c0:=(hb.cell (cell_lt c0)).trans c0
   have c1:=(hb.cell (cell_lt c1)).trans c1
   have HN:Hid (L[k]? = some (n,d)):=hnd
   have hbx:=mbelow wr (.cells #[.int .i64 n,.int .i64 d] 52)
   have hbU2:=bel_more hb hbx
   have CK:=Check_any (E 2) (E 3) (E 2) n d (wr.alloc (.cells #[.int .i64 n,.int .i64 d] 52)) hn' hd' (hEU.below hbU2 Nat.le.refl)
   clear hnd
   by_cases hc:chk n d=0
   ·rw [hc] at CK
    have HC:Hid (chk n d=0):=hc
    clear hc
    go_wp2_with (go_at_call 198;refine CK.mono ?_;rintro e w1 ⟨rfl,b1⟩;simp only [er_0])
    go_roundw
    case rel=>exact ⟨k+1,by omega,by go_num,fun j n' d' hj hj2=>by
     rcases Nat.lt_or_ge j k with h | h
     ·exact HA.out j n' d' h hj2
     ·obtain rfl:j=k:=by omega
      have:=HN.out.symm.trans hj2
      cases this
      exact HC.out,bel_more hbU2 b1⟩
    case measure=>simp [intOf];omega
   ·exfalso
    apply hc
    have h1:=HN.out
    rw [HL.out] at h1
    obtain ⟨q1,q2,q3,q4⟩:=HC4.out
    match k,h1 with
    | 0,h1=>cases h1;exact q1
    | 1,h1=>cases h1;exact q2
    | 2,h1=>cases h1;exact q3
    | 3,h1=>cases h1;exact q4
    | (j+4),h1=>simp at h1
  ·obtain rfl:k=4:=by omega
   have h4:=HA.out
   rw [HL.out] at h4
   have cx:chk xn xd=0:=h4 0 xn xd (by omega) rfl
   have cy:chk yn yd=0:=h4 1 yn yd (by omega) rfl
   have cw:chk wn wd=0:=h4 2 wn wd (by omega) rfl
   have ch:chk hn hd=0:=h4 3 hn hd (by omega) rfl
   clear h4 HA
   have hEr:=hEU.below hb Nat.le.refl
   have lt:=fun {b:Nat} {o:Obj} (h:U.heap[b]? = some o)=>(Array.getElem?_eq_some_iff.1 h).1
   have j0:=(hb.block _ (lt k0)).trans k0
   have j1:=(hb.block _ (lt k1)).trans k1
   have j2:=(hb.block _ (lt k2)).trans k2
   have j3:=(hb.block _ (lt k3)).trans k3
   have j4:=(hb.block _ (lt k4)).trans k4
   have bWr:=bel_more hbU hb
   clear lt k0 k1 k2 k3 k4 HL HLC HLL
   have AX:=AddF_any (E 2) (E 3) (E 2) xn xd wn wd wr hx1 hx2 hw1 hw2 hEr
   have a0:=bcellQ j0 0 _ rfl
   have a1:=bcellQ j0 1 _ rfl
   have a2:=bcellQ j2 0 _ rfl
   have a3:=bcellQ j2 1 _ rfl
   obtain ⟨Xn,Xd,c,hadd⟩:∃ n d c,add xn xd wn wd=⟨n,d,c⟩:=⟨_,_,_,rfl⟩
   rw [hadd] at AX
   have HX:Hid (add xn xd wn wd=⟨Xn,Xd,c⟩):=hadd
   clear hadd
   go_upto_region 9 with (go_at_call 215;refine AX.mono ?_;rintro e w1 ⟨rfl,b1⟩)
   have hc1:=add_c cx cw
   rw [HX.out] at hc1
   have hc1:c=0\/c=2:=hc1
   have b2:=mbelow w1 (.cells #[.int .i64 Xn,.int .i64 Xd] 52)
   have kX:=World.alloc_heap_new w1 (.cells #[.int .i64 Xn,.int .i64 Xd] 52)
   obtain ⟨V,hV⟩:∃ V,w1.alloc (.cells #[.int .i64 Xn,.int .i64 Xd] 52)=V:=⟨_,rfl⟩
   obtain ⟨BX,hBX⟩:∃ B,w1.heap.size=B:=⟨_,rfl⟩
   rw [hV] at b2 kX ⊢
   have bV:=bel_more b1 b2
   rw [hBX] at kX ⊢
   clear hV hBX b2 b1 AX a0 a1 a2 a3
   have lt:=fun {b:Nat} {o:Obj} (h:wr.heap[b]? = some o)=>(Array.getElem?_eq_some_iff.1 h).1
   have j0:=(bV.block _ (lt j0)).trans j0
   have j1:=(bV.block _ (lt j1)).trans j1
   have j3:=(bV.block _ (lt j3)).trans j3
   have j4:=(bV.block _ (lt j4)).trans j4
   have bWV:=bel_more bWr bV
   have hEV:=hEr.below bV Nat.le.refl
   clear lt
   have f4:=bfrozQ j4 0
   have q4:=bcellQ j4 0 _ rfl
   rcases hc1 with rfl | rfl
   ·simp only [er_0]
    have AY:=AddF_any (E 2) (E 3) (E 2) yn yd hn hd V hy1 hy2 hh1 hh2 hEV
    obtain ⟨Yn,Yd,c,hadd⟩:∃ n d c,add yn yd hn hd=⟨n,d,c⟩:=⟨_,_,_,rfl⟩
    rw [hadd] at AY
    have HY:Hid (add yn yd hn hd=⟨Yn,Yd,c⟩):=hadd
    clear hadd
    have a0:=bcellQ j1 0 _ rfl
    have a1:=bcellQ j1 1 _ rfl
    have a2:=bcellQ j3 0 _ rfl
    have a3:=bcellQ j3 1 _ rfl
    go_upto_region 12 with (go_at_call 215;refine AY.mono ?_;rintro e w2 ⟨rfl,b3⟩)
    have hc2:=add_c cy ch
    rw [HY.out] at hc2
    have hc2:c=0\/c=2:=hc2
    have b4:=mbelow w2 (.cells #[.int .i64 Yn,.int .i64 Yd] 52)
    have kY:=World.alloc_heap_new w2 (.cells #[.int .i64 Yn,.int .i64 Yd] 52)
    obtain ⟨V2,hV2⟩:∃ V,w2.alloc (.cells #[.int .i64 Yn,.int .i64 Yd] 52)=V:=⟨_,rfl⟩
    obtain ⟨BY,hBY⟩:∃ B,w2.heap.size=B:=⟨_,rfl⟩
    rw [hV2] at b4 kY ⊢
    have bV2:=bel_more b3 b4
    rw [hBY] at kY ⊢
    clear hV2 hBY b4 b3 AY a0 a1 a2 a3 q4 f4
    have lt:=fun {b:Nat} {o:Obj} (h:V.heap[b]? = some o)=>(Array.getElem?_eq_some_iff.1 h).1
    have j0:=(bV2.block _ (lt j0)).trans j0
    have j1:=(bV2.block _ (lt j1)).trans j1
    have j4:=(bV2.block _ (lt j4)).trans j4
    have kX:=(bV2.block _ (lt kX)).trans kX
    have bWV2:=bel_more bWV bV2
    have hEV2:=hEV.below bV2 Nat.le.refl
    clear lt
    rcases hc2 with rfl | rfl
    ·simp only [er_0]
     have cX:=(add_some.1 HX.out).2.2.1
     have cY:=(add_some.1 HY.out).2.2.1
     have iX:=i64_of_chk cX
     have iY:=i64_of_chk cY
     have x0:=bcellQ j0 0 _ rfl
     have x1:=bcellQ j0 1 _ rfl
     have y0:=bcellQ j1 0 _ rfl
     have y1:=bcellQ j1 1 _ rfl
     have X0:=bcellQ kX 0 _ rfl
     have X1:=bcellQ kX 1 _ rfl
     have Y0:=bcellQ kY 0 _ rfl
     have Y1:=bcellQ kY 1 _ rfl
     have b5:=mbelow V2 (.cells #[.int .i64 xn,.int .i64 xd,.int .i64 yn,.int .i64 yd,.int .i64 Xn,.int .i64 Xd,.int .i64 yn,.int .i64 yd,.int .i64 Xn,.int .i64 Xd,.int .i64 Yn,.int .i64 Yd,.int .i64 xn,.int .i64 xd,.int .i64 Yn,.int .i64 Yd] 121)
     have kL:=World.alloc_heap_new V2 (.cells #[.int .i64 xn,.int .i64 xd,.int .i64 yn,.int .i64 yd,.int .i64 Xn,.int .i64 Xd,.int .i64 yn,.int .i64 yd,.int .i64 Xn,.int .i64 Xd,.int .i64 Yn,.int .i64 Yd,.int .i64 xn,.int .i64 xd,.int .i64 Yn,.int .i64 Yd] 121)
     have hP:=pts_four (a0:=⟨xn,xd,yn,yd⟩) (a1:=⟨Xn,Xd,yn,yd⟩) (a2:=⟨Xn,Xd,Yn,Yd⟩) (a3:=⟨xn,xd,Yn,Yd⟩) kL ⟨hx1,hx2,hy1,hy2⟩ ⟨iX.1,iX.2,hy1,hy2⟩ ⟨iX.1,iX.2,iY.1,iY.2⟩ ⟨hx1,hx2,iY.1,iY.2⟩
     have hR4:∀ y ∈ boxL xn xd yn yd Xn Xd Yn Yd,chkP y=0:=fun y hy=>by
      simp only [boxL,List.mem_cons,List.not_mem_nil,or_false] at hy
      rcases hy with rfl | rfl | rfl | rfl
      ·exact chkP_zero.2 ⟨cx,cy⟩
      ·exact chkP_zero.2 ⟨cX,cy⟩
      ·exact chkP_zero.2 ⟨cX,cY⟩
      ·exact chkP_zero.2 ⟨cx,cY⟩
     have CK:=checked_rt (boxL xn xd yn yd Xn Xd Yn Yd) hR4 (some ⟨V2.heap.size,0,none⟩) 4 _ hP (HNE.out.below (bel_more bWV2 b5))
     have HR4:Hid (∀ y ∈ boxL xn xd yn yd Xn Xd Yn Yd,chkP y=0):=hR4
     clear hR4
     have j4':=(b5.block _ (Array.getElem?_eq_some_iff.1 j4).1).trans j4
     go_wp2_with (go_at_call 216;refine CK.mono ?_;rintro e w3 ⟨hck,b6⟩;have j4'':=(b6.block _ (Array.getElem?_eq_some_iff.1 j4').1).trans j4';have q4:=bcellQ j4'' 0 _ rfl;have f4:=bfrozQ j4'' 0;obtain ⟨os,ns,cs,v,rfl,hsv⟩:∃ os ns cs v,e=.returned (.tuple #[.agg #[.slice os ns cs],v])/\((okB (boxL xn xd yn yd Xn Xd Yn Yd)=true/\os=some ⟨V2.heap.size,0,none⟩/\ns=4/\cs=4/\v=.nilIface)\/(okB (boxL xn xd yn yd Xn Xd Yn Yd)=false/\os=none/\ns=0/\cs=0/\ErC E 2 v w3)):=(by rcases hck with ⟨h1,rfl⟩ | ⟨h1,v,rfl,h2⟩;exact ⟨_,_,_,_,rfl,.inl ⟨h1,rfl,rfl,rfl,rfl⟩⟩;exact ⟨_,_,_,_,rfl,.inr ⟨h1,rfl,rfl,rfl,h2⟩⟩))
     have d4:(w3.setCell ⟨w.heap.size+1+1+1+1,0,none⟩ (.slice os ns cs)).cell? ⟨w.heap.size+1+1+1+1,0,none⟩=some (.slice os ns cs):=World.cell?_setCell_same' _ _ _ (by rw [q4];rfl)
     have bz:=bel_more (bel_more bWV2 b5) b6
     refine bodyPost_ret (v:=.tuple #[.agg #[.slice os ns cs],v]) (by simp [results,Tryz.results168,go_sem,d4]) rfl ⟨?_,bz.setCell (by simp;omega) _⟩
     rcases hsv with ⟨hok,rfl,rfl,rfl,rfl⟩ | ⟨hok,rfl,rfl,rfl,hv⟩
     ·rw [<- HAN.out]
      unfold boxOfM
      simp only [HX.out,HY.out,hok,and_self,if_true]
      refine ⟨HR4.out,hok,_,_,rfl,?_⟩
      have hP3:=hP.below b6 Nat.le.refl
      have hne:V2.heap.size≠w.heap.size+1+1+1+1:=by have:=(Array.getElem?_eq_some_iff.1 j4).1;omega
      intro i a ha
      obtain ⟨b,off,h1,c0,c1,c2,c3,hpi⟩:=hP3 i a ha
      cases h1
      have far:∀ k v,w3.cell? ⟨V2.heap.size,k,none⟩=some v->(w3.setCell ⟨w.heap.size+1+1+1+1,0,none⟩ (.slice (some ⟨V2.heap.size,0,none⟩) 4 4)).cell? ⟨V2.heap.size,k,none⟩=some v:=fun k v hv=>by
       rw [World.cell?_setCell_far _ _ _ _ (by simp;exact fun e=>hne e.symm)]
       exact hv
      exact ⟨_,0,rfl,far _ _ c0,far _ _ c1,far _ _ c2,far _ _ c3,hpi⟩
     ·rw [<- HAN.out]
      unfold boxOfM
      simp only [HX.out,HY.out,hok,and_false,if_false,Bool.false_eq_true]
      exact ⟨v,rfl,hv.far⟩
    ·have e2:er (E 2) (E 3) (E 2) 2=.iface 409 (.pointer (some (E 2))):=rfl
     simp only [e2]
     have f4:=bfrozQ j4 0
     have q4:=bcellQ j4 0 _ rfl
     have d4:(V2.setCell ⟨w.heap.size+1+1+1+1,0,none⟩ (.slice none 0 0)).cell? ⟨w.heap.size+1+1+1+1,0,none⟩=some (.slice none 0 0):=World.cell?_setCell_same' _ _ _ (by rw [q4];rfl)
     go_wp2_with fail
     exact bodyPost_ret (v:=.tuple #[.agg #[.slice none 0 0],.iface 409 (.pointer (some (E 2)))]) (by simp [results,Tryz.results168,go_sem,d4]) rfl ⟨by rw [<- HAN.out];unfold boxOfM;rw [if_neg (by rw [HY.out];simp)];exact ⟨_,rfl,by decide,by decide,.inl rfl⟩,bWV2.setCell (by simp;omega) _⟩
   ·have e2:er (E 2) (E 3) (E 2) 2=.iface 409 (.pointer (some (E 2))):=rfl
    simp only [e2]
    have f4:=bfrozQ j4 0
    have q4:=bcellQ j4 0 _ rfl
    have d4:(V.setCell ⟨w.heap.size+1+1+1+1,0,none⟩ (.slice none 0 0)).cell? ⟨w.heap.size+1+1+1+1,0,none⟩=some (.slice none 0 0):=World.cell?_setCell_same' _ _ _ (by rw [q4];rfl)
    go_wp2_with fail
    exact bodyPost_ret (v:=.tuple #[.agg #[.slice none 0 0],.iface 409 (.pointer (some (E 2)))]) (by simp [results,Tryz.results168,go_sem,d4]) rfl ⟨by rw [<- HAN.out];unfold boxOfM;rw [if_neg (by rw [HX.out];simp)];exact ⟨_,rfl,by decide,by decide,.inl rfl⟩,bWV.setCell (by simp;omega) _⟩
end
section
open Go.RowKit Go.Shelf
set_option maxHeartbeats 8000000
set_option maxRecDepth 20000
theorem Blk.setS {w:World} {R:Nat} {cs:Array Value} {t:TypeId} (h:Blk w R cs t) (i:Nat) (v:Value):Blk (w.setCell ⟨R,i,none⟩ v) R (cs.setIfInBounds i v) t:=⟨heap_setCell_same w R i cs t v h.h⟩
theorem Blk.put2 {w:World} {R:Nat} {cs:Array Value} {t:TypeId} (h:Blk w R cs t) (i:Nat) (a b:Value):Blk ((w.setCell ⟨R,i,none⟩ a).setCell ⟨R,i+1,none⟩ b) R ((cs.setIfInBounds i a).setIfInBounds (i+1) b) t:=(h.setS i a).setS (i+1) b
theorem fracM_chk (M:Dm) (n:Int) (nm:Bs) (h:(fracM M n nm).c=0):chk (fracM M n nm).n (fracM M n nm).d=0:=by
 unfold fracM at h ⊢
 cases ha:atM M n nm with
 | none=>exact chk_whole (by decide) (by decide)
 | some s=>rw [ha] at h;exact rd_ok h
theorem fracM_err (M:Dm) (n:Int) (nm:Bs):(fracM M n nm).c=0\/(fracM M n nm).c=1\/(fracM M n nm).c=2\/(fracM M n nm).c=3:=by
 unfold fracM
 cases ha:atM M n nm with
 | none=>exact .inl rfl
 | some s=>exact rd_err s
def boxAns (fx fy fu fv:R3) (ans:Except Nat (List Qt)):Except Nat (List Qt):=if fx.c≠0 then .error fx.c else if fy.c≠0 then .error fy.c else if fu.c≠0 then .error fu.c else if fv.c≠0 then .error fv.c else ans
section
variable {E:Nat->Addr} {B:Nat} {tg:Tags} {W:World} {DB MB:Nat} {p:Int->Option Nat} {M:Dm} {nx c:Nat}
theorem boxOf_walk (WB:Nat) (n:Int) (fx fy fu fv:R3) (ans:Except Nat (List Qt)) (hN:NE E W)
  (hx:fx.c=0\/fx.c=1\/fx.c=2\/fx.c=3) (hy:fy.c=0\/fy.c=1\/fy.c=2\/fy.c=3) (hu:fu.c=0\/fu.c=1\/fu.c=2\/fu.c=3) (hv:fv.c=0\/fv.c=1\/fv.c=2\/fv.c=3)
  (F0:∀ V,Below W.heap.size W V->Calls Tryz.prog 167 #[.pointer (some ⟨WB,0,none⟩),.int .i64 n,.string ⟨#[120]⟩] V fun e w'=>e=.returned (.tuple #[.agg #[.int .i64 fx.n,.int .i64 fx.d],er4 (E 1) (E 2) (E 3) (E 2) fx.c])/\Below V.heap.size V w')
  (F1:∀ V,Below W.heap.size W V->Calls Tryz.prog 167 #[.pointer (some ⟨WB,0,none⟩),.int .i64 n,.string ⟨#[121]⟩] V fun e w'=>e=.returned (.tuple #[.agg #[.int .i64 fy.n,.int .i64 fy.d],er4 (E 1) (E 2) (E 3) (E 2) fy.c])/\Below V.heap.size V w')
  (F2:∀ V,Below W.heap.size W V->Calls Tryz.prog 167 #[.pointer (some ⟨WB,0,none⟩),.int .i64 n,.string ⟨#[119]⟩] V fun e w'=>e=.returned (.tuple #[.agg #[.int .i64 fu.n,.int .i64 fu.d],er4 (E 1) (E 2) (E 3) (E 2) fu.c])/\Below V.heap.size V w')
  (F3:∀ V,Below W.heap.size W V->Calls Tryz.prog 167 #[.pointer (some ⟨WB,0,none⟩),.int .i64 n,.string ⟨#[104]⟩] V fun e w'=>e=.returned (.tuple #[.agg #[.int .i64 fv.n,.int .i64 fv.d],er4 (E 1) (E 2) (E 3) (E 2) fv.c])/\Below V.heap.size V w')
  (FB:fx.c=0->fy.c=0->fu.c=0->fv.c=0->∀ V,NE E V->Calls Tryz.prog 168 #[.agg #[.int .i64 fx.n,.int .i64 fx.d],.agg #[.int .i64 fy.n,.int .i64 fy.d],.agg #[.int .i64 fu.n,.int .i64 fu.d],.agg #[.int .i64 fv.n,.int .i64 fv.d]] V fun e w'=>ShpR E ans e w'/\Below V.heap.size V w') :
  Calls Tryz.prog 117 #[.pointer (some ⟨WB,0,none⟩),.int .i64 n] W fun e w'=>ShpR E (boxAns fx fy fu fv ans) e w'/\Below W.heap.size W w':=by
 have b0:=mal W (.cells #[.slice none 0 0] 43)
 have K0:=mbox W #[.slice none 0 0] 43
 have b1:=mal (W.alloc (.cells #[.slice none 0 0] 43)) (.cells #[.int .i64 0,.int .i64 0,.int .i64 0,.int .i64 0,.int .i64 0,.int .i64 0,.int .i64 0,.int .i64 0] 239)
 have S0:=Blk.new (W.alloc (.cells #[.slice none 0 0] 43)) #[.int .i64 0,.int .i64 0,.int .i64 0,.int .i64 0,.int .i64 0,.int .i64 0,.int .i64 0,.int .i64 0] 239
 have K1:=(b1.block _ (blk_lt K0)).trans K0
 have bV:=mbel b0 b1
 have hsz:(W.alloc (.cells #[.slice none 0 0] 43)).heap.size=W.heap.size+1:=by simp
 rw [hsz] at S0
 clear hsz b0 b1 K0
 have HN:Hid (NE E W):=hN
 clear hN
 go_enter Tryz.func117,Tryz.ntmps117
 go_upto_region 3 with fail
 obtain ⟨V0,hV0⟩:∃ V,(W.alloc (.cells #[.slice none 0 0] 43)).alloc (.cells #[.int .i64 0,.int .i64 0,.int .i64 0,.int .i64 0,.int .i64 0,.int .i64 0,.int .i64 0,.int .i64 0] 239)=V:=⟨_,rfl⟩
 rw [hV0] at S0 K1 bV ⊢
 clear hV0
 have x0:∀ w:World,(Instr.index 240 (.agg #[.string ⟨#[120]⟩,.string ⟨#[121]⟩,.string ⟨#[119]⟩,.string ⟨#[104]⟩]) (.int .i64 0)).run Tryz.prog w=.ok (.string ⟨#[120]⟩) w:=fun w=>by kernel_rfl
 have x1:∀ w:World,(Instr.index 240 (.agg #[.string ⟨#[120]⟩,.string ⟨#[121]⟩,.string ⟨#[119]⟩,.string ⟨#[104]⟩]) (.int .i64 1)).run Tryz.prog w=.ok (.string ⟨#[121]⟩) w:=fun w=>by kernel_rfl
 have x2:∀ w:World,(Instr.index 240 (.agg #[.string ⟨#[120]⟩,.string ⟨#[121]⟩,.string ⟨#[119]⟩,.string ⟨#[104]⟩]) (.int .i64 2)).run Tryz.prog w=.ok (.string ⟨#[119]⟩) w:=fun w=>by kernel_rfl
 have x3:∀ w:World,(Instr.index 240 (.agg #[.string ⟨#[120]⟩,.string ⟨#[121]⟩,.string ⟨#[119]⟩,.string ⟨#[104]⟩]) (.int .i64 3)).run Tryz.prog w=.ok (.string ⟨#[104]⟩) w:=fun w=>by kernel_rfl
 refine wp_loop_rounds 5 ?_
 rw [rounds_succ]
 have C0:=F0 V0 bV
 by_cases g0:fx.c=0
 rotate_left
 ·have h3:fx.c=1\/fx.c=2\/fx.c=3:=hx.resolve_left g0
  rw [er4_eV h3] at C0
  have H3:Hid (fx.c=1\/fx.c=2\/fx.c=3):=h3
  have HA:Hid (¬ fx.c=0):=g0
  clear h3
  go_wp2_with (go_at_call 167;refine C0.mono ?_;rintro e w1 ⟨rfl,b2⟩;have Kw:=((mbel b2 (mal w1 (.cells #[.int .i64 fx.n,.int .i64 fx.d] 52))).block _ (blk_lt K1)).trans K1;have u0:=bcell Kw 0 _ rfl;have uf:=bfrozQ Kw 0)
  refine bodyPost_ret (v:=.tuple #[.agg #[.slice none 0 0],eV (E fx.c)]) (by simp [results,Tryz.results117,go_sem,u0]) rfl ⟨?_,(mbel bV (mbel b2 (mal w1 _))).setCell Nat.le.refl _⟩
  unfold boxAns
  rw [if_pos HA.out]
  exact ⟨_,rfl,by have:=H3.out;omega,by have:=H3.out;omega,.inl rfl⟩
 rw [g0,er4_nil] at C0
 go_wp2_with (go_at_call 167;refine C0.mono ?_;rintro e w1 ⟨rfl,b2⟩;have b3:=mbel b2 (mal w1 (.cells #[.int .i64 fx.n,.int .i64 fx.d] 52));have T1:=(b3.block _ S0.lt).trans S0.h;have u0:=bcellQ T1 0 _ rfl;have u1:=bcellQ T1 1 _ rfl;have v0:=bfrozQ T1 0;have v1:=bfrozQ T1 1)
 obtain ⟨V1,hV1⟩:∃ V,(((w1.alloc (.cells #[.int .i64 fx.n,.int .i64 fx.d] 52)).setCell ⟨W.heap.size+1,0,none⟩ (.int .i64 fx.n)).setCell ⟨W.heap.size+1,1,none⟩ (.int .i64 fx.d))=V:=⟨_,rfl⟩
 have S0:Blk V1 (W.heap.size+1) #[.int .i64 fx.n,.int .i64 fx.d,.int .i64 0,.int .i64 0,.int .i64 0,.int .i64 0,.int .i64 0,.int .i64 0] 239:=by
  rw [<- hV1]
  exact (Blk.mk T1).put2 0 _ _
 have K1:V1.heap[W.heap.size]? = some (.cells #[.slice none 0 0] 43):=by
  rw [<- hV1,Below.heap_setCell _ _ _ _ (by simp),Below.heap_setCell _ _ _ _ (by simp)]
  exact (b3.block _ (blk_lt K1)).trans K1
 have bV:Below W.heap.size W V1:=by
  rw [<- hV1]
  exact ((mbel bV b3).setCell (by simp) _).setCell (by simp) _
 rw [hV1]
 clear hV1 T1 u0 u1 v0 v1 b2 b3 C0
 rw [rounds_succ]
 have C1:=F1 V1 bV
 by_cases g1:fy.c=0
 rotate_left
 ·have h3:fy.c=1\/fy.c=2\/fy.c=3:=hy.resolve_left g1
  rw [er4_eV h3] at C1
  have H3:Hid (fy.c=1\/fy.c=2\/fy.c=3):=h3
  have HA:Hid (¬ fy.c=0):=g1
  clear h3
  go_wp2_with (go_at_call 167;refine C1.mono ?_;rintro e w1 ⟨rfl,b2⟩;have Kw:=((mbel b2 (mal w1 (.cells #[.int .i64 fy.n,.int .i64 fy.d] 52))).block _ (blk_lt K1)).trans K1;have u0:=bcell Kw 0 _ rfl;have uf:=bfrozQ Kw 0)
  refine bodyPost_ret (v:=.tuple #[.agg #[.slice none 0 0],eV (E fy.c)]) (by simp [results,Tryz.results117,go_sem,u0]) rfl ⟨?_,(mbel bV (mbel b2 (mal w1 _))).setCell Nat.le.refl _⟩
  unfold boxAns
  rw [if_neg (by simp [g0]),if_pos HA.out]
  exact ⟨_,rfl,by have:=H3.out;omega,by have:=H3.out;omega,.inl rfl⟩
 rw [g1,er4_nil] at C1
 go_wp2_with (go_at_call 167;refine C1.mono ?_;rintro e w1 ⟨rfl,b2⟩;have b3:=mbel b2 (mal w1 (.cells #[.int .i64 fy.n,.int .i64 fy.d] 52));have T1:=(b3.block _ S0.lt).trans S0.h;have u0:=bcellQ T1 2 _ rfl;have u1:=bcellQ T1 3 _ rfl;have v0:=bfrozQ T1 2;have v1:=bfrozQ T1 3)
 obtain ⟨V2,hV2⟩:∃ V,(((w1.alloc (.cells #[.int .i64 fy.n,.int .i64 fy.d] 52)).setCell ⟨W.heap.size+1,2,none⟩ (.int .i64 fy.n)).setCell ⟨W.heap.size+1,3,none⟩ (.int .i64 fy.d))=V:=⟨_,rfl⟩
 have S0:Blk V2 (W.heap.size+1) #[.int .i64 fx.n,.int .i64 fx.d,.int .i64 fy.n,.int .i64 fy.d,.int .i64 0,.int .i64 0,.int .i64 0,.int .i64 0] 239:=by
  rw [<- hV2]
  exact (Blk.mk T1).put2 2 _ _
 have K1:V2.heap[W.heap.size]? = some (.cells #[.slice none 0 0] 43):=by
  rw [<- hV2,Below.heap_setCell _ _ _ _ (by simp),Below.heap_setCell _ _ _ _ (by simp)]
  exact (b3.block _ (blk_lt K1)).trans K1
 have bV:Below W.heap.size W V2:=by
  rw [<- hV2]
  exact ((mbel bV b3).setCell (by simp) _).setCell (by simp) _
 rw [hV2]
 clear hV2 T1 u0 u1 v0 v1 b2 b3 C1
 rw [rounds_succ]
 have C2:=F2 V2 bV
 by_cases g2:fu.c=0
 rotate_left
 ·have h3:fu.c=1\/fu.c=2\/fu.c=3:=hu.resolve_left g2
  rw [er4_eV h3] at C2
  have H3:Hid (fu.c=1\/fu.c=2\/fu.c=3):=h3
  have HA:Hid (¬ fu.c=0):=g2
  clear h3
  go_wp2_with (go_at_call 167;refine C2.mono ?_;rintro e w1 ⟨rfl,b2⟩;have Kw:=((mbel b2 (mal w1 (.cells #[.int .i64 fu.n,.int .i64 fu.d] 52))).block _ (blk_lt K1)).trans K1;have u0:=bcell Kw 0 _ rfl;have uf:=bfrozQ Kw 0)
  refine bodyPost_ret (v:=.tuple #[.agg #[.slice none 0 0],eV (E fu.c)]) (by simp [results,Tryz.results117,go_sem,u0]) rfl ⟨?_,(mbel bV (mbel b2 (mal w1 _))).setCell Nat.le.refl _⟩
  unfold boxAns
  rw [if_neg (by simp [g0]),if_neg (by simp [g1]),if_pos HA.out]
  exact ⟨_,rfl,by have:=H3.out;omega,by have:=H3.out;omega,.inl rfl⟩
 rw [g2,er4_nil] at C2
 go_wp2_with (go_at_call 167;refine C2.mono ?_;rintro e w1 ⟨rfl,b2⟩;have b3:=mbel b2 (mal w1 (.cells #[.int .i64 fu.n,.int .i64 fu.d] 52));have T1:=(b3.block _ S0.lt).trans S0.h;have u0:=bcellQ T1 4 _ rfl;have u1:=bcellQ T1 5 _ rfl;have v0:=bfrozQ T1 4;have v1:=bfrozQ T1 5)
 obtain ⟨V3,hV3⟩:∃ V,(((w1.alloc (.cells #[.int .i64 fu.n,.int .i64 fu.d] 52)).setCell ⟨W.heap.size+1,4,none⟩ (.int .i64 fu.n)).setCell ⟨W.heap.size+1,5,none⟩ (.int .i64 fu.d))=V:=⟨_,rfl⟩
 have S0:Blk V3 (W.heap.size+1) #[.int .i64 fx.n,.int .i64 fx.d,.int .i64 fy.n,.int .i64 fy.d,.int .i64 fu.n,.int .i64 fu.d,.int .i64 0,.int .i64 0] 239:=by
  rw [<- hV3]
  exact (Blk.mk T1).put2 4 _ _
 have K1:V3.heap[W.heap.size]? = some (.cells #[.slice none 0 0] 43):=by
  rw [<- hV3,Below.heap_setCell _ _ _ _ (by simp),Below.heap_setCell _ _ _ _ (by simp)]
  exact (b3.block _ (blk_lt K1)).trans K1
 have bV:Below W.heap.size W V3:=by
  rw [<- hV3]
  exact ((mbel bV b3).setCell (by simp) _).setCell (by simp) _
 rw [hV3]
 clear hV3 T1 u0 u1 v0 v1 b2 b3 C2
 rw [rounds_succ]
 have C3:=F3 V3 bV
 by_cases g3:fv.c=0
 rotate_left
 ·have h3:fv.c=1\/fv.c=2\/fv.c=3:=hv.resolve_left g3
  rw [er4_eV h3] at C3
  have H3:Hid (fv.c=1\/fv.c=2\/fv.c=3):=h3
  have HA:Hid (¬ fv.c=0):=g3
  clear h3
  go_wp2_with (go_at_call 167;refine C3.mono ?_;rintro e w1 ⟨rfl,b2⟩;have Kw:=((mbel b2 (mal w1 (.cells #[.int .i64 fv.n,.int .i64 fv.d] 52))).block _ (blk_lt K1)).trans K1;have u0:=bcell Kw 0 _ rfl;have uf:=bfrozQ Kw 0)
  refine bodyPost_ret (v:=.tuple #[.agg #[.slice none 0 0],eV (E fv.c)]) (by simp [results,Tryz.results117,go_sem,u0]) rfl ⟨?_,(mbel bV (mbel b2 (mal w1 _))).setCell Nat.le.refl _⟩
  unfold boxAns
  rw [if_neg (by simp [g0]),if_neg (by simp [g1]),if_neg (by simp [g2]),if_pos HA.out]
  exact ⟨_,rfl,by have:=H3.out;omega,by have:=H3.out;omega,.inl rfl⟩
 rw [g3,er4_nil] at C3
 go_wp2_with (go_at_call 167;refine C3.mono ?_;rintro e w1 ⟨rfl,b2⟩;have b3:=mbel b2 (mal w1 (.cells #[.int .i64 fv.n,.int .i64 fv.d] 52));have T1:=(b3.block _ S0.lt).trans S0.h;have u0:=bcellQ T1 6 _ rfl;have u1:=bcellQ T1 7 _ rfl;have v0:=bfrozQ T1 6;have v1:=bfrozQ T1 7)
 obtain ⟨V4,hV4⟩:∃ V,(((w1.alloc (.cells #[.int .i64 fv.n,.int .i64 fv.d] 52)).setCell ⟨W.heap.size+1,6,none⟩ (.int .i64 fv.n)).setCell ⟨W.heap.size+1,7,none⟩ (.int .i64 fv.d))=V:=⟨_,rfl⟩
 have S0:Blk V4 (W.heap.size+1) #[.int .i64 fx.n,.int .i64 fx.d,.int .i64 fy.n,.int .i64 fy.d,.int .i64 fu.n,.int .i64 fu.d,.int .i64 fv.n,.int .i64 fv.d] 239:=by
  rw [<- hV4]
  exact (Blk.mk T1).put2 6 _ _
 have K1:V4.heap[W.heap.size]? = some (.cells #[.slice none 0 0] 43):=by
  rw [<- hV4,Below.heap_setCell _ _ _ _ (by simp),Below.heap_setCell _ _ _ _ (by simp)]
  exact (b3.block _ (blk_lt K1)).trans K1
 have bV:Below W.heap.size W V4:=by
  rw [<- hV4]
  exact ((mbel bV b3).setCell (by simp) _).setCell (by simp) _
 rw [hV4]
 clear hV4 T1 u0 u1 v0 v1 b2 b3 C3
 rw [rounds_succ]
 have BX:=FB g0 g1 g2 g3 V4 (HN.out.below bV)
 have s0:=S0.cell 0 _ rfl
 have s1:=S0.cell 1 _ rfl
 have s2:=S0.cell 2 _ rfl
 have s3:=S0.cell 3 _ rfl
 have s4:=S0.cell 4 _ rfl
 have s5:=S0.cell 5 _ rfl
 have s6:=S0.cell 6 _ rfl
 have s7:=S0.cell 7 _ rfl
 have HG:Hid (fx.c=0/\fy.c=0/\fu.c=0/\fv.c=0):=⟨g0,g1,g2,g3⟩
 clear g0 g1 g2 g3
 go_wp2_with (go_at_call 168;refine BX.mono ?_;rintro e w2 ⟨h2,b2⟩;obtain ⟨ro,rn,rc,rv,rfl⟩:=h2.is;have K2:=(b2.block _ (blk_lt K1)).trans K1;have u0:=bcell K2 0 _ rfl;have uf:=bfrozQ K2 0)
 refine bodyPost_ret (v:=.tuple #[.agg #[.slice ro rn rc],rv]) (by simp [results,Tryz.results117,go_sem,u0]) rfl ⟨?_,(mbel bV b2).setCell Nat.le.refl _⟩
 obtain ⟨g0,g1,g2,g3⟩:=HG.out
 unfold boxAns
 rw [if_neg (by simp [g0]),if_neg (by simp [g1]),if_neg (by simp [g2]),if_neg (by simp [g3])]
 exact h2.far K2
theorem boxOf_any (hN:NE E W) (hd:DocW B tg W DB MB p M nx c) (hz:SzD M) (WB:Nat) (hw:W.cell? ⟨WB,0,none⟩=some (.pointer (some ⟨DB,0,none⟩))) (n:Int) (hn:Wf64 n) :
  Calls Tryz.prog 117 #[.pointer (some ⟨WB,0,none⟩),.int .i64 n] W fun e w'=>ShpR E (boxM M n) e w'/\Below W.heap.size W w':=by
 have F:=fun (nm:Bs) V (hV:Below W.heap.size W V)=>fracOf_any (hN.below hV) (hd.below hV) hz WB ((hV.cell (cell_lt hw)).trans hw) n hn nm
 exact boxOf_walk WB n (fracM M n [120]) (fracM M n [121]) (fracM M n [119]) (fracM M n [104]) (boxOfM (fracM M n [120]) (fracM M n [121]) (fracM M n [119]) (fracM M n [104])) hN (fracM_err _ _ _) (fracM_err _ _ _) (fracM_err _ _ _) (fracM_err _ _ _) (F [120]) (F [121]) (F [119]) (F [104])
  (fun h0 h1 h2 h3 V hV=>Box_rt _ _ _ _ _ _ _ _ V (fracM_chk _ _ _ h0) (fracM_chk _ _ _ h1) (fracM_chk _ _ _ h2) (fracM_chk _ _ _ h3) hV)
end
end
section
open Go.RowKit Go.Shelf
set_option maxHeartbeats 16000000
set_option maxRecDepth 20000
def GoR (E:Nat->Addr) (m:Mv) (l:List Qt) (base:Nat) (e:Ending) (w':World):Prop:=match goM m l with
 | some l'=>∃ v,e=.returned (.tuple #[.agg #[v],.nilIface])/\OwnP w' base v l'
 | none=>∃ v,e=.returned (.tuple #[.agg #[.slice none 0 0],v])/\ErC E 2 v w'
theorem goR_no {E:Nat->Addr} {m:Mv} {l:List Qt} {base:Nat} {w':World} {a:Qt} {v:Value} (ha:a ∈ l) (hn:goOk m a=false) (hv:ErC E 2 v w'):GoR E m l base (.returned (.tuple #[.agg #[.slice none 0 0],v])) w':=by
 unfold GoR goM
 rw [if_neg (fun h=>by have:=List.all_eq_true.1 h a ha;rw [hn] at this;cases this)]
 exact ⟨v,rfl,hv⟩
theorem goR_yes {E:Nat->Addr} {m:Mv} {l:List Qt} {base:Nat} {w':World} {v:Value} (h:∀ a ∈ l,goOk m a=true) (hv:OwnP w' base v (l.map (goP m))):GoR E m l base (.returned (.tuple #[.agg #[v],.nilIface])) w':=by
 unfold GoR goM
 rw [if_pos (List.all_eq_true.2 h)]
 exact ⟨v,rfl,hv⟩
theorem pt_okP {a:Qt} (h:errP a=0):(qtP a).ok:=by
 obtain ⟨h1, -⟩:=errP_zero.1 h
 exact chkP_zero.1 h1
theorem pt64 {a:Qt} (h:errP a=0):(qtP a).i64:=⟨ok_i64 (pt_okP h).1,ok_i64 (pt_okP h).2⟩
theorem goOk_chk {m:Mv} {a:Qt} (hm:m.ok) (ha:errP a=0) (h:(movedF 0 m (qtP a)).2=0):chkP (goP m a)=0:=by
 have h1:=((moved_step (c:=0) (.inl rfl) hm (pt_okP ha)).2 h).2.1
 have e:goP m a=⟨(movedF 0 m (qtP a)).1.x.n,(movedF 0 m (qtP a)).1.x.d,(movedF 0 m (qtP a)).1.y.n,(movedF 0 m (qtP a)).1.y.d⟩:=by
  unfold goP qtP
  with_reducible rfl
 rw [e]
 clear e h
 generalize movedF 0 m (qtP a)=z at h1 ⊢
 exact chkP_zero.2 ⟨h1.1,h1.2⟩
theorem goOk_code {m:Mv} {a:Qt} (h:goOk m a=true):(movedF 0 m (qtP a)).2=0:=by
 unfold goOk at h
 simp only [Bool.and_eq_true,decide_eq_true_eq] at h
 exact h.1
theorem goOk_of {m:Mv} {a:Qt} (h:(movedF 0 m (qtP a)).2=0) (hb:bigP (goP m a)=0):goOk m a=true:=by
 unfold goOk
 simp only [Bool.and_eq_true,decide_eq_true_eq]
 exact ⟨h,by rw [hb];rfl⟩
theorem goOk_big {m:Mv} {a:Qt} (hb:¬ bigP (goP m a)=0):goOk m a=false:=by
 unfold goOk
 simp only [Bool.and_eq_false_iff]
 exact .inr (by simpa using hb)
theorem goOk_code_no {m:Mv} {a:Qt} (h:¬ (movedF 0 m (qtP a)).2=0):goOk m a=false:=by
 cases hg:goOk m a with
 | false=>rfl
 | true=>exact absurd (goOk_code hg) h
theorem ShMove_rt {E:Nat->Addr} (m:Mv) (hm:m.ok) (l:List Qt) (o:Option Addr) (cap:Nat) (w:World) (hok:okSh l) (h:PtsAt w o l) (hN:NE E w) :
  Calls Tryz.prog 165 #[.agg #[.slice o l.length cap],mv m] w fun e W=>GoR E m l w.heap.size e W/\Below w.heap.size w W:=by
 have HC:FineC (E 2) (E 3) (E 2) m:=fineC (ok_all hm) (bad_ok hm)
 have hE:=hN.e3
 have HM:Hid m.ok:=hm
 have HOKS:Hid (okSh l):=hok
 clear hm hN
 obtain ⟨i0,hi,hz0,hz1,hz2⟩:=info_parts infoPt
 go_enter Tryz.func165,Tryz.ntmps165
 go_upto_region 1 with fail
 obtain ⟨U,hU⟩:∃ U,((w.alloc (.cells #[.slice o l.length cap] 43)).alloc (.cells #[.int .i64 m.a.n,.int .i64 m.a.d,.int .i64 m.b.n,.int .i64 m.b.d,.int .i64 m.c.n,.int .i64 m.c.d,.int .i64 m.d.n,.int .i64 m.d.d,.int .i64 m.e.n,.int .i64 m.e.d,.int .i64 m.f.n,.int .i64 m.f.d] 113)).alloc (.cells #[.slice none 0 0] 43)=U:=⟨_,rfl⟩
 obtain ⟨k0,k1,k2,hbU⟩:=heap3 w _ _ _ U hU
 rw [hU]
 clear hU
 have hEU:=hE.below hbU Nat.le.refl
 have CK:=HC U hEU
 have m0:=bcellQ k1 0 _ rfl
 have m1:=bcellQ k1 1 _ rfl
 have m2:=bcellQ k1 2 _ rfl
 have m3:=bcellQ k1 3 _ rfl
 have m4:=bcellQ k1 4 _ rfl
 have m5:=bcellQ k1 5 _ rfl
 have m6:=bcellQ k1 6 _ rfl
 have m7:=bcellQ k1 7 _ rfl
 have m8:=bcellQ k1 8 _ rfl
 have m9:=bcellQ k1 9 _ rfl
 have m10:=bcellQ k1 10 _ rfl
 have m11:=bcellQ k1 11 _ rfl
 go_upto_region 4 with (go_at_call 174;refine CK.mono ?_;rintro e w1 ⟨rfl,b1⟩)
 clear CK m0 m1 m2 m3 m4 m5 m6 m7 m8 m9 m10 m11
 have k0:=blk_keep b1 k0
 have k1:=blk_keep b1 k1
 have k2:=blk_keep b1 k2
 have hb1:=bel_more hbU b1
 have hE1:=hE.below hb1 Nat.le.refl
 have SC:=Check_sh (E 2) (E 3) (E 2) l o cap w1 (h.below hb1 Nat.le.refl) hE1
 have s0:=bcellQ k0 0 _ rfl
 have HOK:Hid (okSh l):=hok
 go_upto_region 7 with (go_at_call 194;refine SC.mono ?_;rintro e w2 ⟨hc,b2⟩;have he:e=.returned .nilIface:=(by rcases hc.plain with ⟨-,h2⟩ | ⟨h1, -⟩;exact h2;exact absurd HOK.out h1);subst he;clear hc)
 clear SC s0
 have k0:=blk_keep b2 k0
 have k1:=blk_keep b2 k1
 have k2:=blk_keep b2 k2
 have hb2:=bel_more hb1 b2
 have hl30:=hok.1
 have s0:=bcellQ k0 0 _ rfl
 clear hok b1 b2 hE1 hEU
 go_wp2_with fail
 go_loopw [8,28] (fun v y wr=>∃ k:Nat,k<=l.length/\y=.int .i64 k/\(∀ a ∈ l.take k,goOk m a=true)/\OwnP wr w2.heap.size v ((l.take k).map (goP m))/\Below w2.heap.size w2 wr) (fun _ y _=>l.length - (intOf y).toNat)
 case atStart=>exact ⟨0,Nat.zero_le _,rfl,by simp,OwnP.nil _ _,Below.refl _ _⟩
 case round=>
  obtain ⟨k,hk,rfl,hall,hown,hb⟩:=hrel
  have HAL:Hid (∀ a ∈ l.take k,goOk m a=true):=hall
  have hpiT:∀ a ∈ (l.take k).map (goP m),PI a:=fun a ha=>by
   obtain ⟨b,hb',rfl⟩:=List.mem_map.1 ha
   exact chkP_pi (goOk_chk HM.out (HOKS.out.2 b (List.mem_of_mem_take hb')) (goOk_code (hall b hb')))
  obtain ⟨ov,cv,rfl, -⟩:=hown.at_ hpiT
  have hlen:((l.take k).map (goP m)).length=k:=by rw [List.length_map,List.length_take];omega
  rw [hlen] at hown ⊢
  have HLEN:Hid (((l.take k).map (goP m)).length=k):=hlen
  clear hall hpiT hlen
  by_cases hlt:k<l.length
  ·have hlt':(k:Int)<(l.length:Int):=by omega
   obtain ⟨a,ha⟩:∃ a,l[k]? = some a:=⟨_,List.getElem?_eq_getElem hlt⟩
   have hmem:=List.mem_of_getElem? ha
   obtain ⟨b,off,ho,hp⟩:=(h.below (bel_more hb2 hb) Nat.le.refl) k a ha
   subst ho
   obtain ⟨c0,c1,c2,c3,hpi⟩:=hp
   have HL:Hid (l[k]? = some a):=ha
   have hE2:=hE.below (bel_more hb2 hb) Nat.le.refl
   have b3:=mbelow wr (.cells #[.int .i64 a.xn,.int .i64 a.xd,.int .i64 a.yn,.int .i64 a.yd] 121)
   have F3:=Four.new wr (.int .i64 a.xn) (.int .i64 a.xd) (.int .i64 a.yn) (.int .i64 a.yd) 121
   have kr:=blk_keep (bel_more hb b3) k1
   have hE3:=hE2.below b3 Nat.le.refl
   by_cases hc0:(movedF 0 m (qtP a)).2=0
   ·have AT:=At_ok (aB:=E 2) (aS:=E 3) (aZ:=E 2) (ok_all HM.out) (pt64 (HOKS.out.2 a hmem)) (atR_ok HM.out (pt_okP (HOKS.out.2 a hmem)) (pair_eq hc0)) _ hE3
    have hcg:chkP (goP m a)=0:=goOk_chk HM.out (HOKS.out.2 a hmem) hc0
    have AT:Calls Tryz.prog 210 #[mv m,qtV a] _ fun e w'=>e=.returned (.tuple #[qtV (goP m a),.nilIface])/\Below _ _ w':=AT
    have HC0:Hid ((movedF 0 m (qtP a)).2=0):=hc0
    clear ha hc0
    go_upto_region 11 with fail
    obtain ⟨V,hV⟩:∃ V,wr.alloc (.cells #[.int .i64 a.xn,.int .i64 a.xd,.int .i64 a.yn,.int .i64 a.yd] 121)=V:=⟨_,rfl⟩
    rw [hV] at b3 F3 kr hE3 AT ⊢
    clear hV c0 c1 c2 c3
    have m0:=bcellQ kr 0 _ rfl
    have m1:=bcellQ kr 1 _ rfl
    have m2:=bcellQ kr 2 _ rfl
    have m3:=bcellQ kr 3 _ rfl
    have m4:=bcellQ kr 4 _ rfl
    have m5:=bcellQ kr 5 _ rfl
    have m6:=bcellQ kr 6 _ rfl
    have m7:=bcellQ kr 7 _ rfl
    have m8:=bcellQ kr 8 _ rfl
    have m9:=bcellQ kr 9 _ rfl
    have m10:=bcellQ kr 10 _ rfl
    have m11:=bcellQ kr 11 _ rfl
    obtain ⟨f0,f1,f2,f3⟩:=F3
    generalize hga:goP m a=q at *
    have HGA:Hid (goP m a=q):=hga
    clear hga
    go_upto_region 12 with (go_at_call 210;refine AT.mono ?_;rintro e w3 ⟨rfl,b4⟩)
    clear AT f0 f1 f2 f3 m0 m1 m2 m3 m4 m5 m6 m7 m8 m9 m10 m11
    have b5:=mbelow w3 (.cells #[.int .i64 q.xn,.int .i64 q.xd,.int .i64 q.yn,.int .i64 q.yd] 121)
    have F5:=Four.new w3 (.int .i64 q.xn) (.int .i64 q.xd) (.int .i64 q.yn) (.int .i64 q.yd) 121
    obtain ⟨V2,hV2⟩:∃ V,w3.alloc (.cells #[.int .i64 q.xn,.int .i64 q.xd,.int .i64 q.yn,.int .i64 q.yd] 121)=V:=⟨_,rfl⟩
    obtain ⟨BQ,hBQ⟩:∃ B,w3.heap.size=B:=⟨_,rfl⟩
    rw [hV2] at b5 F5 ⊢
    have b6:=bel_more (bel_more b3 b4) b5
    rw [hBQ] at F5 ⊢
    clear hV2 hBQ b3 b4 b5 hE3 kr
    have CS:=checkSize_any (E 2) (E 3) (E 2) q V2 (chkP_pi hcg) (chkP_pos hcg) (hE2.below b6 Nat.le.refl)
    obtain ⟨f0,f1,f2,f3⟩:=id F5
    by_cases hx:bigP q=0
    ·rw [hx] at CS
     have HX:Hid (bigP q=0):=hx
     clear hx
     go_upto_region 14 with (go_at_call 211;refine CS.mono ?_;rintro e w4 ⟨rfl,b7⟩;simp only [er_0])
     clear CS f0 f1 f2 f3
     obtain ⟨f0,f1,f2,f3⟩:=F5.below b7 Nat.le.refl
     have b8:=bel_more (bel_more hb b6) b7
     have hz8:=b8.size
     have hown4:w4.ownsRow w2.heap.size 121 4 (.slice ov k cv) k (cellsP ((l.take k).map (goP m))):=by
      have h:=hown.keep (bel_more b6 b7)
      unfold OwnP at h
      rw [HLEN.out] at h
      exact h
     have hz4:=(bel_more b6 b7).size
     have hnb:=World.alloc_heap_new w4 (.cells #[.int .i64 q.xn,.int .i64 q.xd,.int .i64 q.yn,.int .i64 q.yd] 121)
     have owj':(w4.alloc (.cells #[.int .i64 q.xn,.int .i64 q.xd,.int .i64 q.yn,.int .i64 q.yd] 121)).ownsRow w2.heap.size 121 4 (.slice ov k cv) k (cellsP ((l.take k).map (goP m))):=World.ownsRow.alloc hown4 _
     have HT:Hid ((l.take (k+1)).map (goP m)=(l.take k).map (goP m)++[q]/\∀ a ∈ l.take (k+1),goOk m a=true):=by
      have ht:l.take (k+1)=l.take k++[a]:=by rw [List.take_add_one,HL.out];rfl
      constructor
      ·rw [ht,List.map_append,List.map_singleton,HGA.out]
      ·rw [ht]
       intro y hy
       rcases List.mem_append.1 hy with h | h
       ·exact HAL.out y h
       ·simp at h;rw [h];exact goOk_of HC0.out (by rw [HGA.out];exact HX.out)
     generalize (l.take k).map (goP m)=R at *
     clear hown hown4
     go_wp2_with (at_builtin;refine wpList_append_own _ rfl _ _ 41 rfl (w2.heap.size) 121 i0 (.agg #[.int .i64 0,.int .i64 0,.int .i64 0,.int .i64 0]) 4 32 Tryz.underlying41 hi hz0 hz1 hz2 rfl (by decide) _ _ _ rfl owj' _ _ _ (cellsP [q]) rfl (cellsP_len [q]) (World.news_of_block hnb) (cellsP_one _) (by simp only [maxLen];omega) (by omega) (by simp;omega) ?_;intro v12 w12 ow12 gr12 _)
     go_roundw
     case rel=>exact ⟨k+1,by omega,by go_num,HT.out.2,by rw [HT.out.1];rw [<- HLEN.out] at ow12;exact OwnP.app (m:=[q]) ow12 rfl,(b8.alloc hz8 _).grown gr12 (by simp;omega) (own_ge' owj')⟩
     case measure=>simp [intOf];omega
    ·have hx2:bigP q=2:=by have:=bigP_cases q;omega
     rw [hx2] at CS
     have HX:Hid (¬ bigP q=0):=hx
     clear hx hx2
     go_upto_region 13 with (go_at_call 211;refine CS.mono ?_;rintro e w4 ⟨rfl,b7⟩;simp only [er_2])
     clear CS f0 f1 f2 f3
     have b8:=bel_more (bel_more hb b6) b7
     have k24:=blk_keep b8 k2
     have q4:=bcellQ k24 0 _ rfl
     have f4:=bfrozQ k24 0
     have hE4:=(hE.below (bel_more hb2 b8) Nat.le.refl).b
     have hlt4:=(Array.getElem?_eq_some_iff.1 k24).1
     have ne4:¬ w4.heap.size=w.heap.size+1+1:=by omega
     have ne5:¬ w.heap.size+1+1=w4.heap.size:=by omega
     have hlt5:=cell_lt hE.b
     have hE5:(w4.setCell ⟨w.heap.size+1+1,0,none⟩ (.slice none 0 0)).cell? ⟨6,0,none⟩=some (.iface 409 (.pointer (some (E 2)))):=(World.cell?_setCell_far _ _ _ _ (by have:6<w.heap.size:=hlt5;show w.heap.size+1+1≠6;omega)).trans hE4
     clear hlt5
     go_region
     go_wp2_with fail
     have d4:(((w4.setCell ⟨w.heap.size+1+1,0,none⟩ (.slice none 0 0)).alloc (.cells #[.int .i64 k,.iface 409 (.pointer (some (E 2)))] 145)).drew).cell? ⟨w.heap.size+1+1,0,none⟩=some (.slice none 0 0):=cell_al _ (World.cell?_setCell_same' _ _ _ (by rw [q4];rfl))
     have b9:=bel_more hb2 b8
     refine bodyPost_ret (v:=.tuple #[.agg #[.slice none 0 0],.iface 143 (.pointer (some ⟨w4.heap.size,0,none⟩))]) (by simp [results,Tryz.results165,go_sem,d4]) rfl ⟨?_,below_drewN ((b9.setCell (by simp;omega) _).alloc (by simpa using b9.size) _) 1⟩
     refine goR_no hmem ?_ ⟨by decide,by decide,.inr ⟨_,0,rfl,?_⟩⟩
     ·exact goOk_big (by rw [HGA.out];exact HX.out)
     ·show (((w4.setCell ⟨w.heap.size+1+1,0,none⟩ (.slice none 0 0)).alloc (.cells #[.int .i64 k,.iface 409 (.pointer (some (E 2)))] 145))).cell? ⟨w4.heap.size,1,none⟩=some (eV (E 2))
      have hs4:(w4.setCell ⟨w.heap.size+1+1,0,none⟩ (.slice none 0 0)).heap.size=w4.heap.size:=by simp
      have hcn:=bcell (World.alloc_heap_new (w4.setCell ⟨w.heap.size+1+1,0,none⟩ (.slice none 0 0)) (.cells #[.int .i64 k,.iface 409 (.pointer (some (E 2)))] 145)) 1 _ rfl
      rw [hs4] at hcn
      exact hcn
   ·have AT:∀ V,E3 (E 2) (E 3) (E 2) V->Calls Tryz.prog 210 #[mv m,qtV a] V fun e w'=>e=.returned (.tuple #[qtV zQt,eV (E 2)])/\Below V.heap.size V w':=fun V hV=>by
     have h1:=At_no (aB:=E 2) (aS:=E 3) (aZ:=E 2) (m:=m) (p:=qtP a) (ok_all HM.out) (pt64 (HOKS.out.2 a hmem)) (fun q e=>hc0 (by rw [(atR_no e).2.2])) V hV
     have h2:(atR m (qtP a)).2=.bare 2:=by
      unfold atR
      rw [if_neg (by simp [bad_ok HM.out]),if_neg (by simp [badp_ok (pt_okP (HOKS.out.2 a hmem))]),if_neg hc0]
     rw [h2] at h1
     refine h1.mono ?_
     rintro e w' ⟨⟨v,rfl, -,rfl⟩,hb'⟩
     exact ⟨rfl,hb'⟩
    have AT:=AT _ hE3
    have HC0:Hid (¬ (movedF 0 m (qtP a)).2=0):=hc0
    clear ha hc0
    go_upto_region 11 with fail
    obtain ⟨V,hV⟩:∃ V,wr.alloc (.cells #[.int .i64 a.xn,.int .i64 a.xd,.int .i64 a.yn,.int .i64 a.yd] 121)=V:=⟨_,rfl⟩
    rw [hV] at b3 F3 kr hE3 AT ⊢
    clear hV c0 c1 c2 c3
    have m0:=bcellQ kr 0 _ rfl
    have m1:=bcellQ kr 1 _ rfl
    have m2:=bcellQ kr 2 _ rfl
    have m3:=bcellQ kr 3 _ rfl
    have m4:=bcellQ kr 4 _ rfl
    have m5:=bcellQ kr 5 _ rfl
    have m6:=bcellQ kr 6 _ rfl
    have m7:=bcellQ kr 7 _ rfl
    have m8:=bcellQ kr 8 _ rfl
    have m9:=bcellQ kr 9 _ rfl
    have m10:=bcellQ kr 10 _ rfl
    have m11:=bcellQ kr 11 _ rfl
    obtain ⟨f0,f1,f2,f3⟩:=F3
    go_upto_region 12 with (go_at_call 210;refine AT.mono ?_;rintro e w3 ⟨rfl,b4⟩)
    clear AT f0 f1 f2 f3 m0 m1 m2 m3 m4 m5 m6 m7 m8 m9 m10 m11
    have b5:=mbelow w3 (.cells #[.int .i64 0,.int .i64 0,.int .i64 0,.int .i64 0] 121)
    obtain ⟨w4,hV2⟩:∃ V,w3.alloc (.cells #[.int .i64 0,.int .i64 0,.int .i64 0,.int .i64 0] 121)=V:=⟨_,rfl⟩
    rw [hV2] at b5 ⊢
    have b6:=bel_more (bel_more b3 b4) b5
    clear hV2 b3 b4 b5 hE3 kr
    go_upto_region 13 with fail
    have b8:=bel_more hb b6
    have k24:=blk_keep b8 k2
    have q4:=bcellQ k24 0 _ rfl
    have f4:=bfrozQ k24 0
    have hE4:=(hE.below (bel_more hb2 b8) Nat.le.refl).b
    have hlt4:=(Array.getElem?_eq_some_iff.1 k24).1
    have ne4:¬ w4.heap.size=w.heap.size+1+1:=by omega
    have ne5:¬ w.heap.size+1+1=w4.heap.size:=by omega
    have hlt5:=cell_lt hE.b
    have hE5:(w4.setCell ⟨w.heap.size+1+1,0,none⟩ (.slice none 0 0)).cell? ⟨6,0,none⟩=some (.iface 409 (.pointer (some (E 2)))):=(World.cell?_setCell_far _ _ _ _ (by have:6<w.heap.size:=hlt5;show w.heap.size+1+1≠6;omega)).trans hE4
    clear hlt5
    go_region
    go_wp2_with fail
    have d4:(((w4.setCell ⟨w.heap.size+1+1,0,none⟩ (.slice none 0 0)).alloc (.cells #[.int .i64 k,.iface 409 (.pointer (some (E 2)))] 145)).drew).cell? ⟨w.heap.size+1+1,0,none⟩=some (.slice none 0 0):=cell_al _ (World.cell?_setCell_same' _ _ _ (by rw [q4];rfl))
    have b9:=bel_more hb2 b8
    refine bodyPost_ret (v:=.tuple #[.agg #[.slice none 0 0],.iface 143 (.pointer (some ⟨w4.heap.size,0,none⟩))]) (by simp [results,Tryz.results165,go_sem,d4]) rfl ⟨?_,below_drewN ((b9.setCell (by simp;omega) _).alloc (by simpa using b9.size) _) 1⟩
    refine goR_no hmem ?_ ⟨by decide,by decide,.inr ⟨_,0,rfl,?_⟩⟩
    ·exact goOk_code_no HC0.out
    ·show (((w4.setCell ⟨w.heap.size+1+1,0,none⟩ (.slice none 0 0)).alloc (.cells #[.int .i64 k,.iface 409 (.pointer (some (E 2)))] 145))).cell? ⟨w4.heap.size,1,none⟩=some (eV (E 2))
     have hs4:(w4.setCell ⟨w.heap.size+1+1,0,none⟩ (.slice none 0 0)).heap.size=w4.heap.size:=by simp
     have hcn:=bcell (World.alloc_heap_new (w4.setCell ⟨w.heap.size+1+1,0,none⟩ (.slice none 0 0)) (.cells #[.int .i64 k,.iface 409 (.pointer (some (E 2)))] 145)) 1 _ rfl
     rw [hs4] at hcn
     exact hcn
  ·obtain rfl:k=l.length:=by omega
   have b8:=hb
   have k24:=blk_keep b8 k2
   have q4:=bcellQ k24 0 _ rfl
   have f4:=bfrozQ k24 0
   have hlt4:=(Array.getElem?_eq_some_iff.1 k2).1
   go_wp2_with fail
   have d0:(wr.setCell ⟨w.heap.size+1+1,0,none⟩ (.slice ov l.length cv)).cell? ⟨w.heap.size+1+1,0,none⟩=some (.slice ov l.length cv):=World.cell?_setCell_same' _ _ _ (by rw [q4];rfl)
   have hw:w.heap.size<=w2.heap.size:=hb2.size
   refine bodyPost_ret (v:=.tuple #[.agg #[.slice ov l.length cv],.nilIface]) (by simp [results,Tryz.results165,go_sem,d0]) rfl ⟨goR_yes ?_ ?_,(bel_more hb2 hb).setCell (by simp;omega) _⟩
   ·have:=HAL.out
    rwa [List.take_length] at this
   ·have:=(hown.far (b:=w.heap.size+1+1) (u:=.slice ov l.length cv) hlt4).low hw
    rwa [List.take_length] at this
end
end Go.Proofs.YtgphclgmmocdhaaGreatDoor

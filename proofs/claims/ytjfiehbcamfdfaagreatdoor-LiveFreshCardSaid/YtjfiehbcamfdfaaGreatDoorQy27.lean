/-
  Parts of the proof.
-/
import Derived.Test.YtjfiehbcamfdfaaGreatDoorQy26
namespace Go.Proofs.YtjfiehbcamfdfaaGreatDoor
open Go.Proofs.Tryz
section
theorem Rs {x:Int}(h1: -1000<=x)(h2:x<=1000):bK x 1=0:=by
 rw[dA];refine⟨by decide,?_,by omega,by decide⟩;unfold eF;simp
end
section
open Go.RowKit
def JR (a:Qt):Pt:=⟨⟨a.xn,a.xd⟩,⟨a.yn,a.yd⟩⟩
theorem ze {a:Qt}(h:dD a=0):PI a:=by
 obtain⟨c1,c2⟩:=eO.1 h;obtain⟨i1,i2⟩:=fF c1;obtain⟨i3,i4⟩:=fF c2;exact⟨i1,i2,i3,i4⟩
theorem a7Z (w:World)(o0 o1 o2:Obj):∀U,((w.alloc o0).alloc o1).alloc o2=U->
  U.heap[w.heap.size]? =some o0/\U.heap[w.heap.size+1]? =some o1/\U.heap[w.heap.size+1+1]? =some o2/\Below w.heap.size w U:=by
 rintro U rfl;refine⟨?_,?_,?_,?_⟩
 ·exact gq _ (gq _ (oV _ rfl))
 ·exact gq _ (oV _ (by simp))
 ·exact oV _ (by simp)
 ·exact(((Below.refl _ _).alloc eU _).alloc (by simp) _).alloc (by simp;omega) _
theorem Rt {w w':World}{b n:Nat}{o:Obj}(hb:Below n w w')(hn:w.heap.size<=n)(h:w.heap[b]? =some o):w'.heap[b]? =some o:=(hb.block _ (Nat.lt_of_lt_of_le (Array.getElem?_eq_some_iff.1 h).1 hn)).trans h
theorem gP {w w':World}{b:Nat}{o:Obj}(hb:Below w.heap.size w w')(h:w.heap[b]? =some o):w'.heap[b]? =some o:=Rt hb eU h
theorem fV.far {w:World}{base b:Nat}{v u:Value}{l:List Qt}(h:fV w base v l)(hb:b<base):fV (w.setCell ⟨b,0,none⟩ u) base v l:=by
 refine⟨h.1,?_⟩;rcases h.2 with h0|⟨g,cap,cur,h1,h2,h3,h4⟩
 ·exact .inl h0
 ·refine .inr ⟨g,cap,cur,h1,h2,?_,h4⟩;rw[Below.heap_setCell _ _ _ g (by simp;omega)];exact h3
theorem fV.low {w:World}{base b:Nat}{v:Value}{l:List Qt}(h:fV w base v l)(hb:b<=base):fV w b v l:=by
 refine⟨h.1,?_⟩;rcases h.2 with h0|⟨g,cap,cur,h1,h2,h3⟩
 ·exact .inl h0
 ·exact .inr ⟨g,cap,cur,h1,Nat.le_trans hb h2,h3⟩
theorem fV.keep {w w':World}{base:Nat}{v:Value}{l:List Qt}(h:fV w base v l)(hb:Below w.heap.size w w'):fV w' base v l:=by
 refine⟨h.1,?_⟩;rcases h.2 with h0|⟨g,cap,cur,h1,h2,h3,h4⟩
 ·exact .inl h0
 ·exact .inr ⟨g,cap,cur,h1,h2,gP hb h3,h4⟩
end
section
open Go.RowKit Go.Shelf
set_option maxHeartbeats 4000000
set_option maxRecDepth 20000
def CkR (E:Nat->Addr)(l:List Qt)(o:Option Addr)(cap:Nat)(e:Ending)(w':World):Prop:=
 (okB l=true/\e=.returned (.tuple #[.agg #[.slice o l.length cap],.nilIface]))\/(okB l=false/\∃v,e=.returned (.tuple #[.agg #[.slice none 0 0],v])/\BB E 2 v w')
theorem vO (l:List Qt):okB l=true↔jS l:=by
 unfold okB jS;simp
theorem a3P {E:Nat->Addr}{w W:World}{l:List Qt}{e:Ending}(hl:∀y∈l,dD y=0)(h:TM (E 2) (E 3) (E 2) w l e W):∃v,e=.returned v/\((okB l=true/\v=.nilIface)\/(okB l=false/\(v=eV (E 2)\/∃pb,w.heap.size<=pb/\v=.iface 113 (aj pb)/\W.cell? (ag pb 1)=some (eV (E 2))))):=by
 rcases h with⟨h1,h2⟩|⟨-,⟨y,hy,hy2⟩, -⟩|⟨h1,h2,h3⟩
 ·exact⟨_,h2,.inr ⟨by rw[<- Bool.not_eq_true,vO];exact fun h=>by have:=h.1;omega,.inl rfl⟩⟩
 ·exact absurd (hl y hy) hy2
 ·rcases h3 with⟨h4,h5⟩|⟨q,x,r,pb,h4, -,h6,h7,h8, -,h9⟩
  ·exact⟨_,h5,.inl ⟨(vO l).2 ⟨h1,fun y hy=>by unfold fU;rw[if_neg (by simp[h2 y hy])];exact h4 y hy⟩,rfl⟩⟩
  ·have hx:gV x=2:=by have:=K8 x;omega
   refine⟨_,h8,.inr ⟨?_,.inr ⟨pb,h7,rfl,by rw[h9,hx];rfl⟩⟩⟩;rw[<- Bool.not_eq_true,vO];intro hh;have hm:x∈l:=by rw[h4];simp
   have:=hh.2 x hm;unfold fU at this;rw[if_neg (by simp[h2 x hm])] at this;exact h6 this
theorem BD {E:Nat->Addr}(l:List Qt)(hl:∀y∈l,dD y=0)(o:Option Addr)(cap:Nat)(w:World)(h:dM w o l)(hE:NE E w):
  ak 234 #[.slice o l.length cap] w fun e W=>CkR E l o cap e W/\Below w.heap.size w W:=by
 go_enter func234,ntmps234;go_upto_region 2 with fail;obtain⟨U,hU⟩:∃U,(w.alloc (.cells #[.slice none 0 0] 136)).alloc (.cells #[.slice o l.length cap] 136)=U:=⟨_,rfl⟩;have sH:Below w.heap.size w U:=by rw[<- hU];exact((Below.refl _ _).alloc eU _).alloc (by simp) _
 have c0:U.cell? ⟨w.heap.size,0,none⟩=some (.slice none 0 0)/\U.frozen? ⟨w.heap.size,0,none⟩=false:=by
  rw[<- hU];have h1:=aL (w.alloc (.cells #[.slice none 0 0] 136)) (.cells #[.slice o l.length cap] 136);exact⟨(h1.cell (p:=⟨w.heap.size,0,none⟩) (by simp)).trans (gY w _ _).1,(h1.frozen (p:=⟨w.heap.size,0,none⟩) (by simp)).trans (gY w _ _).2⟩
 have c1:U.cell? ⟨w.heap.size+1,0,none⟩=some (.slice o l.length cap):=by
  have h1:=(gY (w.alloc (.cells #[.slice none 0 0] 136)) (.slice o l.length cap) 136).1;rw[show(w.alloc (.cells #[.slice none 0 0] 136)).heap.size=w.heap.size+1 from by simp,hU] at h1;exact h1
 rw[hU];clear hU;obtain⟨c0,f0⟩:=c0;have CK:=uM (E 2) (E 3) (E 2) l o cap U (h.below sH eU) (hE.e3.below sH eU);have hUl:w.heap.size<U.heap.size:=ay c0;have HL:Hid (∀y∈l,dD y=0):=hl;go_upto_region 3 with(go_at_call 128;refine CK.mono ?_;rintro e w1 ⟨hc,b1⟩;obtain⟨v,rfl,hcv⟩:=a3P HL.out hc);have q0:=(b1.cell (ay c0)).trans c0;have g0:=(b1.frozen (ay c0)).trans f0;have q1:=(b1.cell (ay c1)).trans c1;have tV:=au sH b1;clear hc CK c0 f0 c1;rcases hcv with⟨hok,rfl⟩|⟨hno,hv⟩
 ·go_wp2_with fail;have d0:(w1.setCell ⟨w.heap.size,0,none⟩ (.slice o l.length cap)).cell? ⟨w.heap.size,0,none⟩=some (.slice o l.length cap):=World.cell?_setCell_same' _ _ _ (by rw[q0];rfl);exact bodyPost_ret (v:=.tuple #[.agg #[.slice o l.length cap],.nilIface]) (by simp[results,results234,go_sem,d0]) rfl ⟨.inl ⟨hok,rfl⟩,tV.setCell (by simp) _⟩
 ·have d0:(w1.setCell ⟨w.heap.size,0,none⟩ (.slice none 0 0)).cell? ⟨w.heap.size,0,none⟩=some (.slice none 0 0):=World.cell?_setCell_same' _ _ _ (by rw[q0];rfl);rcases hv with rfl|⟨pb,hpb,rfl,hp1⟩
  ·go_wp2_with fail;exact bodyPost_ret (v:=.tuple #[.agg #[.slice none 0 0],eV (E 2)]) (by simp[results,results234,go_sem,d0]) rfl ⟨.inr ⟨hno,_,rfl,by decide,by decide,.inl rfl⟩,tV.setCell (by simp) _⟩
  ·go_wp2_with fail;refine bodyPost_ret (v:=.tuple #[.agg #[.slice none 0 0],.iface 113 (aj pb)]) (by simp[results,results234,go_sem,d0]) rfl ⟨.inr ⟨hno,_,rfl,by decide,by decide,.inr ⟨pb,0,rfl,?_⟩⟩,tV.setCell (by simp) _⟩;exact(World.cell?_setCell_far _ _ _ _ (by show w.heap.size≠pb;omega)).trans hp1
end
section
open Go.RowKit Go.Shelf
set_option maxHeartbeats 8000000
set_option maxRecDepth 20000
def lu (E:Nat->Addr)(x:Except Nat (List Qt))(e:Ending)(w':World):Prop:=match x with
 | .ok l=>(∀a∈l,dD a=0)/\okB l=true/\∃o cap,e=.returned (.tuple #[.agg #[.slice o l.length cap],.nilIface])/\dM w' o l
 | .error c=>∃v,e=.returned (.tuple #[.agg #[.slice none 0 0],v])/\BB E c v w'
def ptB (w:ByteArray):Option Qt:=ptM w.data.toList
theorem a0h {w:Bs}{q:Qt}(h:ptM w=some q):dD q=0:=by
 unfold ptM at h;cases hb:behind 44 w with
 |none=>rw[hb] at h;cases h
 |some b=>
  rw[hb] at h;dsimp only at h;by_cases hc:(rd (ahead 44 w)).c=0/\(rd b).c=0
  ·rw[if_pos hc] at h;obtain rfl:=Option.some.inj h;exact eO.2 ⟨Ox hc.1,Ox hc.2⟩
  ·rw[if_neg hc] at h;cases h
theorem Ru {f:ByteArray->Option Qt}{ws:List ByteArray}{k:Nat}{L:List Qt}{x:ByteArray}{q:Qt}(h:(ws.take k).mapM f=some L)(hx:ws[k]? =some x)(hq:f x=some q):(ws.take (k+1)).mapM f=some (L++[q]):=by
 rw[List.take_add_one,hx];simp[List.mapM_append,h,hq]
theorem Pn {f:ByteArray->Option Qt}:∀{ws:List ByteArray} {k:Nat} {x:ByteArray},ws[k]? =some x->f x=none->ws.mapM f=none
 |[],_,_,h,_=>by simp at h
 |y::ws,0,x,h,hx=>by
  simp at h;subst h;simp[hx]
 |y::ws,k+1,x,h,hx=>by
  have:=Pn (ws:=ws) (k:=k) (by simpa using h) hx;simp[this]
def Wz (ws:List ByteArray):Except Nat (List Qt):=match ws.mapM ptB with
 |none=>.error 1
 |some l=>if okB l then .ok l else .error 2
theorem BB.far {E:Nat->Addr}{c:Nat}{v u:Value}{w:World}{b:Nat}(h:BB E c v w):BB E c v (w.setCell ⟨b,0,none⟩ u):=by
 obtain⟨h1,h2,h3⟩:=h;refine⟨h1,h2,?_⟩;rcases h3 with h3|⟨pb,po,h3,h4⟩
 ·exact .inl h3
 ·exact .inr ⟨pb,po,h3,(World.cell?_setCell_other _ _ _ _ (by intro h;simp at h)).trans h4⟩
def SrL (ws:List ByteArray)(w1:World)(x y:Value)(wr:World):Prop:=∃(k:Nat) (L:List Qt) (v:Value),x=v/\y=aa k/\k<=ws.length/\(ws.take k).mapM ptB=some L/\(∀a∈L,dD a=0)/\L.length=k/\fV wr w1.heap.size v L/\Below w1.heap.size w1 wr
section
variable {E:Nat->Addr}{W:World}
theorem JS (hN:NE E W)(s:ByteArray)(hs:s.size<=1000)(h0:s.size≠0):
  ak 195 #[.string s] W fun e w'=>lu E (Wz (words s)) e w'/\Below W.heap.size W w':=by
 obtain⟨i0,hi,hz0,hz1,hz2⟩:=info_parts TS;have b0:=aW W (.cells #[.slice none 0 0] 136);have K0:=dh W #[.slice none 0 0] 136;have SP:=DZ s (by omega) (W.alloc (.cells #[.slice none 0 0] 136));have hlen:(words s).length=Lib.countB s ⟨#[32]⟩+1:=Lib.splitB_all ⟨#[32]⟩ (by decide) 0 _ s rfl;have hle:=Lib.countB_le ⟨#[32]⟩ (by decide) s.size s eU;have hsz:∀a∈words s,a.size<=1000:=fun a ha=>by have:=Bn _ s a ha;omega
 have hws:(Lib.splitB ⟨#[32]⟩ 0 (Lib.countB s ⟨#[32]⟩) s)=words s:=rfl;rw[hws,<- hlen] at SP;have hn1:(words s).length<=1001:=by omega
 generalize words s=ws at SP hsz hn1⊢;clear hws hlen hle;have hne:s.toList.isEmpty=false:=by
  rw[ByteArray.toList_eq,List.isEmpty_eq_false_iff];intro e;exact h0 (by rw[<- jB,e];rfl)
 have b1:=aW (W.alloc (.cells #[.slice none 0 0] 136)) (.cells (ws.map Value.string).toArray 9);have KW:=dh (W.alloc (.cells #[.slice none 0 0] 136)) (ws.map Value.string).toArray 9;have HN:Hid (NE E W):=hN;clear hN;go_enter func195,ntmps195;go_upto_region 5 with(go_at_call 235;refine SP.mono ?_;rintro e w1 ⟨rfl,rfl⟩);clear SP;obtain⟨w1,hw1⟩:∃U,(W.alloc (.cells #[.slice none 0 0] 136)).alloc (.cells (ws.map Value.string).toArray 9)=U:=⟨_,rfl⟩;obtain⟨WB,hWB⟩:∃b,(W.alloc (.cells #[.slice none 0 0] 136)).heap.size=b:=⟨_,rfl⟩;have aiz:W.heap.size<WB:=by rw[<- hWB];simp
 have K1:=(b1.block _ (aN K0)).trans K0;have tV:=az b0 b1;rw[hw1] at tV K1 KW⊢;rw[hWB] at KW;simp only[World.size_alloc] at hWB;simp only[hWB];clear hw1 b0 b1 K0
 go_loopw [4,15] (fun x y wr=>SrL ws w1 x y wr) (fun _ y _=>ws.length-(intOf y).toNat)
 case atStart=>exact⟨0,[],_,rfl,rfl,Nat.zero_le _,rfl,by simp,rfl,fV.nil _ _,Below.refl _ _⟩
 case round=>
  obtain⟨k,L,v,rfl,rfl,hk,hL,hC,hLl,hO,hb⟩:=hrel;have HL:Hid ((ws.take k).mapM ptB=some L):=hL;have HC:Hid (∀a∈L,dD a=0):=hC;obtain⟨ov,cv,rfl,a81⟩:=hO.at_ (fun a ha=>ze (hC a ha));rw[hLl] at hO⊢;have Nc:Hid (L.length=k):=hLl;have HO:Hid (fV wr w1.heap.size (.slice ov k cv) L):=hO;have GM:Hid (dM wr ov L):=a81;have NR:=HN.out.below (az tV hb);have KR:=(hb.block _ (aN K1)).trans K1;have KV:=(hb.block _ (aN KW)).trans KW;have r0:=aA KR 0 _ rfl;have f0:=cO KR 0;have bWr:=az tV hb;clear hL hC hLl hO a81;by_cases hlt:k<ws.length
  ·have hltz:(k:Int)<(ws.length:Int):=by omega
   obtain⟨x,hx⟩:∃x,ws[k]? =some x:=⟨_,List.getElem?_eq_getElem hlt⟩;have hc:=aA KV k (.string x) (by simp[hx]);have RP:=Df NR x (hsz x (List.mem_of_getElem? hx));have HX:Hid (ws[k]? =some x):=hx;clear hx;cases hq:ptM x.data.toList with
   |none=>
    rw[hq] at RP;have HQ:Hid (ptB x=none):=hq;clear hq;have HA:Hid (Wz ws=.error 1):=by
     unfold Wz Hid;rw[Pn HX.out HQ.out]
    go_upto_region 9 with(go_at_call 236;refine RP.mono ?_;rintro e w2 ⟨rfl,b2⟩);have b3:=aW w2 (.cells #[aa 0,aa 0,aa 0,aa 0] 177);obtain⟨U,hU⟩:∃U,w2.alloc (.cells #[aa 0,aa 0,aa 0,aa 0] 177)=U:=⟨_,rfl⟩;rw[hU] at b3⊢;have b4:=az b2 b3;have NU:=NR.below b4;have e1:=NU.c1;have KU:=(b4.block _ (aN KR)).trans KR;have u0:=aA KU 0 _ rfl;have uf:=cO KU 0;have hg:1<W.heap.size:=ay HN.out.c1;have e1':(U.setCell ⟨W.heap.size,0,none⟩ (.slice none 0 0)).cell? (ag 1 0)=some (eV (E 1)):=(World.cell?_setCell_far _ _ _ _ (by show W.heap.size≠1;omega)).trans e1;clear RP hU b2 b3 hc;go_region
    all_goals go_wp2_with fail
    all_goals refine bodyPost_ret (v:=.tuple #[.agg #[.slice none 0 0],eV (E 1)]) (by simp[results,results195,go_sem,u0]) rfl ⟨?_,below_drewN ((az bWr b4).setCell eU _) 1⟩
    all_goals rw[HA.out]
    all_goals exact⟨_,rfl,by decide,by decide,.inl rfl⟩
   |some q=>
    rw[hq] at RP;have HQ:Hid (ptB x=some q):=hq;have hqc:=a0h hq;clear hq;go_upto_region 10 with(go_at_call 236;refine RP.mono ?_;rintro e w2 ⟨rfl,b2⟩);have b3:=aW w2 (.cells #[aa q.xn,aa q.xd,aa q.yn,aa q.yd] 177);have F3:=Four.new w2 (aa q.xn) (aa q.xd) (aa q.yn) (aa q.yd) 177;obtain⟨U,hU⟩:∃U,w2.alloc (.cells #[aa q.xn,aa q.xd,aa q.yn,aa q.yd] 177)=U:=⟨_,rfl⟩;obtain⟨BQ,hBQ⟩:∃b,w2.heap.size=b:=⟨_,rfl⟩;rw[hU] at b3 F3⊢;rw[hBQ] at F3⊢;have b4:=az b2 b3;have b8:=az hb b4;have hz8:=b8.size;have a1K:U.ownsRow w1.heap.size 177 4 (.slice ov k cv) k (dw L):=by
     have h:=HO.out.keep b4;unfold fV at h;rw[Nc.out] at h;exact h
    have hnb:=World.alloc_heap_new U (.cells #[aa q.xn,aa q.xd,aa q.yn,aa q.yd] 177);have WC:(U.alloc (.cells #[aa q.xn,aa q.xd,aa q.yn,aa q.yd] 177)).ownsRow w1.heap.size 177 4 (.slice ov k cv) k (dw L):=World.ownsRow.alloc a1K _;have HT:Hid ((ws.take (k+1)).mapM ptB=some (L++[q])):=Ru HL.out HX.out HQ.out;obtain⟨f0,f1,f2,f3⟩:=F3;clear RP hU hBQ b2 b3 hc a1K r0 KR KV NR GM;go_wp2_with(at_builtin;refine wpList_append_own _ rfl _ _ 134 rfl (w1.heap.size) 177 i0 (.agg #[aa 0,aa 0,aa 0,aa 0]) 4 32 underlying134 hi hz0 hz1 hz2 rfl (by decide) _ _ _ rfl WC _ _ _ (dw [q]) rfl (tX [q]) (World.news_of_block hnb) (zH _) (by simp only[maxLen];omega) (by omega) (by simp;omega) ?_;intro v12 w12 WE a3Q _)
    go_roundw
    case rel=>
     refine⟨k+1,L++[q],v12,rfl,by go_num,hlt,HT.out,fun a ha=>?_,by simp[Nc.out],?_,(b8.alloc hz8 _).grown a3Q (by simp;omega) (NZ WC)⟩
     ·rcases List.mem_append.1 ha with h|h
      ·exact HC.out a h
      ·simp at h;rw[h];exact hqc
     ·rw[<- Nc.out] at WE;exact fV.app (m:=[q]) WE rfl
    case measure=>simp[intOf];omega
  ·have hltz:¬(k:Int)<(ws.length:Int):=by omega
   obtain rfl:k=ws.length:=by omega
   have HT:Hid (ws.mapM ptB=some L):=by
    have:=HL.out;rw[List.take_length] at this;exact this
   have hll:=Nc.out;have CK:=BD L HC.out ov cv wr GM.out NR;rw[hll] at CK;clear hll;have HAN:Hid (Wz ws=if okB L then .ok L else .error 2):=by
    unfold Wz Hid;rw[HT.out]
   go_upto_region 12 with fail;have RES:∀w2,Below wr.heap.size wr w2->w2.cell? ⟨W.heap.size,0,none⟩=some (.slice none 0 0)/\w2.frozen? ⟨W.heap.size,0,none⟩=false:=fun w2 b2=>by
    have:=(b2.block _ (aN KR)).trans KR;exact⟨aA this 0 _ rfl,cO this 0⟩
   clear r0 f0 KR KV;cases hok:okB L with
   |true=>
    have CK2:ak 234 #[.slice ov ws.length cv] wr fun e w'=>e=.returned (.tuple #[.agg #[.slice ov ws.length cv],.nilIface])/\Below wr.heap.size wr w':=CK.mono fun e w' ⟨h,hb2⟩=>by
     rcases h with⟨-,h⟩|⟨h, -⟩
     ·rw[Nc.out] at h;exact⟨h,hb2⟩
     ·rw[hok] at h;cases h
    have Tq:Hid (okB L=true):=hok;clear CK hok;go_wp2_with(go_at_call 234;refine CK2.mono ?_;rintro e w2 ⟨rfl,b2⟩;obtain⟨u0,uf⟩:=RES w2 b2);refine bodyPost_ret (v:=.tuple #[.agg #[.slice ov ws.length cv],.nilIface]) (by simp[results,results195,go_sem,u0]) rfl ⟨?_,(az bWr b2).setCell eU _⟩;rw[HAN.out,if_pos Tq.out];refine⟨HC.out,Tq.out,ov,cv,by rw[Nc.out],?_⟩;have ho:=(HO.out.keep b2).far (b:=W.heap.size) (u:=.slice ov ws.length cv) (by have:=aN K1;have:=tV.size;omega);obtain⟨o',c',h1,h2⟩:=ho.at_ (fun a ha=>ze (HC.out a ha));injection h1 with h1;subst h1;exact h2
   |false=>
    have CK2:ak 234 #[.slice ov ws.length cv] wr fun e w'=>(∃v,e=.returned (.tuple #[.agg #[.slice none 0 0],v])/\BB E 2 v w')/\Below wr.heap.size wr w':=CK.mono fun e w' ⟨h,hb2⟩=>by
     rcases h with⟨h, -⟩|⟨-,h⟩
     ·rw[hok] at h;cases h
     ·exact⟨h,hb2⟩
    have Tq:Hid (¬okB L=true):=by show¬_;rw[hok];simp
    clear CK hok;go_wp2_with(go_at_call 234;refine CK2.mono ?_;rintro e w2 ⟨⟨v,rfl,hv⟩,b2⟩;obtain⟨u0,uf⟩:=RES w2 b2);refine bodyPost_ret (v:=.tuple #[.agg #[.slice none 0 0],v]) (by simp[results,results195,go_sem,u0]) rfl ⟨?_,(az bWr b2).setCell eU _⟩;rw[HAN.out,if_neg Tq.out];exact⟨v,rfl,hv.far⟩
theorem Nf (hN:NE E W)(s:Bs)(hs:s.length<=1000):
  ak 195 #[bV s] W fun e w'=>lu E (Aw s) e w'/\Below W.heap.size W w':=by
 unfold Aw;by_cases h0:s=[]
 ·subst h0;rw[if_pos rfl];clear hN;go_enter func195,ntmps195;go_wp2;have b0:=aW W (.cells #[.slice none 0 0] 136);refine bodyPost_ret (v:=.tuple #[.agg #[.slice none 0 0],.nilIface]) (by simp[results,results195,go_sem]) rfl ⟨⟨by simp,rfl,none,0,rfl,fun i x h=>by simp at h⟩,b0⟩
 ·rw[if_neg h0];have h:=JS hN ⟨s.toArray⟩ hs (fun h=>h0 (List.length_eq_zero_iff.1 h));have e:(fun(w:ByteArray)=>ptM w.toList)=ptB:=by
   funext w;unfold ptB;rw[ByteArray.toList_eq]
  rw[e];exact h
end
end
section
open Go.RowKit Go.Shelf
set_option maxHeartbeats 2000000
theorem a0i {w:World}{b:Nat}{a:Option Addr}{n c:Nat}{t:TypeId}{u:Value}{o:Option Addr}{l:List Qt}(hk:w.heap[b]? =some (.cells #[.slice a n c] t))(h:dM w o l):dM (w.setCell ⟨b,0,none⟩ u) o l:=fun i x hx=>by
 obtain⟨b',off,h1,h2⟩:=h i x hx;obtain⟨c0,c1,c2,c3,hp⟩:=h2;have hne:b≠b':=by
  rintro rfl;simp only[World.cell?,hk] at c0;have hi:off+i*4<(#[Value.slice a n c]:Array Value).size:=(Array.getElem?_eq_some_iff.1 c0).1;have h0:off+i*4=0:=by simpa using hi
  rw[h0] at c0;simp at c0
 have F:=fun(k:Nat)=>World.cell?_setCell_far w ⟨b,0,none⟩ ⟨b',k,none⟩ u hne;exact⟨b',off,h1,(F _).trans c0,(F _).trans c1,(F _).trans c2,(F _).trans c3,hp⟩
theorem lu.far {E:Nat->Addr}{x:Except Nat (List Qt)}{e:Ending}{w:World}{b:Nat}{a:Option Addr}{n c:Nat}{t:TypeId}{u:Value}(h:lu E x e w)(hk:w.heap[b]? =some (.cells #[.slice a n c] t)):lu E x e (w.setCell ⟨b,0,none⟩ u):=by
 cases x with
 |error k=>
  obtain⟨v,h1,h2⟩:=h;exact⟨v,h1,h2.far⟩
 |ok l=>
  obtain⟨h0,h1,o,cap,h2,h3⟩:=h;exact⟨h0,h1,o,cap,h2,a0i hk h3⟩
theorem lu.is {E:Nat->Addr}{x:Except Nat (List Qt)}{e:Ending}{w:World}(h:lu E x e w):∃o n c v,e=.returned (.tuple #[.agg #[.slice o n c],v]):=by
 cases x with
 |error k=>obtain⟨v,h1, -⟩:=h;exact⟨_,_,_,_,h1⟩
 |ok l=>obtain⟨-, -,o,cap,h1, -⟩:=h;exact⟨_,_,_,_,h1⟩
section
variable {E:Nat->Addr}{B:Nat}{tg:kE}{W:World}{DB MB:Nat}{p:Int->Option Nat}{M:Dm}{nx c:Nat}
theorem Ng (hN:NE E W)(hd:bG B tg W DB MB p M nx c)(hz:SzD M)(WB:Nat)(hw:W.cell? (ag WB 0)=some (aj DB))(n:Int)(hn:dH n):
  ak 141 #[aj WB,aa n] W fun e w'=>lu E (yh M n) e w'/\Below W.heap.size W w':=by
 have b0:=aW W (.cells #[.slice none 0 0] 136);have K0:=dh W #[.slice none 0 0] 136;have AT:=l8 (hd.below b0) n hn vC;have hw0:=(b0.cell (ay hw)).trans hw;rw[qV] at AT;have hl:=JN hz n vC;unfold yh;unfold FM at hl⊢;generalize (atM M n vC).getD []=s at AT hl⊢;generalize (atM M n vC).isSome=bo at AT;have RD:=fun V (hV:NE E V)=>Nf hV s (by omega);generalize Aw s=x at RD⊢;have HN:Hid (NE E W):=hN;clear hd hN;go_enter func141,ntmps141;go_wp2_with(first|(go_at_call 17;refine AT.mono ?_;rintro e w1 ⟨rfl,b1⟩;have R1:=RD w1 (HN.out.below (az b0 b1)))|(go_at_call 195;refine R1.mono ?_;rintro e w2 ⟨h2,b2⟩;obtain⟨ro,rn,rc,rv,rfl⟩:=h2.is;have K2:=((az b1 b2).block _ (aN K0)).trans K0;have u0:=aA K2 0 _ rfl;have uf:=cO K2 0));refine bodyPost_ret (v:=.tuple #[.agg #[.slice ro rn rc],rv]) (by simp[results,results141,go_sem,u0]) rfl ⟨h2.far K2,(az b0 (az b1 b2)).setCell eU _⟩
end
end
section
open Go.RowKit Go.Shelf
set_option maxHeartbeats 8000000
set_option maxRecDepth 20000
theorem a3S {E:Nat->Addr}(xn xd yn yd wn wd hn hd:Int)(w:World)(cx0:bK xn xd=0)(cy0:bK yn yd=0)(cw0:bK wn wd=0)(ch0:bK hn hd=0)(hN:NE E w):
  ak 194 #[.agg #[aa xn,aa xd],.agg #[aa yn,aa yd],.agg #[aa wn,aa wd],.agg #[aa hn,aa hd]] w fun e W=>lu E (mG ⟨xn,xd,0⟩ ⟨yn,yd,0⟩ ⟨wn,wd,0⟩ ⟨hn,hd,0⟩) e W/\Below w.heap.size w W:=by
 obtain⟨hx1,hx2⟩:=fF cx0;obtain⟨hy1,hy2⟩:=fF cy0;obtain⟨hw1,hw2⟩:=fF cw0;obtain⟨AZ,hh2⟩:=fF ch0;have Rv:Hid (NE E w):=hN;have hE:=hN.e3;have HC4:Hid (bK xn xd=0/\bK yn yd=0/\bK wn wd=0/\bK hn hd=0):=⟨cx0,cy0,cw0,ch0⟩;obtain⟨ans,su⟩:∃a,mG ⟨xn,xd,0⟩ ⟨yn,yd,0⟩ ⟨wn,wd,0⟩ ⟨hn,hd,0⟩=a:=⟨_,rfl⟩;rw[su];have HAN:Hid (mG ⟨xn,xd,0⟩ ⟨yn,yd,0⟩ ⟨wn,wd,0⟩ ⟨hn,hd,0⟩=ans):=su;clear hN cx0 cy0 cw0 ch0 su;go_enter func194,ntmps194;go_wp2;obtain⟨U,hU⟩:∃U,(((((w.alloc (.cells #[aa xn,aa xd] 127)).alloc (.cells #[aa yn,aa yd] 127)).alloc (.cells #[aa wn,aa wd] 127)).alloc (.cells #[aa hn,aa hd] 127)).alloc (.cells #[.slice none 0 0] 136)).alloc (.cells #[aa xn,aa xd,aa yn,aa yd,aa wn,aa wd,aa hn,aa hd] 127)=U:=⟨_,rfl⟩;obtain⟨k0,k1,k2,k3,k4,k5,sH⟩:=a7V w _ _ _ _ _ _ U hU;rw[hU];clear hU;have Hg:=hE.below sH eU;obtain⟨L,hL⟩:∃L:List (Int×Int),L=[(xn,xd),(yn,yd),(wn,wd),(hn,hd)]:=⟨_,rfl⟩;have hLl:L.length=4:=by rw[hL];rfl
 have hLc:∀j n d,L[j]? =some (n,d)->U.cell? ⟨w.heap.size+1+1+1+1+1,j*2,none⟩=some (aa n)/\U.cell? ⟨w.heap.size+1+1+1+1+1,j*2+1,none⟩=some (aa d)/\lH n/\lH d:=fun j n d hj=>by
  rw[hL] at hj
  match j,hj with
  |0,hj=>cases hj;exact⟨aG k5 0 _ rfl,aG k5 1 _ rfl,hx1,hx2⟩
  |1,hj=>cases hj;exact⟨aG k5 2 _ rfl,aG k5 3 _ rfl,hy1,hy2⟩
  |2,hj=>cases hj;exact⟨aG k5 4 _ rfl,aG k5 5 _ rfl,hw1,hw2⟩
  |3,hj=>cases hj;exact⟨aG k5 6 _ rfl,aG k5 7 _ rfl,AZ,hh2⟩
  |(j+4),hj=>simp at hj
 have HL:Hid (L=[(xn,xd),(yn,yd),(wn,wd),(hn,hd)]):=hL;have HLC:Hid _:=hLc;have Nc:Hid (L.length=4):=hLl;clear hL hLc hLl k5
 go_loopw [22] (fun y wr=>∃k:Nat,k<=4/\y=aa k/\(∀j n d,j<k->L[j]? =some (n,d)->bK n d=0)/\Below U.heap.size U wr) (fun y _=>4-(intOf y).toNat)
 case atStart=>exact⟨0,by omega,rfl,fun j n d hj=>by omega,Below.refl _ _⟩
 case round=>
  obtain⟨k,hk,rfl,hall,hb⟩:=hrel;have HA:Hid (∀j n d,j<k->L[j]? =some (n,d)->bK n d=0):=hall;clear hall;by_cases hlt:k<4
  ·have hlt':(k:Int)<4:=by omega
   obtain⟨⟨n,d⟩,hnd⟩:∃x,L[k]? =some x:=⟨_,List.getElem?_eq_getElem (by have:=Nc.out;omega)⟩;obtain⟨c0,c1,hn',hd'⟩:=HLC.out k n d hnd;have c0:=(hb.cell (ay c0)).trans c0;have c1:=(hb.cell (ay c1)).trans c1;have HN:Hid (L[k]? =some (n,d)):=hnd;have hbx:=aL wr (.cells #[aa n,aa d] 127);have a8b:=au hb hbx;have CK:=gU (E 2) (E 3) (E 2) n d (wr.alloc (.cells #[aa n,aa d] 127)) hn' hd' (Hg.below a8b eU);clear hnd;by_cases hc:bK n d=0
   ·rw[hc] at CK;have HC:Hid (bK n d=0):=hc;clear hc;go_wp2_with(go_at_call 132;refine CK.mono ?_;rintro e w1 ⟨rfl,b1⟩;simp only[nZ])
    go_roundw
    case rel=>exact⟨k+1,by omega,by go_num,fun j n' d' hj hj2=>by
     rcases Nat.lt_or_ge j k with h|h
     ·exact HA.out j n' d' h hj2
     ·obtain rfl:j=k:=by omega
      have:=HN.out.symm.trans hj2;cases this;exact HC.out,au a8b b1⟩
    case measure=>simp[intOf];omega
   ·exfalso;apply hc;have h1:=HN.out;rw[HL.out] at h1;obtain⟨q1,q2,q3,q4⟩:=HC4.out
    match k,h1 with
    |0,h1=>cases h1;exact q1
    |1,h1=>cases h1;exact q2
    |2,h1=>cases h1;exact q3
    |3,h1=>cases h1;exact q4
    |(j+4),h1=>simp at h1
  ·obtain rfl:k=4:=by omega
   have h4:=HA.out;rw[HL.out] at h4;have cx:bK xn xd=0:=h4 0 xn xd (by omega) rfl;have cy:bK yn yd=0:=h4 1 yn yd (by omega) rfl;have cw:bK wn wd=0:=h4 2 wn wd (by omega) rfl;have ch:bK hn hd=0:=h4 3 hn hd (by omega) rfl;clear h4 HA;have hEr:=Hg.below hb eU;have lt:=fun{b:Nat} {o:Obj} (h:U.heap[b]? =some o)=>(Array.getElem?_eq_some_iff.1 h).1;have j0:=(hb.block _ (lt k0)).trans k0;have j1:=(hb.block _ (lt k1)).trans k1;have j2:=(hb.block _ (lt k2)).trans k2;have j3:=(hb.block _ (lt k3)).trans k3;have j4:=(hb.block _ (lt k4)).trans k4;have bWr:=au sH hb;clear lt k0 k1 k2 k3 k4 HL HLC Nc;have AX:=zy (E 2) (E 3) (E 2) xn xd wn wd wr hx1 hx2 hw1 hw2 hEr;have a0:=aG j0 0 _ rfl;have a1:=aG j0 1 _ rfl;have a2:=aG j2 0 _ rfl;have a3:=aG j2 1 _ rfl;obtain⟨Xn,Xd,c,hadd⟩:∃n d c,add xn xd wn wd=⟨n,d,c⟩:=⟨_,_,_,rfl⟩;rw[hadd] at AX;have HX:Hid (add xn xd wn wd=⟨Xn,Xd,c⟩):=hadd;clear hadd;go_upto_region 9 with(go_at_call 233;refine AX.mono ?_;rintro e w1 ⟨rfl,b1⟩);have hc1:=a1J cx cw;rw[HX.out] at hc1;have hc1:c=0\/c=2:=hc1;have b2:=aL w1 (.cells #[aa Xn,aa Xd] 127);have kX:=World.alloc_heap_new w1 (.cells #[aa Xn,aa Xd] 127);obtain⟨V,hV⟩:∃V,w1.alloc (.cells #[aa Xn,aa Xd] 127)=V:=⟨_,rfl⟩;obtain⟨BX,hBX⟩:∃B,w1.heap.size=B:=⟨_,rfl⟩;rw[hV] at b2 kX⊢;have bV:=au b1 b2;rw[hBX] at kX⊢;clear hV hBX b2 b1 AX a0 a1 a2 a3;have lt:=fun{b:Nat} {o:Obj} (h:wr.heap[b]? =some o)=>(Array.getElem?_eq_some_iff.1 h).1;have j0:=(bV.block _ (lt j0)).trans j0;have j1:=(bV.block _ (lt j1)).trans j1;have j3:=(bV.block _ (lt j3)).trans j3;have j4:=(bV.block _ (lt j4)).trans j4;have bWV:=au bWr bV;have hEV:=hEr.below bV eU;clear lt;have f4:=cO j4 0;have q4:=aG j4 0 _ rfl;rcases hc1 with rfl|rfl
   ·simp only[nZ];have AY:=zy (E 2) (E 3) (E 2) yn yd hn hd V hy1 hy2 AZ hh2 hEV;obtain⟨Yn,Yd,c,hadd⟩:∃n d c,add yn yd hn hd=⟨n,d,c⟩:=⟨_,_,_,rfl⟩;rw[hadd] at AY;have HY:Hid (add yn yd hn hd=⟨Yn,Yd,c⟩):=hadd;clear hadd;have a0:=aG j1 0 _ rfl;have a1:=aG j1 1 _ rfl;have a2:=aG j3 0 _ rfl;have a3:=aG j3 1 _ rfl;go_upto_region 12 with(go_at_call 233;refine AY.mono ?_;rintro e w2 ⟨rfl,b3⟩);have hc2:=a1J cy ch;rw[HY.out] at hc2;have hc2:c=0\/c=2:=hc2;have b4:=aL w2 (.cells #[aa Yn,aa Yd] 127);have kY:=World.alloc_heap_new w2 (.cells #[aa Yn,aa Yd] 127);obtain⟨V2,hV2⟩:∃V,w2.alloc (.cells #[aa Yn,aa Yd] 127)=V:=⟨_,rfl⟩;obtain⟨BY,hBY⟩:∃B,w2.heap.size=B:=⟨_,rfl⟩;rw[hV2] at b4 kY⊢;have bV2:=au b3 b4;rw[hBY] at kY⊢;clear hV2 hBY b4 b3 AY a0 a1 a2 a3 q4 f4;have lt:=fun{b:Nat} {o:Obj} (h:V.heap[b]? =some o)=>(Array.getElem?_eq_some_iff.1 h).1;have j0:=(bV2.block _ (lt j0)).trans j0;have j1:=(bV2.block _ (lt j1)).trans j1;have j4:=(bV2.block _ (lt j4)).trans j4;have kX:=(bV2.block _ (lt kX)).trans kX;have a3T:=au bWV bV2;have aiB:=hEV.below bV2 eU;clear lt;rcases hc2 with rfl|rfl
    ·simp only[nZ];have cX:=(zo.1 HX.out).2.2.1;have cY:=(zo.1 HY.out).2.2.1;have iX:=fF cX;have iY:=fF cY;have x0:=aG j0 0 _ rfl;have x1:=aG j0 1 _ rfl;have y0:=aG j1 0 _ rfl;have y1:=aG j1 1 _ rfl;have X0:=aG kX 0 _ rfl;have X1:=aG kX 1 _ rfl;have Y0:=aG kY 0 _ rfl;have Y1:=aG kY 1 _ rfl;have b5:=aL V2 (.cells #[aa xn,aa xd,aa yn,aa yd,aa Xn,aa Xd,aa yn,aa yd,aa Xn,aa Xd,aa Yn,aa Yd,aa xn,aa xd,aa Yn,aa Yd] 177);have kL:=World.alloc_heap_new V2 (.cells #[aa xn,aa xd,aa yn,aa yd,aa Xn,aa Xd,aa yn,aa yd,aa Xn,aa Xd,aa Yn,aa Yd,aa xn,aa xd,aa Yn,aa Yd] 177);have hP:=TR (a0:=⟨xn,xd,yn,yd⟩) (a1:=⟨Xn,Xd,yn,yd⟩) (a2:=⟨Xn,Xd,Yn,Yd⟩) (a3:=⟨xn,xd,Yn,Yd⟩) kL ⟨hx1,hx2,hy1,hy2⟩ ⟨iX.1,iX.2,hy1,hy2⟩ ⟨iX.1,iX.2,iY.1,iY.2⟩ ⟨hx1,hx2,iY.1,iY.2⟩;have hR4:∀y∈a2x xn xd yn yd Xn Xd Yn Yd,dD y=0:=fun y hy=>by
      simp only[a2x,List.mem_cons,List.not_mem_nil,or_false] at hy;rcases hy with rfl|rfl|rfl|rfl
      ·exact eO.2 ⟨cx,cy⟩
      ·exact eO.2 ⟨cX,cy⟩
      ·exact eO.2 ⟨cX,cY⟩
      ·exact eO.2 ⟨cx,cY⟩
     have CK:=BD (a2x xn xd yn yd Xn Xd Yn Yd) hR4 (some ⟨V2.heap.size,0,none⟩) 4 _ hP (Rv.out.below (au a3T b5));have HR4:Hid (∀y∈a2x xn xd yn yd Xn Xd Yn Yd,dD y=0):=hR4;clear hR4;have j4':=(b5.block _ (Array.getElem?_eq_some_iff.1 j4).1).trans j4;go_wp2_with(go_at_call 234;refine CK.mono ?_;rintro e w3 ⟨hck,b6⟩;have a8d:=(b6.block _ (Array.getElem?_eq_some_iff.1 j4').1).trans j4';have q4:=aG a8d 0 _ rfl;have f4:=cO a8d 0;obtain⟨os,ns,cs,v,rfl,hsv⟩:∃os ns cs v,e=.returned (.tuple #[.agg #[.slice os ns cs],v])/\((okB (a2x xn xd yn yd Xn Xd Yn Yd)=true/\os=some ⟨V2.heap.size,0,none⟩/\ns=4/\cs=4/\v=.nilIface)\/(okB (a2x xn xd yn yd Xn Xd Yn Yd)=false/\os=none/\ns=0/\cs=0/\BB E 2 v w3)):=(by rcases hck with⟨h1,rfl⟩|⟨h1,v,rfl,h2⟩;exact⟨_,_,_,_,rfl,.inl ⟨h1,rfl,rfl,rfl,rfl⟩⟩;exact⟨_,_,_,_,rfl,.inr ⟨h1,rfl,rfl,rfl,h2⟩⟩));have d4:(w3.setCell ⟨w.heap.size+1+1+1+1,0,none⟩ (.slice os ns cs)).cell? ⟨w.heap.size+1+1+1+1,0,none⟩=some (.slice os ns cs):=World.cell?_setCell_same' _ _ _ (by rw[q4];rfl);have bz:=au (au a3T b5) b6;refine bodyPost_ret (v:=.tuple #[.agg #[.slice os ns cs],v]) (by simp[results,results194,go_sem,d4]) rfl ⟨?_,bz.setCell (by simp;omega) _⟩;rcases hsv with⟨hok,rfl,rfl,rfl,rfl⟩|⟨hok,rfl,rfl,rfl,hv⟩
     ·rw[<- HAN.out];unfold mG;simp only[HX.out,HY.out,hok,and_self,if_true];refine⟨HR4.out,hok,_,_,rfl,?_⟩;have hP3:=hP.below b6 eU;have hne:V2.heap.size≠w.heap.size+1+1+1+1:=by have:=(Array.getElem?_eq_some_iff.1 j4).1;omega
      intro i a ha;obtain⟨b,off,h1,c0,c1,c2,c3,hpi⟩:=hP3 i a ha;cases h1;have far:∀k v,w3.cell? ⟨V2.heap.size,k,none⟩=some v->(w3.setCell ⟨w.heap.size+1+1+1+1,0,none⟩ (.slice (some ⟨V2.heap.size,0,none⟩) 4 4)).cell? ⟨V2.heap.size,k,none⟩=some v:=fun k v hv=>by
       rw[World.cell?_setCell_far _ _ _ _ (by simp;exact fun e=>hne e.symm)];exact hv
      exact⟨_,0,rfl,far _ _ c0,far _ _ c1,far _ _ c2,far _ _ c3,hpi⟩
     ·rw[<- HAN.out];unfold mG;simp only[HX.out,HY.out,hok,and_false,if_false,Bool.false_eq_true];exact⟨v,rfl,hv.far⟩
    ·have e2:er (E 2) (E 3) (E 2) 2=.iface 390 (.pointer (some (E 2))):=rfl;simp only[e2];have f4:=cO j4 0;have q4:=aG j4 0 _ rfl;have d4:(V2.setCell ⟨w.heap.size+1+1+1+1,0,none⟩ (.slice none 0 0)).cell? ⟨w.heap.size+1+1+1+1,0,none⟩=some (.slice none 0 0):=World.cell?_setCell_same' _ _ _ (by rw[q4];rfl);go_wp2_with fail;exact bodyPost_ret (v:=.tuple #[.agg #[.slice none 0 0],.iface 390 (.pointer (some (E 2)))]) (by simp[results,results194,go_sem,d4]) rfl ⟨by rw[<- HAN.out];unfold mG;rw[if_neg (by rw[HY.out];simp)];exact⟨_,rfl,by decide,by decide,.inl rfl⟩,a3T.setCell (by simp;omega) _⟩
   ·have e2:er (E 2) (E 3) (E 2) 2=.iface 390 (.pointer (some (E 2))):=rfl;simp only[e2];have f4:=cO j4 0;have q4:=aG j4 0 _ rfl;have d4:(V.setCell ⟨w.heap.size+1+1+1+1,0,none⟩ (.slice none 0 0)).cell? ⟨w.heap.size+1+1+1+1,0,none⟩=some (.slice none 0 0):=World.cell?_setCell_same' _ _ _ (by rw[q4];rfl);go_wp2_with fail;exact bodyPost_ret (v:=.tuple #[.agg #[.slice none 0 0],.iface 390 (.pointer (some (E 2)))]) (by simp[results,results194,go_sem,d4]) rfl ⟨by rw[<- HAN.out];unfold mG;rw[if_neg (by rw[HX.out];simp)];exact⟨_,rfl,by decide,by decide,.inl rfl⟩,bWV.setCell (by simp;omega) _⟩
end
section
open Go.RowKit Go.Shelf
set_option maxHeartbeats 8000000
set_option maxRecDepth 20000
theorem bN.a8e {w:World}{R:Nat}{cs:Array Value}{t:TypeId}(h:bN w R cs t)(i:Nat)(v:Value):bN (w.setCell ⟨R,i,none⟩ v) R (cs.setIfInBounds i v) t:=⟨heap_setCell_same w R i cs t v h.h⟩
theorem bN.a0j {w:World}{R:Nat}{cs:Array Value}{t:TypeId}(h:bN w R cs t)(i:Nat)(a b:Value):bN ((w.setCell ⟨R,i,none⟩ a).setCell ⟨R,i+1,none⟩ b) R ((cs.setIfInBounds i a).setIfInBounds (i+1) b) t:=(h.a8e i a).a8e (i+1) b
theorem rT (M:Dm)(n:Int)(nm:Bs)(h:(dS M n nm).c=0):bK (dS M n nm).n (dS M n nm).d=0:=by
 unfold dS at h⊢;cases ha:atM M n nm with
 |none=>exact Rs (by decide) (by decide)
 |some s=>rw[ha] at h;exact Ox h
theorem rU (M:Dm)(n:Int)(nm:Bs):(dS M n nm).c=0\/(dS M n nm).c=1\/(dS M n nm).c=2\/(dS M n nm).c=3:=by
 unfold dS;cases ha:atM M n nm with
 |none=>exact .inl rfl
 |some s=>exact Nb s
def xx (fx fy fu fv:R3)(ans:Except Nat (List Qt)):Except Nat (List Qt):=if fx.c≠0 then .error fx.c else if fy.c≠0 then .error fy.c else if fu.c≠0 then .error fu.c else if fv.c≠0 then .error fv.c else ans
section
variable {E:Nat->Addr}{B:Nat}{tg:kE}{W:World}{DB MB:Nat}{p:Int->Option Nat}{M:Dm}{nx c:Nat}
theorem Nh (WB:Nat)(n:Int)(fx fy fu fv:R3)(ans:Except Nat (List Qt))(hN:NE E W)
  (hx:fx.c=0\/fx.c=1\/fx.c=2\/fx.c=3) (hy:fy.c=0\/fy.c=1\/fy.c=2\/fy.c=3) (hu:fu.c=0\/fu.c=1\/fu.c=2\/fu.c=3) (hv:fv.c=0\/fv.c=1\/fv.c=2\/fv.c=3)
  (F0:∀V,Below W.heap.size W V->ak 193 #[aj WB,aa n,.string ⟨#[120]⟩] V fun e w'=>e=.returned (.tuple #[.agg #[aa fx.n,aa fx.d],Lc (E 1) (E 2) (E 3) (E 2) fx.c])/\Below V.heap.size V w')
  (F1:∀V,Below W.heap.size W V->ak 193 #[aj WB,aa n,.string ⟨#[121]⟩] V fun e w'=>e=.returned (.tuple #[.agg #[aa fy.n,aa fy.d],Lc (E 1) (E 2) (E 3) (E 2) fy.c])/\Below V.heap.size V w')
  (F2:∀V,Below W.heap.size W V->ak 193 #[aj WB,aa n,.string ⟨#[119]⟩] V fun e w'=>e=.returned (.tuple #[.agg #[aa fu.n,aa fu.d],Lc (E 1) (E 2) (E 3) (E 2) fu.c])/\Below V.heap.size V w')
  (F3:∀V,Below W.heap.size W V->ak 193 #[aj WB,aa n,.string ⟨#[104]⟩] V fun e w'=>e=.returned (.tuple #[.agg #[aa fv.n,aa fv.d],Lc (E 1) (E 2) (E 3) (E 2) fv.c])/\Below V.heap.size V w')
  (FB:fx.c=0->fy.c=0->fu.c=0->fv.c=0->∀V,NE E V->ak 194 #[.agg #[aa fx.n,aa fx.d],.agg #[aa fy.n,aa fy.d],.agg #[aa fu.n,aa fu.d],.agg #[aa fv.n,aa fv.d]] V fun e w'=>lu E ans e w'/\Below V.heap.size V w'):
  ak 140 #[aj WB,aa n] W fun e w'=>lu E (xx fx fy fu fv ans) e w'/\Below W.heap.size W w':=by
 have b0:=aW W (.cells #[.slice none 0 0] 136);have K0:=dh W #[.slice none 0 0] 136;have b1:=aW (W.alloc (.cells #[.slice none 0 0] 136)) (.cells #[aa 0,aa 0,aa 0,aa 0,aa 0,aa 0,aa 0,aa 0] 269);have S0:=bN.new (W.alloc (.cells #[.slice none 0 0] 136)) #[aa 0,aa 0,aa 0,aa 0,aa 0,aa 0,aa 0,aa 0] 269;have K1:=(b1.block _ (aN K0)).trans K0;have bV:=az b0 b1;have hsz:(W.alloc (.cells #[.slice none 0 0] 136)).heap.size=W.heap.size+1:=by simp
 rw[hsz] at S0;clear hsz b0 b1 K0;have HN:Hid (NE E W):=hN;clear hN;go_enter func140,ntmps140;go_upto_region 3 with fail;obtain⟨V0,Mt⟩:∃V,(W.alloc (.cells #[.slice none 0 0] 136)).alloc (.cells #[aa 0,aa 0,aa 0,aa 0,aa 0,aa 0,aa 0,aa 0] 269)=V:=⟨_,rfl⟩;rw[Mt] at S0 K1 bV⊢;clear Mt;have x0:∀w:World,(Instr.index 270 (.agg #[.string ⟨#[120]⟩,.string ⟨#[121]⟩,.string ⟨#[119]⟩,.string ⟨#[104]⟩]) (aa 0)).run prog w=.ok (.string ⟨#[120]⟩) w:=fun w=>by kernel_rfl
 have x1:∀w:World,(Instr.index 270 (.agg #[.string ⟨#[120]⟩,.string ⟨#[121]⟩,.string ⟨#[119]⟩,.string ⟨#[104]⟩]) (aa 1)).run prog w=.ok (.string ⟨#[121]⟩) w:=fun w=>by kernel_rfl
 have x2:∀w:World,(Instr.index 270 (.agg #[.string ⟨#[120]⟩,.string ⟨#[121]⟩,.string ⟨#[119]⟩,.string ⟨#[104]⟩]) (aa 2)).run prog w=.ok (.string ⟨#[119]⟩) w:=fun w=>by kernel_rfl
 have x3:∀w:World,(Instr.index 270 (.agg #[.string ⟨#[120]⟩,.string ⟨#[121]⟩,.string ⟨#[119]⟩,.string ⟨#[104]⟩]) (aa 3)).run prog w=.ok (.string ⟨#[104]⟩) w:=fun w=>by kernel_rfl
 refine wp_loop_rounds 5 ?_;rw[rounds_succ];have C0:=F0 V0 bV;by_cases g0:fx.c=0
 rotate_left
 ·have h3:fx.c=1\/fx.c=2\/fx.c=3:=hx.resolve_left g0;rw[xw h3] at C0;have H3:Hid (fx.c=1\/fx.c=2\/fx.c=3):=h3;have HA:Hid (¬fx.c=0):=g0;clear h3;go_wp2_with(go_at_call 193;refine C0.mono ?_;rintro e w1 ⟨rfl,b2⟩;have Kw:=((az b2 (aW w1 (.cells #[aa fx.n,aa fx.d] 127))).block _ (aN K1)).trans K1;have u0:=aA Kw 0 _ rfl;have uf:=cO Kw 0);refine bodyPost_ret (v:=.tuple #[.agg #[.slice none 0 0],eV (E fx.c)]) (by simp[results,results140,go_sem,u0]) rfl ⟨?_,(az bV (az b2 (aW w1 _))).setCell eU _⟩;unfold xx;rw[if_pos HA.out];exact⟨_,rfl,by have:=H3.out;omega,by have:=H3.out;omega,.inl rfl⟩
 rw[g0,pg] at C0;go_wp2_with(go_at_call 193;refine C0.mono ?_;rintro e w1 ⟨rfl,b2⟩;have b3:=az b2 (aW w1 (.cells #[aa fx.n,aa fx.d] 127));have T1:=(b3.block _ S0.lt).trans S0.h;have u0:=aG T1 0 _ rfl;have u1:=aG T1 1 _ rfl;have v0:=cO T1 0;have v1:=cO T1 1);obtain⟨V1,hV1⟩:∃V,(((w1.alloc (.cells #[aa fx.n,aa fx.d] 127)).setCell ⟨W.heap.size+1,0,none⟩ (aa fx.n)).setCell ⟨W.heap.size+1,1,none⟩ (aa fx.d))=V:=⟨_,rfl⟩;have S0:bN V1 (W.heap.size+1) #[aa fx.n,aa fx.d,aa 0,aa 0,aa 0,aa 0,aa 0,aa 0] 269:=by
  rw[<- hV1];exact(bN.mk T1).a0j 0 _ _
 have K1:V1.heap[W.heap.size]? =some (.cells #[.slice none 0 0] 136):=by
  rw[<- hV1,Below.heap_setCell _ _ _ _ (by simp),Below.heap_setCell _ _ _ _ (by simp)];exact(b3.block _ (aN K1)).trans K1
 have bV:Below W.heap.size W V1:=by
  rw[<- hV1];exact((az bV b3).setCell (by simp) _).setCell (by simp) _
 rw[hV1];clear hV1 T1 u0 u1 v0 v1 b2 b3 C0;rw[rounds_succ];have C1:=F1 V1 bV;by_cases g1:fy.c=0
 rotate_left
 ·have h3:fy.c=1\/fy.c=2\/fy.c=3:=hy.resolve_left g1;rw[xw h3] at C1;have H3:Hid (fy.c=1\/fy.c=2\/fy.c=3):=h3;have HA:Hid (¬fy.c=0):=g1;clear h3;go_wp2_with(go_at_call 193;refine C1.mono ?_;rintro e w1 ⟨rfl,b2⟩;have Kw:=((az b2 (aW w1 (.cells #[aa fy.n,aa fy.d] 127))).block _ (aN K1)).trans K1;have u0:=aA Kw 0 _ rfl;have uf:=cO Kw 0);refine bodyPost_ret (v:=.tuple #[.agg #[.slice none 0 0],eV (E fy.c)]) (by simp[results,results140,go_sem,u0]) rfl ⟨?_,(az bV (az b2 (aW w1 _))).setCell eU _⟩;unfold xx;rw[if_neg (by simp[g0]),if_pos HA.out];exact⟨_,rfl,by have:=H3.out;omega,by have:=H3.out;omega,.inl rfl⟩
 rw[g1,pg] at C1;go_wp2_with(go_at_call 193;refine C1.mono ?_;rintro e w1 ⟨rfl,b2⟩;have b3:=az b2 (aW w1 (.cells #[aa fy.n,aa fy.d] 127));have T1:=(b3.block _ S0.lt).trans S0.h;have u0:=aG T1 2 _ rfl;have u1:=aG T1 3 _ rfl;have v0:=cO T1 2;have v1:=cO T1 3);obtain⟨V2,hV2⟩:∃V,(((w1.alloc (.cells #[aa fy.n,aa fy.d] 127)).setCell ⟨W.heap.size+1,2,none⟩ (aa fy.n)).setCell ⟨W.heap.size+1,3,none⟩ (aa fy.d))=V:=⟨_,rfl⟩;have S0:bN V2 (W.heap.size+1) #[aa fx.n,aa fx.d,aa fy.n,aa fy.d,aa 0,aa 0,aa 0,aa 0] 269:=by
  rw[<- hV2];exact(bN.mk T1).a0j 2 _ _
 have K1:V2.heap[W.heap.size]? =some (.cells #[.slice none 0 0] 136):=by
  rw[<- hV2,Below.heap_setCell _ _ _ _ (by simp),Below.heap_setCell _ _ _ _ (by simp)];exact(b3.block _ (aN K1)).trans K1
 have bV:Below W.heap.size W V2:=by
  rw[<- hV2];exact((az bV b3).setCell (by simp) _).setCell (by simp) _
 rw[hV2];clear hV2 T1 u0 u1 v0 v1 b2 b3 C1;rw[rounds_succ];have C2:=F2 V2 bV;by_cases g2:fu.c=0
 rotate_left
 ·have h3:fu.c=1\/fu.c=2\/fu.c=3:=hu.resolve_left g2;rw[xw h3] at C2;have H3:Hid (fu.c=1\/fu.c=2\/fu.c=3):=h3;have HA:Hid (¬fu.c=0):=g2;clear h3;go_wp2_with(go_at_call 193;refine C2.mono ?_;rintro e w1 ⟨rfl,b2⟩;have Kw:=((az b2 (aW w1 (.cells #[aa fu.n,aa fu.d] 127))).block _ (aN K1)).trans K1;have u0:=aA Kw 0 _ rfl;have uf:=cO Kw 0);refine bodyPost_ret (v:=.tuple #[.agg #[.slice none 0 0],eV (E fu.c)]) (by simp[results,results140,go_sem,u0]) rfl ⟨?_,(az bV (az b2 (aW w1 _))).setCell eU _⟩;unfold xx;rw[if_neg (by simp[g0]),if_neg (by simp[g1]),if_pos HA.out];exact⟨_,rfl,by have:=H3.out;omega,by have:=H3.out;omega,.inl rfl⟩
 rw[g2,pg] at C2;go_wp2_with(go_at_call 193;refine C2.mono ?_;rintro e w1 ⟨rfl,b2⟩;have b3:=az b2 (aW w1 (.cells #[aa fu.n,aa fu.d] 127));have T1:=(b3.block _ S0.lt).trans S0.h;have u0:=aG T1 4 _ rfl;have u1:=aG T1 5 _ rfl;have v0:=cO T1 4;have v1:=cO T1 5);obtain⟨V3,hV3⟩:∃V,(((w1.alloc (.cells #[aa fu.n,aa fu.d] 127)).setCell ⟨W.heap.size+1,4,none⟩ (aa fu.n)).setCell ⟨W.heap.size+1,5,none⟩ (aa fu.d))=V:=⟨_,rfl⟩;have S0:bN V3 (W.heap.size+1) #[aa fx.n,aa fx.d,aa fy.n,aa fy.d,aa fu.n,aa fu.d,aa 0,aa 0] 269:=by
  rw[<- hV3];exact(bN.mk T1).a0j 4 _ _
 have K1:V3.heap[W.heap.size]? =some (.cells #[.slice none 0 0] 136):=by
  rw[<- hV3,Below.heap_setCell _ _ _ _ (by simp),Below.heap_setCell _ _ _ _ (by simp)];exact(b3.block _ (aN K1)).trans K1
 have bV:Below W.heap.size W V3:=by
  rw[<- hV3];exact((az bV b3).setCell (by simp) _).setCell (by simp) _
 rw[hV3];clear hV3 T1 u0 u1 v0 v1 b2 b3 C2;rw[rounds_succ];have C3:=F3 V3 bV;by_cases g3:fv.c=0
 rotate_left
 ·have h3:fv.c=1\/fv.c=2\/fv.c=3:=hv.resolve_left g3;rw[xw h3] at C3;have H3:Hid (fv.c=1\/fv.c=2\/fv.c=3):=h3;have HA:Hid (¬fv.c=0):=g3;clear h3;go_wp2_with(go_at_call 193;refine C3.mono ?_;rintro e w1 ⟨rfl,b2⟩;have Kw:=((az b2 (aW w1 (.cells #[aa fv.n,aa fv.d] 127))).block _ (aN K1)).trans K1;have u0:=aA Kw 0 _ rfl;have uf:=cO Kw 0);refine bodyPost_ret (v:=.tuple #[.agg #[.slice none 0 0],eV (E fv.c)]) (by simp[results,results140,go_sem,u0]) rfl ⟨?_,(az bV (az b2 (aW w1 _))).setCell eU _⟩;unfold xx;rw[if_neg (by simp[g0]),if_neg (by simp[g1]),if_neg (by simp[g2]),if_pos HA.out];exact⟨_,rfl,by have:=H3.out;omega,by have:=H3.out;omega,.inl rfl⟩
 rw[g3,pg] at C3;go_wp2_with(go_at_call 193;refine C3.mono ?_;rintro e w1 ⟨rfl,b2⟩;have b3:=az b2 (aW w1 (.cells #[aa fv.n,aa fv.d] 127));have T1:=(b3.block _ S0.lt).trans S0.h;have u0:=aG T1 6 _ rfl;have u1:=aG T1 7 _ rfl;have v0:=cO T1 6;have v1:=cO T1 7);obtain⟨V4,hV4⟩:∃V,(((w1.alloc (.cells #[aa fv.n,aa fv.d] 127)).setCell ⟨W.heap.size+1,6,none⟩ (aa fv.n)).setCell ⟨W.heap.size+1,7,none⟩ (aa fv.d))=V:=⟨_,rfl⟩;have S0:bN V4 (W.heap.size+1) #[aa fx.n,aa fx.d,aa fy.n,aa fy.d,aa fu.n,aa fu.d,aa fv.n,aa fv.d] 269:=by
  rw[<- hV4];exact(bN.mk T1).a0j 6 _ _
 have K1:V4.heap[W.heap.size]? =some (.cells #[.slice none 0 0] 136):=by
  rw[<- hV4,Below.heap_setCell _ _ _ _ (by simp),Below.heap_setCell _ _ _ _ (by simp)];exact(b3.block _ (aN K1)).trans K1
 have bV:Below W.heap.size W V4:=by
  rw[<- hV4];exact((az bV b3).setCell (by simp) _).setCell (by simp) _
 rw[hV4];clear hV4 T1 u0 u1 v0 v1 b2 b3 C3;rw[rounds_succ];have BX:=FB g0 g1 g2 g3 V4 (HN.out.below bV);have s0:=S0.cell 0 _ rfl;have s1:=S0.cell 1 _ rfl;have s2:=S0.cell 2 _ rfl;have s3:=S0.cell 3 _ rfl;have s4:=S0.cell 4 _ rfl;have s5:=S0.cell 5 _ rfl;have s6:=S0.cell 6 _ rfl;have s7:=S0.cell 7 _ rfl;have HG:Hid (fx.c=0/\fy.c=0/\fu.c=0/\fv.c=0):=⟨g0,g1,g2,g3⟩;clear g0 g1 g2 g3;go_wp2_with(go_at_call 194;refine BX.mono ?_;rintro e w2 ⟨h2,b2⟩;obtain⟨ro,rn,rc,rv,rfl⟩:=h2.is;have K2:=(b2.block _ (aN K1)).trans K1;have u0:=aA K2 0 _ rfl;have uf:=cO K2 0);refine bodyPost_ret (v:=.tuple #[.agg #[.slice ro rn rc],rv]) (by simp[results,results140,go_sem,u0]) rfl ⟨?_,(az bV b2).setCell eU _⟩;obtain⟨g0,g1,g2,g3⟩:=HG.out;unfold xx;rw[if_neg (by simp[g0]),if_neg (by simp[g1]),if_neg (by simp[g2]),if_neg (by simp[g3])];exact h2.far K2
theorem Rw (hN:NE E W)(hd:bG B tg W DB MB p M nx c)(hz:SzD M)(WB:Nat)(hw:W.cell? (ag WB 0)=some (aj DB))(n:Int)(hn:dH n):
  ak 140 #[aj WB,aa n] W fun e w'=>lu E (Mq M n) e w'/\Below W.heap.size W w':=by
 have F:=fun(nm:Bs) V (hV:Below W.heap.size W V)=>N8 (hN.below hV) (hd.below hV) hz WB ((hV.cell (ay hw)).trans hw) n hn nm;exact Nh WB n (dS M n [120]) (dS M n [121]) (dS M n [119]) (dS M n [104]) (mG (dS M n [120]) (dS M n [121]) (dS M n [119]) (dS M n [104])) hN (rU _ _ _) (rU _ _ _) (rU _ _ _) (rU _ _ _) (F [120]) (F [121]) (F [119]) (F [104])
  (fun h0 h1 h2 h3 V hV=>a3S _ _ _ _ _ _ _ _ V (rT _ _ _ h0) (rT _ _ _ h1) (rT _ _ _ h2) (rT _ _ _ h3) hV)
end
end
section
open Go.RowKit Go.Shelf
set_option maxHeartbeats 16000000
set_option maxRecDepth 20000
def Rx (E:Nat->Addr)(m:Mv)(l:List Qt)(base:Nat)(e:Ending)(w':World):Prop:=match Tv m l with
 |some l'=>∃v,e=.returned (.tuple #[.agg #[v],.nilIface])/\fV w' base v l'
 |none=>∃v,e=.returned (.tuple #[.agg #[.slice none 0 0],v])/\BB E 2 v w'
theorem WG {E:Nat->Addr}{m:Mv}{l:List Qt}{base:Nat}{w':World}{a:Qt}{v:Value}(ha:a∈l)(hn:vD m a=false)(hv:BB E 2 v w'):Rx E m l base (.returned (.tuple #[.agg #[.slice none 0 0],v])) w':=by
 unfold Rx Tv;rw[if_neg (fun h=>by have:=List.all_eq_true.1 h a ha;rw[hn] at this;cases this)];exact⟨v,rfl,hv⟩
theorem a0k {E:Nat->Addr}{m:Mv}{l:List Qt}{base:Nat}{w':World}{v:Value}(h:∀a∈l,vD m a=true)(hv:fV w' base v (l.map (CG m))):Rx E m l base (.returned (.tuple #[.agg #[v],.nilIface])) w':=by
 unfold Rx Tv;rw[if_pos (List.all_eq_true.2 h)];exact⟨v,rfl,hv⟩
theorem BF {a:Qt}(h:fU a=0):(JR a).ok:=by
 obtain⟨h1, -⟩:=gX.1 h;exact eO.1 h1
theorem a8g {a:Qt}(h:fU a=0):(JR a).i64:=⟨iL (BF h).1,iL (BF h).2⟩
theorem BG {m:Mv}{a:Qt}(hm:m.ok)(ha:fU a=0)(h:(bD 0 m (JR a)).2=0):dD (CG m a)=0:=by
 have h1:=((uj (c:=0) (.inl rfl) hm (BF ha)).2 h).2.1;have e:CG m a=⟨(bD 0 m (JR a)).1.x.n,(bD 0 m (JR a)).1.x.d,(bD 0 m (JR a)).1.y.n,(bD 0 m (JR a)).1.y.d⟩:=by
  unfold CG JR
  with_reducible rfl
 rw[e];clear e h;generalize bD 0 m (JR a)=z at h1⊢;exact eO.2 ⟨h1.1,h1.2⟩
theorem xy {m:Mv}{a:Qt}(h:vD m a=true):(bD 0 m (JR a)).2=0:=by
 unfold vD at h;simp only[Bool.and_eq_true,decide_eq_true_eq] at h;exact h.1
theorem a0l {m:Mv}{a:Qt}(h:(bD 0 m (JR a)).2=0)(hb:gV (CG m a)=0):vD m a=true:=by
 unfold vD;simp only[Bool.and_eq_true,decide_eq_true_eq];exact⟨h,by rw[hb];rfl⟩
theorem WH {m:Mv}{a:Qt}(hb:¬gV (CG m a)=0):vD m a=false:=by
 unfold vD;simp only[Bool.and_eq_false_iff];exact .inr (by simpa using hb)
theorem Gj {m:Mv}{a:Qt}(h:¬(bD 0 m (JR a)).2=0):vD m a=false:=by
 cases hg:vD m a with
 |false=>rfl
 |true=>exact absurd (xy hg) h
theorem Ry {E:Nat->Addr}(m:Mv)(hm:m.ok)(l:List Qt)(o:Option Addr)(cap:Nat)(w:World)(hok:jS l)(h:dM w o l)(hN:NE E w):
  ak 191 #[.agg #[.slice o l.length cap],mv m] w fun e W=>Rx E m l w.heap.size e W/\Below w.heap.size w W:=by
 have HC:sS (E 2) (E 3) (E 2) m:=uU (l9 hm) (oM hm);have hE:=hN.e3;have HM:Hid m.ok:=hm;have Rz:Hid (jS l):=hok;clear hm hN;obtain⟨i0,hi,hz0,hz1,hz2⟩:=info_parts TS;go_enter func191,ntmps191;go_upto_region 1 with fail;obtain⟨U,hU⟩:∃U,((w.alloc (.cells #[.slice o l.length cap] 136)).alloc (.cells (mA m) 129)).alloc (.cells #[.slice none 0 0] 136)=U:=⟨_,rfl⟩;obtain⟨k0,k1,k2,sH⟩:=a7Z w _ _ _ U hU;rw[hU];clear hU;have Hg:=hE.below sH eU;have CK:=HC U Hg;have m0:=aG k1 0 _ rfl;have m1:=aG k1 1 _ rfl;have m2:=aG k1 2 _ rfl;have m3:=aG k1 3 _ rfl;have m4:=aG k1 4 _ rfl;have m5:=aG k1 5 _ rfl;have m6:=aG k1 6 _ rfl;have m7:=aG k1 7 _ rfl;have m8:=aG k1 8 _ rfl;have m9:=aG k1 9 _ rfl;have m10:=aG k1 10 _ rfl;have m11:=aG k1 11 _ rfl;go_upto_region 4 with(go_at_call 200;refine CK.mono ?_;rintro e w1 ⟨rfl,b1⟩);clear CK m0 m1 m2 m3 m4 m5 m6 m7 m8 m9 m10 m11;have k0:=gP b1 k0;have k1:=gP b1 k1;have k2:=gP b1 k2;have hb1:=au sH b1;have hE1:=hE.below hb1 eU;have SC:=uM (E 2) (E 3) (E 2) l o cap w1 (h.below hb1 eU) hE1;have s0:=aG k0 0 _ rfl;have Tq:Hid (jS l):=hok;go_upto_region 7 with(go_at_call 128;refine SC.mono ?_;rintro e w2 ⟨hc,b2⟩;have he:e=.returned .nilIface:=(by rcases hc.plain with⟨-,h2⟩|⟨h1, -⟩;exact h2;exact absurd Tq.out h1);subst he;clear hc);clear SC s0;have k0:=gP b2 k0;have k1:=gP b2 k1;have k2:=gP b2 k2;have hb2:=au hb1 b2;have aaj:=hok.1;have s0:=aG k0 0 _ rfl;clear hok b1 b2 hE1 Hg;go_wp2_with fail
 go_loopw [8,28] (fun v y wr=>∃k:Nat,k<=l.length/\y=aa k/\(∀a∈l.take k,vD m a=true)/\fV wr w2.heap.size v ((l.take k).map (CG m))/\Below w2.heap.size w2 wr) (fun _ y _=>l.length-(intOf y).toNat)
 case atStart=>exact⟨0,Nat.zero_le _,rfl,by simp,fV.nil _ _,Below.refl _ _⟩
 case round=>
  obtain⟨k,hk,rfl,hall,hown,hb⟩:=hrel;have HAL:Hid (∀a∈l.take k,vD m a=true):=hall;have a8h:∀a∈(l.take k).map (CG m),PI a:=fun a ha=>by
   obtain⟨b,hb',rfl⟩:=List.mem_map.1 ha;exact ze (BG HM.out (Rz.out.2 b (List.mem_of_mem_take hb')) (xy (hall b hb')))
  obtain⟨ov,cv,rfl, -⟩:=hown.at_ a8h;have hlen:((l.take k).map (CG m)).length=k:=by rw[List.length_map,List.length_take];omega
  rw[hlen] at hown⊢;have HLEN:Hid (((l.take k).map (CG m)).length=k):=hlen;clear hall a8h hlen;by_cases hlt:k<l.length
  ·have hlt':(k:Int)<(l.length:Int):=by omega
   obtain⟨a,ha⟩:∃a,l[k]? =some a:=⟨_,List.getElem?_eq_getElem hlt⟩;have hmem:=List.mem_of_getElem? ha;obtain⟨b,off,ho,hp⟩:=(h.below (au hb2 hb) eU) k a ha;subst ho;obtain⟨c0,c1,c2,c3,hpi⟩:=hp;have HL:Hid (l[k]? =some a):=ha;have hE2:=hE.below (au hb2 hb) eU;have b3:=aL wr (.cells #[aa a.xn,aa a.xd,aa a.yn,aa a.yd] 177);have F3:=Four.new wr (aa a.xn) (aa a.xd) (aa a.yn) (aa a.yd) 177;have kr:=gP (au hb b3) k1;have LH:=hE2.below b3 eU;by_cases hc0:(bD 0 m (JR a)).2=0
   ·have AT:=a6H (aB:=E 2) (aS:=E 3) (aZ:=E 2) (l9 HM.out) (a8g (Rz.out.2 a hmem)) (a2O HM.out (BF (Rz.out.2 a hmem)) (FX hc0)) _ LH;have hcg:dD (CG m a)=0:=BG HM.out (Rz.out.2 a hmem) hc0;have AT:ak 229 #[mv m,lS a] _ fun e w'=>e=.returned (.tuple #[lS (CG m a),.nilIface])/\Below _ _ w':=AT;have Zz:Hid ((bD 0 m (JR a)).2=0):=hc0;clear ha hc0;go_upto_region 11 with fail;obtain⟨V,hV⟩:∃V,wr.alloc (.cells #[aa a.xn,aa a.xd,aa a.yn,aa a.yd] 177)=V:=⟨_,rfl⟩;rw[hV] at b3 F3 kr LH AT⊢;clear hV c0 c1 c2 c3;have m0:=aG kr 0 _ rfl;have m1:=aG kr 1 _ rfl;have m2:=aG kr 2 _ rfl;have m3:=aG kr 3 _ rfl;have m4:=aG kr 4 _ rfl;have m5:=aG kr 5 _ rfl;have m6:=aG kr 6 _ rfl;have m7:=aG kr 7 _ rfl;have m8:=aG kr 8 _ rfl;have m9:=aG kr 9 _ rfl;have m10:=aG kr 10 _ rfl;have m11:=aG kr 11 _ rfl;obtain⟨f0,f1,f2,f3⟩:=F3;generalize hga:CG m a=q at*;have HGA:Hid (CG m a=q):=hga;clear hga;go_upto_region 12 with(go_at_call 229;refine AT.mono ?_;rintro e w3 ⟨rfl,b4⟩);clear AT f0 f1 f2 f3 m0 m1 m2 m3 m4 m5 m6 m7 m8 m9 m10 m11;have b5:=aL w3 (.cells #[aa q.xn,aa q.xd,aa q.yn,aa q.yd] 177);have F5:=Four.new w3 (aa q.xn) (aa q.xd) (aa q.yn) (aa q.yd) 177;obtain⟨V2,hV2⟩:∃V,w3.alloc (.cells #[aa q.xn,aa q.xd,aa q.yn,aa q.yd] 177)=V:=⟨_,rfl⟩;obtain⟨BQ,hBQ⟩:∃B,w3.heap.size=B:=⟨_,rfl⟩;rw[hV2] at b5 F5⊢;have b6:=au (au b3 b4) b5;rw[hBQ] at F5⊢;clear hV2 hBQ b3 b4 b5 LH kr;have CS:=mh (E 2) (E 3) (E 2) q V2 (ze hcg) (uK hcg) (hE2.below b6 eU);obtain⟨f0,f1,f2,f3⟩:=id F5;by_cases hx:gV q=0
    ·rw[hx] at CS;have HX:Hid (gV q=0):=hx;clear hx;go_upto_region 14 with(go_at_call 177;refine CS.mono ?_;rintro e w4 ⟨rfl,b7⟩;simp only[nZ]);clear CS f0 f1 f2 f3;obtain⟨f0,f1,f2,f3⟩:=F5.below b7 eU;have b8:=au (au hb b6) b7;have hz8:=b8.size;have a1L:w4.ownsRow w2.heap.size 177 4 (.slice ov k cv) k (dw ((l.take k).map (CG m))):=by
      have h:=hown.keep (au b6 b7);unfold fV at h;rw[HLEN.out] at h;exact h
     have hz4:=(au b6 b7).size;have hnb:=World.alloc_heap_new w4 (.cells #[aa q.xn,aa q.xd,aa q.yn,aa q.yd] 177);have WC:(w4.alloc (.cells #[aa q.xn,aa q.xd,aa q.yn,aa q.yd] 177)).ownsRow w2.heap.size 177 4 (.slice ov k cv) k (dw ((l.take k).map (CG m))):=World.ownsRow.alloc a1L _;have HT:Hid ((l.take (k+1)).map (CG m)=(l.take k).map (CG m)++[q]/\∀a∈l.take (k+1),vD m a=true):=by
      have ht:l.take (k+1)=l.take k++[a]:=by rw[List.take_add_one,HL.out];rfl
      constructor
      ·rw[ht,List.map_append,List.map_singleton,HGA.out]
      ·rw[ht];intro y hy;rcases List.mem_append.1 hy with h|h
       ·exact HAL.out y h
       ·simp at h;rw[h];exact a0l Zz.out (by rw[HGA.out];exact HX.out)
     generalize (l.take k).map (CG m)=R at*;clear hown a1L;go_wp2_with(at_builtin;refine wpList_append_own _ rfl _ _ 134 rfl (w2.heap.size) 177 i0 (.agg #[aa 0,aa 0,aa 0,aa 0]) 4 32 underlying134 hi hz0 hz1 hz2 rfl (by decide) _ _ _ rfl WC _ _ _ (dw [q]) rfl (tX [q]) (World.news_of_block hnb) (zH _) (by simp only[maxLen];omega) (by omega) (by simp;omega) ?_;intro v12 w12 WE a3Q _)
     go_roundw
     case rel=>exact⟨k+1,by omega,by go_num,HT.out.2,by rw[HT.out.1];rw[<- HLEN.out] at WE;exact fV.app (m:=[q]) WE rfl,(b8.alloc hz8 _).grown a3Q (by simp;omega) (NZ WC)⟩
     case measure=>simp[intOf];omega
    ·have hx2:gV q=2:=by have:=K8 q;omega
     rw[hx2] at CS;have HX:Hid (¬gV q=0):=hx;clear hx hx2;go_upto_region 13 with(go_at_call 177;refine CS.mono ?_;rintro e w4 ⟨rfl,b7⟩;simp only[LU]);clear CS f0 f1 f2 f3;have b8:=au (au hb b6) b7;have k24:=gP b8 k2;have q4:=aG k24 0 _ rfl;have f4:=cO k24 0;have hE4:=(hE.below (au hb2 b8) eU).b;have a3U:=(Array.getElem?_eq_some_iff.1 k24).1;have ne4:¬w4.heap.size=w.heap.size+1+1:=by omega
     have ZX:¬w.heap.size+1+1=w4.heap.size:=by omega
     have MI:=ay hE.b;have hE5:(w4.setCell ⟨w.heap.size+1+1,0,none⟩ (.slice none 0 0)).cell? (ag 0 0)=some (.iface 390 (.pointer (some (E 2)))):=(World.cell?_setCell_far _ _ _ _ (by have:0<w.heap.size:=MI;show w.heap.size+1+1≠0;omega)).trans hE4;clear MI;go_region;go_wp2_with fail;have d4:(((w4.setCell ⟨w.heap.size+1+1,0,none⟩ (.slice none 0 0)).alloc (.cells #[aa k,.iface 390 (.pointer (some (E 2)))] 115)).drew).cell? ⟨w.heap.size+1+1,0,none⟩=some (.slice none 0 0):=ah _ (World.cell?_setCell_same' _ _ _ (by rw[q4];rfl));have b9:=au hb2 b8;refine bodyPost_ret (v:=.tuple #[.agg #[.slice none 0 0],.iface 113 (aj w4.heap.size)]) (by simp[results,results191,go_sem,d4]) rfl ⟨?_,below_drewN ((b9.setCell (by simp;omega) _).alloc (by simpa using b9.size) _) 1⟩;refine WG hmem ?_ ⟨by decide,by decide,.inr ⟨_,0,rfl,?_⟩⟩
     ·exact WH (by rw[HGA.out];exact HX.out)
     ·show(((w4.setCell ⟨w.heap.size+1+1,0,none⟩ (.slice none 0 0)).alloc (.cells #[aa k,.iface 390 (.pointer (some (E 2)))] 115))).cell? ⟨w4.heap.size,1,none⟩=some (eV (E 2));have hs4:(w4.setCell ⟨w.heap.size+1+1,0,none⟩ (.slice none 0 0)).heap.size=w4.heap.size:=by simp
      have hcn:=aA (World.alloc_heap_new (w4.setCell ⟨w.heap.size+1+1,0,none⟩ (.slice none 0 0)) (.cells #[aa k,.iface 390 (.pointer (some (E 2)))] 115)) 1 _ rfl;rw[hs4] at hcn;exact hcn
   ·have AT:∀V,E3 (E 2) (E 3) (E 2) V->ak 229 #[mv m,lS a] V fun e w'=>e=.returned (.tuple #[lS zQt,eV (E 2)])/\Below V.heap.size V w':=fun V hV=>by
     have h1:=a6I (aB:=E 2) (aS:=E 3) (aZ:=E 2) (m:=m) (p:=JR a) (l9 HM.out) (a8g (Rz.out.2 a hmem)) (fun q e=>hc0 (by rw[(a2P e).2.2])) V hV;have h2:(atR m (JR a)).2=.bare 2:=by
      unfold atR;rw[if_neg (by simp[oM HM.out]),if_neg (by simp[Ow (BF (Rz.out.2 a hmem))]),if_neg hc0]
     rw[h2] at h1;refine h1.mono ?_;rintro e w' ⟨⟨v,rfl, -,rfl⟩,hb'⟩;exact⟨rfl,hb'⟩
    have AT:=AT _ LH;have Zz:Hid (¬(bD 0 m (JR a)).2=0):=hc0;clear ha hc0;go_upto_region 11 with fail;obtain⟨V,hV⟩:∃V,wr.alloc (.cells #[aa a.xn,aa a.xd,aa a.yn,aa a.yd] 177)=V:=⟨_,rfl⟩;rw[hV] at b3 F3 kr LH AT⊢;clear hV c0 c1 c2 c3;have m0:=aG kr 0 _ rfl;have m1:=aG kr 1 _ rfl;have m2:=aG kr 2 _ rfl;have m3:=aG kr 3 _ rfl;have m4:=aG kr 4 _ rfl;have m5:=aG kr 5 _ rfl;have m6:=aG kr 6 _ rfl;have m7:=aG kr 7 _ rfl;have m8:=aG kr 8 _ rfl;have m9:=aG kr 9 _ rfl;have m10:=aG kr 10 _ rfl;have m11:=aG kr 11 _ rfl;obtain⟨f0,f1,f2,f3⟩:=F3;go_upto_region 12 with(go_at_call 229;refine AT.mono ?_;rintro e w3 ⟨rfl,b4⟩);clear AT f0 f1 f2 f3 m0 m1 m2 m3 m4 m5 m6 m7 m8 m9 m10 m11;have b5:=aL w3 (.cells #[aa 0,aa 0,aa 0,aa 0] 177);obtain⟨w4,hV2⟩:∃V,w3.alloc (.cells #[aa 0,aa 0,aa 0,aa 0] 177)=V:=⟨_,rfl⟩;rw[hV2] at b5⊢;have b6:=au (au b3 b4) b5;clear hV2 b3 b4 b5 LH kr;go_upto_region 13 with fail;have b8:=au hb b6;have k24:=gP b8 k2;have q4:=aG k24 0 _ rfl;have f4:=cO k24 0;have hE4:=(hE.below (au hb2 b8) eU).b;have a3U:=(Array.getElem?_eq_some_iff.1 k24).1;have ne4:¬w4.heap.size=w.heap.size+1+1:=by omega
    have ZX:¬w.heap.size+1+1=w4.heap.size:=by omega
    have MI:=ay hE.b;have hE5:(w4.setCell ⟨w.heap.size+1+1,0,none⟩ (.slice none 0 0)).cell? (ag 0 0)=some (.iface 390 (.pointer (some (E 2)))):=(World.cell?_setCell_far _ _ _ _ (by have:0<w.heap.size:=MI;show w.heap.size+1+1≠0;omega)).trans hE4;clear MI;go_region;go_wp2_with fail;have d4:(((w4.setCell ⟨w.heap.size+1+1,0,none⟩ (.slice none 0 0)).alloc (.cells #[aa k,.iface 390 (.pointer (some (E 2)))] 115)).drew).cell? ⟨w.heap.size+1+1,0,none⟩=some (.slice none 0 0):=ah _ (World.cell?_setCell_same' _ _ _ (by rw[q4];rfl));have b9:=au hb2 b8;refine bodyPost_ret (v:=.tuple #[.agg #[.slice none 0 0],.iface 113 (aj w4.heap.size)]) (by simp[results,results191,go_sem,d4]) rfl ⟨?_,below_drewN ((b9.setCell (by simp;omega) _).alloc (by simpa using b9.size) _) 1⟩;refine WG hmem ?_ ⟨by decide,by decide,.inr ⟨_,0,rfl,?_⟩⟩
    ·exact Gj Zz.out
    ·show(((w4.setCell ⟨w.heap.size+1+1,0,none⟩ (.slice none 0 0)).alloc (.cells #[aa k,.iface 390 (.pointer (some (E 2)))] 115))).cell? ⟨w4.heap.size,1,none⟩=some (eV (E 2));have hs4:(w4.setCell ⟨w.heap.size+1+1,0,none⟩ (.slice none 0 0)).heap.size=w4.heap.size:=by simp
     have hcn:=aA (World.alloc_heap_new (w4.setCell ⟨w.heap.size+1+1,0,none⟩ (.slice none 0 0)) (.cells #[aa k,.iface 390 (.pointer (some (E 2)))] 115)) 1 _ rfl;rw[hs4] at hcn;exact hcn
  ·obtain rfl:k=l.length:=by omega
   have b8:=hb;have k24:=gP b8 k2;have q4:=aG k24 0 _ rfl;have f4:=cO k24 0;have a3U:=(Array.getElem?_eq_some_iff.1 k2).1;go_wp2_with fail;have d0:(wr.setCell ⟨w.heap.size+1+1,0,none⟩ (.slice ov l.length cv)).cell? ⟨w.heap.size+1+1,0,none⟩=some (.slice ov l.length cv):=World.cell?_setCell_same' _ _ _ (by rw[q4];rfl);have hw:w.heap.size<=w2.heap.size:=hb2.size;refine bodyPost_ret (v:=.tuple #[.agg #[.slice ov l.length cv],.nilIface]) (by simp[results,results191,go_sem,d0]) rfl ⟨a0k ?_ ?_,(au hb2 hb).setCell (by simp;omega) _⟩
   ·have:=HAL.out;rwa[List.take_length] at this
   ·have:=(hown.far (b:=w.heap.size+1+1) (u:=.slice ov l.length cv) a3U).low hw;rwa[List.take_length] at this
end
section
open Go.RowKit Go.Shelf
set_option maxHeartbeats 4000000
set_option maxRecDepth 20000
def uy (q:Int->Bool):Nat->List Int->Int
 |_,[]=> -1
 |k,x::l=>if q x then(k:Int) else uy q (k+1) l
theorem EG (q:Int->Bool):∀(l:List Int) (k:Nat),(uy q k l= -1/\l.find? q=none)\/∃i x,uy q k l=((k+i:Nat):Int)/\l[i]? =some x/\l.find? q=some x
 |[],_=>.inl ⟨rfl,rfl⟩
 |x::l,k=>by
  unfold uy;rw[List.find?_cons];cases hx:q x with
  |true=>exact .inr ⟨0,x,by simp,rfl,rfl⟩
  |false=>
   rcases EG q l (k+1) with⟨h1,h2⟩|⟨i,y,h1,h2,h3⟩
   ·exact .inl ⟨by simpa using h1,h2⟩
   ·exact .inr ⟨i+1,y,by rw[if_neg (by simp),h1];congr 1;omega,by simpa using h2,h3⟩
theorem ints_at {w:World}{B0:Nat}{v:Value}{l:List Int}(h:w.ownsRow B0 3 1 v l.length (bY l)):(l=[]/\∃o c,v=.slice o 0 c)\/∃g cap,v=.slice (some ⟨g,0,none⟩) l.length cap/\l.length<=cap/\∀k x,l[k]? =some x->w.cell? (ag g k)=some (aa x):=by
 obtain⟨o,cap,Js,h1,h2,h3,h5⟩:=bA h;cases l with
 |nil=>exact .inl ⟨rfl,_,_,Js⟩
 |cons x0 r=>
  have AT:∀(k:Nat) (x:Int),(x0::r)[k]? =some x->(bY (x0::r))[k]? =some (aa x):=fun k x hx=>by
   unfold bY;rw[List.getElem?_map,hx];rfl
  obtain⟨g,hg, -⟩:=bJ h 0 _ (AT 0 x0 rfl);have hog:=h5 g hg;subst Js hog;refine .inr ⟨g,cap,rfl,by omega,fun k x hx=>?_⟩;obtain⟨g1,hg1,c1⟩:=bJ h _ _ (AT k x hx);rw[hg] at hg1;cases hg1;exact c1
def IxL (q:Int->Bool)(l:List Int)(W:World)(y:Value)(wr:World):Prop:=∃k:Nat,k<=l.length/\y=aa k/\uy q 0 l=uy q k (l.drop k)/\Below W.heap.size W wr
theorem Ni (q:Int->Bool)(l:List Int)(W:World)(f:Nat)(cv:Array Value)(B0:Nat)(v:Value)(hl:l.length<=1000000)(h:W.ownsRow B0 3 1 v l.length (bY l))
  (HQ:∀x∈l,∀V,Below W.heap.size W V->ak f (#[aa x]++cv) V fun e w'=>e=.returned (.bool (q x))/\Below V.heap.size V w') (hf:f=238) (hcv:∃a b,cv=#[.pointer (some a),.pointer (some b)]):
  ak 208 #[v,.func (.func f) #[] cv] W fun e w'=>e=.returned (aa (uy q 0 l))/\Below W.heap.size W w':=by
 subst hf;obtain⟨a,b,rfl⟩:=hcv;have HH:Hid (∀x∈l,∀V,Below W.heap.size W V->ak 238 #[aa x,.pointer (some a),.pointer (some b)] V fun e w'=>e=.returned (.bool (q x))/\Below V.heap.size V w'):=HQ;clear HQ;rcases ints_at h with⟨rfl,o,c,rfl⟩|⟨g,cap,rfl,hcap,hc⟩
 ·clear h;go_enter func208,ntmps208;go_wp2_with fail
  go_loopw [8] (fun y wr=>y=aa 0/\wr=W) (fun _ _=>0)
  case atStart=>exact⟨rfl,rfl⟩
  case round=>
   obtain⟨rfl,rfl⟩:=hrel;go_wp2_with fail;go_ret;exact⟨rfl,Below.refl _ _⟩
 ·have H4:Hid (∀k x,l[k]? =some x->W.cell? (ag g k)=some (aa x)):=hc;clear h hc;have a7K:(l.length:Int)<=(cap:Int):=by omega
  go_enter func208,ntmps208;go_wp2_with fail
  go_loopw [8] (fun y wr=>IxL q l W y wr) (fun y _=>l.length-(intOf y).toNat)
  case atStart=>exact⟨0,Nat.zero_le _,rfl,rfl,Below.refl _ _⟩
  case round=>
   obtain⟨k,hk,rfl,hf,hb⟩:=hrel;have HF:Hid (uy q 0 l=uy q k (l.drop k)):=hf;clear hf;by_cases hlt:k<l.length
   ·have hlt':(k:Int)<(l.length:Int):=by omega
    obtain⟨x,hx,hd⟩:=drop_at hlt;have k0:=H4.out k x hx;have k0:=(hb.cell (ay k0)).trans k0;have HS:=HH.out x (List.mem_of_getElem? hx) wr hb;have HD:Hid (l.drop k=x::l.drop (k+1)):=hd;clear hx hd;cases hs:q x with
    |true=>
     rw[hs] at HS;have hf':Hid (uy q 0 l=k):=by show _=_;rw[HF.out,HD.out];unfold uy;rw[if_pos hs]
     clear hs;go_wp2_with(go_at_call 238;refine HS.mono ?_;rintro e w1 ⟨rfl,hb1⟩);go_ret;exact⟨by rw[hf'.out];rfl,az hb hb1⟩
    |false=>
     rw[hs] at HS;have hf':Hid (uy q 0 l=uy q (k+1) (l.drop (k+1))):=by show _=_;rw[HF.out,HD.out,uy,if_neg (by rw[hs];simp)]
     clear hs;go_wp2_with(go_at_call 238;refine HS.mono ?_;rintro e w1 ⟨rfl,hb1⟩)
     go_roundw
     case rel=>exact⟨k+1,by omega,by go_num,hf'.out,az hb hb1⟩
     case measure=>simp[intOf];omega
   ·obtain rfl:k=l.length:=by omega
    have hf':Hid (uy q 0 l= -1):=by show _=_;rw[HF.out,List.drop_length];rfl
    go_wp2_with fail;go_ret;exact⟨by rw[hf'.out];rfl,hb⟩
section
variable {E:Nat->Addr}{B:Nat}{tg:kE}{W:World}{DB MB:Nat}{p:Int->Option Nat}{M:Dm}{nx c:Nat}{r:Int->Nat}
theorem WJ (hd:bG B tg W DB MB p M nx c)(WB BW BO:Nat)(v:Bs)(hw:W.cell? (ag WB 0)=some (aj DB))(h1:W.cell? (ag BW 0)=some (aj WB))(h2:W.cell? (ag BO 0)=some (bV v))(n:Int)(hn:dH n):
  ak 238 #[aa n,aj BW,aj BO] W fun e w'=>e=.returned (.bool (atM M n ZH==some v))/\Below W.heap.size W w':=by
 have AT:=l8 hd n hn ZH;rw[qV] at AT;have H2:=fun V (hV:Below W.heap.size W V)=>(hV.cell (ay h2)).trans h2;clear hd h2;cases ha:atM M n ZH with
 |none=>
  rw[ha] at AT;clear ha;go_enter func238,ntmps238;go_wp2_with(go_at_call 17;refine AT.mono ?_;rintro e w1 ⟨rfl,b1⟩);go_ret;exact⟨rfl,b1⟩
 |some s=>
  rw[ha] at AT;have hq:=eH s v;have hs:(some s==some v)=(s==v):=rfl;rw[hs];clear ha hs;cases hsv:(s==v) with
  |true=>
   rw[hsv] at hq;go_enter func238,ntmps238;go_wp2_with(go_at_call 17;refine AT.mono ?_;rintro e w1 ⟨rfl,b1⟩;have k2:=H2 w1 b1);go_ret;exact⟨rfl,b1⟩
  |false=>
   rw[hsv] at hq;go_enter func238,ntmps238;go_wp2_with(go_at_call 17;refine AT.mono ?_;rintro e w1 ⟨rfl,b1⟩;have k2:=H2 w1 b1);go_ret;exact⟨rfl,b1⟩
theorem gN.Po (h:gN B tg W DB MB p M nx c r):Dp M 11 0/\(jm M 11 0).length<=100:=by
 obtain⟨e0,he0, -⟩:=h.d.root;have hp:=h.d.dp 11 0 e0 he0 (by omega);refine⟨hp,?_⟩;unfold jm;rw[h.d.count h.n hp];exact h.le
def LdR (x:Option Int)(e:Ending):Prop:=match x with
 |some k=>e=.returned (.tuple #[aa k,.bool true])
 |none=>e=.returned (.tuple #[aa 0,.bool false])
theorem WL (h:gN B tg W DB MB p M nx c r):∀x∈jm M 11 0,dH x:=fun x hx=>by
 obtain⟨e,he⟩:=((h.d.mem h.Po.1).1 hx).in_;have h1:=h.w.dom x e he;have h2:=h.w.few;exact WalkArith.wf_i64 (by omega)
theorem RH (h:gN B tg W DB MB p M nx c r)(WB:Nat)(hw:W.cell? (ag WB 0)=some (aj DB))(n:Int)(hn:dH n):
  ak 197 #[aj WB,aa n] W fun e w'=>LdR (Jo M n) e/\Below W.heap.size W w':=by
 have b0:=aW W (.cells #[aj WB] 119);have K0:=dh W #[aj WB] 119;have AT:=l8 (h.w.below b0) n hn kOf;have hw0:=(b0.cell (ay hw)).trans hw;rw[qV] at AT;have HS:Hid (gN B tg W DB MB p M nx c r):=h;unfold Jo;cases ha:atM M n kOf with
 |none=>
  rw[ha] at AT;clear ha h;go_enter func197,ntmps197;go_wp2_with(go_at_call 17;refine AT.mono ?_;rintro e w1 ⟨rfl,b1⟩)
  go_ret2
  exact⟨rfl,az (az b0 b1) (aW w1 _)⟩
 |some s=>
  rw[ha] at AT;have AT:ak 17 #[aj DB,aa n,.string ⟨#[111,102]⟩] (W.alloc (.cells #[aj WB] 119)) fun r w'=>r=.returned (.tuple #[bV s,.bool true])/\Below (W.alloc (.cells #[aj WB] 119)).heap.size (W.alloc (.cells #[aj WB] 119)) w':=AT;clear ha h;dsimp only;obtain⟨L,hL⟩:∃L,jm M 11 0=L:=⟨_,rfl⟩;have hAL:allM M=L:=hL;rw[hAL];have a8i:=WL HS.out;have hall:=HS.out.Po.2;rw[hL] at a8i hall;have Nc:Hid (jm M 11 0=L):=hL;clear hL hAL;obtain⟨ans,su⟩:∃x,L.find? (fun k=>atM M k ZH==some s)=x:=⟨_,rfl⟩;rw[su];have abZ:Hid (L.find? (fun k=>atM M k ZH==some s)=ans):=su;clear su;go_enter func197,ntmps197;go_upto_region 4 with(go_at_call 17;refine AT.mono ?_;rintro e w1 ⟨rfl,b1⟩);have b2:=aW w1 (.cells #[bV s] 9);have KO:=dh w1 #[bV s] 9;obtain⟨V,hV⟩:∃V,w1.alloc (.cells #[bV s] 9)=V:=⟨_,rfl⟩;obtain⟨BO,hBO⟩:∃b,w1.heap.size=b:=⟨_,rfl⟩;rw[hV] at b2 KO⊢;rw[hBO] at KO⊢;have Yt:=az b1 b2;have bWV:=az b0 Yt;have KW:=(Yt.block _ (aN K0)).trans K0;have hwV:=(bWV.cell (ay hw)).trans hw;have SV:=HS.out.below bWV;have AL:=a02 SV.w 11 (by decide) SV.Po.1 (by have:=SV.Po.2;omega);rw[Nc.out] at AL;have c0:=aA KW 0 _ rfl;clear AT hV hBO b1 b2 b0 K0 hw0 Yt;go_upto_region 5 with(go_at_call 237;refine AL.mono ?_;rintro e w2 ⟨o,k,rfl,b3,own⟩);clear AL;have B2:=az bWV b3;have hw2:=(b3.cell (ay hwV)).trans hwV;have KW2:=(b3.block _ (aN KW)).trans KW;have KO2:=(b3.block _ (aN KO)).trans KO;have IX:=Ni (fun k=>atM M k ZH==some s) L w2 238 #[aj W.heap.size,aj BO] _ _ (by omega) own
   (fun x hx V2 hV2=>WJ (HS.out.below (az B2 hV2)).w WB W.heap.size BO s ((hV2.cell (ay hw2)).trans hw2) (aA ((hV2.block _ (aN KW2)).trans KW2) 0 _ rfl) (aA ((hV2.block _ (aN KO2)).trans KO2) 0 _ rfl) x (a8i x hx)) rfl ⟨_,_,rfl⟩
  have HI:=EG (fun k=>atM M k ZH==some s) L 0;have HOWN:Hid (w2.ownsRow (V.heap.size+1) 3 1 (.slice o L.length k) L.length (bY L)):=own;have han:L.find? (fun k=>atM M k ZH==some s)=ans:=abZ.out;rw[han] at HI;clear own han;rcases HI with⟨h1,rfl⟩|⟨i,x,h1,h2,rfl⟩
  ·rw[h1] at IX;clear h1;go_wp2_with(go_at_call 208;refine IX.mono ?_;rintro e w3 ⟨rfl,b4⟩)
   go_ret2
   exact⟨rfl,az B2 b4⟩
  ·rw[h1,Nat.zero_add] at IX;have hil:=(List.getElem?_eq_some_iff.1 h2).1;have R3:∀w3,Below w2.heap.size w2 w3->∃g,o=some ⟨g,0,none⟩/\w3.cell? (ag g i)=some (aa x):=fun w3 b4=>by
    rcases ints_at HOWN.out with⟨he, -⟩|⟨g,cap,hv, -,hc⟩
    ·rw[he] at hil;simp at hil
    ·injection hv with hv1;exact⟨g,hv1,(b4.cell (ay (hc i x h2))).trans (hc i x h2)⟩
   obtain⟨g,rfl, -⟩:=R3 w2 (Below.refl _ _);have hiz:(i:Int)<(L.length:Int):=by omega
   clear h1 h2;go_wp2_with(go_at_call 208;refine IX.mono ?_;rintro e w3 ⟨rfl,b4⟩;obtain⟨g',hg',cg⟩:=R3 w3 b4;cases hg')
   go_ret2
   exact⟨rfl,az B2 b4⟩
end
end
section
open Go.RowKit Go.Shelf
set_option maxHeartbeats 2000000
abbrev jJ (Bd Bl:Nat):Value:=.func (.func 49) #[] #[aj Bd,aj Bl]
section
variable {E:Nat->Addr}{B:Nat}{tg:kE}{W:World}{DB MB:Nat}{p:Int->Option Nat}{M:Dm}{nx c:Nat}{r:Int->Nat}
theorem RI (h:bG B tg W DB MB p M nx c)(hw:Wd M r)(hF:MW M)(l:List Rl)(hok:∀x∈l,RlG x)(B0:Nat)(v:Value)(hl:W.ownsRow B0 110 3 v l.length (fH l))(Bd Bl:Nat)(h1:W.cell? (ag Bd 0)=some (aj DB))(h2:W.cell? (ag Bl 0)=some v)(n:Int)(hn:dH n)(nm:Bs):
  ak 49 #[aa n,bV nm,aj Bd,aj Bl] W fun e w'=>e=.returned (bV (ofM M l nm n))/\Below W.heap.size W w':=by
 have OF:=a3L h hw hF l hok B0 v hl n hn nm;obtain⟨ov,kv,rfl⟩:=aI hl;clear h hw hF hok hl;go_enter func49,ntmps49;go_wp2_with(go_at_call 50;refine OF.mono ?_;rintro e w1 ⟨rfl,b1⟩);go_ret;exact⟨rfl,b1⟩
end
structure bZ where
 nd:Int
 o:Option Addr
 cap:Nat
 pts:List Qt
 fill:Bs
 rule:Bs
 lv:Int
def bZ.pc (x:bZ):Pc:=⟨x.nd,x.pts,x.fill,x.rule,x.lv⟩
abbrev BH (x:bZ):Value:=.slice x.o x.pts.length x.cap
def cellsS:List bZ->List Value
 |[]=>[]
 |x::l=>aa x.nd::BH x::bV x.fill::bV x.rule::aa x.lv::cellsS l
theorem uz:∀l:List bZ,(cellsS l).length=l.length*5
 |[]=>rfl
 |x::l=>by simp[cellsS,uz l];omega
theorem BI:∀l m:List bZ,cellsS (l++m)=cellsS l++cellsS m
 |[],_=>rfl
 |x::l,m=>by simp[cellsS,BI l m]
structure Sc (base WB DB:Nat)(sf:Value)(k:Nat)(ps:List bZ)(v:Value)(V:World):Prop where
 wb:V.heap[WB]? =some (.cells #[aj DB,sf,aa k,v] 123)
 own:V.ownsRow base 138 5 v ps.length (cellsS ps)
 pts:∀x∈ps,fV V base (BH x) x.pts
 rt:∀x∈ps,∀a∈x.pts,dD a=0
structure Kw (WB:Nat)(v:Value)(V V':World):Prop where
 os:V'.os=V.os
 tape:V'.tape=V.tape
 output:V'.output=V.output
 size:V.heap.size<=V'.heap.size
 block:∀b,b<V.heap.size->b≠WB->v.ownBlock≠some b->V'.heap[b]? =V.heap[b]?
theorem Kw.refl (WB:Nat)(v:Value)(V:World):Kw WB v V V:=⟨rfl,rfl,rfl,Nat.le_refl _,fun _ _ _ _=>rfl⟩
theorem Kw.of_below {WB:Nat}{v:Value}{V V':World}(h:Below V.heap.size V V'):Kw WB v V V':=⟨h.os,h.tape,h.output,h.size,fun b hb _ _=>h.block b hb⟩
theorem Kw.trans {WB:Nat}{v v':Value}{V V' V'':World}(h:Kw WB v V V')(hv:v'.ownBlock=v.ownBlock\/∀b,v'.ownBlock=some b->V.heap.size<=b)(h':Kw WB v' V' V''):Kw WB v V V'':=
 ⟨h'.os.trans h.os,h'.tape.trans h.tape,h'.output.trans h.output,Nat.le_trans h.size h'.size,fun b hb h1 h2=>(h'.block b (Nat.lt_of_lt_of_le hb h.size) h1 (fun e=>by
  rcases hv with hv|hv
  ·exact h2 (hv▸e)
  ·have:=hv b e;omega)).trans (h.block b hb h1 h2)⟩
theorem dJ {w:World}{base k n:Nat}{t:TypeId}{v:Value}{xs:List Value}(h:w.ownsRow base t k v n xs):∀g,v.ownBlock=some g->∃cs f,w.heap[g]? =some (.cells cs t f)/\base<=g:=fun g hg=>by
 rcases h.2 with⟨h1, -⟩|⟨g',cap,cur,h3,h4,h5, -⟩
 ·rw[h1] at hg;cases hg
 ·rw[h3] at hg;cases hg;exact⟨_,_,h5,h4⟩
section
variable {base WB DB:Nat}{sf:Value}{k:Nat}{ps:List bZ}{v:Value}{V V':World}
theorem Sc.keep (h:Sc base WB DB sf k ps v V)(hk:Kw WB v V V'){b:Nat}{cs:Array Value}{t:TypeId}{f:Nat×Nat}(hb:V.heap[b]? =some (.cells cs t f))(h1:t≠123)(h2:t≠138):V'.heap[b]? =some (.cells cs t f):=by
 refine(hk.block b (aN hb) ?_ ?_).trans hb
 ·rintro rfl;rw[h.wb] at hb;cases hb;exact h1 rfl
 ·intro e;obtain⟨cs',f',h3, -⟩:=dJ h.own b e;rw[h3] at hb;cases hb;exact h2 rfl
theorem Sc.low (h:Sc base WB DB sf k ps v V)(hk:Kw WB v V V')(hW:base<=WB)(hb:base<=V.heap.size):Below base V V':=
 ⟨hk.os,hk.tape,hk.output,hk.size,fun j hj=>hk.block j (by omega) (by omega) (fun e=>by
  obtain⟨-, -, -,h3⟩:=dJ h.own j e;omega)⟩
theorem Sc.path (h:Sc base WB DB sf k ps v V)(hk:Kw WB v V V'){q:Option Nat}{l:List (Int×Mv)}(hp:aU V q l):aU V' q l:=
 aU.keep (fun b t ht ⟨c,hc⟩=>by subst hc;exact h.keep hk ht (by decide) (by decide)) hp
theorem Sc.below (h:Sc base WB DB sf k ps v V)(hb:Below V.heap.size V V'):Sc base WB DB sf k ps v V':=
 ⟨(hb.block _ (aN h.wb)).trans h.wb,aK h.own hb,fun x hx=>(h.pts x hx).keep hb,h.rt⟩
end
end
end Go.Proofs.YtjfiehbcamfdfaaGreatDoor

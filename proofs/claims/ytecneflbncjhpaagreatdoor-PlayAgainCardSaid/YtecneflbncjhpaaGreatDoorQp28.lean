/- Parts of the proof. -/
import Derived.Test.YtecneflbncjhpaaGreatDoorQp27
namespace Go.Proofs.YtecneflbncjhpaaGreatDoor
open Go.Proofs.Tryz
set_option maxHeartbeats 16000000
section
open Go.RowKit
def Pe (a:Qt):Pt:=⟨⟨a.xn,a.xd⟩,⟨a.yn,a.yd⟩⟩
theorem Ae {a:Qt}(h:fT a=0):PI a:=by
 obtain⟨c1,c2⟩:=gF.1 h;obtain⟨i1,i2⟩:=gV c1;obtain⟨i3,i4⟩:=gV c2;exact⟨i1,i2,i3,i4⟩
theorem aac (w:ag)(o0 o1 o2:Obj):∀U,((w.alloc o0).alloc o1).alloc o2=U->
  U.heap[w.heap.size]? =some o0/\U.heap[w.heap.size+1]? =some o1/\U.heap[w.heap.size+1+1]? =some o2/\Below w.heap.size w U:=by
 rintro U rfl;refine⟨?_,?_,?_,?_⟩
 ·exact iG _ (iG _ (qd _ rfl))
 ·exact iG _ (qd _ (by simp))
 ·exact qd _ (by simp)
 ·exact(((aG _ _).alloc ai _).alloc (by simp) _).alloc (by simp;omega) _
theorem UA {w w':ag}{b n:Nat}{o:Obj}(hb:Below n w w')(hn:w.heap.size<=n)(h:w.heap[b]? =some o):w'.heap[b]? =some o:=(hb.block _ (bI (cZ.1 h).1 hn)).trans h
theorem iQ {w w':ag}{b:Nat}{o:Obj}(hb:Below w.heap.size w w')(h:w.heap[b]? =some o):w'.heap[b]? =some o:=UA hb ai h
theorem iM.far {w:ag}{base b:Nat}{v u:ah}{l:List Qt}(h:iM w base v l)(hb:b<base):iM (w.setCell ⟨b,0,none⟩ u) base v l:=by
 refine⟨h.1,?_⟩;rcases h.2 with h0|⟨g,cap,cur,h1,h2,h3,h4⟩
 ·exact .inl h0
 ·refine .inr ⟨g,cap,cur,h1,h2,?_,h4⟩;rw[aY _ _ _ g (by simp;omega)];exact h3
theorem iM.low {w:ag}{base b:Nat}{v:ah}{l:List Qt}(h:iM w base v l)(hb:b<=base):iM w b v l:=by
 refine⟨h.1,?_⟩;rcases h.2 with h0|⟨g,cap,cur,h1,h2,h3⟩
 ·exact .inl h0
 ·exact .inr ⟨g,cap,cur,h1,aJ hb h2,h3⟩
theorem iM.keep {w w':ag}{base:Nat}{v:ah}{l:List Qt}(h:iM w base v l)(hb:Below w.heap.size w w'):iM w' base v l:=by
 refine⟨h.1,?_⟩;rcases h.2 with h0|⟨g,cap,cur,h1,h2,h3,h4⟩
 ·exact .inl h0
 ·exact .inr ⟨g,cap,cur,h1,h2,iQ hb h3,h4⟩
end
section
open Go.RowKit Go.Shelf
set_option maxRecDepth 20000
def CkR (E:Nat->Addr)(l:List Qt)(o:Option Addr)(cap:Nat)(e:Ending)(w':ag):Prop:=
 (okB l=true/\e=.returned (.tuple #[.agg #[.slice o l.length cap],.nilIface]))\/(okB l=false/\∃v,e=.returned (.tuple #[.agg #[.slice none 0 0],v])/\Nj E 2 v w')
theorem wY (l:List Qt):okB l=true↔lg l:=by
 unfold okB lg;simp
theorem a6d {E:Nat->Addr}{w W:ag}{l:List Qt}{e:Ending}(hl:∀y∈l,fT y=0)(h:VN (E 2) (E 3) (E 2) w l e W):∃v,e=.returned v/\((okB l=true/\v=.nilIface)\/(okB l=false/\(v=eV (E 2)\/∃pb,w.heap.size<=pb/\v=.iface 90 (ay pb)/\W.cell? (ak pb 1)=some (eV (E 2))))):=by
 rcases h with⟨h1,h2⟩|⟨-,⟨y,hy,hy2⟩, -⟩|⟨h1,h2,h3⟩
 ·exact⟨_,h2,.inr ⟨by rw[<- Bool.not_eq_true,wY];exact fun h=>by have:=h.1;omega,.inl rfl⟩⟩
 ·exact absurd (hl y hy) hy2
 ·rcases h3 with⟨h4,h5⟩|⟨q,x,r,pb,h4, -,h6,h7,h8, -,h9⟩
  ·exact⟨_,h5,.inl ⟨(wY l).2 ⟨h1,fun y hy=>by unfold iq;rw[if_neg (by simp[h2 y hy])];exact h4 y hy⟩,rfl⟩⟩
  ·have hx:jI x=2:=by have:=lV x;omega
   refine⟨_,h8,.inr ⟨?_,.inr ⟨pb,h7,rfl,by rw[h9,hx];rfl⟩⟩⟩;rw[<- Bool.not_eq_true,wY];intro hh;have hm:x∈l:=by rw[h4];simp
   have:=hh.2 x hm;unfold iq at this;rw[if_neg (by simp[h2 x hm])] at this;exact h6 this
theorem De {E:Nat->Addr}(l:List Qt)(hl:∀y∈l,fT y=0)(o:Option Addr)(cap:Nat)(w:ag)(h:fH w o l)(hE:NE E w):
  au 238 #[.slice o l.length cap] w fun e W=>CkR E l o cap e W/\Below w.heap.size w W:=by
 go_enter func238,ntmps238;go_upto_region 2 with fail;obtain⟨U,hU⟩:∃U,(w.alloc (.cells #[.slice none 0 0] 132)).alloc (.cells #[.slice o l.length cap] 132)=U:=⟨_,rfl⟩;have u7:Below w.heap.size w U:=by rw[<- hU];exact((aG _ _).alloc ai _).alloc (by simp) _
 have c0:U.cell? ⟨w.heap.size,0,none⟩=some (.slice none 0 0)/\U.frozen? ⟨w.heap.size,0,none⟩=false:=by
  rw[<- hU];have h1:=bg (w.alloc (.cells #[.slice none 0 0] 132)) (.cells #[.slice o l.length cap] 132);exact⟨(h1.cell (p:=⟨w.heap.size,0,none⟩) (by simp)).trans (iT w _ _).1,(h1.frozen (p:=⟨w.heap.size,0,none⟩) (by simp)).trans (iT w _ _).2⟩
 have c1:U.cell? ⟨w.heap.size+1,0,none⟩=some (.slice o l.length cap):=by
  have h1:=(iT (w.alloc (.cells #[.slice none 0 0] 132)) (.slice o l.length cap) 132).1;rw[show(w.alloc (.cells #[.slice none 0 0] 132)).heap.size=w.heap.size+1 from by simp,hU] at h1;exact h1
 rw[hU];clear hU;obtain⟨c0,f0⟩:=c0;have CK:=vY (E 2) (E 3) (E 2) l o cap U (h.below u7 ai) (hE.e3.below u7 ai);have hUl:w.heap.size<U.heap.size:=aF c0;have HL:=aj hl;go_upto_region 3 with(go_at_call 130;refine CK.mono ?_;rintro e w1 ⟨hc,b1⟩;obtain⟨v,rfl,hcv⟩:=a6d HL.out hc);have q0:=(b1.cell (aF c0)).trans c0;have g0:=(b1.frozen (aF c0)).trans f0;have q1:=(b1.cell (aF c1)).trans c1;have uP:=aA u7 b1;clear hc CK c0 f0 c1;rcases hcv with⟨hok,rfl⟩|⟨hno,hv⟩
 ·go_wp2_with fail;have d0:(w1.setCell ⟨w.heap.size,0,none⟩ (.slice o l.length cap)).cell? ⟨w.heap.size,0,none⟩=some (.slice o l.length cap):=fM _ _ _ (by rw[q0];rfl);exact bodyPost_ret (v:=.tuple #[.agg #[.slice o l.length cap],.nilIface]) (by simp[results,results238,go_sem,d0]) rfl ⟨.inl ⟨hok,rfl⟩,uP.setCell (by simp) _⟩
 ·have d0:(w1.setCell ⟨w.heap.size,0,none⟩ (.slice none 0 0)).cell? ⟨w.heap.size,0,none⟩=some (.slice none 0 0):=fM _ _ _ (by rw[q0];rfl);rcases hv with rfl|⟨pb,hpb,rfl,hp1⟩
  ·go_wp2_with fail;exact bodyPost_ret (v:=.tuple #[.agg #[.slice none 0 0],eV (E 2)]) (by simp[results,results238,go_sem,d0]) rfl ⟨.inr ⟨hno,_,rfl,by decide,by decide,.inl rfl⟩,uP.setCell (by simp) _⟩
  ·go_wp2_with fail;refine bodyPost_ret (v:=.tuple #[.agg #[.slice none 0 0],.iface 90 (ay pb)]) (by simp[results,results238,go_sem,d0]) rfl ⟨.inr ⟨hno,_,rfl,by decide,by decide,.inr ⟨pb,0,rfl,?_⟩⟩,uP.setCell (by simp) _⟩;exact(aO _ _ _ _ (by show w.heap.size≠pb;omega)).trans hp1
def mJ (E:Nat->Addr)(x:Except Nat (List Qt))(e:Ending)(w':ag):Prop:=match x with
 | .ok l=>(∀a∈l,fT a=0)/\okB l=true/\∃o cap,e=.returned (.tuple #[.agg #[.slice o l.length cap],.nilIface])/\fH w' o l
 | .error c=>∃v,e=.returned (.tuple #[.agg #[.slice none 0 0],v])/\Nj E c v w'
def ptB (w:aC):Option Qt:=ptM w.data.toList
theorem a2g {w:Bs}{q:Qt}(h:ptM w=some q):fT q=0:=by
 unfold ptM at h;cases hb:behind 44 w with
 |none=>rw[hb] at h;cases h
 |some b=>
  rw[hb] at h;dsimp only at h;by_cases hc:(rd (ahead 44 w)).c=0/\(rd b).c=0
  ·rw[if_pos hc] at h;obtain rfl:=dP h;exact gF.2 ⟨QE hc.1,QE hc.2⟩
  ·rw[if_neg hc] at h;cases h
theorem UB {f:aC->Option Qt}{ws:List aC}{k:Nat}{L:List Qt}{x:aC}{q:Qt}(h:(ws.take k).mapM f=some L)(hx:ws[k]? =some x)(hq:f x=some q):(ws.take (k+1)).mapM f=some (L++[q]):=by
 rw[List.take_add_one,hx];simp[List.mapM_append,h,hq]
theorem Rq {f:aC->Option Qt}:∀{ws:List aC} {k:Nat} {x:aC},ws[k]? =some x->f x=none->ws.mapM f=none
 |[],_,_,h,_=>by simp at h
 |y::ws,0,x,h,hx=>by
  simp at h;subst h;simp[hx]
 |y::ws,k+1,x,h,hx=>by
  have:=Rq (ws:=ws) (k:=k) (by simpa using h) hx;simp[this]
def YD (ws:List aC):Except Nat (List Qt):=match ws.mapM ptB with
 |none=>.error 1
 |some l=>if okB l then .ok l else .error 2
theorem Nj.far {E:Nat->Addr}{c:Nat}{v u:ah}{w:ag}{b:Nat}(h:Nj E c v w):Nj E c v (w.setCell ⟨b,0,none⟩ u):=by
 obtain⟨h1,h2,h3⟩:=h;refine⟨h1,h2,?_⟩;rcases h3 with h3|⟨pb,po,h3,h4⟩
 ·exact .inl h3
 ·exact .inr ⟨pb,po,h3,(World.cell?_setCell_other _ _ _ _ (by intro h;simp at h)).trans h4⟩
def SrL (ws:List aC)(w1:ag)(x y:ah)(wr:ag):Prop:=∃(k:Nat) (L:List Qt) (v:ah),x=v/\y=aa k/\k<=ws.length/\(ws.take k).mapM ptB=some L/\(∀a∈L,fT a=0)/\L.length=k/\iM wr w1.heap.size v L/\Below w1.heap.size w1 wr
section
variable {E:Nat->Addr}{W:ag}
theorem Mf (hN:NE E W)(s:aC)(hs:s.size<=1000)(h0:s.size≠0):
  au 195 #[.string s] W fun e w'=>mJ E (YD (words s)) e w'/\Below W.heap.size W w':=by
 obtain⟨i0,hi,hz0,hz1,hz2⟩:=info_parts VT;have b0:=bT W (.cells #[.slice none 0 0] 132);have K0:=dw W #[.slice none 0 0] 132;have SP:=xS s (by omega) (W.alloc (.cells #[.slice none 0 0] 132));have hlen:(words s).length=Lib.countB s ⟨#[32]⟩+1:=Lib.splitB_all ⟨#[32]⟩ (by decide) 0 _ s rfl;have hle:=Lib.countB_le ⟨#[32]⟩ (by decide) s.size s ai;have hsz:∀a∈words s,a.size<=1000:=fun a ha=>by have:=Cw _ s a ha;omega
 have hws:(Lib.splitB ⟨#[32]⟩ 0 (Lib.countB s ⟨#[32]⟩) s)=words s:=rfl;rw[hws,<- hlen] at SP;have hn1:(words s).length<=1001:=by omega
 generalize words s=ws at SP hsz hn1⊢;clear hws hlen hle;have hne:s.toList.isEmpty=false:=by
  rw[ByteArray.toList_eq,List.isEmpty_eq_false_iff];intro e;exact h0 (by rw[<- kg,e];rfl)
 have b1:=bT (W.alloc (.cells #[.slice none 0 0] 132)) (.cells (ws.map Value.string).toArray 9);have KW:=dw (W.alloc (.cells #[.slice none 0 0] 132)) (ws.map Value.string).toArray 9;have HN:=aj hN;clear hN;go_enter func195,ntmps195;go_upto_region 5 with(go_at_call 239;refine SP.mono ?_;rintro e w1 ⟨rfl,rfl⟩);clear SP;obtain⟨w1,hw1⟩:∃U,(W.alloc (.cells #[.slice none 0 0] 132)).alloc (.cells (ws.map Value.string).toArray 9)=U:=⟨_,rfl⟩;obtain⟨WB,hWB⟩:∃b,(W.alloc (.cells #[.slice none 0 0] 132)).heap.size=b:=⟨_,rfl⟩;have alA:W.heap.size<WB:=by rw[<- hWB];simp
 have K1:=(b1.block _ (bu K0)).trans K0;have uP:=aH b0 b1;rw[hw1] at uP K1 KW⊢;rw[hWB] at KW;simp only[dB] at hWB;simp only[hWB];clear hw1 b0 b1 K0
 go_loopw [4,15] (fun x y wr=>SrL ws w1 x y wr) (fun _ y _=>ws.length-(intOf y).toNat)
 case atStart=>exact⟨0,[],_,rfl,rfl,aP _,rfl,by simp,rfl,iM.nil _ _,aG _ _⟩
 case round=>
  obtain⟨k,L,v,rfl,rfl,hk,hL,hC,hLl,hO,hb⟩:=hrel;have HL:=aj hL;have HC:=aj hC;obtain⟨ov,cv,rfl,aad⟩:=hO.at_ (fun a ha=>Ae (hC a ha));rw[hLl] at hO⊢;have Rs:=aj hLl;have HO:=aj hO;have HPT:=aj aad;have NR:=HN.out.below (aH uP hb);have KR:=(hb.block _ (bu K1)).trans K1;have KV:=(hb.block _ (bu KW)).trans KW;have r0:=aD KR 0 _ rfl;have f0:=dz KR 0;have bWr:=aH uP hb;clear hL hC hLl hO aad;by_cases hlt:k<ws.length
  ·have hltz:(k:Int)<(ws.length:Int):=by omega
   obtain⟨x,hx⟩:∃x,ws[k]? =some x:=⟨_,dK hlt⟩;have hc:=aD KV k (.string x) (by simp[hx]);have RP:=EH NR x (hsz x (fV hx));have HX:=aj hx;clear hx;cases hq:ptM x.data.toList with
   |none=>
    rw[hq] at RP;have HQ:=aj hq;clear hq;have HA:Hid (YD ws=.error 1):=by
     unfold YD Hid;rw[Rq HX.out HQ.out]
    go_upto_region 9 with(go_at_call 240;refine RP.mono ?_;rintro e w2 ⟨rfl,b2⟩);have b3:=bT w2 (.cells #[aa 0,aa 0,aa 0,aa 0] 168);obtain⟨U,hU⟩:∃U,w2.alloc (.cells #[aa 0,aa 0,aa 0,aa 0] 168)=U:=⟨_,rfl⟩;rw[hU] at b3⊢;have b4:=aH b2 b3;have NU:=NR.below b4;have e1:=NU.c1;have KU:=(b4.block _ (bu KR)).trans KR;have u0:=aD KU 0 _ rfl;have uf:=dz KU 0;have hg:1<W.heap.size:=aF HN.out.c1;have e1':(U.setCell ⟨W.heap.size,0,none⟩ (.slice none 0 0)).cell? (ak 1 0)=some (eV (E 1)):=(aO _ _ _ _ (by show W.heap.size≠1;omega)).trans e1;clear RP hU b2 b3 hc;go_region
    all_goals go_wp2_with fail
    all_goals refine bodyPost_ret (v:=.tuple #[.agg #[.slice none 0 0],eV (E 1)]) (by simp[results,results195,go_sem,u0]) rfl ⟨?_,below_drewN ((aH bWr b4).setCell ai _) 1⟩
    all_goals rw[HA.out]
    all_goals exact⟨_,rfl,by decide,by decide,.inl rfl⟩
   |some q=>
    rw[hq] at RP;have HQ:=aj hq;have hqc:=a2g hq;clear hq;go_upto_region 10 with(go_at_call 240;refine RP.mono ?_;rintro e w2 ⟨rfl,b2⟩);have b3:=bT w2 (.cells #[aa q.xn,aa q.xd,aa q.yn,aa q.yd] 168);have F3:=Four.new w2 (aa q.xn) (aa q.xd) (aa q.yn) (aa q.yd) 168;obtain⟨U,hU⟩:∃U,w2.alloc (.cells #[aa q.xn,aa q.xd,aa q.yn,aa q.yd] 168)=U:=⟨_,rfl⟩;obtain⟨BQ,hBQ⟩:∃b,w2.heap.size=b:=⟨_,rfl⟩;rw[hU] at b3 F3⊢;rw[hBQ] at F3⊢;have b4:=aH b2 b3;have b8:=aH hb b4;have hz8:=b8.size;have a4i:U.ownsRow w1.heap.size 168 4 (.slice ov k cv) k (eu L):=by
     have h:=HO.out.keep b4;unfold iM at h;rw[Rs.out] at h;exact h
    have hnb:=dW U (.cells #[aa q.xn,aa q.xd,aa q.yn,aa q.yd] 168);have YE:(U.alloc (.cells #[aa q.xn,aa q.xd,aa q.yn,aa q.yd] 168)).ownsRow w1.heap.size 168 4 (.slice ov k cv) k (eu L):=World.ownsRow.alloc a4i _;have HT:Hid ((ws.take (k+1)).mapM ptB=some (L++[q])):=UB HL.out HX.out HQ.out;obtain⟨f0,f1,f2,f3⟩:=F3;clear RP hU hBQ b2 b3 hc a4i r0 KR KV NR HPT;go_wp2_with(at_builtin;refine wpList_append_own _ rfl _ _ 130 rfl (w1.heap.size) 168 i0 (.agg #[aa 0,aa 0,aa 0,aa 0]) 4 32 underlying130 hi hz0 hz1 hz2 rfl (by decide) _ _ _ rfl YE _ _ _ (eu [q]) rfl (uQ [q]) (World.news_of_block hnb) (AB _) (by simp only[maxLen];omega) (by omega) (by simp;omega) ?_;intro v12 w12 YF a6e _)
    go_roundw
    case rel=>
     refine⟨k+1,L++[q],v12,rfl,by go_num,hlt,HT.out,fun a ha=>?_,by simp[Rs.out],?_,(b8.alloc hz8 _).grown a6e (by simp;omega) (Qd YE)⟩
     ·rcases List.mem_append.1 ha with h|h
      ·exact HC.out a h
      ·simp at h;rw[h];exact hqc
     ·rw[<- Rs.out] at YF;exact iM.app (m:=[q]) YF rfl
    case measure=>simp[intOf];omega
  ·have hltz:¬(k:Int)<(ws.length:Int):=by omega
   obtain rfl:k=ws.length:=by omega
   have HT:Hid (ws.mapM ptB=some L):=by
    have:=HL.out;rw[List.take_length] at this;exact this
   have hll:=Rs.out;have CK:=De L HC.out ov cv wr HPT.out NR;rw[hll] at CK;clear hll;have HAN:Hid (YD ws=if okB L then .ok L else .error 2):=by
    unfold YD Hid;rw[HT.out]
   go_upto_region 12 with fail;have RES:∀w2,Below wr.heap.size wr w2->w2.cell? ⟨W.heap.size,0,none⟩=some (.slice none 0 0)/\w2.frozen? ⟨W.heap.size,0,none⟩=false:=fun w2 b2=>by
    have:=(b2.block _ (bu KR)).trans KR;exact⟨aD this 0 _ rfl,dz this 0⟩
   clear r0 f0 KR KV;cases hok:okB L with
   |true=>
    have CK2:au 238 #[.slice ov ws.length cv] wr fun e w'=>e=.returned (.tuple #[.agg #[.slice ov ws.length cv],.nilIface])/\Below wr.heap.size wr w':=CK.mono fun e w' ⟨h,hb2⟩=>by
     rcases h with⟨-,h⟩|⟨h, -⟩
     ·rw[Rs.out] at h;exact⟨h,hb2⟩
     ·rw[hok] at h;cases h
    have Vv:=aj hok;clear CK hok;go_wp2_with(go_at_call 238;refine CK2.mono ?_;rintro e w2 ⟨rfl,b2⟩;obtain⟨u0,uf⟩:=RES w2 b2);refine bodyPost_ret (v:=.tuple #[.agg #[.slice ov ws.length cv],.nilIface]) (by simp[results,results195,go_sem,u0]) rfl ⟨?_,(aH bWr b2).setCell ai _⟩;rw[HAN.out,if_pos Vv.out];refine⟨HC.out,Vv.out,ov,cv,by rw[Rs.out],?_⟩;have ho:=(HO.out.keep b2).far (b:=W.heap.size) (u:=.slice ov ws.length cv) (by have:=bu K1;have:=uP.size;omega);obtain⟨o',c',h1,h2⟩:=ho.at_ (fun a ha=>Ae (HC.out a ha));injection h1 with h1;subst h1;exact h2
   |false=>
    have CK2:au 238 #[.slice ov ws.length cv] wr fun e w'=>(∃v,e=.returned (.tuple #[.agg #[.slice none 0 0],v])/\Nj E 2 v w')/\Below wr.heap.size wr w':=CK.mono fun e w' ⟨h,hb2⟩=>by
     rcases h with⟨h, -⟩|⟨-,h⟩
     ·rw[hok] at h;cases h
     ·exact⟨h,hb2⟩
    have Vv:Hid (¬okB L=true):=by show¬_;rw[hok];simp
    clear CK hok;go_wp2_with(go_at_call 238;refine CK2.mono ?_;rintro e w2 ⟨⟨v,rfl,hv⟩,b2⟩;obtain⟨u0,uf⟩:=RES w2 b2);refine bodyPost_ret (v:=.tuple #[.agg #[.slice none 0 0],v]) (by simp[results,results195,go_sem,u0]) rfl ⟨?_,(aH bWr b2).setCell ai _⟩;rw[HAN.out,if_neg Vv.out];exact⟨v,rfl,hv.far⟩
theorem Pf (hN:NE E W)(s:Bs)(hs:s.length<=1000):
  au 195 #[bV s] W fun e w'=>mJ E (Cm s) e w'/\Below W.heap.size W w':=by
 unfold Cm;by_cases h0:s=[]
 ·subst h0;rw[if_pos rfl];clear hN;go_enter func195,ntmps195;go_wp2;have b0:=bT W (.cells #[.slice none 0 0] 132);refine bodyPost_ret (v:=.tuple #[.agg #[.slice none 0 0],.nilIface]) (by simp[results,results195,go_sem]) rfl ⟨⟨by simp,rfl,none,0,rfl,fun i x h=>by simp at h⟩,b0⟩
 ·rw[if_neg h0];have h:=Mf hN ⟨s.toArray⟩ hs (fun h=>h0 (iC.1 h));have e:(fun(w:aC)=>ptM w.toList)=ptB:=by
   funext w;unfold ptB;rw[ByteArray.toList_eq]
  rw[e];exact h
end
end
section
open Go.RowKit Go.Shelf
theorem a2h {w:ag}{b:Nat}{a:Option Addr}{n c:Nat}{t:TypeId}{u:ah}{o:Option Addr}{l:List Qt}(hk:w.heap[b]? =some (.cells #[.slice a n c] t))(h:fH w o l):fH (w.setCell ⟨b,0,none⟩ u) o l:=fun i x hx=>by
 obtain⟨b',off,h1,h2⟩:=h i x hx;obtain⟨c0,c1,c2,c3,hp⟩:=h2;have hne:b≠b':=by
  rintro rfl;simp only[World.cell?,hk] at c0;have hi:off+i*4<(#[Value.slice a n c]:Array ah).size:=(cZ.1 c0).1;have h0:off+i*4=0:=by simpa using hi
  rw[h0] at c0;simp at c0
 have F:=fun(k:Nat)=>aO w ⟨b,0,none⟩ ⟨b',k,none⟩ u hne;exact⟨b',off,h1,(F _).trans c0,(F _).trans c1,(F _).trans c2,(F _).trans c3,hp⟩
theorem mJ.far {E:Nat->Addr}{x:Except Nat (List Qt)}{e:Ending}{w:ag}{b:Nat}{a:Option Addr}{n c:Nat}{t:TypeId}{u:ah}(h:mJ E x e w)(hk:w.heap[b]? =some (.cells #[.slice a n c] t)):mJ E x e (w.setCell ⟨b,0,none⟩ u):=by
 cases x with
 |error k=>
  obtain⟨v,h1,h2⟩:=h;exact⟨v,h1,h2.far⟩
 |ok l=>
  obtain⟨h0,h1,o,cap,h2,h3⟩:=h;exact⟨h0,h1,o,cap,h2,a2h hk h3⟩
theorem mJ.is {E:Nat->Addr}{x:Except Nat (List Qt)}{e:Ending}{w:ag}(h:mJ E x e w):∃o n c v,e=.returned (.tuple #[.agg #[.slice o n c],v]):=by
 cases x with
 |error k=>obtain⟨v,h1, -⟩:=h;exact⟨_,_,_,_,h1⟩
 |ok l=>obtain⟨-, -,o,cap,h1, -⟩:=h;exact⟨_,_,_,_,h1⟩
section
variable {E:Nat->Addr}{B:Nat}{tg:bP}{W:ag}{DB MB:Nat}{p:Int->Option Nat}{M:Dm}{nx c:Nat}
theorem Pg (hN:NE E W)(hd:aX B tg W DB MB p M nx c)(hz:SzD M)(WB:Nat)(hw:W.cell? (ak WB 0)=some (ay DB))(n:Int)(hn:dR n):
  au 143 #[ay WB,aa n] W fun e w'=>mJ E (FZ M n) e w'/\Below W.heap.size W w':=by
 have b0:=bT W (.cells #[.slice none 0 0] 132);have K0:=dw W #[.slice none 0 0] 132;have AT:=jP (hd.below b0) n hn wO;have hw0:=(b0.cell (aF hw)).trans hw;rw[rQ] at AT;have hl:=Ma hz n wO;unfold FZ;unfold I4 at hl⊢;generalize (zQ M n wO).getD []=s at AT hl⊢;generalize (zQ M n wO).isSome=bo at AT;have RD:=fun V (hV:NE E V)=>Pf hV s (by omega);generalize Cm s=x at RD⊢;have HN:=aj hN;clear hd hN;go_enter func143,ntmps143;go_wp2_with(first|(go_at_call 137;refine AT.mono ?_;rintro e w1 ⟨rfl,b1⟩;have R1:=RD w1 (HN.out.below (aH b0 b1)))|(go_at_call 195;refine R1.mono ?_;rintro e w2 ⟨h2,b2⟩;obtain⟨ro,rn,rc,rv,rfl⟩:=h2.is;have K2:=((aH b1 b2).block _ (bu K0)).trans K0;have u0:=aD K2 0 _ rfl;have uf:=dz K2 0));refine bodyPost_ret (v:=.tuple #[.agg #[.slice ro rn rc],rv]) (by simp[results,results143,go_sem,u0]) rfl ⟨h2.far K2,(aH b0 (aH b1 b2)).setCell ai _⟩
end
end
section
open Go.RowKit Go.Shelf
set_option maxRecDepth 20000
theorem a6g {E:Nat->Addr}(xn xd yn yd wn wd hn hd:Int)(w:ag)(cx0:dH xn xd=0)(cy0:dH yn yd=0)(cw0:dH wn wd=0)(ch0:dH hn hd=0)(hN:NE E w):
  au 194 #[.agg #[aa xn,aa xd],.agg #[aa yn,aa yd],.agg #[aa wn,aa wd],.agg #[aa hn,aa hd]] w fun e W=>mJ E (pO ⟨xn,xd,0⟩ ⟨yn,yd,0⟩ ⟨wn,wd,0⟩ ⟨hn,hd,0⟩) e W/\Below w.heap.size w W:=by
 obtain⟨hx1,hx2⟩:=gV cx0;obtain⟨hy1,hy2⟩:=gV cy0;obtain⟨hw1,hw2⟩:=gV cw0;obtain⟨ug,hh2⟩:=gV ch0;have HNE:=aj hN;have hE:=hN.e3;have HC4:Hid (dH xn xd=0/\dH yn yd=0/\dH wn wd=0/\dH hn hd=0):=⟨cx0,cy0,cw0,ch0⟩;obtain⟨ans,oF⟩:∃a,pO ⟨xn,xd,0⟩ ⟨yn,yd,0⟩ ⟨wn,wd,0⟩ ⟨hn,hd,0⟩=a:=⟨_,rfl⟩;rw[oF];have HAN:=aj oF;clear hN cx0 cy0 cw0 ch0 oF;go_enter func194,ntmps194;go_wp2;obtain⟨U,hU⟩:∃U,(((((w.alloc (.cells #[aa xn,aa xd] 123)).alloc (.cells #[aa yn,aa yd] 123)).alloc (.cells #[aa wn,aa wd] 123)).alloc (.cells #[aa hn,aa hd] 123)).alloc (.cells #[.slice none 0 0] 132)).alloc (.cells #[aa xn,aa xd,aa yn,aa yd,aa wn,aa wd,aa hn,aa hd] 123)=U:=⟨_,rfl⟩;obtain⟨k0,k1,k2,k3,k4,k5,u7⟩:=aa8 w _ _ _ _ _ _ U hU;rw[hU];clear hU;have Nc:=hE.below u7 ai;obtain⟨L,hL⟩:∃L:List (Int×Int),L=[(xn,xd),(yn,yd),(wn,wd),(hn,hd)]:=⟨_,rfl⟩;have hLl:L.length=4:=by rw[hL];rfl
 have hLc:∀j n d,L[j]? =some (n,d)->U.cell? ⟨w.heap.size+1+1+1+1+1,j*2,none⟩=some (aa n)/\U.cell? ⟨w.heap.size+1+1+1+1+1,j*2+1,none⟩=some (aa d)/\jH n/\jH d:=fun j n d hj=>by
  rw[hL] at hj
  match j,hj with
  |0,hj=>cases hj;exact⟨aK k5 0 _ rfl,aK k5 1 _ rfl,hx1,hx2⟩
  |1,hj=>cases hj;exact⟨aK k5 2 _ rfl,aK k5 3 _ rfl,hy1,hy2⟩
  |2,hj=>cases hj;exact⟨aK k5 4 _ rfl,aK k5 5 _ rfl,hw1,hw2⟩
  |3,hj=>cases hj;exact⟨aK k5 6 _ rfl,aK k5 7 _ rfl,ug,hh2⟩
  |(j+4),hj=>simp at hj
 have HL:=aj hL;have HLC:Hid _:=hLc;have Rs:=aj hLl;clear hL hLc hLl k5
 go_loopw [22] (fun y wr=>∃k:Nat,k<=4/\y=aa k/\(∀j n d,j<k->L[j]? =some (n,d)->dH n d=0)/\Below U.heap.size U wr) (fun y _=>4-(intOf y).toNat)
 case atStart=>exact⟨0,by omega,rfl,fun j n d hj=>by omega,aG _ _⟩
 case round=>
  obtain⟨k,hk,rfl,hall,hb⟩:=hrel;have HA:=aj hall;clear hall;by_cases hlt:k<4
  ·have hlt':(k:Int)<4:=by omega
   obtain⟨⟨n,d⟩,hnd⟩:∃x,L[k]? =some x:=⟨_,dK (by have:=Rs.out;omega)⟩;obtain⟨c0,c1,hn',hd'⟩:=HLC.out k n d hnd;have c0:=(hb.cell (aF c0)).trans c0;have c1:=(hb.cell (aF c1)).trans c1;have HN:=aj hnd;have hbx:=bg wr (.cells #[aa n,aa d] 123);have aag:=aA hb hbx;have CK:=iR (E 2) (E 3) (E 2) n d (wr.alloc (.cells #[aa n,aa d] 123)) hn' hd' (Nc.below aag ai);clear hnd;by_cases hc:dH n d=0
   ·rw[hc] at CK;have HC:=aj hc;clear hc;go_wp2_with(go_at_call 133;refine CK.mono ?_;rintro e w1 ⟨rfl,b1⟩;simp only[qM])
    go_roundw
    case rel=>exact⟨k+1,by omega,by go_num,fun j n' d' hj hj2=>by
     rcases Nat.lt_or_ge j k with h|h
     ·exact HA.out j n' d' h hj2
     ·obtain rfl:j=k:=by omega
      have:=HN.out.symm.trans hj2;cases this;exact HC.out,aA aag b1⟩
    case measure=>simp[intOf];omega
   ·exfalso;apply hc;have h1:=HN.out;rw[HL.out] at h1;obtain⟨q1,q2,q3,q4⟩:=HC4.out
    match k,h1 with
    |0,h1=>cases h1;exact q1
    |1,h1=>cases h1;exact q2
    |2,h1=>cases h1;exact q3
    |3,h1=>cases h1;exact q4
    |(j+4),h1=>simp at h1
  ·obtain rfl:k=4:=by omega
   have h4:=HA.out;rw[HL.out] at h4;have cx:dH xn xd=0:=h4 0 xn xd (by omega) rfl;have cy:dH yn yd=0:=h4 1 yn yd (by omega) rfl;have cw:dH wn wd=0:=h4 2 wn wd (by omega) rfl;have ch:dH hn hd=0:=h4 3 hn hd (by omega) rfl;clear h4 HA;have hEr:=Nc.below hb ai;have lt:=fun{b:Nat} {o:Obj} (h:U.heap[b]? =some o)=>(cZ.1 h).1;have j0:=(hb.block _ (lt k0)).trans k0;have j1:=(hb.block _ (lt k1)).trans k1;have j2:=(hb.block _ (lt k2)).trans k2;have j3:=(hb.block _ (lt k3)).trans k3;have j4:=(hb.block _ (lt k4)).trans k4;have bWr:=aA u7 hb;clear lt k0 k1 k2 k3 k4 HL HLC Rs;have AX:=Ap (E 2) (E 3) (E 2) xn xd wn wd wr hx1 hx2 hw1 hw2 hEr;have a0:=aK j0 0 _ rfl;have a1:=aK j0 1 _ rfl;have a2:=aK j2 0 _ rfl;have a3:=aK j2 1 _ rfl;obtain⟨Xn,Xd,c,hadd⟩:∃n d c,add xn xd wn wd=⟨n,d,c⟩:=⟨_,_,_,rfl⟩;rw[hadd] at AX;have HX:=aj hadd;clear hadd;go_upto_region 9 with(go_at_call 237;refine AX.mono ?_;rintro e w1 ⟨rfl,b1⟩);have hc1:=a4h cx cw;rw[HX.out] at hc1;have hc1:c=0\/c=2:=hc1;have b2:=bg w1 (.cells #[aa Xn,aa Xd] 123);have kX:=dW w1 (.cells #[aa Xn,aa Xd] 123);obtain⟨V,hV⟩:∃V,w1.alloc (.cells #[aa Xn,aa Xd] 123)=V:=⟨_,rfl⟩;obtain⟨BX,hBX⟩:∃B,w1.heap.size=B:=⟨_,rfl⟩;rw[hV] at b2 kX⊢;have bV:=aA b1 b2;rw[hBX] at kX⊢;clear hV hBX b2 b1 AX a0 a1 a2 a3;have lt:=fun{b:Nat} {o:Obj} (h:wr.heap[b]? =some o)=>(cZ.1 h).1;have j0:=(bV.block _ (lt j0)).trans j0;have j1:=(bV.block _ (lt j1)).trans j1;have j3:=(bV.block _ (lt j3)).trans j3;have j4:=(bV.block _ (lt j4)).trans j4;have bWV:=aA bWr bV;have hEV:=hEr.below bV ai;clear lt;have f4:=dz j4 0;have q4:=aK j4 0 _ rfl;rcases hc1 with rfl|rfl
   ·simp only[qM];have AY:=Ap (E 2) (E 3) (E 2) yn yd hn hd V hy1 hy2 ug hh2 hEV;obtain⟨Yn,Yd,c,hadd⟩:∃n d c,add yn yd hn hd=⟨n,d,c⟩:=⟨_,_,_,rfl⟩;rw[hadd] at AY;have HY:=aj hadd;clear hadd;have a0:=aK j1 0 _ rfl;have a1:=aK j1 1 _ rfl;have a2:=aK j3 0 _ rfl;have a3:=aK j3 1 _ rfl;go_upto_region 12 with(go_at_call 237;refine AY.mono ?_;rintro e w2 ⟨rfl,b3⟩);have hc2:=a4h cy ch;rw[HY.out] at hc2;have hc2:c=0\/c=2:=hc2;have b4:=bg w2 (.cells #[aa Yn,aa Yd] 123);have kY:=dW w2 (.cells #[aa Yn,aa Yd] 123);obtain⟨V2,hV2⟩:∃V,w2.alloc (.cells #[aa Yn,aa Yd] 123)=V:=⟨_,rfl⟩;obtain⟨BY,hBY⟩:∃B,w2.heap.size=B:=⟨_,rfl⟩;rw[hV2] at b4 kY⊢;have bV2:=aA b3 b4;rw[hBY] at kY⊢;clear hV2 hBY b4 b3 AY a0 a1 a2 a3 q4 f4;have lt:=fun{b:Nat} {o:Obj} (h:V.heap[b]? =some o)=>(cZ.1 h).1;have j0:=(bV2.block _ (lt j0)).trans j0;have j1:=(bV2.block _ (lt j1)).trans j1;have j4:=(bV2.block _ (lt j4)).trans j4;have kX:=(bV2.block _ (lt kX)).trans kX;have a6h:=aA bWV bV2;have alD:=hEV.below bV2 ai;clear lt;rcases hc2 with rfl|rfl
    ·simp only[qM];have cX:=(Al.1 HX.out).2.2.1;have cY:=(Al.1 HY.out).2.2.1;have iX:=gV cX;have iY:=gV cY;have x0:=aK j0 0 _ rfl;have x1:=aK j0 1 _ rfl;have y0:=aK j1 0 _ rfl;have y1:=aK j1 1 _ rfl;have X0:=aK kX 0 _ rfl;have X1:=aK kX 1 _ rfl;have Y0:=aK kY 0 _ rfl;have Y1:=aK kY 1 _ rfl;have b5:=bg V2 (.cells #[aa xn,aa xd,aa yn,aa yd,aa Xn,aa Xd,aa yn,aa yd,aa Xn,aa Xd,aa Yn,aa Yd,aa xn,aa xd,aa Yn,aa Yd] 168);have kL:=dW V2 (.cells #[aa xn,aa xd,aa yn,aa yd,aa Xn,aa Xd,aa yn,aa yd,aa Xn,aa Xd,aa Yn,aa Yd,aa xn,aa xd,aa Yn,aa Yd] 168);have hP:=VS (a0:=⟨xn,xd,yn,yd⟩) (a1:=⟨Xn,Xd,yn,yd⟩) (a2:=⟨Xn,Xd,Yn,Yd⟩) (a3:=⟨xn,xd,Yn,Yd⟩) kL ⟨hx1,hx2,hy1,hy2⟩ ⟨iX.1,iX.2,hy1,hy2⟩ ⟨iX.1,iX.2,iY.1,iY.2⟩ ⟨hx1,hx2,iY.1,iY.2⟩;have hR4:∀y∈NC xn xd yn yd Xn Xd Yn Yd,fT y=0:=fun y hy=>by
      simp only[NC,List.mem_cons,List.not_mem_nil,or_false] at hy;rcases hy with rfl|rfl|rfl|rfl
      ·exact gF.2 ⟨cx,cy⟩
      ·exact gF.2 ⟨cX,cy⟩
      ·exact gF.2 ⟨cX,cY⟩
      ·exact gF.2 ⟨cx,cY⟩
     have CK:=De (NC xn xd yn yd Xn Xd Yn Yd) hR4 (some ⟨V2.heap.size,0,none⟩) 4 _ hP (HNE.out.below (aA a6h b5));have HR4:=aj hR4;clear hR4;have j4':=(b5.block _ (cZ.1 j4).1).trans j4;go_wp2_with(go_at_call 238;refine CK.mono ?_;rintro e w3 ⟨hck,b6⟩;have aai:=(b6.block _ (cZ.1 j4').1).trans j4';have q4:=aK aai 0 _ rfl;have f4:=dz aai 0;obtain⟨os,ns,cs,v,rfl,hsv⟩:∃os ns cs v,e=.returned (.tuple #[.agg #[.slice os ns cs],v])/\((okB (NC xn xd yn yd Xn Xd Yn Yd)=true/\os=some ⟨V2.heap.size,0,none⟩/\ns=4/\cs=4/\v=.nilIface)\/(okB (NC xn xd yn yd Xn Xd Yn Yd)=false/\os=none/\ns=0/\cs=0/\Nj E 2 v w3)):=(by rcases hck with⟨h1,rfl⟩|⟨h1,v,rfl,h2⟩;exact⟨_,_,_,_,rfl,.inl ⟨h1,rfl,rfl,rfl,rfl⟩⟩;exact⟨_,_,_,_,rfl,.inr ⟨h1,rfl,rfl,rfl,h2⟩⟩));have d4:(w3.setCell ⟨w.heap.size+1+1+1+1,0,none⟩ (.slice os ns cs)).cell? ⟨w.heap.size+1+1+1+1,0,none⟩=some (.slice os ns cs):=fM _ _ _ (by rw[q4];rfl);have bz:=aA (aA a6h b5) b6;refine bodyPost_ret (v:=.tuple #[.agg #[.slice os ns cs],v]) (by simp[results,results194,go_sem,d4]) rfl ⟨?_,bz.setCell (by simp;omega) _⟩;rcases hsv with⟨hok,rfl,rfl,rfl,rfl⟩|⟨hok,rfl,rfl,rfl,hv⟩
     ·rw[<- HAN.out];unfold pO;simp only[HX.out,HY.out,hok,and_self,if_true];refine⟨HR4.out,hok,_,_,rfl,?_⟩;have hP3:=hP.below b6 ai;have hne:V2.heap.size≠w.heap.size+1+1+1+1:=by have:=(cZ.1 j4).1;omega
      intro i a ha;obtain⟨b,off,h1,c0,c1,c2,c3,hpi⟩:=hP3 i a ha;cases h1;have far:∀k v,w3.cell? ⟨V2.heap.size,k,none⟩=some v->(w3.setCell ⟨w.heap.size+1+1+1+1,0,none⟩ (.slice (some ⟨V2.heap.size,0,none⟩) 4 4)).cell? ⟨V2.heap.size,k,none⟩=some v:=fun k v hv=>by
       rw[aO _ _ _ _ (by simp;exact fun e=>hne e.symm)];exact hv
      exact⟨_,0,rfl,far _ _ c0,far _ _ c1,far _ _ c2,far _ _ c3,hpi⟩
     ·rw[<- HAN.out];unfold pO;simp only[HX.out,HY.out,hok,and_false,if_false,Bool.false_eq_true];exact⟨v,rfl,hv.far⟩
    ·have e2:er (E 2) (E 3) (E 2) 2=.iface 401 (.pointer (some (E 2))):=rfl;simp only[e2];have f4:=dz j4 0;have q4:=aK j4 0 _ rfl;have d4:(V2.setCell ⟨w.heap.size+1+1+1+1,0,none⟩ (.slice none 0 0)).cell? ⟨w.heap.size+1+1+1+1,0,none⟩=some (.slice none 0 0):=fM _ _ _ (by rw[q4];rfl);go_wp2_with fail;exact bodyPost_ret (v:=.tuple #[.agg #[.slice none 0 0],.iface 401 (.pointer (some (E 2)))]) (by simp[results,results194,go_sem,d4]) rfl ⟨by rw[<- HAN.out];unfold pO;rw[if_neg (by rw[HY.out];simp)];exact⟨_,rfl,by decide,by decide,.inl rfl⟩,a6h.setCell (by simp;omega) _⟩
   ·have e2:er (E 2) (E 3) (E 2) 2=.iface 401 (.pointer (some (E 2))):=rfl;simp only[e2];have f4:=dz j4 0;have q4:=aK j4 0 _ rfl;have d4:(V.setCell ⟨w.heap.size+1+1+1+1,0,none⟩ (.slice none 0 0)).cell? ⟨w.heap.size+1+1+1+1,0,none⟩=some (.slice none 0 0):=fM _ _ _ (by rw[q4];rfl);go_wp2_with fail;exact bodyPost_ret (v:=.tuple #[.agg #[.slice none 0 0],.iface 401 (.pointer (some (E 2)))]) (by simp[results,results194,go_sem,d4]) rfl ⟨by rw[<- HAN.out];unfold pO;rw[if_neg (by rw[HX.out];simp)];exact⟨_,rfl,by decide,by decide,.inl rfl⟩,bWV.setCell (by simp;omega) _⟩
theorem dY.aaj {w:ag}{R:Nat}{cs:Array ah}{t:TypeId}(h:dY w R cs t)(i:Nat)(v:ah):dY (w.setCell ⟨R,i,none⟩ v) R (cs.setIfInBounds i v) t:=⟨heap_setCell_same w R i cs t v h.h⟩
theorem dY.a2j {w:ag}{R:Nat}{cs:Array ah}{t:TypeId}(h:dY w R cs t)(i:Nat)(a b:ah):dY ((w.setCell ⟨R,i,none⟩ a).setCell ⟨R,i+1,none⟩ b) R ((cs.setIfInBounds i a).setIfInBounds (i+1) b) t:=(h.aaj i a).aaj (i+1) b
theorem tq (M:Dm)(n:Int)(nm:Bs)(h:(fJ M n nm).c=0):dH (fJ M n nm).n (fJ M n nm).d=0:=by
 unfold fJ at h⊢;cases ha:zQ M n nm with
 |none=>exact Uz (by decide) (by decide)
 |some s=>rw[ha] at h;exact QE h
theorem tu (M:Dm)(n:Int)(nm:Bs):(fJ M n nm).c=0\/(fJ M n nm).c=1\/(fJ M n nm).c=2\/(fJ M n nm).c=3:=by
 unfold fJ;cases ha:zQ M n nm with
 |none=>exact .inl rfl
 |some s=>exact Pd s
def yo (fx fy fu fv:R3)(ans:Except Nat (List Qt)):Except Nat (List Qt):=if fx.c≠0 then .error fx.c else if fy.c≠0 then .error fy.c else if fu.c≠0 then .error fu.c else if fv.c≠0 then .error fv.c else ans
section
variable {E:Nat->Addr}{B:Nat}{tg:bP}{W:ag}{DB MB:Nat}{p:Int->Option Nat}{M:Dm}{nx c:Nat}
theorem Ph (WB:Nat)(n:Int)(fx fy fu fv:R3)(ans:Except Nat (List Qt))(hN:NE E W)
  (hx:fx.c=0\/fx.c=1\/fx.c=2\/fx.c=3) (hy:fy.c=0\/fy.c=1\/fy.c=2\/fy.c=3) (hu:fu.c=0\/fu.c=1\/fu.c=2\/fu.c=3) (hv:fv.c=0\/fv.c=1\/fv.c=2\/fv.c=3)
  (F0:∀V,Below W.heap.size W V->au 193 #[ay WB,aa n,.string ⟨#[120]⟩] V fun e w'=>e=.returned (.tuple #[.agg #[aa fx.n,aa fx.d],Nf (E 1) (E 2) (E 3) (E 2) fx.c])/\Below V.heap.size V w')
  (F1:∀V,Below W.heap.size W V->au 193 #[ay WB,aa n,.string ⟨#[121]⟩] V fun e w'=>e=.returned (.tuple #[.agg #[aa fy.n,aa fy.d],Nf (E 1) (E 2) (E 3) (E 2) fy.c])/\Below V.heap.size V w')
  (F2:∀V,Below W.heap.size W V->au 193 #[ay WB,aa n,.string ⟨#[119]⟩] V fun e w'=>e=.returned (.tuple #[.agg #[aa fu.n,aa fu.d],Nf (E 1) (E 2) (E 3) (E 2) fu.c])/\Below V.heap.size V w')
  (F3:∀V,Below W.heap.size W V->au 193 #[ay WB,aa n,.string ⟨#[104]⟩] V fun e w'=>e=.returned (.tuple #[.agg #[aa fv.n,aa fv.d],Nf (E 1) (E 2) (E 3) (E 2) fv.c])/\Below V.heap.size V w')
  (FB:fx.c=0->fy.c=0->fu.c=0->fv.c=0->∀V,NE E V->au 194 #[.agg #[aa fx.n,aa fx.d],.agg #[aa fy.n,aa fy.d],.agg #[aa fu.n,aa fu.d],.agg #[aa fv.n,aa fv.d]] V fun e w'=>mJ E ans e w'/\Below V.heap.size V w'):
  au 142 #[ay WB,aa n] W fun e w'=>mJ E (yo fx fy fu fv ans) e w'/\Below W.heap.size W w':=by
 have b0:=bT W (.cells #[.slice none 0 0] 132);have K0:=dw W #[.slice none 0 0] 132;have b1:=bT (W.alloc (.cells #[.slice none 0 0] 132)) (.cells #[aa 0,aa 0,aa 0,aa 0,aa 0,aa 0,aa 0,aa 0] 285);have S0:=dY.new (W.alloc (.cells #[.slice none 0 0] 132)) #[aa 0,aa 0,aa 0,aa 0,aa 0,aa 0,aa 0,aa 0] 285;have K1:=(b1.block _ (bu K0)).trans K0;have bV:=aH b0 b1;have hsz:(W.alloc (.cells #[.slice none 0 0] 132)).heap.size=W.heap.size+1:=by simp
 rw[hsz] at S0;clear hsz b0 b1 K0;have HN:=aj hN;clear hN;go_enter func142,ntmps142;go_upto_region 3 with fail;obtain⟨V0,Jd⟩:∃V,(W.alloc (.cells #[.slice none 0 0] 132)).alloc (.cells #[aa 0,aa 0,aa 0,aa 0,aa 0,aa 0,aa 0,aa 0] 285)=V:=⟨_,rfl⟩;rw[Jd] at S0 K1 bV⊢;clear Jd;have x0:∀w:ag,(Instr.index 286 (.agg #[.string ⟨#[120]⟩,.string ⟨#[121]⟩,.string ⟨#[119]⟩,.string ⟨#[104]⟩]) (aa 0)).run prog w=.ok (.string ⟨#[120]⟩) w:=fun w=>by kernel_rfl
 have x1:∀w:ag,(Instr.index 286 (.agg #[.string ⟨#[120]⟩,.string ⟨#[121]⟩,.string ⟨#[119]⟩,.string ⟨#[104]⟩]) (aa 1)).run prog w=.ok (.string ⟨#[121]⟩) w:=fun w=>by kernel_rfl
 have x2:∀w:ag,(Instr.index 286 (.agg #[.string ⟨#[120]⟩,.string ⟨#[121]⟩,.string ⟨#[119]⟩,.string ⟨#[104]⟩]) (aa 2)).run prog w=.ok (.string ⟨#[119]⟩) w:=fun w=>by kernel_rfl
 have x3:∀w:ag,(Instr.index 286 (.agg #[.string ⟨#[120]⟩,.string ⟨#[121]⟩,.string ⟨#[119]⟩,.string ⟨#[104]⟩]) (aa 3)).run prog w=.ok (.string ⟨#[104]⟩) w:=fun w=>by kernel_rfl
 refine wp_loop_rounds 5 ?_;rw[rounds_succ];have C0:=F0 V0 bV;by_cases g0:fx.c=0
 rotate_left
 ·have h3:fx.c=1\/fx.c=2\/fx.c=3:=hx.resolve_left g0;rw[ym h3] at C0;have H3:=aj h3;have HA:=aj g0;clear h3;go_wp2_with(go_at_call 193;refine C0.mono ?_;rintro e w1 ⟨rfl,b2⟩;have Kw:=((aH b2 (bT w1 (.cells #[aa fx.n,aa fx.d] 123))).block _ (bu K1)).trans K1;have u0:=aD Kw 0 _ rfl;have uf:=dz Kw 0);refine bodyPost_ret (v:=.tuple #[.agg #[.slice none 0 0],eV (E fx.c)]) (by simp[results,results142,go_sem,u0]) rfl ⟨?_,(aH bV (aH b2 (bT w1 _))).setCell ai _⟩;unfold yo;rw[if_pos HA.out];exact⟨_,rfl,by have:=H3.out;omega,by have:=H3.out;omega,.inl rfl⟩
 rw[g0,qg] at C0;go_wp2_with(go_at_call 193;refine C0.mono ?_;rintro e w1 ⟨rfl,b2⟩;have b3:=aH b2 (bT w1 (.cells #[aa fx.n,aa fx.d] 123));have T1:=(b3.block _ S0.lt).trans S0.h;have u0:=aK T1 0 _ rfl;have u1:=aK T1 1 _ rfl;have v0:=dz T1 0;have v1:=dz T1 1);obtain⟨V1,hV1⟩:∃V,(((w1.alloc (.cells #[aa fx.n,aa fx.d] 123)).setCell ⟨W.heap.size+1,0,none⟩ (aa fx.n)).setCell ⟨W.heap.size+1,1,none⟩ (aa fx.d))=V:=⟨_,rfl⟩;have S0:dY V1 (W.heap.size+1) #[aa fx.n,aa fx.d,aa 0,aa 0,aa 0,aa 0,aa 0,aa 0] 285:=by
  rw[<- hV1];exact(dY.mk T1).a2j 0 _ _
 have K1:V1.heap[W.heap.size]? =some (.cells #[.slice none 0 0] 132):=by
  rw[<- hV1,aY _ _ _ _ (by simp),aY _ _ _ _ (by simp)];exact(b3.block _ (bu K1)).trans K1
 have bV:Below W.heap.size W V1:=by
  rw[<- hV1];exact((aH bV b3).setCell (by simp) _).setCell (by simp) _
 rw[hV1];clear hV1 T1 u0 u1 v0 v1 b2 b3 C0;rw[rounds_succ];have C1:=F1 V1 bV;by_cases g1:fy.c=0
 rotate_left
 ·have h3:fy.c=1\/fy.c=2\/fy.c=3:=hy.resolve_left g1;rw[ym h3] at C1;have H3:=aj h3;have HA:=aj g1;clear h3;go_wp2_with(go_at_call 193;refine C1.mono ?_;rintro e w1 ⟨rfl,b2⟩;have Kw:=((aH b2 (bT w1 (.cells #[aa fy.n,aa fy.d] 123))).block _ (bu K1)).trans K1;have u0:=aD Kw 0 _ rfl;have uf:=dz Kw 0);refine bodyPost_ret (v:=.tuple #[.agg #[.slice none 0 0],eV (E fy.c)]) (by simp[results,results142,go_sem,u0]) rfl ⟨?_,(aH bV (aH b2 (bT w1 _))).setCell ai _⟩;unfold yo;rw[if_neg (by simp[g0]),if_pos HA.out];exact⟨_,rfl,by have:=H3.out;omega,by have:=H3.out;omega,.inl rfl⟩
 rw[g1,qg] at C1;go_wp2_with(go_at_call 193;refine C1.mono ?_;rintro e w1 ⟨rfl,b2⟩;have b3:=aH b2 (bT w1 (.cells #[aa fy.n,aa fy.d] 123));have T1:=(b3.block _ S0.lt).trans S0.h;have u0:=aK T1 2 _ rfl;have u1:=aK T1 3 _ rfl;have v0:=dz T1 2;have v1:=dz T1 3);obtain⟨V2,hV2⟩:∃V,(((w1.alloc (.cells #[aa fy.n,aa fy.d] 123)).setCell ⟨W.heap.size+1,2,none⟩ (aa fy.n)).setCell ⟨W.heap.size+1,3,none⟩ (aa fy.d))=V:=⟨_,rfl⟩;have S0:dY V2 (W.heap.size+1) #[aa fx.n,aa fx.d,aa fy.n,aa fy.d,aa 0,aa 0,aa 0,aa 0] 285:=by
  rw[<- hV2];exact(dY.mk T1).a2j 2 _ _
 have K1:V2.heap[W.heap.size]? =some (.cells #[.slice none 0 0] 132):=by
  rw[<- hV2,aY _ _ _ _ (by simp),aY _ _ _ _ (by simp)];exact(b3.block _ (bu K1)).trans K1
 have bV:Below W.heap.size W V2:=by
  rw[<- hV2];exact((aH bV b3).setCell (by simp) _).setCell (by simp) _
 rw[hV2];clear hV2 T1 u0 u1 v0 v1 b2 b3 C1;rw[rounds_succ];have C2:=F2 V2 bV;by_cases g2:fu.c=0
 rotate_left
 ·have h3:fu.c=1\/fu.c=2\/fu.c=3:=hu.resolve_left g2;rw[ym h3] at C2;have H3:=aj h3;have HA:=aj g2;clear h3;go_wp2_with(go_at_call 193;refine C2.mono ?_;rintro e w1 ⟨rfl,b2⟩;have Kw:=((aH b2 (bT w1 (.cells #[aa fu.n,aa fu.d] 123))).block _ (bu K1)).trans K1;have u0:=aD Kw 0 _ rfl;have uf:=dz Kw 0);refine bodyPost_ret (v:=.tuple #[.agg #[.slice none 0 0],eV (E fu.c)]) (by simp[results,results142,go_sem,u0]) rfl ⟨?_,(aH bV (aH b2 (bT w1 _))).setCell ai _⟩;unfold yo;rw[if_neg (by simp[g0]),if_neg (by simp[g1]),if_pos HA.out];exact⟨_,rfl,by have:=H3.out;omega,by have:=H3.out;omega,.inl rfl⟩
 rw[g2,qg] at C2;go_wp2_with(go_at_call 193;refine C2.mono ?_;rintro e w1 ⟨rfl,b2⟩;have b3:=aH b2 (bT w1 (.cells #[aa fu.n,aa fu.d] 123));have T1:=(b3.block _ S0.lt).trans S0.h;have u0:=aK T1 4 _ rfl;have u1:=aK T1 5 _ rfl;have v0:=dz T1 4;have v1:=dz T1 5);obtain⟨V3,LK⟩:∃V,(((w1.alloc (.cells #[aa fu.n,aa fu.d] 123)).setCell ⟨W.heap.size+1,4,none⟩ (aa fu.n)).setCell ⟨W.heap.size+1,5,none⟩ (aa fu.d))=V:=⟨_,rfl⟩;have S0:dY V3 (W.heap.size+1) #[aa fx.n,aa fx.d,aa fy.n,aa fy.d,aa fu.n,aa fu.d,aa 0,aa 0] 285:=by
  rw[<- LK];exact(dY.mk T1).a2j 4 _ _
 have K1:V3.heap[W.heap.size]? =some (.cells #[.slice none 0 0] 132):=by
  rw[<- LK,aY _ _ _ _ (by simp),aY _ _ _ _ (by simp)];exact(b3.block _ (bu K1)).trans K1
 have bV:Below W.heap.size W V3:=by
  rw[<- LK];exact((aH bV b3).setCell (by simp) _).setCell (by simp) _
 rw[LK];clear LK T1 u0 u1 v0 v1 b2 b3 C2;rw[rounds_succ];have C3:=F3 V3 bV;by_cases g3:fv.c=0
 rotate_left
 ·have h3:fv.c=1\/fv.c=2\/fv.c=3:=hv.resolve_left g3;rw[ym h3] at C3;have H3:=aj h3;have HA:=aj g3;clear h3;go_wp2_with(go_at_call 193;refine C3.mono ?_;rintro e w1 ⟨rfl,b2⟩;have Kw:=((aH b2 (bT w1 (.cells #[aa fv.n,aa fv.d] 123))).block _ (bu K1)).trans K1;have u0:=aD Kw 0 _ rfl;have uf:=dz Kw 0);refine bodyPost_ret (v:=.tuple #[.agg #[.slice none 0 0],eV (E fv.c)]) (by simp[results,results142,go_sem,u0]) rfl ⟨?_,(aH bV (aH b2 (bT w1 _))).setCell ai _⟩;unfold yo;rw[if_neg (by simp[g0]),if_neg (by simp[g1]),if_neg (by simp[g2]),if_pos HA.out];exact⟨_,rfl,by have:=H3.out;omega,by have:=H3.out;omega,.inl rfl⟩
 rw[g3,qg] at C3;go_wp2_with(go_at_call 193;refine C3.mono ?_;rintro e w1 ⟨rfl,b2⟩;have b3:=aH b2 (bT w1 (.cells #[aa fv.n,aa fv.d] 123));have T1:=(b3.block _ S0.lt).trans S0.h;have u0:=aK T1 6 _ rfl;have u1:=aK T1 7 _ rfl;have v0:=dz T1 6;have v1:=dz T1 7);obtain⟨V4,hV4⟩:∃V,(((w1.alloc (.cells #[aa fv.n,aa fv.d] 123)).setCell ⟨W.heap.size+1,6,none⟩ (aa fv.n)).setCell ⟨W.heap.size+1,7,none⟩ (aa fv.d))=V:=⟨_,rfl⟩;have S0:dY V4 (W.heap.size+1) #[aa fx.n,aa fx.d,aa fy.n,aa fy.d,aa fu.n,aa fu.d,aa fv.n,aa fv.d] 285:=by
  rw[<- hV4];exact(dY.mk T1).a2j 6 _ _
 have K1:V4.heap[W.heap.size]? =some (.cells #[.slice none 0 0] 132):=by
  rw[<- hV4,aY _ _ _ _ (by simp),aY _ _ _ _ (by simp)];exact(b3.block _ (bu K1)).trans K1
 have bV:Below W.heap.size W V4:=by
  rw[<- hV4];exact((aH bV b3).setCell (by simp) _).setCell (by simp) _
 rw[hV4];clear hV4 T1 u0 u1 v0 v1 b2 b3 C3;rw[rounds_succ];have BX:=FB g0 g1 g2 g3 V4 (HN.out.below bV);have s0:=S0.cell 0 _ rfl;have s1:=S0.cell 1 _ rfl;have s2:=S0.cell 2 _ rfl;have s3:=S0.cell 3 _ rfl;have s4:=S0.cell 4 _ rfl;have s5:=S0.cell 5 _ rfl;have s6:=S0.cell 6 _ rfl;have s7:=S0.cell 7 _ rfl;have HG:Hid (fx.c=0/\fy.c=0/\fu.c=0/\fv.c=0):=⟨g0,g1,g2,g3⟩;clear g0 g1 g2 g3;go_wp2_with(go_at_call 194;refine BX.mono ?_;rintro e w2 ⟨h2,b2⟩;obtain⟨ro,rn,rc,rv,rfl⟩:=h2.is;have K2:=(b2.block _ (bu K1)).trans K1;have u0:=aD K2 0 _ rfl;have uf:=dz K2 0);refine bodyPost_ret (v:=.tuple #[.agg #[.slice ro rn rc],rv]) (by simp[results,results142,go_sem,u0]) rfl ⟨?_,(aH bV b2).setCell ai _⟩;obtain⟨g0,g1,g2,g3⟩:=HG.out;unfold yo;rw[if_neg (by simp[g0]),if_neg (by simp[g1]),if_neg (by simp[g2]),if_neg (by simp[g3])];exact h2.far K2
theorem UC (hN:NE E W)(hd:aX B tg W DB MB p M nx c)(hz:SzD M)(WB:Nat)(hw:W.cell? (ak WB 0)=some (ay DB))(n:Int)(hn:dR n):
  au 142 #[ay WB,aa n] W fun e w'=>mJ E (XP M n) e w'/\Below W.heap.size W w':=by
 have F:=fun(nm:Bs) V (hV:Below W.heap.size W V)=>OZ (hN.below hV) (hd.below hV) hz WB ((hV.cell (aF hw)).trans hw) n hn nm;exact Ph WB n (fJ M n [120]) (fJ M n [121]) (fJ M n [119]) (fJ M n [104]) (pO (fJ M n [120]) (fJ M n [121]) (fJ M n [119]) (fJ M n [104])) hN (tu _ _ _) (tu _ _ _) (tu _ _ _) (tu _ _ _) (F [120]) (F [121]) (F [119]) (F [104])
  (fun h0 h1 h2 h3 V hV=>a6g _ _ _ _ _ _ _ _ V (tq _ _ _ h0) (tq _ _ _ h1) (tq _ _ _ h2) (tq _ _ _ h3) hV)
end
def UD (E:Nat->Addr)(m:Mv)(l:List Qt)(base:Nat)(e:Ending)(w':ag):Prop:=match VC m l with
 |some l'=>∃v,e=.returned (.tuple #[.agg #[v],.nilIface])/\iM w' base v l'
 |none=>∃v,e=.returned (.tuple #[.agg #[.slice none 0 0],v])/\Nj E 2 v w'
theorem YG {E:Nat->Addr}{m:Mv}{l:List Qt}{base:Nat}{w':ag}{a:Qt}{v:ah}(ha:a∈l)(hn:yf m a=false)(hv:Nj E 2 v w'):UD E m l base (.returned (.tuple #[.agg #[.slice none 0 0],v])) w':=by
 unfold UD VC;rw[if_neg (fun h=>by have:=List.all_eq_true.1 h a ha;rw[hn] at this;cases this)];exact⟨v,rfl,hv⟩
theorem a2k {E:Nat->Addr}{m:Mv}{l:List Qt}{base:Nat}{w':ag}{v:ah}(h:∀a∈l,yf m a=true)(hv:iM w' base v (l.map (I5 m))):UD E m l base (.returned (.tuple #[.agg #[v],.nilIface])) w':=by
 unfold UD VC;rw[if_pos (List.all_eq_true.2 h)];exact⟨v,rfl,hv⟩
theorem Df {a:Qt}(h:iq a=0):(Pe a).ok:=by
 obtain⟨h1, -⟩:=gN.1 h;exact gF.1 h1
theorem aal {a:Qt}(h:iq a=0):(Pe a).i64:=⟨jy (Df h).1,jy (Df h).2⟩
theorem Dg {m:Mv}{a:Qt}(hm:m.ok)(ha:iq a=0)(h:(dm 0 m (Pe a)).2=0):fT (I5 m a)=0:=by
 have h1:=((uX (c:=0) (.inl rfl) hm (Df ha)).2 h).2.1;have e:I5 m a=⟨(dm 0 m (Pe a)).1.x.n,(dm 0 m (Pe a)).1.x.d,(dm 0 m (Pe a)).1.y.n,(dm 0 m (Pe a)).1.y.d⟩:=by
  unfold I5 Pe
  with_reducible rfl
 rw[e];clear e h;generalize dm 0 m (Pe a)=z at h1⊢;exact gF.2 ⟨h1.1,h1.2⟩
theorem yt {m:Mv}{a:Qt}(h:yf m a=true):(dm 0 m (Pe a)).2=0:=by
 unfold yf at h;simp only[Bool.and_eq_true,decide_eq_true_eq] at h;exact h.1
theorem a2l {m:Mv}{a:Qt}(h:(dm 0 m (Pe a)).2=0)(hb:jI (I5 m a)=0):yf m a=true:=by
 unfold yf;simp only[Bool.and_eq_true,decide_eq_true_eq];exact⟨h,by rw[hb];rfl⟩
theorem YH {m:Mv}{a:Qt}(hb:¬jI (I5 m a)=0):yf m a=false:=by
 unfold yf;simp only[Bool.and_eq_false_iff];exact .inr (by simpa using hb)
theorem IG {m:Mv}{a:Qt}(h:¬(dm 0 m (Pe a)).2=0):yf m a=false:=by
 cases hg:yf m a with
 |false=>rfl
 |true=>exact absurd (yt hg) h
theorem UE {E:Nat->Addr}(m:Mv)(hm:m.ok)(l:List Qt)(o:Option Addr)(cap:Nat)(w:ag)(hok:lg l)(h:fH w o l)(hN:NE E w):
  au 191 #[.agg #[.slice o l.length cap],mv m] w fun e W=>UD E m l w.heap.size e W/\Below w.heap.size w W:=by
 have HC:Bu (E 2) (E 3) (E 2) m:=wE (mH hm) (pK hm);have hE:=hN.e3;have HM:Hid m.ok:=hm;have UF:=aj hok;clear hm hN;obtain⟨i0,hi,hz0,hz1,hz2⟩:=info_parts VT;go_enter func191,ntmps191;go_upto_region 1 with fail;obtain⟨U,hU⟩:∃U,((w.alloc (.cells #[.slice o l.length cap] 132)).alloc (.cells (mA m) 125)).alloc (.cells #[.slice none 0 0] 132)=U:=⟨_,rfl⟩;obtain⟨k0,k1,k2,u7⟩:=aac w _ _ _ U hU;rw[hU];clear hU;have Nc:=hE.below u7 ai;have CK:=HC U Nc;have m0:=aK k1 0 _ rfl;have m1:=aK k1 1 _ rfl;have m2:=aK k1 2 _ rfl;have m3:=aK k1 3 _ rfl;have m4:=aK k1 4 _ rfl;have m5:=aK k1 5 _ rfl;have m6:=aK k1 6 _ rfl;have m7:=aK k1 7 _ rfl;have m8:=aK k1 8 _ rfl;have m9:=aK k1 9 _ rfl;have m10:=aK k1 10 _ rfl;have m11:=aK k1 11 _ rfl;go_upto_region 4 with(go_at_call 200;refine CK.mono ?_;rintro e w1 ⟨rfl,b1⟩);clear CK m0 m1 m2 m3 m4 m5 m6 m7 m8 m9 m10 m11;have k0:=iQ b1 k0;have k1:=iQ b1 k1;have k2:=iQ b1 k2;have hb1:=aA u7 b1;have hE1:=hE.below hb1 ai;have SC:=vY (E 2) (E 3) (E 2) l o cap w1 (h.below hb1 ai) hE1;have s0:=aK k0 0 _ rfl;have Vv:=aj hok;go_upto_region 7 with(go_at_call 130;refine SC.mono ?_;rintro e w2 ⟨hc,b2⟩;have he:e=.returned .nilIface:=(by rcases hc.plain with⟨-,h2⟩|⟨h1, -⟩;exact h2;exact absurd Vv.out h1);subst he;clear hc);clear SC s0;have k0:=iQ b2 k0;have k1:=iQ b2 k1;have k2:=iQ b2 k2;have hb2:=aA hb1 b2;have acO:=hok.1;have s0:=aK k0 0 _ rfl;clear hok b1 b2 hE1 Nc;go_wp2_with fail
 go_loopw [8,28] (fun v y wr=>∃k:Nat,k<=l.length/\y=aa k/\(∀a∈l.take k,yf m a=true)/\iM wr w2.heap.size v ((l.take k).map (I5 m))/\Below w2.heap.size w2 wr) (fun _ y _=>l.length-(intOf y).toNat)
 case atStart=>exact⟨0,aP _,rfl,by simp,iM.nil _ _,aG _ _⟩
 case round=>
  obtain⟨k,hk,rfl,hall,hown,hb⟩:=hrel;have HAL:=aj hall;have aam:∀a∈(l.take k).map (I5 m),PI a:=fun a ha=>by
   obtain⟨b,hb',rfl⟩:=List.mem_map.1 ha;exact Ae (Dg HM.out (UF.out.2 b (List.mem_of_mem_take hb')) (yt (hall b hb')))
  obtain⟨ov,cv,rfl, -⟩:=hown.at_ aam;have hlen:((l.take k).map (I5 m)).length=k:=by rw[List.length_map,List.length_take];omega
  rw[hlen] at hown⊢;have HLEN:=aj hlen;clear hall aam hlen;by_cases hlt:k<l.length
  ·have hlt':(k:Int)<(l.length:Int):=by omega
   obtain⟨a,ha⟩:∃a,l[k]? =some a:=⟨_,dK hlt⟩;have hmem:=fV ha;obtain⟨b,off,ho,hp⟩:=(h.below (aA hb2 hb) ai) k a ha;subst ho;obtain⟨c0,c1,c2,c3,hpi⟩:=hp;have HL:=aj ha;have hE2:=hE.below (aA hb2 hb) ai;have b3:=bg wr (.cells #[aa a.xn,aa a.xd,aa a.yn,aa a.yd] 168);have F3:=Four.new wr (aa a.xn) (aa a.xd) (aa a.yn) (aa a.yd) 168;have kr:=iQ (aA hb b3) k1;have NK:=hE2.below b3 ai;by_cases hc0:(dm 0 m (Pe a)).2=0
   ·have AT:=a97 (aB:=E 2) (aS:=E 3) (aZ:=E 2) (mH HM.out) (aal (UF.out.2 a hmem)) (a5t HM.out (Df (UF.out.2 a hmem)) (Ic hc0)) _ NK;have hcg:fT (I5 m a)=0:=Dg HM.out (UF.out.2 a hmem) hc0;have AT:au 234 #[mv m,mW a] _ fun e w'=>e=.returned (.tuple #[mW (I5 m a),.nilIface])/\Below _ _ w':=AT;have HC0:=aj hc0;clear ha hc0;go_upto_region 11 with fail;obtain⟨V,hV⟩:∃V,wr.alloc (.cells #[aa a.xn,aa a.xd,aa a.yn,aa a.yd] 168)=V:=⟨_,rfl⟩;rw[hV] at b3 F3 kr NK AT⊢;clear hV c0 c1 c2 c3;have m0:=aK kr 0 _ rfl;have m1:=aK kr 1 _ rfl;have m2:=aK kr 2 _ rfl;have m3:=aK kr 3 _ rfl;have m4:=aK kr 4 _ rfl;have m5:=aK kr 5 _ rfl;have m6:=aK kr 6 _ rfl;have m7:=aK kr 7 _ rfl;have m8:=aK kr 8 _ rfl;have m9:=aK kr 9 _ rfl;have m10:=aK kr 10 _ rfl;have m11:=aK kr 11 _ rfl;obtain⟨f0,f1,f2,f3⟩:=F3;generalize hga:I5 m a=q at*;have HGA:=aj hga;clear hga;go_upto_region 12 with(go_at_call 234;refine AT.mono ?_;rintro e w3 ⟨rfl,b4⟩);clear AT f0 f1 f2 f3 m0 m1 m2 m3 m4 m5 m6 m7 m8 m9 m10 m11;have b5:=bg w3 (.cells #[aa q.xn,aa q.xd,aa q.yn,aa q.yd] 168);have F5:=Four.new w3 (aa q.xn) (aa q.xd) (aa q.yn) (aa q.yd) 168;obtain⟨V2,hV2⟩:∃V,w3.alloc (.cells #[aa q.xn,aa q.xd,aa q.yn,aa q.yd] 168)=V:=⟨_,rfl⟩;obtain⟨BQ,hBQ⟩:∃B,w3.heap.size=B:=⟨_,rfl⟩;rw[hV2] at b5 F5⊢;have b6:=aA (aA b3 b4) b5;rw[hBQ] at F5⊢;clear hV2 hBQ b3 b4 b5 NK kr;have CS:=ni (E 2) (E 3) (E 2) q V2 (Ae hcg) (vW hcg) (hE2.below b6 ai);obtain⟨f0,f1,f2,f3⟩:=id F5;by_cases hx:jI q=0
    ·rw[hx] at CS;have HX:=aj hx;clear hx;go_upto_region 14 with(go_at_call 180;refine CS.mono ?_;rintro e w4 ⟨rfl,b7⟩;simp only[qM]);clear CS f0 f1 f2 f3;obtain⟨f0,f1,f2,f3⟩:=F5.below b7 ai;have b8:=aA (aA hb b6) b7;have hz8:=b8.size;have a4j:w4.ownsRow w2.heap.size 168 4 (.slice ov k cv) k (eu ((l.take k).map (I5 m))):=by
      have h:=hown.keep (aA b6 b7);unfold iM at h;rw[HLEN.out] at h;exact h
     have hz4:=(aA b6 b7).size;have hnb:=dW w4 (.cells #[aa q.xn,aa q.xd,aa q.yn,aa q.yd] 168);have YE:(w4.alloc (.cells #[aa q.xn,aa q.xd,aa q.yn,aa q.yd] 168)).ownsRow w2.heap.size 168 4 (.slice ov k cv) k (eu ((l.take k).map (I5 m))):=World.ownsRow.alloc a4j _;have HT:Hid ((l.take (k+1)).map (I5 m)=(l.take k).map (I5 m)++[q]/\∀a∈l.take (k+1),yf m a=true):=by
      have ht:l.take (k+1)=l.take k++[a]:=by rw[List.take_add_one,HL.out];rfl
      constructor
      ·rw[ht,List.map_append,List.map_singleton,HGA.out]
      ·rw[ht];intro y hy;rcases List.mem_append.1 hy with h|h
       ·exact HAL.out y h
       ·simp at h;rw[h];exact a2l HC0.out (by rw[HGA.out];exact HX.out)
     generalize (l.take k).map (I5 m)=R at*;clear hown a4j;go_wp2_with(at_builtin;refine wpList_append_own _ rfl _ _ 130 rfl (w2.heap.size) 168 i0 (.agg #[aa 0,aa 0,aa 0,aa 0]) 4 32 underlying130 hi hz0 hz1 hz2 rfl (by decide) _ _ _ rfl YE _ _ _ (eu [q]) rfl (uQ [q]) (World.news_of_block hnb) (AB _) (by simp only[maxLen];omega) (by omega) (by simp;omega) ?_;intro v12 w12 YF a6e _)
     go_roundw
     case rel=>exact⟨k+1,by omega,by go_num,HT.out.2,by rw[HT.out.1];rw[<- HLEN.out] at YF;exact iM.app (m:=[q]) YF rfl,(b8.alloc hz8 _).grown a6e (by simp;omega) (Qd YE)⟩
     case measure=>simp[intOf];omega
    ·have hx2:jI q=2:=by have:=lV q;omega
     rw[hx2] at CS;have HX:=aj hx;clear hx hx2;go_upto_region 13 with(go_at_call 180;refine CS.mono ?_;rintro e w4 ⟨rfl,b7⟩;simp only[WN]);clear CS f0 f1 f2 f3;have b8:=aA (aA hb b6) b7;have k24:=iQ b8 k2;have q4:=aK k24 0 _ rfl;have f4:=dz k24 0;have hE4:=(hE.below (aA hb2 b8) ai).b;have a6i:=(cZ.1 k24).1;have ne4:¬w4.heap.size=w.heap.size+1+1:=by omega
     have ne5:¬w.heap.size+1+1=w4.heap.size:=by omega
     have Oy:=aF hE.b;have hE5:(w4.setCell ⟨w.heap.size+1+1,0,none⟩ (.slice none 0 0)).cell? (ak 0 0)=some (.iface 401 (.pointer (some (E 2)))):=(aO _ _ _ _ (by have:0<w.heap.size:=Oy;show w.heap.size+1+1≠0;omega)).trans hE4;clear Oy;go_region;go_wp2_with fail;have d4:(((w4.setCell ⟨w.heap.size+1+1,0,none⟩ (.slice none 0 0)).alloc (.cells #[aa k,.iface 401 (.pointer (some (E 2)))] 92)).drew).cell? ⟨w.heap.size+1+1,0,none⟩=some (.slice none 0 0):=ax _ (fM _ _ _ (by rw[q4];rfl));have b9:=aA hb2 b8;refine bodyPost_ret (v:=.tuple #[.agg #[.slice none 0 0],.iface 90 (ay w4.heap.size)]) (by simp[results,results191,go_sem,d4]) rfl ⟨?_,below_drewN ((b9.setCell (by simp;omega) _).alloc (by simpa using b9.size) _) 1⟩;refine YG hmem ?_ ⟨by decide,by decide,.inr ⟨_,0,rfl,?_⟩⟩
     ·exact YH (by rw[HGA.out];exact HX.out)
     ·show(((w4.setCell ⟨w.heap.size+1+1,0,none⟩ (.slice none 0 0)).alloc (.cells #[aa k,.iface 401 (.pointer (some (E 2)))] 92))).cell? ⟨w4.heap.size,1,none⟩=some (eV (E 2));have hs4:(w4.setCell ⟨w.heap.size+1+1,0,none⟩ (.slice none 0 0)).heap.size=w4.heap.size:=by simp
      have hcn:=aD (dW (w4.setCell ⟨w.heap.size+1+1,0,none⟩ (.slice none 0 0)) (.cells #[aa k,.iface 401 (.pointer (some (E 2)))] 92)) 1 _ rfl;rw[hs4] at hcn;exact hcn
   ·have AT:∀V,E3 (E 2) (E 3) (E 2) V->au 234 #[mv m,mW a] V fun e w'=>e=.returned (.tuple #[mW zQt,eV (E 2)])/\Below V.heap.size V w':=fun V hV=>by
     have h1:=a98 (aB:=E 2) (aS:=E 3) (aZ:=E 2) (m:=m) (p:=Pe a) (mH HM.out) (aal (UF.out.2 a hmem)) (fun q e=>hc0 (by rw[(a5u e).2.2])) V hV;have h2:(atR m (Pe a)).2=.bare 2:=by
      unfold atR;rw[if_neg (by simp[pK HM.out]),if_neg (by simp[QD (Df (UF.out.2 a hmem))]),if_neg hc0]
     rw[h2] at h1;refine h1.mono ?_;rintro e w' ⟨⟨v,rfl, -,rfl⟩,hb'⟩;exact⟨rfl,hb'⟩
    have AT:=AT _ NK;have HC0:=aj hc0;clear ha hc0;go_upto_region 11 with fail;obtain⟨V,hV⟩:∃V,wr.alloc (.cells #[aa a.xn,aa a.xd,aa a.yn,aa a.yd] 168)=V:=⟨_,rfl⟩;rw[hV] at b3 F3 kr NK AT⊢;clear hV c0 c1 c2 c3;have m0:=aK kr 0 _ rfl;have m1:=aK kr 1 _ rfl;have m2:=aK kr 2 _ rfl;have m3:=aK kr 3 _ rfl;have m4:=aK kr 4 _ rfl;have m5:=aK kr 5 _ rfl;have m6:=aK kr 6 _ rfl;have m7:=aK kr 7 _ rfl;have m8:=aK kr 8 _ rfl;have m9:=aK kr 9 _ rfl;have m10:=aK kr 10 _ rfl;have m11:=aK kr 11 _ rfl;obtain⟨f0,f1,f2,f3⟩:=F3;go_upto_region 12 with(go_at_call 234;refine AT.mono ?_;rintro e w3 ⟨rfl,b4⟩);clear AT f0 f1 f2 f3 m0 m1 m2 m3 m4 m5 m6 m7 m8 m9 m10 m11;have b5:=bg w3 (.cells #[aa 0,aa 0,aa 0,aa 0] 168);obtain⟨w4,hV2⟩:∃V,w3.alloc (.cells #[aa 0,aa 0,aa 0,aa 0] 168)=V:=⟨_,rfl⟩;rw[hV2] at b5⊢;have b6:=aA (aA b3 b4) b5;clear hV2 b3 b4 b5 NK kr;go_upto_region 13 with fail;have b8:=aA hb b6;have k24:=iQ b8 k2;have q4:=aK k24 0 _ rfl;have f4:=dz k24 0;have hE4:=(hE.below (aA hb2 b8) ai).b;have a6i:=(cZ.1 k24).1;have ne4:¬w4.heap.size=w.heap.size+1+1:=by omega
    have ne5:¬w.heap.size+1+1=w4.heap.size:=by omega
    have Oy:=aF hE.b;have hE5:(w4.setCell ⟨w.heap.size+1+1,0,none⟩ (.slice none 0 0)).cell? (ak 0 0)=some (.iface 401 (.pointer (some (E 2)))):=(aO _ _ _ _ (by have:0<w.heap.size:=Oy;show w.heap.size+1+1≠0;omega)).trans hE4;clear Oy;go_region;go_wp2_with fail;have d4:(((w4.setCell ⟨w.heap.size+1+1,0,none⟩ (.slice none 0 0)).alloc (.cells #[aa k,.iface 401 (.pointer (some (E 2)))] 92)).drew).cell? ⟨w.heap.size+1+1,0,none⟩=some (.slice none 0 0):=ax _ (fM _ _ _ (by rw[q4];rfl));have b9:=aA hb2 b8;refine bodyPost_ret (v:=.tuple #[.agg #[.slice none 0 0],.iface 90 (ay w4.heap.size)]) (by simp[results,results191,go_sem,d4]) rfl ⟨?_,below_drewN ((b9.setCell (by simp;omega) _).alloc (by simpa using b9.size) _) 1⟩;refine YG hmem ?_ ⟨by decide,by decide,.inr ⟨_,0,rfl,?_⟩⟩
    ·exact IG HC0.out
    ·show(((w4.setCell ⟨w.heap.size+1+1,0,none⟩ (.slice none 0 0)).alloc (.cells #[aa k,.iface 401 (.pointer (some (E 2)))] 92))).cell? ⟨w4.heap.size,1,none⟩=some (eV (E 2));have hs4:(w4.setCell ⟨w.heap.size+1+1,0,none⟩ (.slice none 0 0)).heap.size=w4.heap.size:=by simp
     have hcn:=aD (dW (w4.setCell ⟨w.heap.size+1+1,0,none⟩ (.slice none 0 0)) (.cells #[aa k,.iface 401 (.pointer (some (E 2)))] 92)) 1 _ rfl;rw[hs4] at hcn;exact hcn
  ·obtain rfl:k=l.length:=by omega
   have b8:=hb;have k24:=iQ b8 k2;have q4:=aK k24 0 _ rfl;have f4:=dz k24 0;have a6i:=(cZ.1 k2).1;go_wp2_with fail;have d0:(wr.setCell ⟨w.heap.size+1+1,0,none⟩ (.slice ov l.length cv)).cell? ⟨w.heap.size+1+1,0,none⟩=some (.slice ov l.length cv):=fM _ _ _ (by rw[q4];rfl);have hw:w.heap.size<=w2.heap.size:=hb2.size;refine bodyPost_ret (v:=.tuple #[.agg #[.slice ov l.length cv],.nilIface]) (by simp[results,results191,go_sem,d0]) rfl ⟨a2k ?_ ?_,(aA hb2 hb).setCell (by simp;omega) _⟩
   ·have:=HAL.out;rwa[List.take_length] at this
   ·have:=(hown.far (b:=w.heap.size+1+1) (u:=.slice ov l.length cv) a6i).low hw;rwa[List.take_length] at this
def yu (q:Int->Bool):Nat->List Int->Int
 |_,[]=> -1
 |k,x::l=>if q x then(k:Int) else yu q (k+1) l
theorem Gj (q:Int->Bool):∀(l:List Int) (k:Nat),(yu q k l= -1/\l.find? q=none)\/∃i x,yu q k l=((k+i:Nat):Int)/\l[i]? =some x/\l.find? q=some x
 |[],_=>.inl ⟨rfl,rfl⟩
 |x::l,k=>by
  unfold yu;rw[List.find?_cons];cases hx:q x with
  |true=>exact .inr ⟨0,x,by simp,rfl,rfl⟩
  |false=>
   rcases Gj q l (k+1) with⟨h1,h2⟩|⟨i,y,h1,h2,h3⟩
   ·exact .inl ⟨by simpa using h1,h2⟩
   ·exact .inr ⟨i+1,y,by rw[if_neg (by simp),h1];congr 1;omega,by simpa using h2,h3⟩
theorem ints_at {w:ag}{B0:Nat}{v:ah}{l:List Int}(h:w.ownsRow B0 3 1 v l.length (aU l)):(l=[]/\∃o c,v=.slice o 0 c)\/∃g cap,v=.slice (some ⟨g,0,none⟩) l.length cap/\l.length<=cap/\∀k x,l[k]? =some x->w.cell? (ak g k)=some (aa x):=by
 obtain⟨o,cap,Ou,h1,h2,h3,h5⟩:=dL h;cases l with
 |nil=>exact .inl ⟨rfl,_,_,Ou⟩
 |cons x0 r=>
  have AT:∀(k:Nat) (x:Int),(x0::r)[k]? =some x->(aU (x0::r))[k]? =some (aa x):=fun k x hx=>by
   unfold aU;rw[List.getElem?_map,hx];rfl
  obtain⟨g,hg, -⟩:=dF h 0 _ (AT 0 x0 rfl);have hog:=h5 g hg;subst Ou hog;refine .inr ⟨g,cap,rfl,by omega,fun k x hx=>?_⟩;obtain⟨g1,hg1,c1⟩:=dF h _ _ (AT k x hx);rw[hg] at hg1;cases hg1;exact c1
def IxL (q:Int->Bool)(l:List Int)(W:ag)(y:ah)(wr:ag):Prop:=∃k:Nat,k<=l.length/\y=aa k/\yu q 0 l=yu q k (l.drop k)/\Below W.heap.size W wr
theorem Pj (q:Int->Bool)(l:List Int)(W:ag)(f:Nat)(cv:Array ah)(B0:Nat)(v:ah)(hl:l.length<=1000000)(h:W.ownsRow B0 3 1 v l.length (aU l))
  (HQ:∀x∈l,∀V,Below W.heap.size W V->au f (#[aa x]++cv) V fun e w'=>e=.returned (.bool (q x))/\Below V.heap.size V w') (hf:f=242) (hcv:∃a b,cv=#[.pointer (some a),.pointer (some b)]):
  au 241 #[v,.func (.func f) #[] cv] W fun e w'=>e=.returned (aa (yu q 0 l))/\Below W.heap.size W w':=by
 subst hf;obtain⟨a,b,rfl⟩:=hcv;have HH:=aj HQ;clear HQ;rcases ints_at h with⟨rfl,o,c,rfl⟩|⟨g,cap,rfl,hcap,hc⟩
 ·clear h;go_enter func241,ntmps241;go_wp2_with fail
  go_loopw [8] (fun y wr=>y=aa 0/\wr=W) (fun _ _=>0)
  case atStart=>exact⟨rfl,rfl⟩
  case round=>
   obtain⟨rfl,rfl⟩:=hrel;go_wp2_with fail;go_ret;exact⟨rfl,aG _ _⟩
 ·have H4:=aj hc;clear h hc;have aii:(l.length:Int)<=(cap:Int):=by omega
  go_enter func241,ntmps241;go_wp2_with fail
  go_loopw [8] (fun y wr=>IxL q l W y wr) (fun y _=>l.length-(intOf y).toNat)
  case atStart=>exact⟨0,aP _,rfl,rfl,aG _ _⟩
  case round=>
   obtain⟨k,hk,rfl,hf,hb⟩:=hrel;have HF:=aj hf;clear hf;by_cases hlt:k<l.length
   ·have hlt':(k:Int)<(l.length:Int):=by omega
    obtain⟨x,hx,hd⟩:=drop_at hlt;have k0:=H4.out k x hx;have k0:=(hb.cell (aF k0)).trans k0;have HS:=HH.out x (fV hx) wr hb;have HD:=aj hd;clear hx hd;cases hs:q x with
    |true=>
     rw[hs] at HS;have hf':Hid (yu q 0 l=k):=by show _=_;rw[HF.out,HD.out];unfold yu;rw[if_pos hs]
     clear hs;go_wp2_with(go_at_call 242;refine HS.mono ?_;rintro e w1 ⟨rfl,hb1⟩);go_ret;exact⟨by rw[hf'.out];rfl,aH hb hb1⟩
    |false=>
     rw[hs] at HS;have hf':Hid (yu q 0 l=yu q (k+1) (l.drop (k+1))):=by show _=_;rw[HF.out,HD.out,yu,if_neg (by rw[hs];simp)]
     clear hs;go_wp2_with(go_at_call 242;refine HS.mono ?_;rintro e w1 ⟨rfl,hb1⟩)
     go_roundw
     case rel=>exact⟨k+1,by omega,by go_num,hf'.out,aH hb hb1⟩
     case measure=>simp[intOf];omega
   ·obtain rfl:k=l.length:=by omega
    have hf':Hid (yu q 0 l= -1):=by show _=_;rw[HF.out,List.drop_length];rfl
    go_wp2_with fail;go_ret;exact⟨by rw[hf'.out];rfl,hb⟩
section
variable {E:Nat->Addr}{B:Nat}{tg:bP}{W:ag}{DB MB:Nat}{p:Int->Option Nat}{M:Dm}{nx c:Nat}{r:Int->Nat}
theorem YI (hd:aX B tg W DB MB p M nx c)(WB BW BO:Nat)(v:Bs)(hw:W.cell? (ak WB 0)=some (ay DB))(h1:W.cell? (ak BW 0)=some (ay WB))(h2:W.cell? (ak BO 0)=some (bV v))(n:Int)(hn:dR n):
  au 242 #[aa n,ay BW,ay BO] W fun e w'=>e=.returned (.bool (zQ M n kId==some v))/\Below W.heap.size W w':=by
 have AT:=jP hd n hn kId;rw[rQ] at AT;have H2:=fun V (hV:Below W.heap.size W V)=>(hV.cell (aF h2)).trans h2;clear hd h2;cases ha:zQ M n kId with
 |none=>
  rw[ha] at AT;clear ha;go_enter func242,ntmps242;go_wp2_with(go_at_call 137;refine AT.mono ?_;rintro e w1 ⟨rfl,b1⟩);go_ret;exact⟨rfl,b1⟩
 |some s=>
  rw[ha] at AT;have hq:=gD s v;have hs:(some s==some v)=(s==v):=rfl;rw[hs];clear ha hs;cases hsv:(s==v) with
  |true=>
   rw[hsv] at hq;go_enter func242,ntmps242;go_wp2_with(go_at_call 137;refine AT.mono ?_;rintro e w1 ⟨rfl,b1⟩;have k2:=H2 w1 b1);go_ret;exact⟨rfl,b1⟩
  |false=>
   rw[hsv] at hq;go_enter func242,ntmps242;go_wp2_with(go_at_call 137;refine AT.mono ?_;rintro e w1 ⟨rfl,b1⟩;have k2:=H2 w1 b1);go_ret;exact⟨rfl,b1⟩
theorem jm.Dh (h:jm B tg W DB MB p M nx c r):Dp M 11 0/\(dG M 11 0).length<=100:=by
 obtain⟨e0,he0, -⟩:=h.d.root;have hp:=h.d.dp 11 0 e0 he0 (by omega);refine⟨hp,?_⟩;unfold dG;rw[h.d.count h.n hp];exact h.le
def LdR (x:Option Int)(e:Ending):Prop:=match x with
 |some k=>e=.returned (.tuple #[aa k,.bool true])
 |none=>e=.returned (.tuple #[aa 0,.bool false])
theorem YJ (h:jm B tg W DB MB p M nx c r):∀x∈dG M 11 0,dR x:=fun x hx=>by
 obtain⟨e,he⟩:=((h.d.mem h.Dh.1).1 hx).in_;have h1:=h.w.dom x e he;have h2:=h.w.few;exact WalkArith.wf_i64 (by omega)
theorem UG (h:jm B tg W DB MB p M nx c r)(WB:Nat)(hw:W.cell? (ak WB 0)=some (ay DB))(n:Int)(hn:dR n):
  au 197 #[ay WB,aa n] W fun e w'=>LdR (I6 M n) e/\Below W.heap.size W w':=by
 have b0:=bT W (.cells #[ay WB] 115);have K0:=dw W #[ay WB] 115;have AT:=jP (h.w.below b0) n hn kOf;have hw0:=(b0.cell (aF hw)).trans hw;rw[rQ] at AT;have HS:=aj h;unfold I6;cases ha:zQ M n kOf with
 |none=>
  rw[ha] at AT;clear ha h;go_enter func197,ntmps197;go_wp2_with(go_at_call 137;refine AT.mono ?_;rintro e w1 ⟨rfl,b1⟩)
  go_ret2
  exact⟨rfl,aH (aH b0 b1) (bT w1 _)⟩
 |some s=>
  rw[ha] at AT;have AT:au 137 #[ay DB,aa n,.string ⟨#[111,102]⟩] (W.alloc (.cells #[ay WB] 115)) fun r w'=>r=.returned (.tuple #[bV s,.bool true])/\Below (W.alloc (.cells #[ay WB] 115)).heap.size (W.alloc (.cells #[ay WB] 115)) w':=AT;clear ha h;dsimp only;obtain⟨L,hL⟩:∃L,dG M 11 0=L:=⟨_,rfl⟩;have hAL:allM M=L:=hL;rw[hAL];have aan:=YJ HS.out;have hall:=HS.out.Dh.2;rw[hL] at aan hall;have Rs:=aj hL;clear hL hAL;obtain⟨ans,oF⟩:∃x,L.find? (fun k=>zQ M k kId==some s)=x:=⟨_,rfl⟩;rw[oF];have Pk:=aj oF;clear oF;go_enter func197,ntmps197;go_upto_region 4 with(go_at_call 137;refine AT.mono ?_;rintro e w1 ⟨rfl,b1⟩);have b2:=bT w1 (.cells #[bV s] 9);have KO:=dw w1 #[bV s] 9;obtain⟨V,hV⟩:∃V,w1.alloc (.cells #[bV s] 9)=V:=⟨_,rfl⟩;obtain⟨BO,hBO⟩:∃b,w1.heap.size=b:=⟨_,rfl⟩;rw[hV] at b2 KO⊢;rw[hBO] at KO⊢;have bV1:=aH b1 b2;have bWV:=aH b0 bV1;have KW:=(bV1.block _ (bu K0)).trans K0;have hwV:=(bWV.cell (aF hw)).trans hw;have SV:=HS.out.below bWV;have AL:=Ra SV.w 11 (by decide) SV.Dh.1 (by have:=SV.Dh.2;omega);rw[Rs.out] at AL;have c0:=aD KW 0 _ rfl;clear AT hV hBO b1 b2 b0 K0 hw0 bV1;go_upto_region 5 with(go_at_call 57;refine AL.mono ?_;rintro e w2 ⟨o,k,rfl,b3,own⟩);clear AL;have B2:=aH bWV b3;have hw2:=(b3.cell (aF hwV)).trans hwV;have KW2:=(b3.block _ (bu KW)).trans KW;have KO2:=(b3.block _ (bu KO)).trans KO;have IX:=Pj (fun k=>zQ M k kId==some s) L w2 242 #[ay W.heap.size,ay BO] _ _ (by omega) own
   (fun x hx V2 hV2=>YI (HS.out.below (aH B2 hV2)).w WB W.heap.size BO s ((hV2.cell (aF hw2)).trans hw2) (aD ((hV2.block _ (bu KW2)).trans KW2) 0 _ rfl) (aD ((hV2.block _ (bu KO2)).trans KO2) 0 _ rfl) x (aan x hx)) rfl ⟨_,_,rfl⟩
  have HI:=Gj (fun k=>zQ M k kId==some s) L 0;have HOWN:=aj own;have han:L.find? (fun k=>zQ M k kId==some s)=ans:=Pk.out;rw[han] at HI;clear own han;rcases HI with⟨h1,rfl⟩|⟨i,x,h1,h2,rfl⟩
  ·rw[h1] at IX;clear h1;go_wp2_with(go_at_call 241;refine IX.mono ?_;rintro e w3 ⟨rfl,b4⟩)
   go_ret2
   exact⟨rfl,aH B2 b4⟩
  ·rw[h1,Nat.zero_add] at IX;have hil:=(jc.1 h2).1;have R3:∀w3,Below w2.heap.size w2 w3->∃g,o=some ⟨g,0,none⟩/\w3.cell? (ak g i)=some (aa x):=fun w3 b4=>by
    rcases ints_at HOWN.out with⟨he, -⟩|⟨g,cap,hv, -,hc⟩
    ·rw[he] at hil;simp at hil
    ·injection hv with hv1;exact⟨g,hv1,(b4.cell (aF (hc i x h2))).trans (hc i x h2)⟩
   obtain⟨g,rfl, -⟩:=R3 w2 (aG _ _);have hiz:(i:Int)<(L.length:Int):=by omega
   clear h1 h2;go_wp2_with(go_at_call 241;refine IX.mono ?_;rintro e w3 ⟨rfl,b4⟩;obtain⟨g',hg',cg⟩:=R3 w3 b4;cases hg')
   go_ret2
   exact⟨rfl,aH B2 b4⟩
end
end
section
open Go.RowKit Go.Shelf
abbrev tV (Bd Bl:Nat):ah:=.func (.func 48) #[] #[ay Bd,ay Bl]
section
variable {E:Nat->Addr}{B:Nat}{tg:bP}{W:ag}{DB MB:Nat}{p:Int->Option Nat}{M:Dm}{nx c:Nat}{r:Int->Nat}
theorem UH (h:aX B tg W DB MB p M nx c)(hw:Wd M r)(hF:EA M)(l:List Rl)(hok:∀x∈l,RlG x)(B0:Nat)(v:ah)(hl:W.ownsRow B0 109 3 v l.length (eY l))(Bd Bl:Nat)(h1:W.cell? (ak Bd 0)=some (ay DB))(h2:W.cell? (ak Bl 0)=some v)(n:Int)(hn:dR n)(nm:Bs):
  au 48 #[aa n,bV nm,ay Bd,ay Bl] W fun e w'=>e=.returned (bV (ofM M l nm n))/\Below W.heap.size W w':=by
 have OF:=a5Z h hw hF l hok B0 v hl n hn nm;obtain⟨ov,kv,rfl⟩:=aM hl;clear h hw hF hok hl;go_enter func48,ntmps48;go_wp2_with(go_at_call 49;refine OF.mono ?_;rintro e w1 ⟨rfl,b1⟩);go_ret;exact⟨rfl,b1⟩
end
structure dI where
 nd:Int
 o:Option Addr
 cap:Nat
 pts:List Qt
 fill:Bs
 rule:Bs
 lv:Int
def dI.pc (x:dI):Pc:=⟨x.nd,x.pts,x.fill,x.rule,x.lv⟩
abbrev Di (x:dI):ah:=.slice x.o x.pts.length x.cap
def cellsS:List dI->List ah
 |[]=>[]
 |x::l=>aa x.nd::Di x::bV x.fill::bV x.rule::aa x.lv::cellsS l
theorem vC:∀l:List dI,(cellsS l).length=l.length*5
 |[]=>rfl
 |x::l=>by simp[cellsS,vC l];omega
theorem Dj:∀l m:List dI,cellsS (l++m)=cellsS l++cellsS m
 |[],_=>rfl
 |x::l,m=>by simp[cellsS,Dj l m]
structure Sc (base WB DB:Nat)(sf:ah)(k:Nat)(ps:List dI)(v:ah)(V:ag):Prop where
 wb:V.heap[WB]? =some (.cells #[ay DB,sf,aa k,v] 119)
 own:V.ownsRow base 134 5 v ps.length (cellsS ps)
 pts:∀x∈ps,iM V base (Di x) x.pts
 rt:∀x∈ps,∀a∈x.pts,fT a=0
structure Kw (WB:Nat)(v:ah)(V V':ag):Prop where
 os:V'.os=V.os
 tape:V'.tape=V.tape
 output:V'.output=V.output
 size:V.heap.size<=V'.heap.size
 block:∀b,b<V.heap.size->b≠WB->v.ownBlock≠some b->V'.heap[b]? =V.heap[b]?
theorem Kw.refl (WB:Nat)(v:ah)(V:ag):Kw WB v V V:=⟨rfl,rfl,rfl,Nat.le_refl _,fun _ _ _ _=>rfl⟩
theorem Kw.of_below {WB:Nat}{v:ah}{V V':ag}(h:Below V.heap.size V V'):Kw WB v V V':=⟨h.os,h.tape,h.output,h.size,fun b hb _ _=>h.block b hb⟩
theorem Kw.trans {WB:Nat}{v v':ah}{V V' V'':ag}(h:Kw WB v V V')(hv:v'.ownBlock=v.ownBlock\/∀b,v'.ownBlock=some b->V.heap.size<=b)(h':Kw WB v' V' V''):Kw WB v V V'':=
 ⟨h'.os.trans h.os,h'.tape.trans h.tape,h'.output.trans h.output,aJ h.size h'.size,fun b hb h1 h2=>(h'.block b (bI hb h.size) h1 (fun e=>by
  rcases hv with hv|hv
  ·exact h2 (hv▸e)
  ·have:=hv b e;omega)).trans (h.block b hb h1 h2)⟩
theorem dS {w:ag}{base k n:Nat}{t:TypeId}{v:ah}{xs:List ah}(h:w.ownsRow base t k v n xs):∀g,v.ownBlock=some g->∃cs f,w.heap[g]? =some (.cells cs t f)/\base<=g:=fun g hg=>by
 rcases h.2 with⟨h1, -⟩|⟨g',cap,cur,h3,h4,h5, -⟩
 ·rw[h1] at hg;cases hg
 ·rw[h3] at hg;cases hg;exact⟨_,_,h5,h4⟩
section
variable {base WB DB:Nat}{sf:ah}{k:Nat}{ps:List dI}{v:ah}{V V':ag}
theorem Sc.keep (h:Sc base WB DB sf k ps v V)(hk:Kw WB v V V'){b:Nat}{cs:Array ah}{t:TypeId}{f:Nat×Nat}(hb:V.heap[b]? =some (.cells cs t f))(h1:t≠119)(h2:t≠134):V'.heap[b]? =some (.cells cs t f):=by
 refine(hk.block b (bu hb) ?_ ?_).trans hb
 ·rintro rfl;rw[h.wb] at hb;cases hb;exact h1 rfl
 ·intro e;obtain⟨cs',f',h3, -⟩:=dS h.own b e;rw[h3] at hb;cases hb;exact h2 rfl
theorem Sc.low (h:Sc base WB DB sf k ps v V)(hk:Kw WB v V V')(hW:base<=WB)(hb:base<=V.heap.size):Below base V V':=
 ⟨hk.os,hk.tape,hk.output,hk.size,fun j hj=>hk.block j (by omega) (by omega) (fun e=>by
  obtain⟨-, -, -,h3⟩:=dS h.own j e;omega)⟩
theorem Sc.path (h:Sc base WB DB sf k ps v V)(hk:Kw WB v V V'){q:Option Nat}{l:List (Int×Mv)}(hp:fO V q l):fO V' q l:=
 fO.keep (fun b t ht ⟨c,hc⟩=>by subst hc;exact h.keep hk ht (by decide) (by decide)) hp
theorem Sc.below (h:Sc base WB DB sf k ps v V)(hb:Below V.heap.size V V'):Sc base WB DB sf k ps v V':=
 ⟨(hb.block _ (bu h.wb)).trans h.wb,aQ h.own hb,fun x hx=>(h.pts x hx).keep hb,h.rt⟩
end
end
section
def EI (M:Dm):Nat->Int->Nd
 |0,_=>.mk [] [] []
 |f+1,n=>match M n with
  |none=>.mk [] [] []
  |some e=>.mk e.name e.ats (e.kids.map (EI M f))
def F2 (R:Int->Int->Prop):List Int->List Int->Prop
 |[],[]=>True
 |a::l,b::m=>R a b/\F2 R l m
 |_,_=>False
section
variable {M M':Dm}{r:Int->Nat}{L:List Int}
end
end
end Go.Proofs.YtecneflbncjhpaaGreatDoor

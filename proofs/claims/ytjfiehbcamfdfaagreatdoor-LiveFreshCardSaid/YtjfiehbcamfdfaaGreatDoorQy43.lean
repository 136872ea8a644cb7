/-
  Parts of the proof.
-/
import Derived.Test.YtjfiehbcamfdfaaGreatDoorQy41
import Derived.Test.YtjfiehbcamfdfaaGreatDoorQy42
namespace Go.Proofs.YtjfiehbcamfdfaaGreatDoor
open Go.RowKit
set_option maxHeartbeats 16000000
set_option maxRecDepth 20000
theorem KN.row {w:World}{g:Nat}{l:List ByteArray}{k:Nat}(h:KN w (some ⟨g,0,none⟩) l):KN w (some ⟨g,k,none⟩) ((l.drop k).take 9):=fun i s hs=>by
 have h1:l[k+i]? =some s:=by
  rw[List.getElem?_take] at hs;split at hs
  ·rw[List.getElem?_drop] at hs;exact hs
  ·cases hs
 obtain⟨b,off,h2,h3⟩:=h (k+i) s h1;cases h2;exact⟨g,k,rfl,by rw[Nat.zero_add] at h3;exact h3⟩
theorem a6o {a b:List Pc}{y:Nat}(hy:y<8)(hn:y ∉ gL a b 8):((iZ aC (a.map dY) 9 8).drop (9*y)).take 9=((iZ aC (b.map dY) 9 8).drop (9*y)).take 9:=by
 rw[uN _ _ _ _ _ hy,uN _ _ _ _ _ hy];exact Vp (Classical.byContradiction fun h=>hn (ZI.2 ⟨hy,h⟩))
theorem a3k {l:List ByteArray}(hl:l.length=72){y:Nat}(hy:y<8):((l.drop (9*y)).take 9).length=9:=by
 rw[List.length_take,List.length_drop,hl];omega
theorem a6p {w:World}{B B' g g' cp cp':Nat}{a b:List Pc}{y:Nat}(h:w.ownsRow B 9 1 (.slice (some ⟨g,0,none⟩) 72 cp) 72 ((iZ aC (a.map dY) 9 8).map .string))(h':w.ownsRow B' 9 1 (.slice (some ⟨g',0,none⟩) 72 cp') 72 ((iZ aC (b.map dY) 9 8).map .string))(hy:y<8)(hn:y ∉ gL a b 8)(ca cb:Nat):
  ak 14 #[.slice (some ⟨g,9*y,none⟩) 9 ca,.slice (some ⟨g',9*y,none⟩) 9 cb] w fun e W=>e=.returned (.bool true)/\Below w.heap.size w W:=by
 have la:=a3k (gF aC (a.map dY) 9 8) hy;have lb:=a3k (gF aC (b.map dY) 9 8) hy;have h1:=a1I _ _ (some ⟨g,9*y,none⟩) (some ⟨g',9*y,none⟩) ca cb w (by omega) (Y6 h).row (Y6 h').row;rw[la,lb] at h1;refine h1.mono fun e W ⟨h2,h3⟩=>⟨?_,h3⟩;rcases h2 with⟨-,h2⟩|⟨h2, -⟩
 ·exact h2
 ·exact absurd (a6o hy hn) h2
structure Ed6 (w:World)(b k:Nat)(x:Ed):Prop where
 c0:w.cell? (ag b k)=some (.string ⟨x.kd.toArray⟩)
 c1:w.cell? (ag b (k+1))=some (aa x.n)
 c2:w.cell? (ag b (k+2))=some (aa x.m)
 c3:w.cell? (ag b (k+3))=some (aa x.ea)
 c4:w.cell? (ag b (k+4))=some (.string ⟨x.nm.toArray⟩)
 c5:w.cell? (ag b (k+5))=some (.string ⟨x.vl.toArray⟩)
theorem Ed6.below {w w':World}{b k:Nat}{x:Ed}(h:Ed6 w b k x)(hb:Below w.heap.size w w'):Ed6 w' b k x:=⟨(hb.cell (ax h.c0)).trans h.c0,(hb.cell (ax h.c1)).trans h.c1,(hb.cell (ax h.c2)).trans h.c2,(hb.cell (ax h.c3)).trans h.c3,(hb.cell (ax h.c4)).trans h.c4,(hb.cell (ax h.c5)).trans h.c5⟩
theorem EdQ.six {w:World}{b k:Nat}{x:Ed}(h:EdQ w b k x):Ed6 w b k x:=⟨h.c0,h.c1,h.c2,h.c3,h.c4,h.c5⟩
theorem a7I {w:World}{B m cp:Nat}{o:Option Addr}{L:List Nat}(h:w.ownsRow B 3 1 (.slice o m cp) L.length (bY (L.map fun(y:Nat)=>(y:Int)))){k:Nat}{y:Nat}(hk:L[k]? =some y):∃g,o=some ⟨g,0,none⟩/\w.cell? (ag g k)=some (aa y):=by
 obtain⟨g,hg,hc⟩:=bJ h k (aa y) (by unfold bY;rw[List.map_map,List.getElem?_map,hk];rfl);obtain⟨o',cp',hv, -, -, -,ho⟩:=bA h;cases hv;exact⟨g,ho g hg,hc⟩
def DoS (LB N DB K:Nat)(lp:List Pc)(X:World)(v u:Value)(w6:World):Prop:=(v=.slice none 0 0/\(∃t y,u=.iface t y)/\Below X.heap.size X w6/\LvF w6 LB N DB K lp 9 8)\/
 ∃l2 o cp,v=.slice o (gL lp l2 8).length cp/\u=.nilIface/\w6.ownsRow X.heap.size 3 1 (.slice o (gL lp l2 8).length cp) (gL lp l2 8).length (bY ((gL lp l2 8).map fun(y:Nat)=>(y:Int)))/\K2 LB DB X w6/\LvF w6 LB N DB (K+1) l2 9 8
theorem agd {E:Nat->Addr}{X:World}{LB N DB K:Nat}{lp:List Pc}(hE:LE E X)(hl:LvF X LB N DB K lp 9 8)(hK:K<1000000)(x:Ed)(hx:x.kd≠uC)(hw:dH x.n/\dH x.m)(hs:shE x):
  ak 11 #[aj LB,.agg (zg x)] X fun e w6=>∃v u,e=.returned (.tuple #[v,u])/\DoS LB N DB K lp X v u w6:=(agb hE hl (by decide) (by decide) (by decide) (by decide) hK x hx hw.1 hw.2 (by have:=hs.1;omega) (by have:=hs.2;omega)).mono fun e w6 hr=>by
 rcases hr with⟨⟨t,u,h1⟩,h2,h3⟩|⟨l2,o,cp,h1,h2,h3,h4⟩
 ·exact⟨_,_,h1,.inl ⟨rfl,⟨t,u,rfl⟩,h2,h3⟩⟩
 ·exact⟨_,_,h1,.inr ⟨l2,o,cp,rfl,rfl,h2,h3,h4⟩⟩
theorem a7L (a b:List Pc):(gL a b 8).length<=8:=by
 unfold gL;exact Nat.le_trans (List.length_filter_le _ _) (by simp)
abbrev pbx (g cp:Nat):Array Value:=#[aa 9,aa 8,.slice (some ⟨g,0,none⟩) 72 cp]
theorem a1O (E:Nat->Addr)(n:Nd)(a0 a1 a2:Value)(l:List Ed)(ol:Option Addr)(kl:Nat)(W:World)(hE:LE E W)(ha:jR W a0 a1 a2 n)(hac:a0U W ol l):
  ak 3 #[.agg #[a0,a1,a2],.slice ol l.length kl] W fun e w'=>e=.returned (.bool true)/\Below W.heap.size W w':=by
 obtain⟨sa,oa,na,ka,wX,na',ka',rfl,rfl,rfl⟩:∃(sa:ByteArray) (oa:Option Addr) (na ka:Nat) (wX:Option Addr) (na' ka':Nat),a0=.string sa/\a1=.slice oa na ka/\a2=.slice wX na' ka':=by
  obtain⟨nm,ats,ks⟩:=n;unfold jR at ha;obtain⟨rfl, -,⟨o,cap,rfl, -⟩,ok,dB,rfl, -⟩:=ha;exact⟨_,_,_,_,_,_,_,rfl,rfl,rfl⟩
 have A0:NB W.heap.size (.string sa) (.slice oa na ka) (.slice wX na' ka') (W.alloc (.cells #[.string sa,.slice oa na ka,.slice wX na' ka'] 25)):=dh W #[.string sa,.slice oa na ka,.slice wX na' ka'] 25;have bW:=aW W (.cells #[.string sa,.slice oa na ka,.slice wX na' ka'] 25);go_enter Tryz.func3,Tryz.ntmps3;go_upto_region 1 with fail;obtain⟨V,hV⟩:∃V,W.alloc (.cells #[.string sa,.slice oa na ka,.slice wX na' ka'] 25)=V:=⟨_,rfl⟩;rw[hV] at A0 bW⊢;clear hV;have HE:Hid (LE E V):=hE.below bW;have HA:Hid (jR V (.string sa) (.slice oa na ka) (.slice wX na' ka') n):=jR.below bW n ha;have HL:Hid (a0U V ol l):=hac.below bW;clear hE ha hac;have DK:=NL E V HE.out;go_upto_region 2 with(go_at_call 6;refine DK.mono ?_;rintro e w1 ⟨rfl,B1⟩);clear DK;have FA:=yt n _ _ _ w1 (jR.below B1 n HA.out);have A1:=(B1.block _ (aD A0)).trans A0;have x0:=NB.c0 A1;have x1:=NB.c1 A1;have x2:=NB.c2 A1;go_upto_region 3 with(go_at_call 7;refine FA.mono ?_;rintro e w2 ⟨b2,va,rfl,fa⟩);clear x0 x1 x2 FA;have B2:=az B1 b2;have BW2:=az bW B2;rcases fa with⟨-,rfl⟩|⟨hfit,M,g,cap,rfl,hM0,hM1,hM2,ZM,hM4⟩
 ·go_wp2_with fail;go_ret;exact⟨rfl,BW2⟩
 have hM0':((M.length:Int)==0)=false:=by rw[beq_eq_false_iff_ne];omega
 by_cases ajV:25<M.length
 ·have a8Q:(25:Int)<(M.length:Int):=by omega
  go_wp2_with fail;go_ret;exact⟨rfl,BW2⟩
 have a8Q:(M.length:Int)<=25:=by omega
 have LO:=a1N l ol kl w2 (HL.out.below B2) 20 (by decide);cases hlo:lnB l 20 with
 |true=>
  rw[hlo] at LO;go_wp2_with(go_at_call 8;refine LO.mono ?_;rintro e w3 ⟨rfl,rfl⟩);go_ret;exact⟨rfl,BW2⟩
 |false=>
 rw[hlo] at LO;have HS:Hid (l.length<=20/\∀x∈l,shE x):=a9S hlo;have an3:l.length<=20:=HS.out.1;clear hlo;go_upto_region 5 with(go_at_call 8;refine LO.mono ?_;rintro e w3 ⟨rfl,rfl⟩);clear LO;have hsz:dQ n<=150:=by
  have h1:=hM4.len;rw[O8] at h1;omega
 have A2:=(B2.block _ (aD A0)).trans A0;have x0:=NB.c0 A2;have x1:=NB.c1 A2;have x2:=NB.c2 A2;have NW:=a1Z E n _ _ _ w2 9 8 (HE.out.below B2) (jR.below B2 n HA.out) (by omega) (by decide) (by decide) (by decide) (by decide);clear hM0 hM1 hM2 ZM hM4 hfit;go_upto_region 6 with(go_at_call 9;refine NW.mono ?_;rintro e w3 ⟨b3,q3⟩;obtain⟨v3,u3,rfl,h3⟩:∃v u,e=.returned (.tuple #[v,u])/\((v=.pointer none/\∃t y,u=.iface t y)\/∃LB DB lp,v=aj LB/\u=.nilIface/\LvF w3 LB w2.heap.size DB 150 lp 9 8):=(by rcases q3 with⟨-,t,u,h3⟩|⟨LB,DB,lp,h1,h2,h3,h4⟩;exact⟨_,_,h3,.inl ⟨rfl,t,u,rfl⟩⟩;exact⟨_,_,h3,.inr ⟨LB,DB,lp,rfl,rfl,_,_,_,_,hsz,h4⟩⟩));clear NW x0 x1 x2 q3;rcases h3 with⟨rfl,t,y,rfl⟩|⟨LB,DB,lp0,rfl,rfl,hv3⟩
 ·have BW3:=az BW2 b3;go_wp2_with fail;go_ret;exact⟨rfl,BW3⟩
 obtain⟨NB0,a9T⟩:∃k,w2.heap.size=k:=⟨_,rfl⟩;have HB2:Hid (Below W.heap.size W w2/\Below V.heap.size V w2):=⟨BW2,B2⟩;have HV3:Hid (LvF w3 LB NB0 DB 150 lp0 9 8/\Below NB0 w2 w3):=by rw[<- a9T];exact⟨hv3,b3⟩
 have HN0:Hid (w2.heap.size=NB0):=a9T;clear hv3 b3 a9T BW2 B2 B1 b2 A0 A1 A2 bW;go_wp2_with fail
 go_loopw [9] (fun i wr=>∃k:Nat,k<=l.length/\i=aa k/\Below NB0 w2 wr/\∃lp,LvF wr LB NB0 DB (150+k) lp 9 8) (fun i _=>l.length-(intOf i).toNat)
 case atStart=>exact⟨0,Nat.zero_le _,rfl,HV3.out.2,lp0,HV3.out.1⟩
 case round=>
  obtain⟨k,hk,rfl,hb,lp,hv⟩:=hrel;have HV:Hid (LvF wr LB NB0 DB (150+k) lp 9 8):=hv;have HBr:Hid (Below NB0 w2 wr):=hb;have bVr:Below V.heap.size V wr:=HB2.out.2.trans (hb.mono (by rw[<- HN0.out];exact HB2.out.2.size));have HEr:Hid (LE E wr):=HE.out.below bVr;have HLr:Hid (a0U wr ol l):=HL.out.below bVr;have HBW:Hid (Below W.heap.size W wr):=HB2.out.1.trans (hb.mono (by rw[<- HN0.out];exact HB2.out.1.size));clear hv hb bVr HV3;by_cases hlt:k<l.length
  ·have hlt':(k:Int)<(l.length:Int):=by omega
   obtain⟨x,hx⟩:∃x,l[k]? =some x:=⟨_,List.getElem?_eq_getElem hlt⟩;obtain⟨b,off,hol,q⟩:=HLr.out k x hx;have HX:Hid (shE x):=HS.out.2 x (List.mem_of_getElem? hx);have hq6:=q.six;have HWN:Hid (dH x.n/\dH x.m):=⟨q.wn,q.wm⟩;obtain⟨c0,c1,c2,c3,c4,c5⟩:=hq6;clear hx q HLr;subst hol;by_cases hks:x.kd=uC
   ·have c0':wr.cell? (ag b (off+k*6))=some (.string ⟨#[115,104,101,101,116]⟩):=by rw[c0,hks];rfl
    clear c0 c1 c2 c3 c4 c5;go_wp2_with fail
    go_roundw
    case rel=>exact⟨k+1,by omega,by go_num,HBr.out,lp,HV.out.more (by omega)⟩
    case measure=>simp[intOf];omega
   have hkn:=a4v hks;have HKS:Hid (x.kd≠uC):=hks;unfold uC at hkn;clear hks;have PC:=HV.out.Xe;have hbs:=HV.out.base;go_upto_region 13 with(go_at_call 10;refine PC.mono ?_;rintro e w4 ⟨g4,cp4,rfl,Vl,b4⟩);clear PC;have bP:=aW w4 (.cells (pbx g4 cp4) 40);have kP:=dh w4 (pbx g4 cp4) 40;have acm:wr.heap.size<=w4.heap.size:=b4.size;obtain⟨w5,hw5⟩:∃V,w4.alloc (.cells (pbx g4 cp4) 40)=V:=⟨_,rfl⟩;obtain⟨PB,hPB⟩:∃p,w4.heap.size=p:=⟨_,rfl⟩;rw[hw5] at bP kP⊢;rw[hPB] at kP acm⊢;clear hw5 hPB;have b5:=az b4 bP;have HO4:Hid (w5.ownsRow wr.heap.size 9 1 (.slice (some ⟨g4,0,none⟩) 72 cp4) 72 ((iZ aC (lp.map dY) 9 8).map .string)):=aK Vl bP;have HV5:Hid (LvF w5 LB NB0 DB (150+k) lp 9 8):=HV.out.below b5;have HE5:Hid (LE E w5):=HEr.out.below b5;have QV:Hid (w5.heap[PB]? =some (.cells (pbx g4 cp4) 40)):=kP;have X4:Hid (Below wr.heap.size wr w5):=b5;have hq5:=(Ed6.mk c0 c1 c2 c3 c4 c5).below b5;clear c0 c1 c2 c3 c4 c5 Vl bP kP b4;obtain⟨c0,c1,c2,c3,c4,c5⟩:=hq5;have AS:=a3R x w5;have DO:=fun X (hX:Below w5.heap.size w5 X)=>agd (HE5.out.below hX) (HV5.out.below hX) (by omega) x HKS.out HWN.out HX.out;go_upto_region 14 with(first|(go_at_call 11;refine(DO _ b6).mono ?_;rintro e w7 ⟨v7,u7,rfl,h7⟩)|(go_at_call 12;refine AS.mono ?_;rintro e w6 ⟨rfl,b6⟩));clear AS DO c0 c1 c2 c3 c4 c5;rcases h7 with⟨rfl,⟨t,y,rfl⟩,b7,hv7⟩|⟨l2,o7,cp7,rfl,rfl,jQ,k7,hv7⟩
   ·have PC:=hv7.Xe;go_upto_region 15 with(go_at_call 10;refine PC.mono ?_;rintro e w8 ⟨g8,Cq,rfl,ow8,b8⟩);clear PC;have bQ:=aW w8 (.cells (pbx g8 Cq) 40);have kQ:=dh w8 (pbx g8 Cq) 40;obtain⟨w9,hw9⟩:∃V,w8.alloc (.cells (pbx g8 Cq) 40)=V:=⟨_,rfl⟩;obtain⟨QB,hQB⟩:∃p,w8.heap.size=p:=⟨_,rfl⟩;rw[hw9] at bQ kQ⊢;rw[hQB] at kQ⊢;clear hw9 hQB;have b59:=az (az b6 b7) (az b8 bQ);have kP9:=(b59.block _ (aD QV.out)).trans QV.out;have p0:=aA kP9 0 _ rfl;have p1:=aA kP9 1 _ rfl;have p2:=aA kP9 2 _ rfl;have q0:=aA kQ 0 _ rfl;have q1:=aA kQ 1 _ rfl;have q2:=aA kQ 2 _ rfl;have SP:=KS (gF _ _ _ _) (aK HO4.out b59) (aK ow8 bQ);have HV9:Hid (LvF w9 LB NB0 DB (150+k) lp 9 8):=hv7.below (az b8 bQ);have HB9:Hid (Below wr.heap.size wr w9):=az X4.out b59;clear b59 kP9 kQ ow8 bQ b8 b7 b6 hv7;go_wp2_with(go_at_call 13;refine SP.mono ?_;rintro e w10 ⟨rfl,b10⟩)
    go_roundw
    case rel=>exact⟨k+1,by omega,by go_num,HBr.out.trans ((az HB9.out b10).mono hbs.2.2.1),lp,(HV9.out.below b10).more (by omega)⟩
    case measure=>simp[intOf];omega
   ·have hP6:PB<w6.heap.size:=by have:=aD QV.out;have:=b6.size;omega
    have hw6:wr.heap.size<=w6.heap.size:=by omega
    have k67:∀b,wr.heap.size<=b->b<w6.heap.size->w7.heap[b]? =w6.heap[b]? :=fun b h1 h2=>k7.block b h2 (by omega) (by omega);have kP7:=(k67 PB acm hP6).trans ((b6.block _ (aD QV.out)).trans QV.out);have Le:=aK HO4.out b6;have acr:=bS Le fun b hb=>k67 b (Le.lt b hb).1 (Le.lt b hb).2;have bN7:Below NB0 w2 w7:=HBr.out.trans (((az X4.out b6).mono hbs.2.2.1).trans (k7.below hbs.1 hbs.2.1 (by omega)));have PC:=hv7.Xe;go_upto_region 15 with(go_at_call 10;refine PC.mono ?_;rintro e w8 ⟨g8,Cq,rfl,ow8,b8⟩);clear PC;have bQ:=aW w8 (.cells (pbx g8 Cq) 40);have kQ:=dh w8 (pbx g8 Cq) 40;obtain⟨w9,hw9⟩:∃V,w8.alloc (.cells (pbx g8 Cq) 40)=V:=⟨_,rfl⟩;obtain⟨QB,hQB⟩:∃p,w8.heap.size=p:=⟨_,rfl⟩;rw[hw9] at bQ kQ⊢;rw[hQB] at kQ⊢;clear hw9 hQB;have b79:=az b8 bQ;have kP9:=(b79.block _ (aD kP7)).trans kP7;have HC9:Hid (∀X,Below w9.heap.size w9 X->X.cell? (ag PB 2)=some (.slice (some ⟨g4,0,none⟩) 72 cp4)/\X.cell? (ag QB 2)=some (.slice (some ⟨g8,0,none⟩) 72 Cq)):=(fun X hX=>⟨(hX.cell (ax (aA kP9 2 _ rfl))).trans (aA kP9 2 _ rfl),(hX.cell (ax (aA kQ 2 _ rfl))).trans (aA kQ 2 _ rfl)⟩:∀X,Below w9.heap.size w9 X->X.cell? (ag PB 2)=some (.slice (some ⟨g4,0,none⟩) 72 cp4)/\X.cell? (ag QB 2)=some (.slice (some ⟨g8,0,none⟩) 72 Cq));have HO9:Hid (w9.ownsRow wr.heap.size 9 1 (.slice (some ⟨g4,0,none⟩) 72 cp4) 72 ((iZ aC (lp.map dY) 9 8).map .string)/\w9.ownsRow w7.heap.size 9 1 (.slice (some ⟨g8,0,none⟩) 72 Cq) 72 ((iZ aC (l2.map dY) 9 8).map .string)):=⟨aK acr b79,aK ow8 bQ⟩;have anb:(72:Int)<=(cp4:Int):=by obtain⟨o',c',hv',hl', -⟩:=bA HO9.out.1;cases hv';omega
    have anc:(72:Int)<=(Cq:Int):=by obtain⟨o',c',hv',hl', -⟩:=bA HO9.out.2;cases hv';omega
    have HV9:Hid (LvF w9 LB NB0 DB (150+k+1) l2 9 8):=hv7.below b79;have HN9:Hid (Below NB0 w2 w9):=bN7.trans (b79.mono hv7.base.2.2.1);have HR9:Hid (w9.ownsRow w6.heap.size 3 1 (.slice o7 (gL lp l2 8).length cp7) (gL lp l2 8).length (bY ((gL lp l2 8).map fun(y:Nat)=>(y:Int)))):=aK jQ b79;have hL8:=a7L lp l2;have HNC:Hid (∀y,y<8->(gL lp l2 8).contains y=false->y ∉ gL lp l2 8):=(fun y _ h=>by simpa using h:∀y,y<8->(gL lp l2 8).contains y=false->y ∉ gL lp l2 8);have SR:Hid (∀X y ca cb,Below w9.heap.size w9 X->y<8->(gL lp l2 8).contains y=false->ak 14 #[.slice (some ⟨g4,9*y,none⟩) 9 ca,.slice (some ⟨g8,9*y,none⟩) 9 cb] X fun e W=>e=.returned (.bool true)/\Below X.heap.size X W):=(fun X y ca cb hX hy hc=>a6p (aK HO9.out.1 hX) (aK HO9.out.2 hX) hy (HNC.out y hy hc) ca cb:∀X y ca cb,Below w9.heap.size w9 X->y<8->(gL lp l2 8).contains y=false->ak 14 #[.slice (some ⟨g4,9*y,none⟩) 9 ca,.slice (some ⟨g8,9*y,none⟩) 9 cb] X fun e W=>e=.returned (.bool true)/\Below X.heap.size X W);generalize gL lp l2 8=L at HR9 hL8 SR⊢;have ang:(L.length:Int)<=8:=by omega
    clear HNC HO9 kP9 kQ b79 bQ ow8 b8 bN7 acr Le kP7 k67 jQ k7 hv7 b6 HO4 HV5 HE5 QV X4 HEr;go_wp2_with fail
    go_loopw [14] (fun y wy=>∃j:Nat,j<=8/\y=aa j/\Below w9.heap.size w9 wy) (fun y _=>8-(intOf y).toNat)
    case atStart=>exact⟨0,by omega,rfl,Below.refl _ _⟩
    case round=>
     obtain⟨j,hj,rfl,hby⟩:=hrel;obtain⟨wy,rfl⟩:∃V,V=wr:=⟨wr,rfl⟩;have HBY:Hid (Below w9.heap.size w9 wy):=hby;clear hby;by_cases hj8:j<8
     ·have ani:(j:Int)<8:=by omega
      go_wp2_with fail
      go_loopw [15,16] (fun a kk wz=>∃m:Nat,m<=L.length/\kk=aa m/\a=.bool ((L.take m).contains j)/\wz=wy) (fun _ kk _=>L.length-(intOf kk).toNat)
      case atStart=>exact⟨0,Nat.zero_le _,rfl,by simp,rfl⟩
      case round=>
       obtain⟨m,hm,rfl,rfl,hwz⟩:=hrel;rw[hwz];clear hwz;by_cases hml:m<L.length
       ·have anj:(m:Int)<(L.length:Int):=by omega
        obtain⟨z,hz⟩:∃z,L[m]? =some z:=⟨_,List.getElem?_eq_getElem hml⟩;obtain⟨gz,hoz,cz⟩:=a7I (aK HR9.out HBY.out) hz;subst hoz;have hnx:(L.take (m+1)).contains j=((L.take m).contains j||(z==j)):=by
         rw[List.take_add_one,hz,Bool.eq_iff_iff];simp only[Option.toList_some,List.contains_iff_mem,List.mem_append,List.mem_singleton,Bool.or_eq_true,beq_iff_eq];constructor
         ·rintro(h|h)
          ·exact .inl h
          ·exact .inr h.symm
         ·rintro(h|h)
          ·exact .inl h
          ·exact .inr h.symm
        have HNX:Hid ((L.take (m+1)).contains j=((L.take m).contains j||(z==j))):=hnx;clear hnx hz;generalize (L.take m).contains j=bo at HNX⊢;by_cases hzj:z=j
        ·have agq:((z:Int)==(j:Int))=true:=by simp[hzj]
         have HZ:Hid (z=j):=hzj;clear hzj;go_wp2_with fail
         go_roundw
         case rel=>exact⟨m+1,by omega,by go_num,by rw[HNX.out,HZ.out];simp,by simp⟩
         case measure=>simp[intOf];omega
        ·have agq:((z:Int)==(j:Int))=false:=by rw[beq_eq_false_iff_ne];omega
         have HZ:Hid (z≠j):=hzj;clear hzj;go_wp2_with fail
         go_roundw
         case rel=>exact⟨m+1,by omega,by go_num,by rw[HNX.out,beq_eq_false_iff_ne.2 HZ.out,Bool.or_false],by simp⟩
         case measure=>simp[intOf];omega
       ·obtain rfl:m=L.length:=by omega
        rw[List.take_length];cases hcj:L.contains j with
        |true=>
         clear hcj;go_upto_region 27 with fail;go_region;go_wp2_with fail
         go_roundw
         case rel=>exact⟨j+1,by omega,by go_num,below_drewN HBY.out 1⟩
         case measure=>simp[intOf];omega
        |false=>
         have SR1:=SR.out wy.drew j (cp4-9*j) (Cq-9*j) (below_drewN HBY.out 1) hj8 hcj;obtain⟨Y,hY⟩:∃y,9*j=y:=⟨_,rfl⟩;obtain⟨Z,hZ⟩:∃z,Y+9=z:=⟨_,rfl⟩;rw[hY] at SR1;have hYi:(9:Int)*(j:Int)=(Y:Int):=by omega
         have hZi:(Y:Int)+9=(Z:Int):=by omega
         have hYw:IntKind.i64.wrap (Y:Int)=(Y:Int):=IntWalk.i64_in _ (by omega);have hZw:IntKind.i64.wrap (Z:Int)=(Z:Int):=IntWalk.i64_in _ (by omega);have hY0:(0:Int)<=(Y:Int):=by omega
         have hYZ:(Y:Int)<=(Z:Int):=by omega
         have hZ4:(Z:Int)<=(cp4:Int):=by omega
         have hZ8:(Z:Int)<=(Cq:Int):=by omega
         have anl:Z-Y=9:=by omega
         have hY4:¬cp4=Y:=by omega
         have hY8:¬Cq=Y:=by omega
         have a9V:Hid (Below w9.heap.size w9 wy.drew):=(below_drewN HBY.out 1:Below w9.heap.size w9 (wy.drewN 1));obtain⟨t2,t3⟩:=HC9.out wy HBY.out;obtain⟨t2',t3'⟩:=HC9.out wy.drew a9V.out;have KW:=HC9.out;clear hcj hY hZ SR;go_upto_region 27 with fail
         go_region_held3 (fun w'=>w'.cell? (ag PB 2)=some (.slice (some ⟨g4,0,none⟩) 72 cp4)/\w'.cell? (ag QB 2)=some (.slice (some ⟨g8,0,none⟩) 72 Cq)) ((refine KW _ ?_;first|exact a9V.out|exact b11)) ((go_at_call 14;refine SR1.mono ?_;rintro e w11 ⟨rfl,ags⟩;have b11:=az a9V.out ags))
         all_goals
          go_wp2_with fail
          go_roundw
          case rel=>exact⟨j+1,by omega,by go_num,b11⟩
          case measure=>simp[intOf];omega
     ·obtain rfl:j=8:=by omega
      go_wp2_with fail
      go_roundw
      case rel=>exact⟨k+1,by omega,by go_num,HN9.out.trans (HBY.out.mono HV9.out.base.2.2.1),l2,HV9.out.below HBY.out⟩
      case measure=>simp[intOf];omega
  ·obtain rfl:k=l.length:=by omega
   have AN:=HV.out.anew HEr.out;have hbs:=HV.out.base;go_upto_region 30 with(first|(go_at_call 9;refine NW.mono ?_;rintro e w5 ⟨LB2,DB2,l2,rfl,b5,hv5,hlp⟩)|(go_at_call 15;refine AN.mono ?_;rintro e w4 ⟨s,p1,n1,k1,p2,n2,k2,rfl,b4,NW⟩));have PC1:=hv5.Xe;have PC2:=fun X (hX:Below w5.heap.size w5 X)=>(HV.out.below (az b5 hX)).Xe;rw[hlp] at PC1;have SP:=fun(X:World) (B B' g g' cp cp':Nat) (h1:X.ownsRow B 9 1 (.slice (some ⟨g,0,none⟩) 72 cp) 72 ((iZ aC (lp.map dY) 9 8).map .string)) (h2:X.ownsRow B' 9 1 (.slice (some ⟨g',0,none⟩) 72 cp') 72 ((iZ aC (lp.map dY) 9 8).map .string))=>KS (gF _ _ _ _) h1 h2;clear AN NW hlp hv5;go_wp2_with(first|(go_at_call 13;refine(SP _ _ _ _ _ _ _ (aK Le b7) jQ).mono ?_;rintro e w8 ⟨rfl,b8⟩)|(go_at_call_of 10 LB;refine(PC2 _ b6).mono ?_;rintro e w7 ⟨g7,cp7,rfl,jQ,b7⟩)|(go_at_call_of 10 LB2;refine PC1.mono ?_;rintro e w6 ⟨g6,Yz,rfl,Le,b6⟩));go_ret;exact⟨rfl,az HBW.out (az b5 (az b6 (az b7 b8)))⟩
end Go.Proofs.YtjfiehbcamfdfaaGreatDoor

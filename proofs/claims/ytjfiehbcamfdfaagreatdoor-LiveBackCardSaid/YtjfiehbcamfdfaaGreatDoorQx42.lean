/-
  Parts of the proof.
-/
import Derived.Test.YtjfiehbcamfdfaaGreatDoorQx41
namespace Go.Proofs.YtjfiehbcamfdfaaGreatDoor
open Go.RowKit
set_option maxHeartbeats 16000000
set_option maxRecDepth 20000
theorem Y6 {w:World}{B g n cp:Nat}{l:List ByteArray}(h:w.ownsRow B 9 1 (.slice (some ⟨g,0,none⟩) n cp) n (l.map .string)):KN w (some ⟨g,0,none⟩) l:=fun i x hx=>by
  obtain⟨g',hg,hc⟩:=bJ h i (.string x) (by rw[List.getElem?_map,hx];rfl);cases hg;exact⟨g,0,rfl,by rw[Nat.zero_add];exact hc⟩
theorem KS {w:World}{B B' g g' cp cp':Nat}{l:List ByteArray}(hl:l.length=72)(h:w.ownsRow B 9 1 (.slice (some ⟨g,0,none⟩) 72 cp) 72 (l.map .string))(h':w.ownsRow B' 9 1 (.slice (some ⟨g',0,none⟩) 72 cp') 72 (l.map .string)):
    ak 13 #[.agg #[aa 9,aa 8,.slice (some ⟨g,0,none⟩) 72 cp],.agg #[aa 9,aa 8,.slice (some ⟨g',0,none⟩) 72 cp']] w fun e W=>e=.returned (.bool true)/\Below w.heap.size w W:=by
  have h1:=XW l l (some ⟨g,0,none⟩) (some ⟨g',0,none⟩) cp cp' 9 8 w (by omega) (Y6 h) (Y6 h');rw[hl] at h1;refine h1.mono fun e W ⟨h2,h3⟩=>⟨?_,h3⟩;rcases h2 with⟨-,h2⟩|⟨h2, -⟩
  · exact h2
  · exact absurd rfl h2
structure KZ (PB g4 c4:Nat)(w:World):Prop where
  c0:w.cell? (ag PB 0)=some (aa 9)
  c1:w.cell? (ag PB 1)=some (aa 8)
  c2:w.cell? (ag PB 2)=some (.slice (some ⟨g4,0,none⟩) 72 c4)
theorem KZ.below {PB g4 c4:Nat}{w w':World}(h:KZ PB g4 c4 w)(hb:Below w.heap.size w w'):KZ PB g4 c4 w':=⟨(hb.cell (ax h.c0)).trans h.c0,(hb.cell (ax h.c1)).trans h.c1,(hb.cell (ax h.c2)).trans h.c2⟩
structure PY (LB g4 c4 g cap m k:Nat)(o6 o8:Option Addr)(Yz Cq:Nat)(w8:World):Prop where
  si:ak 18 #[.slice o6 k Yz,.slice o8 k Cq] w8.drew fun e w'=>e=.returned (.bool true)/\Below w8.heap.size w8 w'
  ps:∀X,Below w8.heap.size w8 X->ak 10 #[aj LB] X fun e w'=>∃g7 c7,e=.returned (.agg #[aa 9,aa 8,.slice (some ⟨g7,0,none⟩) 72 c7])/\Below w8.heap.size w8 w'/\
    ak 13 #[.agg #[aa 9,aa 8,.slice (some ⟨g4,0,none⟩) 72 c4],.agg #[aa 9,aa 8,.slice (some ⟨g7,0,none⟩) 72 c7]] w' fun e w2=>e=.returned (.bool true)/\Below w8.heap.size w8 w2
  nf:∀X,Below w8.heap.size w8 X->ak 15 #[aj LB] X fun e w'=>∃s p1 n1 k1 p2 n2 k2,e=.returned (.agg #[.string s,.slice p1 n1 k1,.slice p2 n2 k2])/\Below w8.heap.size w8 w'/\
    ak 7 #[.agg #[.string s,.slice p1 n1 k1,.slice p2 n2 k2]] w' fun e w2=>∃g7 m7 c7,e=.returned (.slice (some ⟨g7,0,none⟩) m7 c7)/\Below w8.heap.size w8 w2/\
      ak 19 #[.slice (some ⟨g7,0,none⟩) m7 c7,.slice (some ⟨g,0,none⟩) m cap] w2 fun e w3=>e=.returned (aa 1)/\Below w8.heap.size w8 w3
theorem a4Y {w1 w8:World}{LB B DB B4 g4 c4 g cap B6 B8:Nat}{M:List wo}{n:Nd}{nx c:Nat}{r:Int->Nat}{rl:List Rl}{l:List Pc}{o6 o8:Option Addr}{Yz Cq:Nat}{L:List Nat}
    (h:rX w8 LB B DB (dZ n) nx c r rl l 9 8) (hp:w8.ownsRow B4 9 1 (.slice (some ⟨g4,0,none⟩) 72 c4) 72 ((iZ aC (l.map dY) 9 8).map .string)) (h6:w8.ownsRow B6 3 1 (.slice o6 L.length Yz) L.length (bY (L.map fun(y:Nat)=>(y:Int)))) (h8:w8.ownsRow B8 3 1 (.slice o8 L.length Cq) L.length (bY (L.map fun(y:Nat)=>(y:Int)))) (hL:L.length<=1000000)
    (hf:Fit n) (hr:xu w8 g M) (hR:je w1 M (nu 0 (-1) 1 n)) (hb:Below w1.heap.size w1 w8) (hc:M.length<=cap) (hm:M.length<=150):PY LB g4 c4 g cap M.length L.length o6 o8 Yz Cq w8:=by
  refine⟨?_,fun X hX=>?_,fun X hX=>?_⟩
  · have h1:=tJ (B:=B6) (B':=B8) w8.drew o6 o8 Yz Cq (L.map fun(y:Nat)=>(y:Int)) (by rw[List.length_map];exact aK h6 (below_drewN (Below.refl _ _) 1)) (by rw[List.length_map];exact aK h8 (below_drewN (Below.refl _ _) 1)) (by rw[List.length_map];exact hL)
    rw[List.length_map] at h1;exact h1.mono fun e w' ⟨h2,h3⟩=>⟨h2,⟨h3.os,h3.tape,h3.output,h3.size,h3.block⟩⟩
  · refine((h.below hX).Xe (by decide) (by decide) (by decide) (by decide)).mono fun e w' ⟨g7,c7,h1,h2,h3⟩=>⟨g7,c7,h1,az hX h3,?_⟩
    exact(KS (gF _ _ _ _) (aK hp (az hX h3)) h2).mono fun e w2 ⟨h4,h5⟩=>⟨h4,az (az hX h3) h5⟩
  · refine(h.below hX).node.mono fun e w' ⟨⟨s,p1,n1,k1,p2,n2,k2,h1,h2⟩,h3⟩=>⟨s,p1,n1,k1,p2,n2,k2,h1,az hX h3,?_⟩
    rw[h.ndn] at h2;refine(Y5 h2 hf).mono fun e w2 ⟨M7,g7,c7,h4,h5,h6⟩=>⟨g7,M7.length,c7,h4,az (az hX h3) h6,?_⟩;have bb:=az (az hX h3) h6;refine(Co w' w1 M7 M g7 g c7 cap _ _ w2 h6 (az hb bb) h5.out.2.2.1 (hr.below bb) h5.out.2.1 hc h5.out.1 hm h5.out.2.2.2 hR).mono fun e w3 ⟨h7,r,h8,h9⟩=>⟨?_,az bb h7⟩;rw[h8,h9.2 (Tj.2 rfl)];rfl
theorem adt {w:World}{b:Nat}{a0 a1 a2 a3 a4 a5:Value}{t:TypeId}(h:w.heap[b]? =some (.cells #[a0,a1,a2,a3,a4,a5] t))(u0 u1 u2 u3 u4 u5:Value):((((((w.setCell ⟨b,0,none⟩ u0).setCell ⟨b,1,none⟩ u1).setCell ⟨b,2,none⟩ u2).setCell ⟨b,3,none⟩ u3).setCell ⟨b,4,none⟩ u4).setCell ⟨b,5,none⟩ u5).heap[b]? =some (.cells #[u0,u1,u2,u3,u4,u5] t):=by
  have h1:=heap_setCell_same _ b 5 _ _ u5 (heap_setCell_same _ b 4 _ _ u4 (heap_setCell_same _ b 3 _ _ u3 (heap_setCell_same _ b 2 _ _ u2 (heap_setCell_same _ b 1 _ _ u1 (heap_setCell_same w b 0 _ _ u0 h)))));rw[h1];rfl
theorem adu {N b:Nat}{w w7:World}(h:Below N w w7)(hb:N<=b)(u0 u1 u2 u3 u4 u5:Value):Below N w ((((((w7.setCell ⟨b,0,none⟩ u0).setCell ⟨b,1,none⟩ u1).setCell ⟨b,2,none⟩ u2).setCell ⟨b,3,none⟩ u3).setCell ⟨b,4,none⟩ u4).setCell ⟨b,5,none⟩ u5):=
  Below.setCell (Below.setCell (Below.setCell (Below.setCell (Below.setCell (Below.setCell h hb _) hb _) hb _) hb _) hb _) hb _
theorem GA (E:Nat->Addr)(n:Nd)(a0 a1 a2:Value)(which:Int)(nm vl:Bs)(W:World)(hE:LE E W)(ha:jR W a0 a1 a2 n)(hw1:dH which):
    ak 4 #[.agg #[a0,a1,a2],aa which,.string ⟨nm.toArray⟩,.string ⟨vl.toArray⟩] W fun e w'=>e=.returned (.bool true)/\Below W.heap.size W w':=by
  obtain⟨sa,oa,na,ka,wX,na',ka',rfl,rfl,rfl⟩:∃(sa:ByteArray) (oa:Option Addr) (na ka:Nat) (wX:Option Addr) (na' ka':Nat),a0=.string sa/\a1=.slice oa na ka/\a2=.slice wX na' ka':=by
    obtain⟨nm,ats,ks⟩:=n;unfold jR at ha;obtain⟨rfl, -,⟨o,cap,rfl, -⟩,ok,dB,rfl, -⟩:=ha;exact⟨_,_,_,_,_,_,_,rfl,rfl,rfl⟩
  have A0:NB W.heap.size (.string sa) (.slice oa na ka) (.slice wX na' ka') (W.alloc (.cells #[.string sa,.slice oa na ka,.slice wX na' ka'] 25)):=dh W #[.string sa,.slice oa na ka,.slice wX na' ka'] 25;have bW:=aW W (.cells #[.string sa,.slice oa na ka,.slice wX na' ka'] 25);go_enter Tryz.func4,Tryz.ntmps4;go_upto_region 1 with fail;obtain⟨V,hV⟩:∃V,W.alloc (.cells #[.string sa,.slice oa na ka,.slice wX na' ka'] 25)=V:=⟨_,rfl⟩;rw[hV] at A0 bW⊢;clear hV;have HE:Hid (LE E V):=hE.below bW;have HA:Hid (jR V (.string sa) (.slice oa na ka) (.slice wX na' ka') n):=jR.below bW n ha;clear hE ha;have DK:=NL E V HE.out;go_upto_region 2 with(go_at_call 6;refine DK.mono ?_;rintro e w1 ⟨rfl,B1⟩);clear DK;have FA:=yt n _ _ _ w1 (jR.below B1 n HA.out);have A1:=(B1.block _ (aD A0)).trans A0;have x0:=NB.c0 A1;have x1:=NB.c1 A1;have x2:=NB.c2 A1;go_upto_region 3 with(go_at_call 7;refine FA.mono ?_;rintro e w2 ⟨b2,va,rfl,fa⟩);clear x0 x1 x2 FA;have B2:=az B1 b2;have BW2:=az bW B2;rcases fa with⟨-,rfl⟩|⟨hfit,M,g,cap,rfl,hM0,hM1,hM2,ZM,hM4⟩
  · go_wp2_with fail
    go_ret;exact⟨rfl,BW2⟩
  have hM0':((M.length:Int)==0)=false:=by rw[beq_eq_false_iff_ne];omega
  have hns:=fD nm;have hvs:=fD vl;by_cases ajV:25<M.length
  · have a8Q:(25:Int)<(M.length:Int):=by omega
    go_wp2_with fail;go_ret;exact⟨rfl,BW2⟩
  have a8Q:(M.length:Int)<=25:=by omega
  by_cases ajW:60<nm.length
  · have a8R:(60:Int)<(nm.length:Int):=by omega
    go_wp2_with fail;go_ret;exact⟨rfl,BW2⟩
  have a8R:(nm.length:Int)<=60:=by omega
  by_cases agj:250<vl.length
  · have a4Z:(250:Int)<(vl.length:Int):=by omega
    go_wp2_with fail;go_ret;exact⟨rfl,BW2⟩
  have a4Z:(vl.length:Int)<=250:=by omega
  go_upto_region 5 with fail;have hsz:dQ n<=150:=by
    have h1:=hM4.len;rw[O8] at h1;omega
  have A2:=(B2.block _ (aD A0)).trans A0;have x0:=NB.c0 A2;have x1:=NB.c1 A2;have x2:=NB.c2 A2;have NW:=a1Z E n _ _ _ w2 9 8 (HE.out.below B2) (jR.below B2 n HA.out) (by omega) (by decide) (by decide) (by decide) (by decide);have HM:Hid (xu w2 g M/\je w1 M (nu 0 (-1) 1 n)/\M.length<=cap/\M.length<=150/\0<M.length/\Fit n):=⟨ZM,hM4,hM2,hM1,hM0,hfit⟩;clear ZM hM4 hM2 hM1 hM0 hfit;go_upto_region 6 with(go_at_call 9;refine NW.mono ?_;rintro e w3 ⟨b3,q3⟩;obtain⟨v3,u3,rfl,h3⟩:∃v u,e=.returned (.tuple #[v,u])/\((v=.pointer none/\∃t y,u=.iface t y)\/∃LB DB l,(fT n 1 0).1=0/\di (dZ n) []=.ok l/\v=aj LB/\u=.nilIface/\rX w3 LB w2.heap.size DB (dZ n) (dQ n) (dQ n) (Db n) [] l 9 8):=(by rcases q3 with⟨-,t,u,h3⟩|⟨LB,DB,l,h1,h2,h3,h4⟩;exact⟨_,_,h3,.inl ⟨rfl,t,u,rfl⟩⟩;exact⟨_,_,h3,.inr ⟨LB,DB,l,h1,h2,rfl,rfl,h4⟩⟩));clear NW x0 x1 x2 q3;have BW3:=az BW2 b3;rcases h3 with⟨rfl,t,y,rfl⟩|⟨LB,DB,l,hck,hpm,rfl,rfl,hl3⟩
  · go_wp2_with fail
    go_ret;exact⟨rfl,BW3⟩
  have PC:=hl3.Xe (by decide) (by decide) (by decide) (by decide);go_upto_region 9 with(go_at_call 10;refine PC.mono ?_;rintro e w4 ⟨g4,c4,rfl,Vl,b4⟩);clear PC;have bP:=aW w4 (.cells #[aa 9,aa 8,.slice (some ⟨g4,0,none⟩) 72 c4] 40);have kP:=dh w4 #[aa 9,aa 8,.slice (some ⟨g4,0,none⟩) 72 c4] 40;have b3P:=az b4 bP;have hl4:=hl3.below b3P;have DC:=hl4.doc;have AT:=hl4.attr which hw1 nm;go_upto_region 10 with(first|(go_at_call 16;refine DC.mono ?_;rintro e w5 ⟨rfl,rfl⟩)|(go_at_call 17;refine AT.mono ?_;rintro e w5 ⟨rfl,b5⟩));have kP5:=(b5.block _ (aD kP)).trans kP;have wc5:KZ w4.heap.size g4 c4 w5:=⟨aA kP5 0 _ rfl,aA kP5 1 _ rfl,aA kP5 2 _ rfl⟩;have pQ:=aK Vl (az bP b5);have hl5:=hl4.below b5;have b35:=az b3P b5;have B5:=az B2 (az b3 b35);have adw:w3.heap.size<=w4.heap.size:=b4.size;have adx:w4.heap.size<w5.heap.size:=aD kP5;obtain⟨PB,hPB⟩:∃PB,w4.heap.size=PB:=⟨_,rfl⟩;rw[hPB] at wc5 adw adx⊢;have hpl:(iZ aC (l.map dY) 9 8).length=72:=gF _ _ _ _;have hE5:=HE.out.below B5;have D1:ak 11 #[aj LB,.agg #[.string ⟨#[115,101,116]⟩,aa which,aa 0,aa 0,.string ⟨nm.toArray⟩,.string ⟨vl.toArray⟩]] w5 fun e w6=>∃v u,e=.returned (.tuple #[v,u])/\((v=.slice none 0 0/\(∃t y,u=.iface t y)/\Below w5.heap.size w5 w6/\rX w6 LB w2.heap.size DB (dZ n) (dQ n) (dQ n) (Db n) [] l 9 8)\/∃M2 l2 o m cp,nO (dZ n) which nm vl=.ok M2/\di M2 []=.ok l2/\v=.slice o m cp/\u=.nilIface/\w6.ownsRow w5.heap.size 3 1 (.slice o m cp) (gL l l2 8).length (bY ((gL l l2 8).map fun(y:Nat)=>(y:Int)))/\K2 LB DB w5 w6/\rX w6 LB w2.heap.size DB M2 (dQ n) (dQ n) (Db n) [] l2 9 8):=
    (a4T hE5 hl5 (by decide) (by decide) (by decide) (by decide) ⟨yP,which,0,0,nm,vl⟩ (show yP≠uC by decide) (nO (dZ n) which nm vl) (fun N X qi qo vX p1 h1 h2 h3 h4=>xD (hE5.below h2) h4 h3 which 0 0 hw1 nm vl (by omega) (by omega))).mono fun e w6 hr=>by
      rcases hr with⟨-,⟨t,u,h1⟩,h2,h3⟩|⟨M2,l2,o,m,cp,h1,h2,h3,h4,h5,h6⟩
      · exact⟨_,_,h1,.inl ⟨rfl,⟨t,u,rfl⟩,h2,h3⟩⟩
      · exact⟨_,_,h3,.inr ⟨M2,l2,o,m,cp,h1,h2,rfl,rfl,h4,h5,h6⟩⟩
  have HL3:Hid (rX w3 LB w2.heap.size DB (dZ n) (dQ n) (dQ n) (Db n) [] l 9 8):=hl3;clear AT DC hl3 hl4 kP kP5 Vl;go_upto_region 11 with(go_at_call 11;refine D1.mono ?_;rintro e w6 ⟨v6,u6,rfl,h6⟩);clear D1;rcases h6 with⟨rfl,⟨t,y,rfl⟩,b6,hl6⟩|⟨M2,l2,o6,m6,Yz,hset,ady,rfl,rfl,Le,k6,hl6⟩
  · have PC:=fun X (hX:Below w6.heap.size w6 X)=>(hl6.below hX).Xe (by decide) (by decide) (by decide) (by decide)
    have PC6:=PC w6.drew (below_drewN (Below.refl _ _) 1);have wc6:=wc5.below b6;have KW:∀X,Below w6.heap.size w6 X->X.cell? (ag PB 0)=some (aa 9)/\X.cell? (ag PB 1)=some (aa 8)/\X.cell? (ag PB 2)=some (.slice (some ⟨g4,0,none⟩) 72 c4):=fun X hX=>⟨(wc6.below hX).c0,(wc6.below hX).c1,(wc6.below hX).c2⟩;have SP:∀X g7 c7,Below w6.heap.size w6 X->X.ownsRow w6.drew.heap.size 9 1 (.slice (some ⟨g7,0,none⟩) 72 c7) 72 ((iZ aC (l.map dY) 9 8).map .string)->_:=fun X g7 c7 hX h1=>KS hpl (aK pQ (az b6 hX)) h1;have B6:=az B5 b6;have HB6:Hid (Below W.heap.size W w6):=az bW B6;clear PC hl5 hl6 wc5 wc6 pQ;go_upto_region 12 with fail
    go_region_held3 (fun w'=>w'.cell? (ag PB 0)=some (aa 9)/\w'.cell? (ag PB 1)=some (aa 8)/\w'.cell? (ag PB 2)=some (.slice (some ⟨g4,0,none⟩) 72 c4)) ((refine KW _ ?_;first|exact below_drewN (Below.refl _ _) 1|exact b8|exact b7)) (first|(go_at_call 10;refine PC6.mono ?_;rintro e w7 ⟨g7,c7,rfl,jQ,b7'⟩;have b7:Below w6.heap.size w6 w7:=⟨b7'.os,b7'.tape,b7'.output,b7'.size,b7'.block⟩;have SP7:=SP w7 g7 c7 b7 jQ)|(go_at_call 13;refine SP7.mono ?_;rintro e w8 ⟨rfl,b8'⟩;have b8:=az b7 b8'))
    all_goals
      go_wp2_with fail;go_ret;exact⟨rfl,az HB6.out b8⟩
  · obtain⟨z1,z2,z3⟩:=hl6.base
    have ak2:LB<PB/\DB<PB:=by
      have h1:=HL3.out.lt;omega
    have k6c:∀b,b<w5.heap.size->w3.heap.size<=b->w6.heap[b]? =w5.heap[b]? :=fun b hb hb3=>k6.block b hb (by have:=HL3.out.lt;omega) (by have:=HL3.out.lt;omega);have B56:Below w2.heap.size w5 w6:=k6.below z1 z2 (by have:=az b3 b35;exact this.size);have b26:Below w2.heap.size w2 w6:=(az b3 b35).trans B56;have B6:=az B2 b26;have wc6:KZ PB g4 c4 w6:=⟨k6.cell wc5.c0 (by omega) (by omega),k6.cell wc5.c1 (by omega) (by omega),k6.cell wc5.c2 (by omega) (by omega)⟩;have a1c:w6.ownsRow w3.heap.size 9 1 (.slice (some ⟨g4,0,none⟩) 72 c4) 72 ((iZ aC (l.map dY) 9 8).map .string):=bS pQ fun b hb=>k6c b (pQ.lt b hb).2 (pQ.lt b hb).1;have hE6:=HE.out.below B6;have hl2:=hl6.a4X;have hMD:vW (dZ n) []/\dP (dZ n):=⟨hl5.a4X.1,hl5.a4X.2.2⟩;have hrm:m6=(gL l l2 8).length:=by
      obtain⟨o',c',hv, -⟩:=bA Le;cases hv;rfl
    subst hrm;have D2:∀(x:Ed) (X:World),x.kd≠uC->Below w6.heap.size w6 X->(∀N Y qi qo vX p1,X.heap.size<=N->Below X.heap.size X Y->dP M2->gN N qi Y qo vX p1 M2 (dQ n) (dQ n) (Db n)->ak 29 #[aj qo,.agg (zg x)] Y fun e w'=>Below N Y w'/\(((∃k,(Except.ok (dZ n):Except Nat Dm)=.error k)/\∃t u,e=.returned (.iface t u))\/(e=.returned .nilIface/\∃vz p2 M3 lN c2 r2,((Except.ok (dZ n):Except Nat Dm)=.ok M3/\lN=dQ n/\c2=dQ n/\r2=Db n)/\dP M3/\gN N vz w' qo vX p2 M3 lN c2 r2)))->
        ak 11 #[aj LB,.agg (zg x)] X fun e w8=>∃o cp,e=.returned (.tuple #[.slice o (gL l l2 8).length cp,.nilIface])/\Hid (w8.ownsRow X.heap.size 3 1 (.slice o (gL l l2 8).length cp) (gL l l2 8).length (bY ((gL l l2 8).map fun(y:Nat)=>(y:Int)))/\K2 LB DB X w8/\rX w8 LB w2.heap.size DB (dZ n) (dQ n) (dQ n) (Db n) [] l 9 8):=fun x X hx hX hAp=>(a4T (hE6.below hX) (hl6.below hX) (by decide) (by decide) (by decide) (by decide) x hx (.ok (dZ n)) hAp).mono fun e w8 hr=>by
      rcases hr with⟨h1, -⟩|⟨M3,l3,o,m,cp,h1,h2,h3,h4,h5,h6⟩
      · exfalso
        rcases h1 with⟨k,h1⟩|⟨M3,h1,h2⟩
        · cases h1
        · cases h1
          exact h2 hMD.1
      · cases h1
        rw[hpm] at h2;have h7:=Except.ok.inj h2;subst h7;rw[Vr] at h4;obtain⟨o',c',hv, -⟩:=bA h4;cases hv;exact⟨o,cp,h3,h4,h5,h6⟩
    have HL6:Hid (rX w6 LB w2.heap.size DB M2 (dQ n) (dQ n) (Db n) [] l2 9 8/\Below w2.heap.size w2 w6/\Below V.heap.size V w6):=⟨hl6,b26,B6⟩;have a1d:Hid (w6.ownsRow w5.heap.size 3 1 (.slice o6 (gL l l2 8).length Yz) (gL l l2 8).length (bY ((gL l l2 8).map fun(y:Nat)=>(y:Int)))):=Le;have a5c:=hset;clear hset hl5 hl6 wc5 pQ Le k6 k6c B56 hl2;go_upto_region 14 with fail;have kE:=dh w6 #[.string ⟨#[117,110,115,101,116]⟩,aa which,aa 0,aa 0,.string ⟨nm.toArray⟩,.string ⟨#[]⟩] 45;have bE:=aW w6 (.cells #[.string ⟨#[117,110,115,101,116]⟩,aa which,aa 0,aa 0,.string ⟨nm.toArray⟩,.string ⟨#[]⟩] 45);obtain⟨w7,hw7⟩:∃X,w6.alloc (.cells #[.string ⟨#[117,110,115,101,116]⟩,aa which,aa 0,aa 0,.string ⟨nm.toArray⟩,.string ⟨#[]⟩] 45)=X:=⟨_,rfl⟩;rw[hw7] at kE bE⊢;clear hw7;have hwl:w6.heap.size<w7.heap.size:=aD kE;have hL1:(gL l l2 8).length<=1000000:=Nat.le_trans (List.length_filter_le _ _) (by rw[List.length_range];omega);have TL:∀X w8 o8 Cq,Below w6.heap.size w6 X->Hid (w8.ownsRow X.heap.size 3 1 (.slice o8 (gL l l2 8).length Cq) (gL l l2 8).length (bY ((gL l l2 8).map fun(y:Nat)=>(y:Int)))/\K2 LB DB X w8/\rX w8 LB w2.heap.size DB (dZ n) (dQ n) (dQ n) (Db n) [] l 9 8)->Hid (PY LB g4 c4 g cap M.length (gL l l2 8).length o6 o8 Yz Cq w8/\KZ PB g4 c4 w8/\Below W.heap.size W w8):=fun X w8 o8 Cq hX h8=>by
      obtain⟨h1,h2,h3⟩:=h8;have hlt:=HL3.out.lt;have B68:Below w2.heap.size X w8:=h2.below z1 z2 (Nat.le_trans z3 hX.size);have hk:∀b,b<w6.heap.size->w3.heap.size<=b->w8.heap[b]? =w6.heap[b]? :=fun b hb hb3=>(h2.block b (Nat.lt_of_lt_of_le hb hX.size) (by omega) (by omega)).trans (hX.block b hb);have b28:Below w2.heap.size w2 w8:=(az b26 hX).trans B68;have h35:w3.heap.size<=w5.heap.size:=b35.size;have wx:=wc6.below hX;refine⟨a4Y h3 (bS a1c fun b hb=>hk b (a1c.lt b hb).2 (a1c.lt b hb).1) (bS a1d.out fun b hb=>hk b (a1d.out.lt b hb).2 (Nat.le_trans h35 (a1d.out.lt b hb).1)) h1 hL1 HM.out.2.2.2.2.2 (HM.out.1.below b28) HM.out.2.1 (az b2 b28) HM.out.2.2.1 HM.out.2.2.2.1,⟨h2.cell wx.c0 (by omega) (by omega),h2.cell wx.c1 (by omega) (by omega),h2.cell wx.c2 (by omega) (by omega)⟩,az BW2 b28⟩
    have hov:∀o,qa (dZ n) which nm=some o->o.length<=1000000:=fun o ho=>by
      unfold qa at ho;cases hm:dZ n which with
      |none=>rw[hm] at ho;cases ho
      |some e=>
        rw[hm] at ho;have ho:iK e.ats nm=some o:=ho;obtain⟨-, -,h3⟩:=hMD.2 which e hm;unfold iK at ho;obtain⟨a,ha,rfl⟩:=Option.map_eq_some_iff.1 ho;exact Nat.le_trans (nD (h3.1 a (List.mem_of_find?_eq_some ha)).2) (by decide)
    have DN:qa (dZ n) which nm=none->ak 11 #[aj LB,.agg #[.string ⟨#[117,110,115,101,116]⟩,aa which,aa 0,aa 0,.string ⟨nm.toArray⟩,.string ⟨#[]⟩]] w7 fun e w8=>∃o8 Cq,e=.returned (.tuple #[.slice o8 (gL l l2 8).length Cq,.nilIface])/\Hid (PY LB g4 c4 g cap M.length (gL l l2 8).length o6 o8 Yz Cq w8/\KZ PB g4 c4 w8/\Below W.heap.size W w8):=fun ho=>
      (D2 ⟨mO,which,0,0,nm,[]⟩ w7 (show mO≠uC by decide) bE (fun N X qi qo vX p1 h1 h2 h3 h4=>Tk a5c ho▸Ko ((hE6.below bE).below h2) h4 h3 which 0 0 hw1 nm [])).mono fun e w8 ⟨o8,Cq,h1,h2⟩=>⟨o8,Cq,h1,TL w7 w8 o8 Cq bE h2⟩
    have DS:∀o X,qa (dZ n) which nm=some o->Below w6.heap.size w6 X->ak 11 #[aj LB,.agg #[.string ⟨#[115,101,116]⟩,aa which,aa 0,aa 0,.string ⟨nm.toArray⟩,.string ⟨o.toArray⟩]] X fun e w8=>∃o8 Cq,e=.returned (.tuple #[.slice o8 (gL l l2 8).length Cq,.nilIface])/\Hid (PY LB g4 c4 g cap M.length (gL l l2 8).length o6 o8 Yz Cq w8/\KZ PB g4 c4 w8/\Below W.heap.size W w8):=fun o X ho bX=>
      (D2 ⟨yP,which,0,0,nm,o⟩ X (show yP≠uC by decide) bX (fun N Y qi qo vX p1 h1 h2 h3 h4=>set_set hMD.2 a5c ho▸xD ((hE6.below bX).below h2) h4 h3 which 0 0 hw1 nm o (by omega) (hov o ho))).mono fun e w8 ⟨o8,Cq,h1,h2⟩=>⟨o8,Cq,h1,TL X w8 o8 Cq bX h2⟩
    have sep:True:=trivial;clear HL6 a1d a5c D2 TL hov hMD wc6 a1c b26 B6 hE6 HM HL3 hpm ady hck;cases ho:qa (dZ n) which nm with
    |none=>
      obtain⟨x0,x1,x2,x3,x4,x5⟩:=Yv.of (x:=⟨mO,which,0,0,nm,[]⟩) kE;have DX:=DN ho;clear DN DS;go_upto_region 17 with(go_at_call 11;refine DX.mono ?_;rintro e w8 ⟨o8,Cq,rfl,h8⟩);have WK:=h8.out.2.1;have SI:=h8.out.1.si;have PS:=h8.out.1.ps;have NF:=h8.out.1.nf;have HB:Hid (Below W.heap.size W w8):=h8.out.2.2;have KW:∀X,Below w8.heap.size w8 X->X.cell? (ag PB 0)=some (aa 9)/\X.cell? (ag PB 1)=some (aa 8)/\X.cell? (ag PB 2)=some (.slice (some ⟨g4,0,none⟩) 72 c4):=fun X hX=>⟨(WK.below hX).c0,(WK.below hX).c1,(WK.below hX).c2⟩;clear h8 WK
      go_region_held3 (fun w'=>w'.cell? (ag PB 0)=some (aa 9)/\w'.cell? (ag PB 1)=some (aa 8)/\w'.cell? (ag PB 2)=some (.slice (some ⟨g4,0,none⟩) 72 c4)) ((refine KW _ ?_;first|exact b14|exact b13|exact b12|exact b11|exact b10|exact b9|exact below_drewN (Below.refl _ _) 1)) (first
        |(go_at_call 18;refine SI.mono ?_;rintro e w9 ⟨rfl,b9⟩;have PS9:=PS w9 b9)
        |(go_at_call 10;refine PS9.mono ?_;rintro e w10 ⟨g7,c7,rfl,b10,SP⟩)
        |(go_at_call 13;refine SP.mono ?_;rintro e w11 ⟨rfl,b11⟩;have a5d:=NF w11 b11)
        |(go_at_call 15;refine a5d.mono ?_;rintro e w12 ⟨s,p1,n1,k1,p2,n2,k2,rfl,b12,FL⟩)
        |(go_at_call 7;refine FL.mono ?_;rintro e w13 ⟨g9,m9,c9,rfl,b13,AL⟩)
        |(go_at_call 19;refine AL.mono ?_;rintro e w14 ⟨rfl,b14⟩))
      all_goals
        go_wp2_with fail;go_ret;exact⟨rfl,az HB.out b14⟩
    |some o=>
      obtain⟨x0,x1,x2,x3,x4,x5⟩:=Yv.of (x:=⟨mO,which,0,0,nm,[]⟩) kE;have fz:∀j,w7.frozen? ⟨w6.heap.size,j,none⟩=false:=fun j=>by unfold World.frozen?;rw[kE];simp
      have f0:=fz 0;have f1:=fz 1;have f2:=fz 2;have f3:=fz 3;have f4:=fz 4;have f5:=fz 5;clear fz;clear DN;go_upto_region 16 with fail;have bX:=adu bE Nat.le.refl (.string ⟨#[115,101,116]⟩) (aa which) (aa 0) (aa 0) (.string ⟨nm.toArray⟩) (.string ⟨o.toArray⟩);have kX:=adt kE (.string ⟨#[115,101,116]⟩) (aa which) (aa 0) (aa 0) (.string ⟨nm.toArray⟩) (.string ⟨o.toArray⟩);have DX:=DS o _ ho bX;obtain⟨y0,y1,y2,y3,y4,y5⟩:=Yv.of (x:=⟨yP,which,0,0,nm,o⟩) kX;clear DS;obtain⟨w9,hw9⟩:∃X,((((((w7.setCell ⟨w6.heap.size,0,none⟩ (.string ⟨#[115,101,116]⟩)).setCell ⟨w6.heap.size,1,none⟩ (aa which)).setCell ⟨w6.heap.size,2,none⟩ (aa 0)).setCell ⟨w6.heap.size,3,none⟩ (aa 0)).setCell ⟨w6.heap.size,4,none⟩ (.string ⟨nm.toArray⟩)).setCell ⟨w6.heap.size,5,none⟩ (.string ⟨o.toArray⟩))=X:=⟨_,rfl⟩;rw[hw9] at bX kX DX y0 y1 y2 y3 y4 y5⊢;clear hw9 x0 x1 x2 x3 x4 x5 f0 f1 f2 f3 f4 f5;go_upto_region 17 with(go_at_call 11;refine DX.mono ?_;rintro e w8 ⟨o8,Cq,rfl,h8⟩);have WK:=h8.out.2.1;have SI:=h8.out.1.si;have PS:=h8.out.1.ps;have NF:=h8.out.1.nf;have HB:Hid (Below W.heap.size W w8):=h8.out.2.2;have KW:∀X,Below w8.heap.size w8 X->X.cell? (ag PB 0)=some (aa 9)/\X.cell? (ag PB 1)=some (aa 8)/\X.cell? (ag PB 2)=some (.slice (some ⟨g4,0,none⟩) 72 c4):=fun X hX=>⟨(WK.below hX).c0,(WK.below hX).c1,(WK.below hX).c2⟩;clear h8 WK
      go_region_held3 (fun w'=>w'.cell? (ag PB 0)=some (aa 9)/\w'.cell? (ag PB 1)=some (aa 8)/\w'.cell? (ag PB 2)=some (.slice (some ⟨g4,0,none⟩) 72 c4)) ((refine KW _ ?_;first|exact b14|exact b13|exact b12|exact b11|exact b10|exact b9|exact below_drewN (Below.refl _ _) 1)) (first
        |(go_at_call 18;refine SI.mono ?_;rintro e w9 ⟨rfl,b9⟩;have PS9:=PS w9 b9)
        |(go_at_call 10;refine PS9.mono ?_;rintro e w10 ⟨g7,c7,rfl,b10,SP⟩)
        |(go_at_call 13;refine SP.mono ?_;rintro e w11 ⟨rfl,b11⟩;have a5d:=NF w11 b11)
        |(go_at_call 15;refine a5d.mono ?_;rintro e w12 ⟨s,p1,n1,k1,p2,n2,k2,rfl,b12,FL⟩)
        |(go_at_call 7;refine FL.mono ?_;rintro e w13 ⟨g9,m9,c9,rfl,b13,AL⟩)
        |(go_at_call 19;refine AL.mono ?_;rintro e w14 ⟨rfl,b14⟩))
      all_goals
        go_wp2_with fail;go_ret;exact⟨rfl,az HB.out b14⟩
theorem a1e (E:Nat->Addr)(n:Nd)(a0 a1 a2:Value)(which:Int)(s t:ByteArray)(W:World)(hE:LE E W)(ha:jR W a0 a1 a2 n)(hw1:dH which):
    ak 4 #[.agg #[a0,a1,a2],aa which,.string s,.string t] W fun e w'=>e=.returned (.bool true)/\Below W.heap.size W w':=by
  have h:=GA E n a0 a1 a2 which s.data.toList t.data.toList W hE ha hw1;rwa[show(⟨s.data.toList.toArray⟩:ByteArray)=s from rfl,show(⟨t.data.toList.toArray⟩:ByteArray)=t from rfl] at h
end Go.Proofs.YtjfiehbcamfdfaaGreatDoor

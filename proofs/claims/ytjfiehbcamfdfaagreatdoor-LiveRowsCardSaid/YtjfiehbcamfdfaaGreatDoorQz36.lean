/- Parts of the proof. -/
import Derived.Test.YtjfiehbcamfdfaaGreatDoorQz35
namespace Go.Proofs.YtjfiehbcamfdfaaGreatDoor
open Go.RowKit
set_option maxHeartbeats 16000000
set_option maxRecDepth 20000
section
variable {W:ag}{LB B DB K:Nat}{l:List Pc}
theorem Fa.below {w':ag}(hl:Fa W LB B DB K l)(hb:Below W.heap.size W w'):Fa w' LB B DB K l:=by
 obtain⟨M,nx,c,r,rl,h1,h2⟩:=hl;exact⟨M,nx,c,r,rl,h1,h2.below hb⟩
theorem Fa.more {K':Nat}(hl:Fa W LB B DB K l)(hk:K<=K'):Fa W LB B DB K' l:=by
 obtain⟨M,nx,c,r,rl,h1,h2⟩:=hl;exact⟨M,nx,c,r,rl,Nat.le_trans h1 hk,h2⟩
theorem Fa.base (hl:Fa W LB B DB K l):B<=LB/\B<=DB/\B<=W.heap.size/\LB<W.heap.size/\DB<W.heap.size:=by
 obtain⟨M,nx,c,r,rl, -,h2⟩:=hl;exact⟨h2.base.1,h2.base.2.1,h2.base.2.2,h2.lt.1,h2.lt.2⟩
theorem Fa.Uo (hl:Fa W LB B DB K l):ax 10 #[ay LB] W fun e w'=>∃g cp,e=.returned (.agg #[aa 9,aa 8,.slice (some ⟨g,0,none⟩) 72 cp])/\w'.ownsRow W.heap.size 9 1 (.slice (some ⟨g,0,none⟩) 72 cp) 72 ((jD aI (l.map fK) 9 8).map .string)/\Below W.heap.size W w':=by
 obtain⟨M,nx,c,r,rl, -,h2⟩:=hl;exact h2.Uo (by decide) (by decide) (by decide) (by decide)
end
theorem GN (E:Nat->Addr)(n:Nd)(a0 a1 a2:ah)(l:List Ed)(ol:Option Addr)(kl:Nat)(W:ag)(hE:LE E W)(hmx:CG W)(ha:jX W a0 a1 a2 n)(hac:vW W ol l):
  ax 5 #[.agg #[a0,a1,a2],.slice ol l.length kl] W fun e w'=>e=.returned (.bool true)/\Below W.heap.size W w':=by
 obtain⟨sa,oa,na,ka,xk,na',ka',rfl,rfl,rfl⟩:∃(sa:aD) (oa:Option Addr) (na ka:Nat) (xk:Option Addr) (na' ka':Nat),a0=.string sa/\a1=.slice oa na ka/\a2=.slice xk na' ka':=by
  obtain⟨nm,ats,ks⟩:=n;unfold jX at ha;obtain⟨rfl, -,⟨o,cap,rfl, -⟩,ok,dW,rfl, -⟩:=ha;exact⟨_,_,_,_,_,_,_,rfl,rfl,rfl⟩
 have A0:NB W.heap.size (.string sa) (.slice oa na ka) (.slice xk na' ka') (W.alloc (.cells #[.string sa,.slice oa na ka,.slice xk na' ka'] 25)):=cZ W #[.string sa,.slice oa na ka,.slice xk na' ka'] 25;have bW:=di W (.cells #[.string sa,.slice oa na ka,.slice xk na' ka'] 25);go_enter Tryz.func5,Tryz.ntmps5;go_upto_region 1 with fail;obtain⟨V,hV⟩:∃V,W.alloc (.cells #[.string sa,.slice oa na ka,.slice xk na' ka'] 25)=V:=⟨_,rfl⟩;rw[hV] at A0 bW⊢;clear hV;have HE:Hid (LE E V):=hE.below bW;have HMX:Hid (CG V):=hmx.below bW;have HA:Hid (jX V (.string sa) (.slice oa na ka) (.slice xk na' ka') n):=jX.below bW n ha;have HL:Hid (vW V ol l):=hac.below bW;clear hE ha hac hmx;have DK:=Oe E V HE.out;go_upto_region 2 with(go_at_call 6;refine DK.mono ?_;rintro e w1 ⟨rfl,B1⟩);clear DK;have FA:=K8 n _ _ _ w1 (jX.below B1 n HA.out);have A1:=(B1.block _ (aM A0)).trans A0;have x0:=NB.c0 A1;have x1:=NB.c1 A1;have x2:=NB.c2 A1;go_upto_region 3 with(go_at_call 7;refine FA.mono ?_;rintro e w2 ⟨b2,va,rfl,fa⟩);clear x0 x1 x2 FA;have B2:=aG B1 b2;have Sd:=aG bW B2;rcases fa with⟨-,rfl⟩|⟨hfit,M,g,cap,rfl,hM0,hM1,hM2,hM3,hM4⟩
 ·go_wp2_with fail;go_ret;exact⟨rfl,Sd⟩
 have hM0':((M.length:Int)==0)=false:=by rw[beq_eq_false_iff_ne];omega
 by_cases alN:25<M.length
 ·have a9b:(25:Int)<(M.length:Int):=by omega
  go_wp2_with fail;go_ret;exact⟨rfl,Sd⟩
 have a9b:(M.length:Int)<=25:=by omega
 have LO:=DI l ol kl w2 (HL.out.below B2) 16 (by decide);cases hlo:YL l 16 with
 |true=>
  rw[hlo] at LO;go_wp2_with(go_at_call 8;refine LO.mono ?_;rintro e w3 ⟨rfl,rfl⟩);go_ret;exact⟨rfl,Sd⟩
 |false=>
 rw[hlo] at LO;have HS:Hid (l.length<=16/\∀x∈l,shE x):=a4L hlo;have alO:l.length<=16:=HS.out.1;clear hlo;go_upto_region 5 with(go_at_call 8;refine LO.mono ?_;rintro e w3 ⟨rfl,rfl⟩);clear LO;have hsz:gu n<=150:=by
  have h1:=hM4.len;rw[OA] at h1;omega
 have A2:=(B2.block _ (aM A0)).trans A0;have x0:=NB.c0 A2;have x1:=NB.c1 A2;have x2:=NB.c2 A2;have NW:=a2t E n _ _ _ w2 9 8 (HE.out.below B2) (jX.below B2 n HA.out) (by omega) (by decide) (by decide) (by decide) (by decide);clear hM0 hM1 hM2 hM3 hM4 hfit;go_upto_region 6 with(go_at_call 9;refine NW.mono ?_;rintro e w3 ⟨b3,q3⟩;obtain⟨v3,u3,rfl,h3⟩:∃v u,e=.returned (.tuple #[v,u])/\((v=.pointer none/\∃t y,u=.iface t y)\/∃LB DB lp,v=ay LB/\u=.nilIface/\Fa w3 LB w2.heap.size DB 150 lp):=(by rcases q3 with⟨-,t,u,h3⟩|⟨LB,DB,lp,h1,h2,h3,h4⟩;exact⟨_,_,h3,.inl ⟨rfl,t,u,rfl⟩⟩;exact⟨_,_,h3,.inr ⟨LB,DB,lp,rfl,rfl,_,_,_,_,_,hsz,h4⟩⟩));clear NW x0 x1 x2 q3;rcases h3 with⟨rfl,t,y,rfl⟩|⟨LB,DB,lp0,rfl,rfl,hv3⟩
 ·have CJ:=aG Sd b3;go_wp2_with fail;go_ret;exact⟨rfl,CJ⟩
 obtain⟨YO,a4Y⟩:∃k,w2.heap.size=k:=⟨_,rfl⟩;have HB2:Hid (Below W.heap.size W w2/\Below V.heap.size V w2):=⟨Sd,B2⟩;have HV3:Hid (Fa w3 LB YO DB 150 lp0/\Below YO w2 w3):=by rw[<- a4Y];exact⟨hv3,b3⟩
 have HN0:=aj a4Y;clear hv3 b3 a4Y Sd B2 B1 b2 A0 A1 A2 bW;go_wp2_with fail
 go_loopw [9] (fun i wr=>∃k:Nat,k<=l.length/\i=aa k/\Below YO w2 wr/\∃lp,Fa wr LB YO DB (150+k) lp) (fun i _=>l.length-(intOf i).toNat)
 case atStart=>exact⟨0,Nat.zero_le _,rfl,HV3.out.2,lp0,HV3.out.1⟩
 case round=>
  obtain⟨k,hk,rfl,hb,lp,hv⟩:=hrel;have HV:=aj hv;have HBr:=aj hb;have bVr:Below V.heap.size V wr:=HB2.out.2.trans (hb.mono (by rw[<- HN0.out];exact HB2.out.2.size));have HEr:Hid (LE E wr):=HE.out.below bVr;have HMr:Hid (CG wr):=HMX.out.below bVr;have HLr:Hid (vW wr ol l):=HL.out.below bVr;have HBW:Hid (Below W.heap.size W wr):=HB2.out.1.trans (hb.mono (by rw[<- HN0.out];exact HB2.out.1.size));clear hv hb bVr HV3;by_cases hlt:k<l.length
  ·have hlt':(k:Int)<(l.length:Int):=by omega
   obtain⟨x,hx⟩:∃x,l[k]? =some x:=⟨_,List.getElem?_eq_getElem hlt⟩;obtain⟨b,off,hol,q⟩:=HLr.out k x hx;have HX:Hid (shE x):=HS.out.2 x (List.mem_of_getElem? hx);have HLK:=aj hx;have hq6:=q.six;have HWN:Hid (bA x.n/\bA x.m):=⟨q.wn,q.wm⟩;obtain⟨c0,c1,c2,c3,c4,c5⟩:=hq6;clear hx q HLr;subst hol;have hbs:=HV.out.base;have AS:=Cr x wr;have DO:=fun X (hX:Below wr.heap.size wr X)=>adN (HEr.out.below hX) (HMr.out.below hX) (HV.out.below hX) (by omega) x HWN.out HX.out;go_upto_region 12 with(first|(go_at_call 11;refine(DO _ b6).mono ?_;rintro e w7 ⟨v7,u7,rfl,h7⟩)|(go_at_call 12;refine AS.mono ?_;rintro e w6 ⟨rfl,b6⟩));clear AS DO;rcases h7 with⟨rfl,⟨t,y,rfl⟩,b7,hv7⟩|⟨l2,o7,cp7,rfl,rfl,kF,k7,hv7,ag7⟩
   ·have b67:=aG b6 b7;go_wp2_with fail
    go_roundw
    case rel=>exact⟨k+1,by omega,by go_num,HBr.out.trans (b67.mono hbs.2.2.1),lp,hv7.more (by omega)⟩
    case measure=>simp[intOf];omega
   ·have adQ:w6.heap.size<=w7.heap.size:=k7.size;have bN7:Below YO w2 w7:=HBr.out.trans ((b6.mono hbs.2.2.1).trans (k7.below hbs.1 hbs.2.1 (by have:=b6.size;omega)));have HV7:=aj hv7;have HN7:=aj bN7;have HR7:=aj kF;have HUP:Hid ((jS lp l2 8).Pairwise (·<·)/\∀y∈jS lp l2 8,y<8):=NJ lp l2 8;have HAG:Hid _:=ag7;have bV7:Below V.heap.size V w7:=HB2.out.2.trans (bN7.mono (by rw[<- HN0.out];exact HB2.out.2.size));have HE7:Hid (LE E w7):=HE.out.below bV7;have HM7:Hid (CG w7):=HMX.out.below bV7;have hq7:Ed6 w7 b (off+k*6) x:=by
     obtain⟨b',off',ho',q'⟩:=(HL.out.below bV7) k x HLK.out;cases ho';exact q'.six
    have hL8:=a1r lp l2;generalize jS lp l2 8=L at HR7 hL8 HUP⊢;clear ag7 kF k7 hv7 bN7 bV7 b6 adQ c0 c1 c2 c3 c4 c5;go_wp2_with fail
    go_loopw [12] (fun kk wz=>∃m:Nat,m<=L.length/\kk=aa m/\Below w7.heap.size w7 wz) (fun kk _=>L.length-(intOf kk).toNat)
    case atStart=>exact⟨0,Nat.zero_le _,rfl,Below.refl _ _⟩
    case round=>
     obtain⟨m,hm,rfl,hbz⟩:=hrel;obtain⟨wz,rfl⟩:∃V,V=wr:=⟨wr,rfl⟩;have YP:=aj hbz;clear hbz;by_cases hml:m<L.length
     ·have alZ:(m:Int)<(L.length:Int):=by omega
      obtain⟨z,hz⟩:∃z,L[m]? =some z:=⟨_,List.getElem?_eq_getElem hml⟩;obtain⟨gz,hoz,cz⟩:=Qy (aP HR7.out YP.out) hz;subst hoz;have YC:z<8:=HUP.out.2 z (List.mem_of_getElem? hz);have hz0':decide ((z:Int)<0)=false:=decide_eq_false (by omega);have am1:decide ((8:Int)<=(z:Int))=false:=decide_eq_false (by omega);by_cases hm0:m=0
      ·have hm3:decide ((0:Int)<(m:Int))=false:=decide_eq_false (by omega);have hm4:decide (0<m)=false:=decide_eq_false (by omega);clear hm0 hz hml;go_upto_region 16 with fail
       go_big_quiet (fail)
       go_wp2_with fail
       go_roundw
       case rel=>exact⟨m+1,by omega,by go_num,below_drewN YP.out nq⟩
       case measure=>simp[intOf];omega
      ·have hm2:(0:Int)<(m:Int):=by omega
       have hm3:0<m:=by omega
       have hm4:decide ((0:Int)<(m:Int))=true:=decide_eq_true hm2;obtain⟨m1,hm1⟩:∃m1,m=m1+1:=⟨m-1,by omega⟩;obtain⟨z1,hz1⟩:∃z1,L[m1]? =some z1:=⟨_,List.getElem?_eq_getElem (by omega)⟩;obtain⟨gz1,adT,cz1⟩:=Qy (aP HR7.out YP.out) hz1;cases adT;have hzz:(z1:Int)<(z:Int):=by
        have h1:=List.pairwise_iff_getElem.1 HUP.out.1 m1 m (by omega) hml (by omega);obtain⟨_,e1⟩:=List.getElem?_eq_some_iff.1 hz1;obtain⟨_,e2⟩:=List.getElem?_eq_some_iff.1 hz;omega
       have hmi:(m:Int)-1=(m1:Int):=by omega
       have hmw:IntKind.i64.wrap (m1:Int)=(m1:Int):=IntWalk.i64_in _ (by omega);have am3:(m1:Int)<(L.length:Int):=by omega
       clear hm0 hz hz1 hm1 hml;go_upto_region 16 with fail
       go_big_quiet (fail)
       go_wp2_with fail
       go_roundw
       case rel=>exact⟨m+1,by omega,by go_num,below_drewN YP.out nq⟩
       case measure=>simp[intOf];omega
     ·obtain rfl:m=L.length:=by omega
      have HQ8:Hid (Ed6 wz b (off+k*6) x):=hq7.below YP.out;have HVz:Hid (Fa wz LB YO DB (150+k+1) l2):=HV7.out.below YP.out;have HNz:Hid (Below YO w2 wz):=HN7.out.trans (YP.out.mono HV7.out.base.2.2.1);have HEz:Hid (LE E wz):=HE7.out.below YP.out;have HMz:Hid (CG wz):=HM7.out.below YP.out;have hbs:=HVz.out.base;clear hq7 HR7 HUP;by_cases h3:x.kd=mJ\/x.kd=dY\/x.kd=dM
      ·have AG:Hid (∀X,Below wz.heap.size wz X->LE E X->CG X->ax 11 #[ay LB,.agg (iF x)] X fun e w2=>∃o cp,e=.returned (.tuple #[.slice o 0 cp,.nilIface])/\K2 LB DB X w2/\Fa w2 LB YO DB (150+k+1) l2):=(fun X hX=>HAG.out h3 X (aG YP.out hX):∀X,Below wz.heap.size wz X->LE E X->CG X->ax 11 #[ay LB,.agg (iF x)] X fun e w2=>∃o cp,e=.returned (.tuple #[.slice o 0 cp,.nilIface])/\K2 LB DB X w2/\Fa w2 LB YO DB (150+k+1) l2);clear HAG;rcases h3 with h3|h3|h3
       all_goals
        have c0':=HQ8.out.c0;rw[h3] at c0';simp only[mJ,dY,dM] at c0';clear h3;go_upto_region 19 with fail;clear c0';have PC:=HVz.out.Uo;go_upto_region 20 with(go_at_call 10;refine PC.mono ?_;rintro e w4 ⟨g4,cp4,rfl,Yy,b4⟩);clear PC;have bP:=di w4 (.cells (pbx g4 cp4) 40);have kP:=cZ w4 (pbx g4 cp4) 40;have a9c:wz.heap.size<=w4.heap.size:=b4.size;obtain⟨w5,hw5⟩:∃V,w4.alloc (.cells (pbx g4 cp4) 40)=V:=⟨_,rfl⟩;obtain⟨PB,hPB⟩:∃p,w4.heap.size=p:=⟨_,rfl⟩;rw[hw5] at bP kP⊢;rw[hPB] at kP a9c⊢;clear hw5 hPB;have b5:=aG b4 bP;have HO4:Hid (w5.ownsRow wz.heap.size 9 1 (.slice (some ⟨g4,0,none⟩) 72 cp4) 72 ((jD aI (l2.map fK) 9 8).map .string)):=aP Yy bP;have GV:=aj kP;have HB5:=aj b5;have AS:=Cr x w5;have DO:=fun X (hX:Below w5.heap.size w5 X)=>AG.out X (aG b5 hX) (HEz.out.below (aG b5 hX)) (HMz.out.below (aG b5 hX));obtain⟨c0,c1,c2,c3,c4,c5⟩:=HQ8.out.below b5;clear Yy bP kP b4 AG b5;go_upto_region 21 with(first|(go_at_call 11;refine(DO _ b6).mono ?_;rintro e w8 ⟨o8,cp8,rfl,k8,hv8⟩)|(go_at_call 12;refine AS.mono ?_;rintro e w6 ⟨rfl,b6⟩));clear AS DO c0 c1 c2 c3 c4 c5;have hP6:PB<w6.heap.size:=by have:=aM GV.out;have:=b6.size;omega
        have k68:∀b,wz.heap.size<=b->b<w6.heap.size->w8.heap[b]? =w6.heap[b]? :=fun b h1 h2=>k8.block b h2 (by omega) (by omega);have kP8:=(k68 PB a9c hP6).trans ((b6.block _ (aM GV.out)).trans GV.out);have YK:=aP HO4.out b6;have ow8:=bT YK fun b hb=>k68 b (YK.lt b hb).1 (YK.lt b hb).2;have bN8:Below YO w2 w8:=HNz.out.trans (((aG HB5.out b6).mono hbs.2.2.1).trans (k8.below hbs.1 hbs.2.1 (by have:=HB5.out.size;have:=b6.size;omega)));have HV8:=aj hv8;have HN8:=aj bN8;have PC8:=(hv8.below (below_drewN (Below.refl _ w8) 1)).Uo;have KW:∀X,Below w8.heap.size w8 X->X.cell? (ak PB 0)=some (aa 9)/\X.cell? (ak PB 1)=some (aa 8)/\X.cell? (ak PB 2)=some (.slice (some ⟨g4,0,none⟩) 72 cp4):=fun X hX=>⟨(hX.cell (az (aF kP8 0 _ rfl))).trans (aF kP8 0 _ rfl),(hX.cell (az (aF kP8 1 _ rfl))).trans (aF kP8 1 _ rfl),(hX.cell (az (aF kP8 2 _ rfl))).trans (aF kP8 2 _ rfl)⟩;have SP:∀X g7 c7,Below w8.heap.size w8 X->X.ownsRow w8.drew.heap.size 9 1 (.slice (some ⟨g7,0,none⟩) 72 c7) 72 ((jD aI (l2.map fK) 9 8).map .string)->_:=fun X g7 c7 hX h1=>Yo (iJ _ _ _ _) (aP ow8 hX) h1;clear hP6 k68 kP8 YK bN8 hv8 k8 b6 HO4 GV HB5 HEz HMz
        go_region_held3 (fun w'=>w'.cell? (ak PB 0)=some (aa 9)/\w'.cell? (ak PB 1)=some (aa 8)/\w'.cell? (ak PB 2)=some (.slice (some ⟨g4,0,none⟩) 72 cp4)) ((refine KW _ ?_;first|exact below_drewN (Below.refl _ _) 1|exact b10|exact b9)) (first|(go_at_call 10;refine PC8.mono ?_;rintro e w9 ⟨g9,c9,rfl,ow9,b9'⟩;have b9:Below w8.heap.size w8 w9:=⟨b9'.os,b9'.tape,b9'.output,b9'.size,b9'.block⟩;have SP9:=SP w9 g9 c9 b9 ow9)|(go_at_call 13;refine SP9.mono ?_;rintro e w10 ⟨rfl,adY⟩;have b10:=aG b9 adY))
        all_goals
         go_wp2_with fail
         go_roundw
         case rel=>exact⟨k+1,by omega,by go_num,HN8.out.trans (b10.mono HV8.out.base.2.2.1),l2,(HV8.out.below b10).more (by omega)⟩
         case measure=>simp[intOf];omega
      ·have n1:=mG (show x.kd≠mJ from fun h=>h3 (.inl h));have n2:=mG (show x.kd≠dY from fun h=>h3 (.inr (.inl h)));have n3:=mG (show x.kd≠dM from fun h=>h3 (.inr (.inr h)));unfold mJ at n1;unfold dY at n2;unfold dM at n3;have c0:=HQ8.out.c0;clear h3 HAG;go_wp2_with fail
       go_roundw
       case rel=>exact⟨k+1,by omega,by go_num,HNz.out,l2,HVz.out.more (by omega)⟩
       case measure=>simp[intOf];omega
  ·obtain rfl:k=l.length:=by omega
   go_wp2_with fail;go_ret;exact⟨rfl,HBW.out⟩
end Go.Proofs.YtjfiehbcamfdfaaGreatDoor

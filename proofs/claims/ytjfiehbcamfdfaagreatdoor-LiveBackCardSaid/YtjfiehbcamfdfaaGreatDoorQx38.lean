/-
  Parts of the proof.
-/
import Derived.Test.YtjfiehbcamfdfaaGreatDoorQx37
import Derived.Test.YtjfiehbcamfdfaaGreatDoorQx34
import Derived.Test.YtjfiehbcamfdfaaGreatDoorQx35
namespace Go.Proofs.YtjfiehbcamfdfaaGreatDoor
open Go.Proofs.Tryz
section
open Go.RowKit
set_option maxHeartbeats 4000000
set_option maxRecDepth 20000
theorem NB.ny {Z R N:Nat}{c0 c1 c2:Value}{w w':World}(h:NB Z c0 c1 c2 w)(k:aP R N w w')(h1:Z≠R)(h2:Z≠N):NB Z c0 c1 c2 w':=by
 have:=h.lt;unfold NB at h⊢;rw[k.block Z this h1 h2];exact h
theorem EM {R N B k n:Nat}{e:TypeId}{v:Value}{xs:List Value}{w w':World}(h:w.ownsRow B e k v n xs)(hk:aP R N w w')(hR:R<B)(hN:N<B):w'.ownsRow B e k v n xs:=by
 refine⟨h.1,?_⟩;rcases h.2 with hn|⟨g,cap,cur,rfl,hb,hgg,rest⟩
 ·exact .inl hn
 ·refine .inr ⟨g,cap,cur,rfl,hb,?_,rest⟩;rw[hk.block g (aD hgg) (by omega) (by omega)];exact hgg
theorem Tc {B B' k n:Nat}{e:TypeId}{v:Value}{xs:List Value}{w:World}(h:w.ownsRow B e k v n xs)(hb:B'<=B):w.ownsRow B' e k v n xs:=by
 refine⟨h.1,?_⟩;rcases h.2 with hn|⟨g,cap,cur,h1,h2,rest⟩
 ·exact .inl hn
 ·exact .inr ⟨g,cap,cur,h1,by omega,rest⟩
theorem aY.a4N {R Z:Nat}{W w:World}(h:aY R W w)(hZ:W.heap.size<=Z)(i:Nat)(v:Value):aY R W (w.setCell ⟨Z,i,none⟩ v):=
 h.low ((Below.refl _ w).setCell (p:=⟨Z,i,none⟩) hZ v)
abbrev XN (Z:Nat)(a b c:Value)(w:World):World:=((w.setCell ⟨Z,0,none⟩ a).setCell ⟨Z,1,none⟩ b).setCell ⟨Z,2,none⟩ c
theorem rq {R Z:Nat}{W w:World}(h:aY R W w)(hZ:W.heap.size<=Z)(a b c:Value):aY R W (XN Z a b c w):=((h.a4N hZ _ _).a4N hZ _ _).a4N hZ _ _
theorem XO {R Z U:Nat}{W w:World}{nm:Bs}{vA vK:Value}{ats:List (Bs×Bs)}{K:List V3}{ks:List Nd}{z:Bs}(hl:nm.length<=maxLen)(Jn:∀x∈ats,x.1.length<=maxLen/\x.2.length<=maxLen)
  (ow:w.ownsRow U 65 2 vA ats.length (aF ats)) (owK:w.ownsRow U 25 3 vK K.length (cZ K)) (hk:KR (fun b=>U<=b) w K ks) (rd:RD R z w) (hZ:W.heap.size<=Z) (hU:Z<U) (zi:R≠Z):
  RD R z (XN Z (.string ⟨nm.toArray⟩) vA vK w)/\mY (fun b=>W.heap.size<=b) (XN Z (.string ⟨nm.toArray⟩) vA vK w) (.string ⟨nm.toArray⟩) vA vK (.mk nm ats ks):=by
 refine⟨((rd.sD _ _ zi).sD _ _ zi).sD _ _ zi,?_⟩;refine mY.turn (Q:=fun b=>U<=b) (w:=w) (fun b hb _=>⟨by omega,?_⟩) _ (mY.make hl (xH.turn (xH.XA ow Jn) (fun b hb _=>⟨(ow.lt b hb).1,rfl⟩)) owK hk (fun b hb=>(owK.lt b hb).1));have hbz:b≠Z:=by omega
 rw[Below.heap_setCell _ _ _ b hbz,Below.heap_setCell _ _ _ b hbz,Below.heap_setCell _ _ _ b hbz]
theorem a4O {f:Nat}{s:Bs}(h:[60].isPrefixOf s=false):iW (f+1) s=none:=by rw[iW,if_neg (by rw[h];simp)]
theorem a0V {f:Nat}{s r:Bs}(h:[60].isPrefixOf s=true)(hr:s.drop 1=r)(h1:gT r=[]):iW (f+1) s=none:=by rw[iW,if_pos h,hr,if_pos h1]
theorem a0W {f:Nat}{s r:Bs}(h:[60].isPrefixOf s=true)(hr:s.drop 1=r)(h2:nV ((qp r).length+1) (qp r)=none):iW (f+1) s=none:=by
 rw[iW,if_pos h,hr,h2];split<;>rfl
theorem a0X {f:Nat}{s r y:Bs}{ats:List (Bs×Bs)}(h:[60].isPrefixOf s=true)(hr:s.drop 1=r)(h1:gT r≠[])(h2:nV ((qp r).length+1) (qp r)=some (ats,y))(h3:[47,62].isPrefixOf y=true):iW (f+1) s=some (.mk (gT r) ats [],y.drop 2):=by
 rw[iW,if_pos h,hr,if_neg h1,h2];show(if[47,62].isPrefixOf y=true then some (Nd.mk (gT r) ats [],y.drop 2) else _)=_;rw[if_pos h3]
theorem a0Y {f:Nat}{s r y:Bs}{ats:List (Bs×Bs)}(h:[60].isPrefixOf s=true)(hr:s.drop 1=r)(h1:gT r≠[])(h2:nV ((qp r).length+1) (qp r)=some (ats,y))(h3:[47,62].isPrefixOf y=false)(h4:[62].isPrefixOf y=false):iW (f+1) s=none:=by
 rw[iW,if_pos h,hr,if_neg h1,h2];show(if[47,62].isPrefixOf y=true then _ else if[62].isPrefixOf y=true then _ else none)=_;rw[if_neg (by rw[h3];simp),if_neg (by rw[h4];simp)]
theorem XP {f:Nat}{s r y x:Bs}{ats:List (Bs×Bs)}(h:[60].isPrefixOf s=true)(hr:s.drop 1=r)(h1:gT r≠[])(h2:nV ((qp r).length+1) (qp r)=some (ats,y))(h3:[47,62].isPrefixOf y=false)(h4:[62].isPrefixOf y=true)(hx:y.drop 1=x):
  iW (f+1) s=match pR (iW f) (x.length+1) x with
   |none=>none
   |some k=>if(lQ (gT r)).isPrefixOf k.2=true then some (.mk (gT r) ats k.1,k.2.drop (lQ (gT r)).length) else none:=by
 rw[iW,if_pos h,hr,if_neg h1,h2];show(if[47,62].isPrefixOf y=true then _ else if[62].isPrefixOf y=true then(match pR (iW f) ((y.drop 1).length+1) (y.drop 1) with
   |none=>none
   |some k=>if(lQ (gT r)).isPrefixOf k.2=true then some (Nd.mk (gT r) ats k.1,k.2.drop (lQ (gT r)).length) else none) else none)=_
 rw[if_neg (by rw[h3];simp),if_pos h4,hx]
theorem Gy (R f:Nat)(IH:El R f):El R (f+1):=by
 intro s W hf hl h;have hR:=h.lt;have Yx:=dh W #[.string ⟨#[]⟩,.slice none 0 0,.slice none 0 0] 25;have rd0:=h.al (.cells #[.string ⟨#[]⟩,.slice none 0 0,.slice none 0 0] 25);have k0:aY R W (W.alloc (.cells #[.string ⟨#[]⟩,.slice none 0 0,.slice none 0 0] 25)):=aY.of_below (aW W _);obtain⟨V0,Mt⟩:∃V,W.alloc (.cells #[.string ⟨#[]⟩,.slice none 0 0,.slice none 0 0] 25)=V:=⟨_,rfl⟩;have zb0:NB W.heap.size (.string ⟨#[]⟩) (.slice none 0 0) (.slice none 0 0) V0:=by rw[<- Mt];exact Yx
 have zi:R≠W.heap.size:=by omega
 rw[Mt] at rd0 k0;clear Yx;cases hp:[60].isPrefixOf s with
 |false=>
  have HZ:Hid (iW (f+1) s=none):=a4O hp;go_enter func36,ntmps36;go_upto_region 1 with fail;clear Mt;go_wp2_with(go_at_call 69;refine(ji R s [60] _ rd0 hp).mono ?_;rintro e w1 ⟨rfl,wm,k1⟩;have zb1:=zb0.keep k1 zi;have a0:=zb1.c0;have a1:=zb1.c1;have a2:=zb1.c2;have af:=zb1.bf);refine bodyPost_ret (v:=.tuple #[.agg #[.string ⟨#[]⟩,.slice none 0 0,.slice none 0 0],.bool false]) (by simp[results,results36,go_sem,a0,a1,a2]) rfl ⟨rq (k0.trans k1) Nat.le.refl _ _ _,⟨#[]⟩,none,0,0,none,0,0,.inl ⟨HZ.out,rfl⟩⟩
 |true=>
  have hlr:=fP hp;have SK1:=lF R s [60] V0 rd0 hp;obtain⟨r,hr⟩:∃r,s.drop 1=r:=⟨_,rfl⟩;have adi:1+r.length=s.length:=by rw[<- hr];exact hlr
  rw[show s.drop ([60]:Bs).length=r from hr] at SK1;have HP:Hid ([60].isPrefixOf s=true/\s.drop 1=r):=⟨hp,hr⟩;clear hlr hr hp;have hte:=zh r;go_enter func36,ntmps36;go_upto_region 4 with(first|(go_at_call 70;refine(nR R r _ _ lG nx (by omega)).mono ?_;rintro e w3 ⟨rfl,KH,k3⟩;have Td:=zb2.keep k3 zi;have K3:=K2.trans k3)|(go_at_call 71;refine(jG [32,61,34,60,62,47] _).mono ?_;rintro e w2 ⟨rfl,rfl⟩)|(go_at_call 69;refine SK1.mono ?_;rintro e w1 ⟨rfl,wm,k1⟩;have nx:=dh w1 #[.string ⟨([32,61,34,60,62,47]:Bs).toArray⟩] 9;have lG:=wm.al (.cells #[.string ⟨([32,61,34,60,62,47]:Bs).toArray⟩] 9);have zb2:=(zb0.keep k1 zi).al (.cells #[.string ⟨([32,61,34,60,62,47]:Bs).toArray⟩] 9);have K2:=(k0.trans k1).al (.cells #[.string ⟨([32,61,34,60,62,47]:Bs).toArray⟩] 9);clear wm));have nbU:=dh w3 #[.string ⟨(gT r).toArray⟩,.slice none 0 0,.slice none 0 0] 25;have rdU:=KH.al (.cells #[.string ⟨(gT r).toArray⟩,.slice none 0 0,.slice none 0 0] 25);have Lh:=Td.al (.cells #[.string ⟨(gT r).toArray⟩,.slice none 0 0,.slice none 0 0] 25);have KU:=K3.al (.cells #[.string ⟨(gT r).toArray⟩,.slice none 0 0,.slice none 0 0] 25);have sZ:=Td.lt;have sK:=K3.size;have szU:=aD nbU;obtain⟨U,hU⟩:∃U,w3.alloc (.cells #[.string ⟨(gT r).toArray⟩,.slice none 0 0,.slice none 0 0] 25)=U:=⟨_,rfl⟩;obtain⟨N,hN⟩:∃N,w3.heap.size=N:=⟨_,rfl⟩;have nb4:NB N (.string ⟨(gT r).toArray⟩) (.slice none 0 0) (.slice none 0 0) U:=by rw[<- hU,<- hN];exact nbU
  rw[hU] at rdU Lh KU szU⊢;rw[hN] at szU sZ sK⊢;clear nbU hU hN KH Td K3 k3 lG zb2 K2 nx k1 rd0 zb0 k0 Mt SK1;have Te:R≠N:=by omega
  have hZN:W.heap.size≠N:=by omega
  have hZR:W.heap.size≠R:=by omega
  have hml:(gT r).length<=maxLen:=by rw[aQ];omega
  have b0:=nb4.c0;by_cases he:gT r=[]
  ·have HZ:Hid (iW (f+1) s=none):=a0V HP.out.1 HP.out.2 he;rw[he] at b0;have a0:=Lh.c0;have a1:=Lh.c1;have a2:=Lh.c2;have af:=Lh.bf;go_wp2_with fail;refine bodyPost_ret (v:=.tuple #[.agg #[.string ⟨#[]⟩,.slice none 0 0,.slice none 0 0],.bool false]) (by simp[results,results36,go_sem,a0,a1,a2]) rfl ⟨rq KU Nat.le.refl _ _ _,⟨#[]⟩,none,0,0,none,0,0,.inl ⟨HZ.out,rfl⟩⟩
  ·have hem:(gT r).isEmpty=false:=by
    cases ht:gT r with
    |nil=>exact absurd ht he
    |cons _ _=>rfl
   have AT:=XG R N (qp r) (.string ⟨(gT r).toArray⟩) (.slice none 0 0) U rdU nb4 Te (by omega);cases hv:nV ((qp r).length+1) (qp r) with
   |none=>
    have HZ:Hid (iW (f+1) s=none):=a0W HP.out.1 HP.out.2 hv;have N7:=AT.mono (R':=fun e w'=>aP R N U w'/\e=.returned (.bool false)) (fun e w' h=>by
     refine⟨h.1,?_⟩;obtain⟨vA, -,h2|⟨a,z,h2, -⟩⟩:=h.2
     ·exact h2.2
     ·rw[hv] at h2;cases h2)
    clear AT hv;go_wp2_with(go_at_call 72;refine N7.mono ?_;rintro e w5 ⟨k5,rfl⟩;have PU:=Lh.ny k5 hZR hZN;have a0:=PU.c0;have a1:=PU.c1;have a2:=PU.c2;have af:=PU.bf);refine bodyPost_ret (v:=.tuple #[.agg #[.string ⟨#[]⟩,.slice none 0 0,.slice none 0 0],.bool false]) (by simp[results,results36,go_sem,a0,a1,a2]) rfl ⟨rq (aP.keep KU k5 (by omega)) Nat.le.refl _ _ _,⟨#[]⟩,none,0,0,none,0,0,.inl ⟨HZ.out,rfl⟩⟩
   |some q=>
    obtain⟨ats,y⟩:=q;have hla:=Gs _ _ _ hv;have hly:y.length<=(qp r).length:=by have:=hla.1;simp only at this;omega
    have HA:Hid (∀x∈ats,x.1.length<=maxLen/\x.2.length<=maxLen):=(fun x hx=>by have:=hla.2 x hx;rw[aQ];omega:∀x∈ats,x.1.length<=maxLen/\x.2.length<=maxLen);clear hla;have HV:Hid (nV ((qp r).length+1) (qp r)=some (ats,y)):=hv;have N7:=AT.mono (R':=fun e w'=>aP R N U w'/\e=.returned (.bool true)/\RD R y w'/\∃oA cA,NB N (.string ⟨(gT r).toArray⟩) (.slice oA ats.length cA) (.slice none 0 0) w'/\w'.ownsRow U.heap.size 65 2 (.slice oA ats.length cA) ats.length (aF ats)) (fun e w' h=>by
     refine⟨h.1,?_⟩;obtain⟨vA,h0,h2|⟨a,z,h2,h3,h4,h5⟩⟩:=h.2
     ·rw[hv] at h2;cases h2.1
     ·rw[hv] at h2;cases h2;obtain⟨oA,cA,rfl⟩:=pE h5;exact⟨h3,h4,oA,cA,h0,h5⟩)
    clear AT hv;cases h3:[47,62].isPrefixOf y with
    |true=>
     have HZ:Hid (iW (f+1) s=some (.mk (gT r) ats [],y.drop 2)):=a0X HP.out.1 HP.out.2 he HV.out h3;go_wp2_with(first|(go_at_call 72;refine N7.mono ?_;rintro e w5 ⟨k5,rfl,KI,oA,cA,Gw,pQ⟩;have PU:=Lh.ny k5 hZR hZN)|(go_at_call 69;refine(lF R y [47,62] _ KI h3).mono ?_;rintro e w6 ⟨rfl,a8I,k6⟩;have rd6:RD R (y.drop 2) w6:=a8I;have XQ:=Gw.keep k6 Te;have TA:=PU.keep k6 zi;have Le:=bH pQ k6 (by omega);have K6:=(aP.keep KU k5 (by omega)).trans k6;clear a8I;have b0:=XQ.c0;have b1:=XQ.c1;have b2:=XQ.c2;have a0:=TA.c0;have a1:=TA.c1;have a2:=TA.c2;have af:=TA.bf));refine bodyPost_ret (v:=.tuple #[.agg #[.string ⟨(gT r).toArray⟩,.slice oA ats.length cA,.slice none 0 0],.bool true]) (by simp[results,results36,go_sem,a0,a1,a2]) rfl ⟨rq K6 Nat.le.refl _ _ _,_,_,_,_,_,_,_,.inr ⟨_,_,HZ.out,rfl,XO (K:=[]) hml HA.out Le (World.ownsRow_nil _ _ _ _) trivial rd6 Nat.le.refl (by omega) zi⟩⟩
    |false=>
     cases h4:[62].isPrefixOf y with
     |false=>
      have HZ:Hid (iW (f+1) s=none):=a0Y HP.out.1 HP.out.2 he HV.out h3 h4;go_wp2_with(first|(go_at_call 72;refine N7.mono ?_;rintro e w5 ⟨k5,rfl,KI,oA,cA,Gw,pQ⟩;have PU:=Lh.ny k5 hZR hZN;have K5:=aP.keep KU k5 (by omega))|(have z6:=rd6;go_at_call 69;refine(ji R y [62] _ z6 h4).mono ?_;rintro e w7 ⟨rfl,rd7,k7⟩;have GQ:=XQ.keep k7 Te;have Yy:=TA.keep k7 zi;have K7:=K6.trans k7;have b0:=GQ.c0;have b1:=GQ.c1;have b2:=GQ.c2;have a0:=Yy.c0;have a1:=Yy.c1;have a2:=Yy.c2;have af:=Yy.bf)|(go_at_call 69;refine(ji R y [47,62] _ KI h3).mono ?_;rintro e w6 ⟨rfl,rd6,k6⟩;have XQ:=Gw.keep k6 Te;have TA:=PU.keep k6 zi;have Le:=bH pQ k6 (by omega);have K6:=K5.trans k6));refine bodyPost_ret (v:=.tuple #[.agg #[.string ⟨(gT r).toArray⟩,.slice oA ats.length cA,.slice none 0 0],.bool false]) (by simp[results,results36,go_sem,a0,a1,a2]) rfl ⟨rq K7 Nat.le.refl _ _ _,_,_,_,_,_,_,_,.inl ⟨HZ.out,rfl⟩⟩
     |true=>
      have hlx:=fP h4;have SK2:=fun W h=>lF R y [62] W h h4;obtain⟨x,hx⟩:∃x,y.drop 1=x:=⟨_,rfl⟩;have ajG:1+x.length=y.length:=by rw[<- hx];exact hlx
      rw[show y.drop ([62]:Bs).length=x from hx] at SK2;have HK:=XP (f:=f) HP.out.1 HP.out.2 he HV.out h3 h4 hx;have KD0:=fun(c1:Value) (W:World) (h:RD R x W) (hn:NB N (.string ⟨(gT r).toArray⟩) c1 (.slice none 0 0) W)=>a0T R N f IH x _ c1 W h hn Te (by omega) (by omega);clear hlx hx h4;cases hk:pR (iW f) (x.length+1) x with
      |none=>
       have HZ:Hid (iW (f+1) s=none):=(by rw[HK,hk]:iW (f+1) s=none);have KD:∀(c1:Value) (W:World),RD R x W->NB N (.string ⟨(gT r).toArray⟩) c1 (.slice none 0 0) W->ak 73 #[aj R,aj N] W fun e w'=>aP R N W w'/\∃oK nK cK,NB N (.string ⟨(gT r).toArray⟩) c1 (.slice oK nK cK) w'/\e=.returned (.bool false):=fun c1 W h hn=>(KD0 c1 W h hn).mono (fun e w' h=>by
        refine⟨h.1,?_⟩;obtain⟨oK,nK,cK,h0,h2|⟨a,z,K,h2, -⟩⟩:=h.2
        ·exact⟨oK,nK,cK,h0,h2.2⟩
        ·rw[hk] at h2;cases h2)
       clear hk HK KD0;go_wp2_with(first|(go_at_call 72;refine N7.mono ?_;rintro e w5 ⟨k5,rfl,KI,oA,cA,Gw,pQ⟩;have PU:=Lh.ny k5 hZR hZN;have K5:=aP.keep KU k5 (by omega))|(go_at_call 73;refine(KD _ _ rd7 GQ).mono ?_;rintro e w8 ⟨k8,oK,nK,cK,nb8,rfl⟩;have zb8:=Yy.ny k8 hZR hZN;have s7:=k7.size;have s6:=k6.size;have s5:=k5.size;have K8:=aP.keep K7 k8 (by omega);have b0:=nb8.c0;have b1:=nb8.c1;have b2:=nb8.c2;have a0:=zb8.c0;have a1:=zb8.c1;have a2:=zb8.c2;have af:=zb8.bf)|(have z6:=rd6;go_at_call 69;refine(SK2 _ z6).mono ?_;rintro e w7 ⟨rfl,rd7,k7⟩;have GQ:=XQ.keep k7 Te;have Yy:=TA.keep k7 zi;have jQ:=bH Le k7 (by omega);have K7:=K6.trans k7)|(go_at_call 69;refine(ji R y [47,62] _ KI h3).mono ?_;rintro e w6 ⟨rfl,rd6,k6⟩;have XQ:=Gw.keep k6 Te;have TA:=PU.keep k6 zi;have Le:=bH pQ k6 (by omega);have K6:=K5.trans k6));refine bodyPost_ret (v:=.tuple #[.agg #[.string ⟨(gT r).toArray⟩,.slice oA ats.length cA,.slice oK nK cK],.bool false]) (by simp[results,results36,go_sem,a0,a1,a2]) rfl ⟨rq K8 Nat.le.refl _ _ _,_,_,_,_,_,_,_,.inl ⟨HZ.out,rfl⟩⟩
      |some q=>
       obtain⟨ks,z⟩:=q;have KD:∀(c1:Value) (W:World),RD R x W->NB N (.string ⟨(gT r).toArray⟩) c1 (.slice none 0 0) W->ak 73 #[aj R,aj N] W fun e w'=>aP R N W w'/\∃oK nK cK,NB N (.string ⟨(gT r).toArray⟩) c1 (.slice oK nK cK) w'/\e=.returned (.bool true)/\RD R z w'/\∃K:List V3,w'.ownsRow W.heap.size 25 3 (.slice oK nK cK) K.length (cZ K)/\KR (fun b=>W.heap.size<=b) w' K ks:=fun c1 W h hn=>(KD0 c1 W h hn).mono (fun e w' h=>by
        refine⟨h.1,?_⟩;obtain⟨oK,nK,cK,h0,h2|⟨a,z',K,h2,h3,h4,h5,h6⟩⟩:=h.2
        ·rw[hk] at h2;cases h2.1
        ·rw[hk] at h2;cases h2;exact⟨oK,nK,cK,h0,h3,h4,K,h5,h6⟩)
       have hs4:2+(gT r).length<=9223372036854775807:=by omega
       have hs5:2+(gT r).length+1<=9223372036854775807:=by omega
       cases h5:(lQ (gT r)).isPrefixOf z with
       |false=>
        have HZ:Hid (iW (f+1) s=none):=(by rw[HK,hk];show(if(lQ (gT r)).isPrefixOf z=true then _ else none)=_;rw[if_neg (by rw[h5];simp)]:iW (f+1) s=none);clear hk HK KD0;go_wp2_with(first|(go_at_call 72;refine N7.mono ?_;rintro e w5 ⟨k5,rfl,KI,oA,cA,Gw,pQ⟩;have PU:=Lh.ny k5 hZR hZN;have K5:=aP.keep KU k5 (by omega))|(have z8:=rd8;go_at_call 69;rw[ZB,ZB];refine(ji R z (lQ (gT r)) _ z8 h5).mono ?_;rintro e w9 ⟨rfl,rd9,k9⟩;have nb9:=nb8.keep k9 Te;have zb9:=zb8.keep k9 zi;have K9:=K8.trans k9;clear b0;have b0:=nb9.c0;have b1:=nb9.c1;have b2:=nb9.c2;have a0:=zb9.c0;have a1:=zb9.c1;have a2:=zb9.c2;have af:=zb9.bf)|(go_at_call 73;refine(KD _ _ rd7 GQ).mono ?_;rintro e w8 ⟨k8,oK,nK,cK,nb8,rfl,rd8,K,WO,kr8⟩;have zb8:=Yy.ny k8 hZR hZN;have s7:=k7.size;have s6:=k6.size;have s5:=k5.size;have K8:=aP.keep K7 k8 (by omega);have oa8:=EM jQ k8 (by omega) (by omega);have b0:=nb8.c0)|(have z6:=rd6;go_at_call 69;refine(SK2 _ z6).mono ?_;rintro e w7 ⟨rfl,rd7,k7⟩;have GQ:=XQ.keep k7 Te;have Yy:=TA.keep k7 zi;have jQ:=bH Le k7 (by omega);have K7:=K6.trans k7)|(go_at_call 69;refine(ji R y [47,62] _ KI h3).mono ?_;rintro e w6 ⟨rfl,rd6,k6⟩;have XQ:=Gw.keep k6 Te;have TA:=PU.keep k6 zi;have Le:=bH pQ k6 (by omega);have K6:=K5.trans k6));refine bodyPost_ret (v:=.tuple #[.agg #[.string ⟨(gT r).toArray⟩,.slice oA ats.length cA,.slice oK nK cK],.bool false]) (by simp[results,results36,go_sem,a0,a1,a2]) rfl ⟨rq K9 Nat.le.refl _ _ _,_,_,_,_,_,_,_,.inl ⟨HZ.out,rfl⟩⟩
       |true=>
        have HZ:Hid (iW (f+1) s=some (.mk (gT r) ats ks,z.drop (lQ (gT r)).length)):=(by rw[HK,hk];show(if(lQ (gT r)).isPrefixOf z=true then _ else none)=_;rw[if_pos h5]:iW (f+1) s=some (.mk (gT r) ats ks,z.drop (lQ (gT r)).length));clear hk HK KD0;go_wp2_with(first|(go_at_call 72;refine N7.mono ?_;rintro e w5 ⟨k5,rfl,KI,oA,cA,Gw,pQ⟩;have PU:=Lh.ny k5 hZR hZN;have K5:=aP.keep KU k5 (by omega))|(have z8:=rd8;go_at_call 69;rw[ZB,ZB];refine(lF R z (lQ (gT r)) _ z8 h5).mono ?_;rintro e w9 ⟨rfl,rd9,k9⟩;have nb9:=nb8.keep k9 Te;have zb9:=zb8.keep k9 zi;have K9:=K8.trans k9;clear b0;have b0:=nb9.c0;have b1:=nb9.c1;have b2:=nb9.c2;have a0:=zb9.c0;have a1:=zb9.c1;have a2:=zb9.c2;have af:=zb9.bf)|(go_at_call 73;refine(KD _ _ rd7 GQ).mono ?_;rintro e w8 ⟨k8,oK,nK,cK,nb8,rfl,rd8,K,WO,kr8⟩;have zb8:=Yy.ny k8 hZR hZN;have s7:=k7.size;have s6:=k6.size;have s5:=k5.size;have K8:=aP.keep K7 k8 (by omega);have oa8:=EM jQ k8 (by omega) (by omega);have b0:=nb8.c0)|(have z6:=rd6;go_at_call 69;refine(SK2 _ z6).mono ?_;rintro e w7 ⟨rfl,rd7,k7⟩;have GQ:=XQ.keep k7 Te;have Yy:=TA.keep k7 zi;have jQ:=bH Le k7 (by omega);have K7:=K6.trans k7)|(go_at_call 69;refine(ji R y [47,62] _ KI h3).mono ?_;rintro e w6 ⟨rfl,rd6,k6⟩;have XQ:=Gw.keep k6 Te;have TA:=PU.keep k6 zi;have Le:=bH pQ k6 (by omega);have K6:=K5.trans k6));refine bodyPost_ret (v:=.tuple #[.agg #[.string ⟨(gT r).toArray⟩,.slice oA ats.length cA,.slice oK nK cK],.bool true]) (by simp[results,results36,go_sem,a0,a1,a2]) rfl ⟨rq K9 Nat.le.refl _ _ _,_,_,_,_,_,_,_,.inr ⟨_,_,HZ.out,rfl,XO (U:=U.heap.size) (K:=K) hml HA.out (bH oa8 k9 (by omega)) (bH (Tc WO (by omega)) k9 (by omega)) (KR.turn (fun b hb _=>⟨by omega,k9.block b (by assumption) (by omega)⟩) kr8) rd9 Nat.le.refl (by omega) zi⟩⟩
end
section
open Go.RowKit
set_option maxHeartbeats 4000000
set_option maxRecDepth 20000
theorem yC (R:Nat):∀f,El R f
 |0=>fun _ _ h=>absurd h (Nat.not_lt_zero _)
 |f+1=>Gy R f (yC R f)
def Tf (s:Bs):Option Nd:=match iW (s.length+1) s with
 |some (n,[])=>some n
 |_=>none
theorem KJ {s:Bs}{n:Nd}(h:iW (s.length+1) s=some (n,[])):Tf s=some n:=by rw[Tf,h]
theorem XR {s:Bs}(h:iW (s.length+1) s=none):Tf s=none:=by rw[Tf,h]
theorem XT {s:Bs}{n:Nd}{c:UInt8}{r:Bs}(h:iW (s.length+1) s=some (n,c::r)):Tf s=none:=by rw[Tf,h]
abbrev ndZ:Value:=.agg #[.string ⟨#[]⟩,.slice none 0 0,.slice none 0 0]
def a8K (E:Nat->Addr)(B:Nat)(s:Bs)(e:Ending)(w:World):Prop:=
 (10000<s.length/\e=.returned (.tuple #[ndZ,.iface 390 (.pointer (some (E 2)))]))\/
 (s.length<=10000/\Tf s=none/\e=.returned (.tuple #[ndZ,.iface 390 (.pointer (some (E 1)))]))\/
 (s.length<=10000/\∃n,Tf s=some n/\(fT n 1 0).1≠0/\∃pb,B<=pb/\e=.returned (.tuple #[ndZ,.iface 113 (aj pb)])/\w.cell? (ag pb 0)=some (aa (fT n 1 0).2)/\w.cell? (ag pb 1)=some (.iface 390 (.pointer (some (E (fT n 1 0).1)))))\/
 (s.length<=10000/\∃n c0 c1 c2,Tf s=some n/\(fT n 1 0).1=0/\e=.returned (.tuple #[.agg #[c0,c1,c2],.nilIface])/\jR w c0 c1 c2 n)
theorem NJ (E:Nat->Addr)(s:Bs)(W:World)(hE:ME E W)(h1:W.cell? (ag 1 0)=some (.iface 390 (.pointer (some (E 1)))))(hs:s.length<=9223372036854775807):
  ak 20 #[.string ⟨s.toArray⟩] W fun e w'=>Below W.heap.size W w'/\a8K E W.heap.size s e w':=by
 have hsz:=fD s;have Yx:NB W.heap.size (.string ⟨#[]⟩) (.slice none 0 0) (.slice none 0 0) (W.alloc (.cells #[.string ⟨#[]⟩,.slice none 0 0,.slice none 0 0] 25)):=dh W #[.string ⟨#[]⟩,.slice none 0 0,.slice none 0 0] 25;have b0:=aW W (.cells #[.string ⟨#[]⟩,.slice none 0 0,.slice none 0 0] 25);obtain⟨V0,Mt⟩:∃V,W.alloc (.cells #[.string ⟨#[]⟩,.slice none 0 0,.slice none 0 0] 25)=V:=⟨_,rfl⟩;rw[Mt] at Yx b0;have e2:=(hE.below b0).c2;have e1:=(b0.cell (ax h1)).trans h1;have l2:=ax hE.c2;have l1:=ax h1;simp only at l1 l2;have q2:¬W.heap.size=0:=by omega
 have q2':¬0=W.heap.size:=by omega
 have q1:¬W.heap.size=1:=by omega
 have q1':¬1=W.heap.size:=by omega
 by_cases hbig:10000<s.length
 ·have hbig':10000<(s.length:Int):=by omega
  have a0:=Yx.c0;have a1:=Yx.c1;have a2:=Yx.c2;have af:=Yx.bf;go_enter func20,ntmps20;go_upto_region 2 with fail;clear Mt;go_region;go_wp2_with fail;refine bodyPost_ret (v:=.tuple #[ndZ,.iface 390 (.pointer (some (E 2)))]) (by simp[results,results20,go_sem,a0,a1,a2]) rfl ⟨?_,.inl ⟨hbig,rfl⟩⟩;exact((((lX 1 b0).setCell Nat.le.refl _).setCell Nat.le.refl _).setCell Nat.le.refl _)
 ·have hbig':(s.length:Int)<=10000:=by omega
  have rdU:RD V0.heap.size s (V0.alloc (.cells #[.string ⟨s.toArray⟩] 92)):=dh V0 #[.string ⟨s.toArray⟩] 92;have Lh:=Yx.al (.cells #[.string ⟨s.toArray⟩] 92);have bU:=az b0 (aW V0 (.cells #[.string ⟨s.toArray⟩] 92));have szZ:=Yx.lt;obtain⟨U,hU⟩:∃U,V0.alloc (.cells #[.string ⟨s.toArray⟩] 92)=U:=⟨_,rfl⟩;obtain⟨R,hR⟩:∃R,V0.heap.size=R:=⟨_,rfl⟩;rw[hU] at rdU Lh bU;rw[hR] at rdU szZ;have hlt:=rdU.lt;have zi:R≠W.heap.size:=by omega
  have EL:=yC R (s.length+1) s U (by omega) (by omega) rdU;clear e2 e1;cases hv:iW (s.length+1) s with
  |none=>
   have HZ:Hid (Tf s=none):=XR hv;have EL1:=EL.mono (R':=fun e w'=>aY R U w'/\∃(s0:ByteArray) (o1:Option Addr) (n1 k1:Nat) (o2:Option Addr) (n2 k2:Nat),e=.returned (.tuple #[.agg #[.string s0,.slice o1 n1 k1,.slice o2 n2 k2],.bool false])) (fun e w' h=>by
    refine⟨h.1,?_⟩;obtain⟨s0,o1,n1,k1,o2,n2,k2,h2|⟨n,r,h2, -⟩⟩:=h.2
    ·exact⟨s0,o1,n1,k1,o2,n2,k2,h2.2⟩
    ·rw[hv] at h2;cases h2)
   clear EL hv;go_enter func20,ntmps20;go_upto_region 6 with(go_at_call 36;refine EL1.mono ?_;rintro e w2 ⟨yR,s0,o1,n1,k1,o2,n2,k2,rfl⟩);have bV:=(bU.trans (yR.below (by omega) bU.size)).trans ((aW w2 (.cells #[.string s0,.slice o1 n1 k1,.slice o2 n2 k2] 25)).mono (Nat.le_trans bU.size yR.size));have Li:=(Lh.keep yR zi).al (.cells #[.string s0,.slice o1 n1 k1,.slice o2 n2 k2] 25);obtain⟨V,hV⟩:∃V,w2.alloc (.cells #[.string s0,.slice o1 n1 k1,.slice o2 n2 k2] 25)=V:=⟨_,rfl⟩;rw[hV] at bV Li⊢;clear hV Mt hU hR;have a0:=Li.c0;have a1:=Li.c1;have a2:=Li.c2;have af:=Li.bf;have e1:=(bV.cell l1).trans h1;go_region;go_wp2_with fail;refine bodyPost_ret (v:=.tuple #[ndZ,.iface 390 (.pointer (some (E 1)))]) (by simp[results,results20,go_sem,a0,a1,a2]) rfl ⟨?_,.inr (.inl ⟨by omega,HZ.out,rfl⟩)⟩;exact((((lX 1 bV).setCell Nat.le.refl _).setCell Nat.le.refl _).setCell Nat.le.refl _)
  |some q=>
   obtain⟨n,r⟩:=q;have EL1:=EL.mono (R':=fun e w'=>aY R U w'/\∃(s0:ByteArray) (o1:Option Addr) (n1 k1:Nat) (o2:Option Addr) (n2 k2:Nat),e=.returned (.tuple #[.agg #[.string s0,.slice o1 n1 k1,.slice o2 n2 k2],.bool true])/\RD R r w'/\mY (fun b=>U.heap.size<=b) w' (.string s0) (.slice o1 n1 k1) (.slice o2 n2 k2) n) (fun e w' h=>by
    refine⟨h.1,?_⟩;obtain⟨s0,o1,n1,k1,o2,n2,k2,h2|⟨n,r,h2,h3,h4,h5⟩⟩:=h.2
    ·rw[hv] at h2;cases h2.1
    ·rw[hv] at h2;cases h2;exact⟨s0,o1,n1,k1,o2,n2,k2,h3,h4,h5⟩)
   clear EL;cases r with
   |cons c r=>
    have HZ:Hid (Tf s=none):=XT hv;clear hv;go_enter func20,ntmps20;go_upto_region 6 with(go_at_call 36;refine EL1.mono ?_;rintro e w2 ⟨yR,s0,o1,n1,k1,o2,n2,k2,rfl,lG,nd2⟩;have rv:=(lG.al (.cells #[.string s0,.slice o1 n1 k1,.slice o2 n2 k2] 25)).cell);have bV:=(bU.trans (yR.below (by omega) bU.size)).trans ((aW w2 (.cells #[.string s0,.slice o1 n1 k1,.slice o2 n2 k2] 25)).mono (Nat.le_trans bU.size yR.size));have Li:=(Lh.keep yR zi).al (.cells #[.string s0,.slice o1 n1 k1,.slice o2 n2 k2] 25);obtain⟨V,hV⟩:∃V,w2.alloc (.cells #[.string s0,.slice o1 n1 k1,.slice o2 n2 k2] 25)=V:=⟨_,rfl⟩;rw[hV] at bV Li⊢;clear hV Mt hU hR rv;have a0:=Li.c0;have a1:=Li.c1;have a2:=Li.c2;have af:=Li.bf;have e1:=(bV.cell l1).trans h1;go_region;go_wp2_with fail;refine bodyPost_ret (v:=.tuple #[ndZ,.iface 390 (.pointer (some (E 1)))]) (by simp[results,results20,go_sem,a0,a1,a2]) rfl ⟨?_,.inr (.inl ⟨by omega,HZ.out,rfl⟩)⟩;exact((((lX 1 bV).setCell Nat.le.refl _).setCell Nat.le.refl _).setCell Nat.le.refl _)
   |nil=>
    have HZ:Hid (Tf s=some n):=KJ hv;clear hv;go_enter func20,ntmps20;go_upto_region 7 with(go_at_call 36;refine EL1.mono ?_;rintro e w2 ⟨yR,s0,o1,n1,k1,o2,n2,k2,rfl,lG,nd2⟩;have rv:=(lG.al (.cells #[.string s0,.slice o1 n1 k1,.slice o2 n2 k2] 25)).cell);have bV:=(bU.trans (yR.below (by omega) bU.size)).trans ((aW w2 (.cells #[.string s0,.slice o1 n1 k1,.slice o2 n2 k2] 25)).mono (Nat.le_trans bU.size yR.size));have Li:=(Lh.keep yR zi).al (.cells #[.string s0,.slice o1 n1 k1,.slice o2 n2 k2] 25);have nbV:NB w2.heap.size (.string s0) (.slice o1 n1 k1) (.slice o2 n2 k2) (w2.alloc (.cells #[.string s0,.slice o1 n1 k1,.slice o2 n2 k2] 25)):=dh w2 #[.string s0,.slice o1 n1 k1,.slice o2 n2 k2] 25;have ndV:=mY.turn (Q:=fun b=>U.heap.size<=b) (Q':=fun b=>U.heap.size<=b) (fun b hb hlt=>⟨hb,(aW w2 (.cells #[.string s0,.slice o1 n1 k1,.slice o2 n2 k2] 25)).block b hlt⟩) n nd2;obtain⟨V,hV⟩:∃V,w2.alloc (.cells #[.string s0,.slice o1 n1 k1,.slice o2 n2 k2] 25)=V:=⟨_,rfl⟩;rw[hV] at bV Li nbV ndV⊢;clear hV Mt hU hR rv;have m0:=nbV.c0;have m1:=nbV.c1;have m2:=nbV.c2;have CK:=Jb E n _ _ _ V (hE.below bV).ce (mY.nd n ndV);have zlt:=Li.lt;by_cases hz:(fT n 1 0).1=0
    ·have CK1:=CK.mono (R':=fun e w'=>Below V.heap.size V w'/\e=.returned .nilIface) (fun e w' h=>by
      refine⟨h.1,?_⟩;rcases h.2 with h2|h2
      ·exact h2.2
      ·exact absurd hz h2.1)
     have HC:Hid ((fT n 1 0).1=0):=hz;clear CK hz;go_wp2_with(go_at_call 37;refine CK1.mono ?_;rintro e w3 ⟨b3,rfl⟩;have p0:=(b3.cell (ax m0)).trans m0;have p1:=(b3.cell (ax m1)).trans m1;have p2:=(b3.cell (ax m2)).trans m2;have Td:NB W.heap.size (.string ⟨#[]⟩) (.slice none 0 0) (.slice none 0 0) w3:=(b3.block _ zlt).trans Li;have a0:=Td.c0;have a1:=Td.c1;have a2:=Td.c2;have af:=Td.bf);have bF:=bV.trans (b3.mono bV.size);have ndF:=mY.turn (Q:=fun b=>U.heap.size<=b) (Q':=fun b=>U.heap.size<=b) (w':=XN W.heap.size (.string s0) (.slice o1 n1 k1) (.slice o2 n2 k2) w3) (fun b hb hlt=>⟨hb,by
      have hbz:b≠W.heap.size:=by omega
      rw[Below.heap_setCell _ _ _ b hbz,Below.heap_setCell _ _ _ b hbz,Below.heap_setCell _ _ _ b hbz];exact b3.block b hlt⟩) n ndV
     refine bodyPost_ret (v:=.tuple #[.agg #[.string s0,.slice o1 n1 k1,.slice o2 n2 k2],.nilIface]) (by simp[results,results20,go_sem,a0,a1,a2]) rfl ⟨?_,.inr (.inr (.inr ⟨by omega,n,_,_,_,HZ.out,HC.out,rfl,mY.nd n ndF⟩))⟩;exact(((bF.setCell Nat.le.refl _).setCell Nat.le.refl _).setCell Nat.le.refl _)
    ·have CK1:=CK.mono (R':=fun e w'=>Below V.heap.size V w'/\Flt E V.heap.size (fT n 1 0) e w') (fun e w' h=>by
      refine⟨h.1,?_⟩;rcases h.2 with h2|h2
      ·exact absurd h2.1 hz
      ·exact h2.2)
     have HC:Hid ((fT n 1 0).1≠0):=hz;clear CK hz;go_wp2_with(go_at_call 37;refine CK1.mono ?_;rintro e w3 ⟨b3,pb,hpb,rfl,z0,z1⟩;have Td:NB W.heap.size (.string ⟨#[]⟩) (.slice none 0 0) (.slice none 0 0) w3:=(b3.block _ zlt).trans Li;have a0:=Td.c0;have a1:=Td.c1;have a2:=Td.c2;have af:=Td.bf);have bF:=bV.trans (b3.mono bV.size);have hpz:pb≠W.heap.size:=by omega
     have ePb:(XN W.heap.size (.string ⟨#[]⟩) (.slice none 0 0) (.slice none 0 0) w3).heap[pb]? =w3.heap[pb]? :=by rw[Below.heap_setCell _ _ _ pb hpz,Below.heap_setCell _ _ _ pb hpz,Below.heap_setCell _ _ _ pb hpz]
     refine bodyPost_ret (v:=.tuple #[ndZ,.iface 113 (aj pb)]) (by simp[results,results20,go_sem,a0,a1,a2]) rfl ⟨?_,.inr (.inr (.inl ⟨by omega,n,HZ.out,HC.out,pb,by have:=bV.size;omega,rfl,(World.cell?_of_block ePb).trans z0,(World.cell?_of_block ePb).trans z1⟩))⟩;exact(((bF.setCell Nat.le.refl _).setCell Nat.le.refl _).setCell Nat.le.refl _)
end
section
open Go.RowKit
def lvS:Bs:=[60,98,111,120,32,119,61,34,50,34,32,104,61,34,49,34,32,102,105,108,108,61,34,97,34,47,62]
def Gz:Nd:=.mk [98,111,120] [([119],[50]),([104],[49]),([102,105,108,108],[97])] []
def lvP:Pc:=⟨0,[⟨0,1,0,1⟩,⟨2,1,0,1⟩,⟨2,1,1,1⟩,⟨0,1,1,1⟩],[97],[119,105,110,100],0⟩
def lvX:Ed:=⟨yP,0,0,0,[115,104,111,119],[110,111]⟩
theorem a8L:gd Gz:=by
 unfold Gz;simp only[gd,gdL];decide
theorem XU:txt Gz=lvS:=by rfl
theorem XV:Tf lvS=some Gz:=by
 refine KJ ?_;have h:=Xy Gz (lvS.length+1) [] a8L (by rw[XU];exact Nat.le_succ _);rw[XU,List.append_nil] at h;exact h
theorem a1Y:(fT Gz 1 0).1=0:=by rfl
theorem EN:di (dZ Gz) []=.ok [lvP]:=by kernel_rfl
theorem a4R:iZ aC ([lvP].map dY) 3 2=[⟨#[97]⟩,⟨#[97]⟩,⟨#[46]⟩,⟨#[46]⟩,⟨#[46]⟩,⟨#[46]⟩]:=by kernel_rfl
def lvA:List (Bs×Bs):=[([119],[50]),([104],[49]),([102,105,108,108],[97])]
def lvD:Dm:=jN (dZ Gz) 0 ⟨[98,111,120],lvA, -1,[]⟩ (gm lvA [115,104,111,119] [110,111])
theorem NK:nO (dZ Gz) 0 [115,104,111,119] [110,111]=.ok lvD:=by kernel_rfl
theorem Cm:di lvD []=.ok []:=by kernel_rfl
theorem a4S:gL [lvP] [] 2=[0]:=by kernel_rfl
theorem a8M:iJ (dY lvP):=by
 refine⟨⟨by decide,fun a ha=>?_⟩,.inl (by kernel_rfl)⟩;have ha:a∈lvP.pts:=ha;simp only[lvP,List.mem_cons,List.not_mem_nil,or_false] at ha;rcases ha with rfl|rfl|rfl|rfl<;>(show fU _=0)<;>kernel_rfl
theorem a8N:yQ [⟨#[97]⟩,⟨#[97]⟩,⟨#[46]⟩,⟨#[46]⟩,⟨#[46]⟩,⟨#[46]⟩] 3 2=[97,97,46,10,46,46,46,10]:=by kernel_rfl
theorem a8O:yQ (iZ aC [] 3 2) 3 2=[46,46,46,10,46,46,46,10]:=by kernel_rfl
theorem LE.me {E:Nat->Addr}{w:World}(h:LE E w):ME E w:=⟨h.de.c2,h.de.c4,h.de.c6,h.de.c7,h.de.c8,h.de.c10⟩
end
section
open Go.RowKit
def rX (W:World)(LB B DB:Nat)(M:Dm)(nx c:Nat)(r:Int->Nat)(rl:List Rl)(l:List Pc)(w h:Nat):Prop:=∃tg MB p rv qs pv cv,Yu W LB B tg DB MB p M nx c r rl rv qs pv w h cv/\qs.map bZ.pc=l
theorem rX.below {W w':World}{LB B DB:Nat}{M:Dm}{nx c:Nat}{r:Int->Nat}{rl:List Rl}{l:List Pc}{w h:Nat}(hl:rX W LB B DB M nx c r rl l w h)(hb:Below W.heap.size W w'):rX w' LB B DB M nx c r rl l w h:=by
 obtain⟨tg,MB,p,rv,qs,pv,cv,h1,h2⟩:=hl;exact⟨tg,MB,p,rv,qs,pv,cv,h1.below hb,h2⟩
theorem rX.base {W:World}{LB B DB:Nat}{M:Dm}{nx c:Nat}{r:Int->Nat}{rl:List Rl}{l:List Pc}{w h:Nat}(hl:rX W LB B DB M nx c r rl l w h):B<=LB/\B<=DB/\B<=W.heap.size:=by
 obtain⟨tg,MB,p,rv,qs,pv,cv,h1,h2⟩:=hl;exact⟨h1.base,(h1.ds.w.low _ _ h1.ds.w.jP).1,h1.ds.low⟩
theorem rX.Xe {W:World}{LB B DB:Nat}{M:Dm}{nx c:Nat}{r:Int->Nat}{rl:List Rl}{l:List Pc}{w h:Nat}(hl:rX W LB B DB M nx c r rl l w h)(hw1:1<=w)(hw:w<=40)(AZ:1<=h)(hh:h<=40):
  ak 10 #[aj LB] W fun e w'=>∃g cp,e=.returned (.agg #[aa w,aa h,.slice (some ⟨g,0,none⟩) (w*h) cp])/\w'.ownsRow W.heap.size 9 1 (.slice (some ⟨g,0,none⟩) (w*h) cp) (w*h) ((iZ aC (l.map dY) w h).map .string)/\Below W.heap.size W w':=by
 obtain⟨tg,MB,p,rv,qs,pv,cv,h1,rfl⟩:=hl;exact Kn h1 hw1 hw AZ hh
theorem a1Z (E:Nat->Addr)(n:Nd)(c0 c1 c2:Value)(W:World)(w h:Nat)(hE:LE E W)(hn:jR W c0 c1 c2 n)(hs:dQ n<=1000000)(hw1:1<=w)(hw:w<=40)(AZ:1<=h)(hh:h<=40):
  ak 9 #[.agg #[c0,c1,c2],.string ⟨#[]⟩,aa w,aa h] W fun e w'=>Below W.heap.size W w'/\((¬((fT n 1 0).1=0/\vW (dZ n) [])/\∃t u,e=.returned (.tuple #[.pointer none,.iface t u]))\/∃LB DB l,(fT n 1 0).1=0/\di (dZ n) []=.ok l/\e=.returned (.tuple #[aj LB,.nilIface])/\rX w' LB W.heap.size DB (dZ n) (dQ n) (dQ n) (Db n) [] l w h):=(Xh E n c0 c1 c2 W w h hE hn hs hw1 hw AZ hh).mono fun e w' ⟨h1,h2⟩=>⟨h1,by
 rcases h2 with h2|⟨h2, -,LB,tg,DB,MB,p,rv,qs,pv,cv,h4,h5⟩
 ·exact .inl h2
 ·exact .inr ⟨LB,DB,qs.map bZ.pc,h2,h5.pm,h4,tg,MB,p,rv,qs,pv,cv,h5,rfl⟩⟩
theorem a4T {E:Nat->Addr}{W:World}{LB B DB:Nat}{M:Dm}{nx c:Nat}{r:Int->Nat}{l:List Pc}{w h:Nat}(hE:LE E W)(hl:rX W LB B DB M nx c r [] l w h)(hw1:1<=w)(hw:w<=40)(AZ:1<=h)(hh:h<=40)(x:Ed)(hx:x.kd≠uC)(a:Except Nat Dm)
  (hAp:∀N V qi qo vX p1,W.heap.size<=N->Below W.heap.size W V->dP M->gN N qi V qo vX p1 M nx c r->ak 29 #[aj qo,.agg (zg x)] V fun e w'=>Below N V w'/\(((∃k,a=.error k)/\∃t u,e=.returned (.iface t u))\/(e=.returned .nilIface/\∃vz p2 M2 lN c2 r2,(a=.ok M2/\lN=nx/\c2=c/\r2=r)/\dP M2/\gN N vz w' qo vX p2 M2 lN c2 r2))):
  ak 11 #[aj LB,.agg (zg x)] W fun e w'=>(((∃k,a=.error k)\/∃M2,a=.ok M2/\¬vW M2 [])/\(∃t u,e=.returned (.tuple #[.slice none 0 0,.iface t u]))/\Below W.heap.size W w'/\rX w' LB B DB M nx c r [] l w h)\/
   ∃M2 l2 o n cp,a=.ok M2/\di M2 []=.ok l2/\e=.returned (.tuple #[.slice o n cp,.nilIface])/\w'.ownsRow W.heap.size 3 1 (.slice o n cp) (gL l l2 h).length (bY ((gL l l2 h).map fun(y:Nat)=>(y:Int)))/\K2 LB DB W w'/\rX w' LB B DB M2 nx c r [] l2 w h:=by
 obtain⟨tg,MB,p,rv,qs,pv,cv,hl,hq⟩:=hl;obtain⟨GK,GL,Wj⟩:=aI hl.row;subst Wj;refine(a4x hE hl hw1 hw AZ hh x (∃k,a=.error k) False (fun M2 lN c2 r2=>a=.ok M2/\lN=nx/\c2=c/\r2=r) [] (fun y hy=>(by cases hy)) (fun N V qi qo vX p1 h1 h2 h3=>hAp N V qi qo vX p1 h1 h2 hl.ok h3) (fun V hV=>(Nw x hx _ _ _ V).mono fun e w' ⟨h1,h2⟩=>⟨h2,.inr ⟨_,_,_,h1,aK hl.row (hV.trans (h2.mono hV.size))⟩⟩)).mono fun e w' hr=>?_;rcases hr with⟨h1,h2,h3,h4⟩|⟨vz,MB2,p2,M2,lN,c2,r2,rv2,uG,pv2,cv2,o,n,cp,⟨h1,rfl,rfl,rfl⟩,h2,h3,h4,h5,h6⟩
 ·refine .inl ⟨?_,h1,h2,tg,MB,p,_,qs,pv,cv,h3,hq⟩;rcases h4 with h4|h4|⟨M2,_,_,_,⟨h5, -⟩,h6⟩
  ·exact .inl h4
  ·exact h4.elim
  ·exact .inr ⟨M2,h5,h6⟩
 ·subst hq;exact .inr ⟨M2,uG.map bZ.pc,o,n,cp,h1,h6.pm,h4,by simpa using h5,h3,vz,MB2,p2,rv2,uG,pv2,cv2,h6,rfl⟩
end
section
open Go.RowKit
set_option maxHeartbeats 4000000
set_option maxRecDepth 20000
theorem PV {V w1:World}{l:List Pc}{g cp w h:Nat}{t:List UInt8}(ow:w1.ownsRow V.heap.size 9 1 (.slice (some ⟨g,0,none⟩) (w*h) cp) (w*h) ((iZ aC (l.map dY) w h).map .string))(hw1:1<=w)(hw:w<=40)(hh:h<=40)(ht:yQ (iZ aC (l.map dY) w h) w h=t):
  ak 21 #[.agg #[aa w,aa h,.slice (some ⟨g,0,none⟩) (w*h) cp]] w1 fun e w'=>e=.returned (.string ⟨t.toArray⟩)/\Below w1.heap.size w1 w':=by
 rw[<- ht];exact Ku _ w h g cp _ w1 hw1 hw hh ow
theorem NL (E:Nat->Addr)(W:World)(hE:LE E W):
  ak 6 #[] W fun e w'=>e=.returned (.bool true)/\Below W.heap.size W w':=by
 have RD:ak 20 #[.string ⟨#[60,98,111,120,32,119,61,34,50,34,32,104,61,34,49,34,32,102,105,108,108,61,34,97,34,47,62]⟩] W fun e w'=>∃(sa:ByteArray) (oa:Option Addr) (na ka:Nat) (wX:Option Addr) (na' ka':Nat),e=.returned (.tuple #[.agg #[.string sa,.slice oa na ka,.slice wX na' ka'],.nilIface])/\jR w' (.string sa) (.slice oa na ka) (.slice wX na' ka') Gz/\Below W.heap.size W w':=(NJ E lvS W hE.me hE.ne.c1 (by decide)).mono fun e w' ⟨h1,h2⟩=>by
  rcases h2 with h2|h2|⟨-,n,h2,h3, -⟩|⟨-,n,c0,c1,c2,h2, -,h4,h5⟩
  ·exact absurd h2.1 (by decide)
  ·have h3:=h2.2.1;rw[XV] at h3;cases h3
  ·rw[XV] at h2;cases h2;exact absurd a1Y h3
  ·rw[XV] at h2;cases h2;have h6:=h5;unfold Gz jR at h6;obtain⟨k1, -,⟨o,cap,k2, -⟩,o',cap',k3, -⟩:=h6;subst k1 k2 k3;exact⟨_,_,_,_,_,_,_,h4,h5,h1⟩
 have NW:∀V c0 c1 c2,Below W.heap.size W V->jR V c0 c1 c2 Gz->ak 9 #[.agg #[c0,c1,c2],.string ⟨#[]⟩,aa 3,aa 2] V fun e w'=>∃LB DB,e=.returned (.tuple #[aj LB,.nilIface])/\rX w' LB V.heap.size DB (dZ Gz) 1 1 (Db Gz) [] [lvP] 3 2/\Below V.heap.size V w':=fun V c0 c1 c2 hV hn=>(a1Z E Gz c0 c1 c2 V 3 2 (hE.below hV) hn (by decide) (by decide) (by decide) (by decide) (by decide)).mono fun e w' ⟨h1,h2⟩=>by
  rcases h2 with⟨h2, -⟩|⟨LB,DB,l, -,h3,h4,h5⟩
  ·exact absurd ⟨a1Y,[lvP],EN,fun x hx=>by rw[List.mem_singleton.1 hx];exact a8M⟩ h2
  ·rw[EN] at h3;cases h3;exact⟨LB,DB,h4,h5,h1⟩
 have DO:∀V LB B DB,Below W.heap.size W V->W.heap.size<=B->rX V LB B DB (dZ Gz) 1 1 (Db Gz) [] [lvP] 3 2->ak 11 #[aj LB,.agg #[.string ⟨#[115,101,116]⟩,aa 0,aa 0,aa 0,.string ⟨#[115,104,111,119]⟩,.string ⟨#[110,111]⟩]] V fun e w'=>∃o cp,e=.returned (.tuple #[.slice o 1 cp,.nilIface])/\w'.ownsRow V.heap.size 3 1 (.slice o 1 cp) 1 [aa 0]/\rX w' LB B DB lvD 1 1 (Db Gz) [] [] 3 2/\Below W.heap.size W w':=fun V LB B DB hV hB hl=>(a4T (hE.below hV) hl (by decide) (by decide) (by decide) (by decide) lvX (by decide) (nO (dZ Gz) 0 [115,104,111,119] [110,111]) (fun N X qi qo vX p1 h1 h2 h3 h4=>xD ((hE.below hV).below h2) h4 h3 0 0 0 (by decide) _ _ (by decide) (by decide))).mono fun e w' hr=>by
  rcases hr with⟨h1, -⟩|⟨M2,l2,o,n,cp,h1,h2,h3,h4,h5,h6⟩
  ·exfalso;rcases h1 with⟨k,h1⟩|⟨M2,h1,h2⟩
   ·rw[NK] at h1;cases h1
   ·rw[NK] at h1;cases h1;exact h2 ⟨[],Cm,fun x hx=>by cases hx⟩
  ·rw[NK] at h1;cases h1;rw[Cm] at h2;cases h2;rw[a4S] at h4;obtain⟨k1,k2,k3⟩:=hl.base;obtain⟨o',cp',hv, -⟩:=bA h4;cases hv;exact⟨o,cp,h3,h4,h6,hV.trans (h5.below (by omega) (by omega) hV.size)⟩
 have HE:Hid (LE E W):=hE;clear hE;go_enter func6,ntmps6;go_upto_region 4 with(go_at_call 20;refine RD.mono ?_;rintro e w1 ⟨sa,oa,na,ka,wX,na',ka',rfl,hn,b1⟩);have b1':=aW w1 (.cells #[.string sa,.slice oa na ka,.slice wX na' ka'] 25);have NW1:=NW _ _ _ _ (az b1 b1') (hn.below b1');clear RD NW;go_upto_region 5 with(go_at_call 9;refine NW1.mono ?_;rintro e w2 ⟨LB,DB,rfl,hl2,b2⟩);have NY:=az b1 (az b1' b2);have z1:=(az b1 b1').size;have PC:=hl2.Xe (by decide) (by decide) (by decide) (by decide);clear NW1;go_upto_region 7 with(first|(go_at_call 10;refine PC.mono ?_;rintro e w3 ⟨g3,c3,rfl,yK,b3⟩;have TX:=PV (t:=[97,97,46,10,46,46,46,10]) yK (by decide) (by decide) (by decide) (by rw[a4R,a8N]))|(go_at_call 21;refine TX.mono ?_;rintro e w4 ⟨rfl,b4⟩));have hl4:=hl2.below (az b3 b4);have D1:=DO _ _ _ _ (az NY (az b3 b4)) z1 hl4;clear DO PC hl2 hl4 TX;go_upto_region 8 with(go_at_call 11;refine D1.mono ?_;rintro e w5 ⟨o5,c5,rfl,pQ,hl5,b5⟩);have bn:=aW w5 (.cells #[aa 0] 3);have kn:=dh w5 #[aa 0] 3;have own:(w5.alloc (.cells #[aa 0] 3)).ownsRow 0 3 1 (.slice (some ⟨w5.heap.size,0,none⟩) 1 1) 1 [aa 0]:=⟨rfl,.inr ⟨w5.heap.size,1,_,rfl,Nat.zero_le _,kn,Nat.le_refl _,by decide,rfl,rfl⟩⟩;have SI:=tJ (w5.alloc (.cells #[aa 0] 3)) o5 (some ⟨w5.heap.size,0,none⟩) c5 1 [0] (aK pQ bn) own (by decide);have SI:ak 18 #[.slice o5 1 c5,.slice (some ⟨w5.heap.size,0,none⟩) 1 1] (w5.alloc (.cells #[aa 0] 3)) fun e w'=>e=.returned (.bool true)/\Below (w5.alloc (.cells #[aa 0] 3)).heap.size (w5.alloc (.cells #[aa 0] 3)) w':=SI;clear own D1;go_wp2_with(first|(go_at_call 18;refine SI.mono ?_;rintro e w6 ⟨rfl,b6⟩;have PC:=(hl5.below (az bn b6)).Xe (by decide) (by decide) (by decide) (by decide))|(go_at_call 10;refine PC.mono ?_;rintro e w7 ⟨g7,c7,rfl,jQ,b7⟩;have TX:=PV (t:=[46,46,46,10,46,46,46,10]) jQ (by decide) (by decide) (by decide) a8O)|(go_at_call 21;refine TX.mono ?_;rintro e w8 ⟨rfl,b8⟩))
 go_ret;exact⟨rfl,az b5 (az (az bn b6) (az b7 b8))⟩
end
end Go.Proofs.YtjfiehbcamfdfaaGreatDoor

/-
  Parts of the proof.
-/
import Derived.Test.YtjfiehbcamfdfaaGreatDoorQy38
import Derived.Test.YtjfiehbcamfdfaaGreatDoorQy34
namespace Go.Proofs.YtjfiehbcamfdfaaGreatDoor
open Go.Proofs.Tryz
section
open Go.RowKit
abbrev St:=Bs×List (Bs×Bs)×Int
def st (f:Fl):St:=(f.name,f.attrs,f.parent)
end
section
open Go.RowKit
set_option maxHeartbeats 4000000
set_option maxRecDepth 20000
theorem a5L (R:Nat)(s:Bs)(W:World)(h:RD R s W)(hl:s.length<=10000)(hp:[34].isPrefixOf (Ct s)=true):
  ak 118 #[aj R] W fun e w'=>aY R W w'/\e=.returned (.tuple #[.string ⟨(Lf s).toArray⟩,.bool true])/\RD R ((Ct s).drop 1) w':=by
 have hR:=h.lt;have b0:=aW W (.cells #[.pointer none,.slice none 0 0] 99);have a8D:=Bd.fresh W.heap.size W eU;go_enter func118,ntmps118;go_wp2_with fail;obtain⟨V,hV⟩:∃V,W.alloc (.cells #[.pointer none,.slice none 0 0] 99)=V:=⟨_,rfl⟩;have a8E:=h.al (.cells #[.pointer none,.slice none 0 0] 99);rw[hV] at b0 a8D a8E⊢;clear hV
 go_loopw [] (fun wr=>∃acc rest:Bs,acc=[]/\rest=s/\RD R rest wr/\Bd W.heap.size W.heap.size acc wr/\aY R W wr) (fun _=>0)
 case atStart=>exact⟨[],s,rfl,rfl,a8E,a8D,aY.of_below b0⟩
 case round=>
  obtain⟨acc,rest,hac,hrs,hrd,hbd,hkp⟩:=hrel;have amO:acc.length=0:=by rw[hac];rfl
  have HA:Hid (acc=[]/\rest=s):=⟨hac,hrs⟩;rw[<- hrs] at hp hl;clear hac hrs;have hml:=Py rest;have hsz:=hkp.size;have NO:=jG [60,62,38,34] wr;have rd1:=hrd.al (.cells #[.string ⟨([60,62,38,34]:Bs).toArray⟩] 9);have nb:=dh wr #[.string ⟨([60,62,38,34]:Bs).toArray⟩] 9;have TK:=SY R rest wr.heap.size _ rd1 nb (by omega);have k1:=hkp.trans (aY.of_below (aW wr (.cells #[.string ⟨([60,62,38,34]:Bs).toArray⟩] 9)));have bd1:=hbd.al (.cells #[.string ⟨([60,62,38,34]:Bs).toArray⟩] 9);clear hrd hbd nb rd1;go_wp2_with(first|(go_at_call 71;refine NO.mono ?_;rintro e w1 ⟨rfl,rfl⟩)|(go_at_call 70;refine TK.mono ?_;rintro e w2 ⟨rfl,lG,k2⟩;have K2:=k1.trans k2;have bd2:=bd1.keep k2 hR)|(go_at_call 161;refine(jW W.heap.size W.heap.size acc (Lf rest) _ bd2 (by omega) K2.size).mono ?_;rintro e w3 ⟨rfl,bd3,bk3⟩;have KH:=lG.low bk3.low hR;have K3:=K2.low bk3.low)|(go_at_call 69;refine(lF R _ [34] _ KH hp).mono ?_;rintro e w4 ⟨rfl,XE,k4⟩;have bd4:=bd3.keep k4 hR;have K4:=K3.trans k4)|(go_at_call 40;refine(Tryz.Builder_String_any_k W.heap.size _ _ _ bd4 K4.size).mono ?_;rintro e w5 ⟨rfl, -,hb5, -⟩))
  go_ret2
  obtain⟨rfl,rfl⟩:=HA.out;exact⟨K4.low hb5,rfl,XE.low hb5 hR⟩
def rdP:Nat->Bs->Option (List (Bs×Bs)×Bs)
 |0,_=>none
 |f+1,s=>if[32].isPrefixOf s=true then(if gT (s.drop 1)≠[]/\[61,34].isPrefixOf (qp (s.drop 1))=true/\[34].isPrefixOf (Ct ((qp (s.drop 1)).drop 2))=true then(rdP f ((Ct ((qp (s.drop 1)).drop 2)).drop 1)).map fun q=>((gT (s.drop 1),Lf ((qp (s.drop 1)).drop 2))::q.1,q.2) else none) else some ([],s)
theorem a6j (R N f0:Nat)(s:Bs)(ats:List (Bs×Bs))(y:Bs)(c0 c2:Value)(W:World)(h:RD R s W)(hN:NB N c0 (.slice none 0 0) c2 W)(hne:R≠N)(hl:s.length<=10000)(hs:rdP f0 s=some (ats,y)):
  ak 72 #[aj R,aj N] W fun e w'=>aP R N W w'/\e=.returned (.bool true)/\RD R y w'/\∃oA cA,NB N c0 (.slice oA ats.length cA) c2 w'/\w'.ownsRow W.heap.size 65 2 (.slice oA ats.length cA) ats.length (aF ats):=by
 have hR:=h.lt;have hNl:=hN.lt;obtain⟨i0,hi,hz0,hz1,hz2⟩:=info_parts vw;go_enter func72,ntmps72;go_wp2_with fail
 go_loopw [] (fun wr=>∃(acc at':List (Bs×Bs)) (rest:Bs) (f:Nat) (vA:Value),rest.length+4*acc.length<=s.length/\rdP f rest=some (at',y)/\acc++at'=ats/\RD R rest wr/\NB N c0 vA c2 wr/\wr.ownsRow W.heap.size 65 2 vA acc.length (aF acc)/\aP R N W wr) (fun wr=>left R wr)
 case atStart=>exact⟨[],ats,s,f0,.slice none 0 0,by simp,hs,rfl,h,hN,World.ownsRow_nil _ _ _ _,aP.of_below (Below.refl _ _)⟩
 case round=>
  obtain⟨acc,at',rest,f,vA,hal,heq,hat,hrd,hnb,hown,hkp⟩:=hrel;obtain⟨f,rfl⟩:∃g,f=g+1:=by
   cases f with
   |zero=>cases heq
   |succ g=>exact⟨g,rfl⟩
  rw[rdP] at heq;have hsz:=hkp.size;have HL:Hid (left R wr=rest.length):=hrd.left;cases hp:[32].isPrefixOf rest with
  |false=>
   rw[if_neg (by rw[hp];simp)] at heq;cases heq;rw[List.append_nil] at hat;subst hat;obtain⟨oA,cA,rfl⟩:=pE hown;go_wp2_with(go_at_call 69;refine(ji R _ [32] _ hrd hp).mono ?_;rintro e w1 ⟨rfl,rd1,k1⟩);go_ret;exact⟨hkp.trans (aP.fe k1),rfl,rd1,oA,cA,hnb.keep k1 hne,bH hown k1 hR⟩
  |true=>
   rw[if_pos hp] at heq;have hlr:=fP hp;have SK1:=lF R rest [32] wr hrd hp;obtain⟨r,hr⟩:∃r,rest.drop 1=r:=⟨_,rfl⟩;have adi:1+r.length=rest.length:=by rw[<- hr];exact hlr
   rw[show rest.drop ([32]:Bs).length=r from hr] at SK1;rw[hr] at heq;split at heq
   ·next hc=>
    obtain⟨he,hq,hv⟩:=hc;clear hlr hr hp;have hte:=zh r;have hem:(gT r).isEmpty=false:=by
     cases ht:gT r with
     |nil=>exact absurd ht he
     |cons _ _=>rfl
    have hlq:=fP hq;have SK2:=fun W h=>lF R (qp r) [61,34] W h hq;obtain⟨x,hx⟩:∃x,(qp r).drop 2=x:=⟨_,rfl⟩;have ajA:2+x.length=(qp r).length:=by rw[<- hx];exact hlq
    rw[show(qp r).drop ([61,34]:Bs).length=x from hx] at SK2;rw[hx] at heq hv;have hlz:=fP hv;have ag5:=Py x;have VL0:=fun W (h:RD R x W)=>a5L R x W h (by omega) hv;obtain⟨v,hvv⟩:∃v,Lf x=v:=⟨_,rfl⟩;obtain⟨z,hzz⟩:∃z,(Ct x).drop 1=z:=⟨_,rfl⟩;have amR:1+z.length=(Ct x).length:=by rw[<- hzz];exact hlz
    rw[hvv] at heq ag5;rw[hzz] at heq;have VL:∀W,RD R x W->ak 118 #[aj R] W fun e w'=>aY R W w'/\e=.returned (.tuple #[.string ⟨v.toArray⟩,.bool true])/\RD R z w':=by rw[<- hvv,<- hzz];exact VL0
    obtain⟨q,hq1,hq2⟩:=Option.map_eq_some_iff.1 heq;obtain⟨a2,y2⟩:=q;have HZ:Hid (rdP f z=some (a2,y)/\(acc++[(gT r,v)])++a2=ats):=by
     cases hq2;exact⟨hq1,by rw[List.append_assoc];exact hat⟩
    clear VL0 hlq hx hq hlz hv hvv hzz hq1 hq2 heq hat;obtain⟨oA,ajB,rfl⟩:=pE hown;go_upto_region 8 with(first|(go_at_call 118;refine(VL _ XE).mono ?_;rintro e w5 ⟨k5,rfl,KI⟩;have Gw:=nb4.keep k5 hne;have pQ:=bH Vl k5 hR;have K5:=K4.trans (aP.fe k5);have n1:=Gw.c1;clear XE nb4 Vl)|(have z3:=KH;go_at_call 69;refine(SK2 _ z3).mono ?_;rintro e w4 ⟨rfl,XE,k4⟩;have nb4:=XH.keep k4 hne;have Vl:=bH yK k4 hR;have K4:=K3.trans (aP.fe k4);clear z3 KH XH yK)|(go_at_call 70;refine(nR R r _ _ lG nx (by omega)).mono ?_;rintro e w3 ⟨rfl,KH,k3⟩;have XH:=XI.keep k3 hne;have yK:=bH Cs k3 hR;have K3:=K2.trans (aP.fe k3);clear lG XI Cs)|(go_at_call 71;refine(jG [32,61,34,60,62,47] _).mono ?_;rintro e w2 ⟨rfl,rfl⟩)|(go_at_call 69;refine SK1.mono ?_;rintro e w1 ⟨rfl,rd1,k1⟩;have nx:=dh w1 #[.string ⟨([32,61,34,60,62,47]:Bs).toArray⟩] 9;have lG:=rd1.al (.cells #[.string ⟨([32,61,34,60,62,47]:Bs).toArray⟩] 9);have XI:=(hnb.keep k1 hne).al (.cells #[.string ⟨([32,61,34,60,62,47]:Bs).toArray⟩] 9);have Cs:=World.ownsRow.alloc (bH hown k1 hR) (.cells #[.string ⟨([32,61,34,60,62,47]:Bs).toArray⟩] 9);have K2:=(hkp.trans (aP.fe k1)).trans (aP.of_below (aW w1 (.cells #[.string ⟨([32,61,34,60,62,47]:Bs).toArray⟩] 9)));clear rd1));go_wp2_with(at_builtin;refine wpList_append_own _ rfl _ _ 22 rfl W.heap.size 65 i0 (.agg #[.string ⟨#[]⟩,.string ⟨#[]⟩]) 2 32 underlying22 hi hz0 hz1 hz2 rfl (by decide) _ _ _ rfl (World.ownsRow.alloc pQ _) ⟨w5.heap.size,0,none⟩ 1 1 [.string ⟨(gT r).toArray⟩,.string ⟨v.toArray⟩] rfl rfl (T9 w5 _ _ _) (fun u hu=>by simp at hu;rcases hu with rfl|rfl<;>rfl) (by rw[aQ];omega) (by omega) (by have:=K5.size;simp;omega) ?_;intro v7 w7 jQ lU _;have GQ:=(Gw.al _).grown lU (own_ne pQ hNl);have m1:=GQ.c1;have m2:=GQ.bf 1;obtain⟨o7,nH,rfl⟩:=pE jQ);have rd7:=(KI.al (.cells #[.string ⟨(gT r).toArray⟩,.string ⟨v.toArray⟩] 65)).grown lU (own_ne pQ hR)
    have K7:=(K5.trans (aP.of_below (aW w5 (.cells #[.string ⟨(gT r).toArray⟩,.string ⟨v.toArray⟩] 65)))).grown lU (fun b hb=>(pQ.lt b hb).1);have ow8:=bH jQ (aY.set N 1 w7 (.slice o7 (acc.length+1) nH)) hNl;have rd8:=rd7.sD (N:=N) 1 (.slice o7 (acc.length+1) nH) hne
    go_roundw
    case rel=>exact⟨acc++[(gT r,v)],a2,z,f,.slice o7 (acc.length+1) nH,by simp;omega,HZ.out.1,HZ.out.2,rd8,GQ.set1 _,by rw[yc,List.length_append];exact ow8,K7.trans (aP.sD _ _ _)⟩
    case measure=>have h1:=HL.out;have h2:=rd8.left;omega
   ·cases heq
theorem a3j (R f0:Nat)(s r:Bs)(ats:List (Bs×Bs))(y:Bs)(W:World)(hl:s.length<=10000)(h:RD R s W)(hp:[60].isPrefixOf s=true)(hr:s.drop 1=r)(he:gT r≠[])(hA:rdP f0 (qp r)=some (ats,y))(h3:[47,62].isPrefixOf y=true)(Jn:∀x∈ats,x.1.length<=maxLen/\x.2.length<=maxLen):
  ak 36 #[aj R] W fun e w'=>aY R W w'/\∃(s0:ByteArray) (o1:Option Addr) (n1 k1:Nat) (o2:Option Addr) (n2 k2:Nat),e=.returned (.tuple #[.agg #[.string s0,.slice o1 n1 k1,.slice o2 n2 k2],.bool true])/\RD R (y.drop 2) w'/\mY (fun b=>W.heap.size<=b) w' (.string s0) (.slice o1 n1 k1) (.slice o2 n2 k2) (.mk (gT r) ats []):=by
 have hR:=h.lt;have Yx:=dh W #[.string ⟨#[]⟩,.slice none 0 0,.slice none 0 0] 25;have rd0:=h.al (.cells #[.string ⟨#[]⟩,.slice none 0 0,.slice none 0 0] 25);have k0:aY R W (W.alloc (.cells #[.string ⟨#[]⟩,.slice none 0 0,.slice none 0 0] 25)):=aY.of_below (aW W _);obtain⟨V0,Mt⟩:∃V,W.alloc (.cells #[.string ⟨#[]⟩,.slice none 0 0,.slice none 0 0] 25)=V:=⟨_,rfl⟩;have zb0:NB W.heap.size (.string ⟨#[]⟩) (.slice none 0 0) (.slice none 0 0) V0:=by rw[<- Mt];exact Yx
 have zi:R≠W.heap.size:=by omega
 rw[Mt] at rd0 k0;clear Yx;have hlr:=fP hp;have SK1:=lF R s [60] V0 rd0 hp;have adi:1+r.length=s.length:=by rw[<- hr];exact hlr
 rw[show s.drop ([60]:Bs).length=r from hr] at SK1;clear hlr hr hp;have hte:=zh r;go_enter func36,ntmps36;go_upto_region 4 with(first|(go_at_call 70;refine(nR R r _ _ lG nx (by omega)).mono ?_;rintro e w3 ⟨rfl,KH,k3⟩;have Td:=zb2.keep k3 zi;have K3:=K2.trans k3)|(go_at_call 71;refine(jG [32,61,34,60,62,47] _).mono ?_;rintro e w2 ⟨rfl,rfl⟩)|(go_at_call 69;refine SK1.mono ?_;rintro e w1 ⟨rfl,rd1,k1⟩;have nx:=dh w1 #[.string ⟨([32,61,34,60,62,47]:Bs).toArray⟩] 9;have lG:=rd1.al (.cells #[.string ⟨([32,61,34,60,62,47]:Bs).toArray⟩] 9);have zb2:=(zb0.keep k1 zi).al (.cells #[.string ⟨([32,61,34,60,62,47]:Bs).toArray⟩] 9);have K2:=(k0.trans k1).al (.cells #[.string ⟨([32,61,34,60,62,47]:Bs).toArray⟩] 9);clear rd1));have nbU:=dh w3 #[.string ⟨(gT r).toArray⟩,.slice none 0 0,.slice none 0 0] 25;have rdU:=KH.al (.cells #[.string ⟨(gT r).toArray⟩,.slice none 0 0,.slice none 0 0] 25);have Lh:=Td.al (.cells #[.string ⟨(gT r).toArray⟩,.slice none 0 0,.slice none 0 0] 25);have KU:=K3.al (.cells #[.string ⟨(gT r).toArray⟩,.slice none 0 0,.slice none 0 0] 25);have sZ:=Td.lt;have sK:=K3.size;have szU:=aD nbU;obtain⟨U,hU⟩:∃U,w3.alloc (.cells #[.string ⟨(gT r).toArray⟩,.slice none 0 0,.slice none 0 0] 25)=U:=⟨_,rfl⟩;obtain⟨N,hN⟩:∃N,w3.heap.size=N:=⟨_,rfl⟩;have nb4:NB N (.string ⟨(gT r).toArray⟩) (.slice none 0 0) (.slice none 0 0) U:=by rw[<- hU,<- hN];exact nbU
 rw[hU] at rdU Lh KU szU⊢;rw[hN] at szU sZ sK⊢;clear nbU hU hN KH Td K3 k3 lG zb2 K2 nx k1 rd0 zb0 k0 Mt SK1;have Te:R≠N:=by omega
 have hZN:W.heap.size≠N:=by omega
 have hZR:W.heap.size≠R:=by omega
 have hml:(gT r).length<=maxLen:=by rw[aQ];omega
 have b0:=nb4.c0;have hem:(gT r).isEmpty=false:=by
  cases ht:gT r with
  |nil=>exact absurd ht he
  |cons _ _=>rfl
 have N7:=a6j R N f0 (qp r) ats y (.string ⟨(gT r).toArray⟩) (.slice none 0 0) U rdU nb4 Te (by omega) hA;have HA:Hid (∀x∈ats,x.1.length<=maxLen/\x.2.length<=maxLen):=Jn;clear hA Jn he;go_wp2_with(first|(go_at_call 72;refine N7.mono ?_;rintro e w5 ⟨k5,rfl,KI,oA,cA,Gw,pQ⟩;have PU:=Lh.ny k5 hZR hZN)|(go_at_call 69;refine(lF R y [47,62] _ KI h3).mono ?_;rintro e w6 ⟨rfl,a8I,k6⟩;have rd6:RD R (y.drop 2) w6:=a8I;have XQ:=Gw.keep k6 Te;have TA:=PU.keep k6 zi;have Le:=bH pQ k6 (by omega);have K6:=(aP.keep KU k5 (by omega)).trans k6;clear a8I;have b0:=XQ.c0;have b1:=XQ.c1;have b2:=XQ.c2;have a0:=TA.c0;have a1:=TA.c1;have a2:=TA.c2;have af:=TA.bf));refine bodyPost_ret (v:=.tuple #[.agg #[.string ⟨(gT r).toArray⟩,.slice oA ats.length cA,.slice none 0 0],.bool true]) (by simp[results,results36,go_sem,a0,a1,a2]) rfl ⟨rq K6 eU _ _ _,_,_,_,_,_,_,_,rfl,XO (K:=[]) hml HA.out Le (World.ownsRow_nil _ _ _ _) trivial rd6 eU (by omega) zi⟩
theorem a3O (E:Nat->Addr)(f0:Nat)(s r:Bs)(ats:List (Bs×Bs))(y:Bs)(n:Nd)(W:World)(hE:ME E W)(hl:s.length<=10000)(hp:[60].isPrefixOf s=true)(hr:s.drop 1=r)(he:gT r≠[])(hA:rdP f0 (qp r)=some (ats,y))(h3:[47,62].isPrefixOf y=true)(Jn:∀x∈ats,x.1.length<=maxLen/\x.2.length<=maxLen)(hy:y.drop 2=[])(hn:Nd.mk (gT r) ats []=n)(hz:(fT n 1 0).1=0):
  ak 20 #[.string ⟨s.toArray⟩] W fun e w'=>Below W.heap.size W w'/\∃c0 c1 c2,e=.returned (.tuple #[.agg #[c0,c1,c2],.nilIface])/\jR w' c0 c1 c2 n:=by
 have hsz:=fD s;have Yx:NB W.heap.size (.string ⟨#[]⟩) (.slice none 0 0) (.slice none 0 0) (W.alloc (.cells #[.string ⟨#[]⟩,.slice none 0 0,.slice none 0 0] 25)):=dh W #[.string ⟨#[]⟩,.slice none 0 0,.slice none 0 0] 25;have b0:=aW W (.cells #[.string ⟨#[]⟩,.slice none 0 0,.slice none 0 0] 25);obtain⟨V0,Mt⟩:∃V,W.alloc (.cells #[.string ⟨#[]⟩,.slice none 0 0,.slice none 0 0] 25)=V:=⟨_,rfl⟩;rw[Mt] at Yx b0;have hbig':(s.length:Int)<=10000:=by omega
 have rdU:RD V0.heap.size s (V0.alloc (.cells #[.string ⟨s.toArray⟩] 92)):=dh V0 #[.string ⟨s.toArray⟩] 92;have Lh:=Yx.al (.cells #[.string ⟨s.toArray⟩] 92);have bU:=az b0 (aW V0 (.cells #[.string ⟨s.toArray⟩] 92));have szZ:=Yx.lt;obtain⟨U,hU⟩:∃U,V0.alloc (.cells #[.string ⟨s.toArray⟩] 92)=U:=⟨_,rfl⟩;obtain⟨R,hR⟩:∃R,V0.heap.size=R:=⟨_,rfl⟩;rw[hU] at rdU Lh bU;rw[hR] at rdU szZ;have hlt:=rdU.lt;have zi:R≠W.heap.size:=by omega
 have EL1:=a3j R f0 s r ats y U hl rdU hp hr he hA h3 Jn;rw[hy,hn] at EL1;clear hy hn hp hr he hA h3 Jn;go_enter func20,ntmps20;go_upto_region 7 with(go_at_call 36;refine EL1.mono ?_;rintro e w2 ⟨yR,s0,o1,n1,k1,o2,n2,k2,rfl,lG,nd2⟩;have rv:=(lG.al (.cells #[.string s0,.slice o1 n1 k1,.slice o2 n2 k2] 25)).cell);have bV:=(bU.trans (yR.below (by omega) bU.size)).trans ((aW w2 (.cells #[.string s0,.slice o1 n1 k1,.slice o2 n2 k2] 25)).mono (Nat.le_trans bU.size yR.size));have Li:=(Lh.keep yR zi).al (.cells #[.string s0,.slice o1 n1 k1,.slice o2 n2 k2] 25);have nbV:NB w2.heap.size (.string s0) (.slice o1 n1 k1) (.slice o2 n2 k2) (w2.alloc (.cells #[.string s0,.slice o1 n1 k1,.slice o2 n2 k2] 25)):=dh w2 #[.string s0,.slice o1 n1 k1,.slice o2 n2 k2] 25;have ndV:=mY.turn (Q:=fun b=>U.heap.size<=b) (Q':=fun b=>U.heap.size<=b) (fun b hb hlt=>⟨hb,(aW w2 (.cells #[.string s0,.slice o1 n1 k1,.slice o2 n2 k2] 25)).block b hlt⟩) n nd2;obtain⟨V,hV⟩:∃V,w2.alloc (.cells #[.string s0,.slice o1 n1 k1,.slice o2 n2 k2] 25)=V:=⟨_,rfl⟩;rw[hV] at bV Li nbV ndV⊢;clear hV Mt hU hR rv;have m0:=nbV.c0;have m1:=nbV.c1;have m2:=nbV.c2;have CK:=Jb E n _ _ _ V (hE.below bV).ce (mY.nd n ndV);have zlt:=Li.lt;have CK1:=CK.mono (R':=fun e w'=>Below V.heap.size V w'/\e=.returned .nilIface) (fun e w' h=>by
  refine⟨h.1,?_⟩;rcases h.2 with h2|h2
  ·exact h2.2
  ·exact absurd hz h2.1)
 clear CK hz;go_wp2_with(go_at_call 37;refine CK1.mono ?_;rintro e w3 ⟨b3,rfl⟩;have p0:=(b3.cell (ax m0)).trans m0;have p1:=(b3.cell (ax m1)).trans m1;have p2:=(b3.cell (ax m2)).trans m2;have Td:NB W.heap.size (.string ⟨#[]⟩) (.slice none 0 0) (.slice none 0 0) w3:=(b3.block _ zlt).trans Li;have a0:=Td.c0;have a1:=Td.c1;have a2:=Td.c2;have af:=Td.bf);have bF:=bV.trans (b3.mono bV.size);have ndF:=mY.turn (Q:=fun b=>U.heap.size<=b) (Q':=fun b=>U.heap.size<=b) (w':=XN W.heap.size (.string s0) (.slice o1 n1 k1) (.slice o2 n2 k2) w3) (fun b hb hlt=>⟨hb,by
  have hbz:b≠W.heap.size:=by omega
  rw[Below.heap_setCell _ _ _ b hbz,Below.heap_setCell _ _ _ b hbz,Below.heap_setCell _ _ _ b hbz];exact b3.block b hlt⟩) n ndV
 refine bodyPost_ret (v:=.tuple #[.agg #[.string s0,.slice o1 n1 k1,.slice o2 n2 k2],.nilIface]) (by simp[results,results20,go_sem,a0,a1,a2]) rfl ⟨?_,_,_,_,rfl,mY.nd n ndF⟩;exact(((bF.setCell eU _).setCell eU _).setCell eU _)
end
section
open Go.RowKit
def lvS:Bs:=[60,98,111,120,32,119,61,34,50,34,32,104,61,34,49,34,32,102,105,108,108,61,34,97,34,47,62]
def Gz:Nd:=.mk [98,111,120] [([119],[50]),([104],[49]),([102,105,108,108],[97])] []
def lvP:Pc:=⟨0,[⟨0,1,0,1⟩,⟨2,1,0,1⟩,⟨2,1,1,1⟩,⟨0,1,1,1⟩],[97],[119,105,110,100],0⟩
def lvX:Ed:=⟨yP,0,0,0,[115,104,111,119],[110,111]⟩
theorem XV:rdP 10 (qp (lvS.drop 1))=some ([([119],[50]),([104],[49]),([102,105,108,108],[97])],[47,62]):=by kernel_rfl
theorem a8G:gT (lvS.drop 1)=[98,111,120]:=by kernel_rfl
theorem a1Y:(fT Gz 1 0).1=0:=by rfl
theorem EN:di (dZ Gz) []=.ok [lvP]:=by kernel_rfl
theorem a4R:iZ aC ([lvP].map dY) 3 2=[⟨#[97]⟩,⟨#[97]⟩,⟨#[46]⟩,⟨#[46]⟩,⟨#[46]⟩,⟨#[46]⟩]:=by kernel_rfl
def lvA:List (Bs×Bs):=[([119],[50]),([104],[49]),([102,105,108,108],[97])]
def lvD:Dm:=jN (dZ Gz) 0 ⟨[98,111,120],lvA, -1,[]⟩ (gm lvA [115,104,111,119] [110,111])
theorem NK:nO (dZ Gz) 0 [115,104,111,119] [110,111]=.ok lvD:=by kernel_rfl
theorem Cm:di lvD []=.ok []:=by kernel_rfl
theorem a4S:gL [lvP] [] 2=[0]:=by kernel_rfl
theorem a8M:iJ (dY lvP):=by
 refine⟨⟨by decide,fun a ha=>?_⟩,.inl (by kernel_rfl)⟩;have ha:a∈lvP.pts:=ha;simp only[lvP,List.mem_cons,List.not_mem_nil,or_false] at ha;rcases ha with rfl|rfl|rfl|rfl<;>(show fU _=0)<;>kernel_rfl
theorem a8N:yQ [⟨#[97]⟩,⟨#[97]⟩,⟨#[46]⟩,⟨#[46]⟩,⟨#[46]⟩,⟨#[46]⟩] 3 2=[97,97,46,10,46,46,46,10]:=by kernel_rfl
theorem a8O:yQ (iZ aC [] 3 2) 3 2=[46,46,46,10,46,46,46,10]:=by kernel_rfl
theorem LE.me {E:Nat->Addr}{w:World}(h:LE E w):ME E w:=⟨h.de.c2,h.de.c4,h.de.c6,h.de.c7,h.de.c8,h.de.c10⟩
end
section
open Go.RowKit
def rX (W:World)(LB B DB:Nat)(M:Dm)(nx c:Nat)(r:Int->Nat)(rl:List Rl)(l:List Pc)(w h:Nat):Prop:=∃tg MB p rv qs pv cv,Yu W LB B tg DB MB p M nx c r rl rv qs pv w h cv/\qs.map bZ.pc=l
theorem rX.below {W w':World}{LB B DB:Nat}{M:Dm}{nx c:Nat}{r:Int->Nat}{rl:List Rl}{l:List Pc}{w h:Nat}(hl:rX W LB B DB M nx c r rl l w h)(hb:Below W.heap.size W w'):rX w' LB B DB M nx c r rl l w h:=by
 obtain⟨tg,MB,p,rv,qs,pv,cv,h1,h2⟩:=hl;exact⟨tg,MB,p,rv,qs,pv,cv,h1.below hb,h2⟩
theorem rX.base {W:World}{LB B DB:Nat}{M:Dm}{nx c:Nat}{r:Int->Nat}{rl:List Rl}{l:List Pc}{w h:Nat}(hl:rX W LB B DB M nx c r rl l w h):B<=LB/\B<=DB/\B<=W.heap.size:=by
 obtain⟨tg,MB,p,rv,qs,pv,cv,h1,h2⟩:=hl;exact⟨h1.base,(h1.ds.w.low _ _ h1.ds.w.jP).1,h1.ds.low⟩
theorem rX.Xe {W:World}{LB B DB:Nat}{M:Dm}{nx c:Nat}{r:Int->Nat}{rl:List Rl}{l:List Pc}{w h:Nat}(hl:rX W LB B DB M nx c r rl l w h)(hw1:1<=w)(hw:w<=40)(AZ:1<=h)(hh:h<=40):
  ak 10 #[aj LB] W fun e w'=>∃g cp,e=.returned (.agg #[aa w,aa h,.slice (some ⟨g,0,none⟩) (w*h) cp])/\w'.ownsRow W.heap.size 9 1 (.slice (some ⟨g,0,none⟩) (w*h) cp) (w*h) ((iZ aC (l.map dY) w h).map .string)/\Below W.heap.size W w':=by
 obtain⟨tg,MB,p,rv,qs,pv,cv,h1,rfl⟩:=hl;exact Kn h1 hw1 hw AZ hh
theorem a1Z (E:Nat->Addr)(n:Nd)(c0 c1 c2:Value)(W:World)(w h:Nat)(hE:LE E W)(hn:jR W c0 c1 c2 n)(hs:dQ n<=1000000)(hw1:1<=w)(hw:w<=40)(AZ:1<=h)(hh:h<=40):
  ak 9 #[.agg #[c0,c1,c2],.string ⟨#[]⟩,aa w,aa h] W fun e w'=>Below W.heap.size W w'/\((¬((fT n 1 0).1=0/\vW (dZ n) [])/\∃t u,e=.returned (.tuple #[.pointer none,.iface t u]))\/∃LB DB l,(fT n 1 0).1=0/\di (dZ n) []=.ok l/\e=.returned (.tuple #[aj LB,.nilIface])/\rX w' LB W.heap.size DB (dZ n) (dQ n) (dQ n) (Db n) [] l w h):=(Xh E n c0 c1 c2 W w h hE hn hs hw1 hw AZ hh).mono fun e w' ⟨h1,h2⟩=>⟨h1,by
 rcases h2 with h2|⟨h2, -,LB,tg,DB,MB,p,rv,qs,pv,cv,h4,h5⟩
 ·exact .inl h2
 ·exact .inr ⟨LB,DB,qs.map bZ.pc,h2,h5.pm,h4,tg,MB,p,rv,qs,pv,cv,h5,rfl⟩⟩
theorem a4T {E:Nat->Addr}{W:World}{LB B DB:Nat}{M:Dm}{nx c:Nat}{r:Int->Nat}{l:List Pc}{w h:Nat}(hE:LE E W)(hl:rX W LB B DB M nx c r [] l w h)(hw1:1<=w)(hw:w<=40)(AZ:1<=h)(hh:h<=40)(x:Ed)(hx:x.kd≠uC)(a:Except Nat Dm)
  (hAp:∀N V qi qo vX p1,W.heap.size<=N->Below W.heap.size W V->dP M->gN N qi V qo vX p1 M nx c r->ak 29 #[aj qo,.agg (zg x)] V fun e w'=>Below N V w'/\(((∃k,a=.error k)/\∃t u,e=.returned (.iface t u))\/(e=.returned .nilIface/\∃vz p2 M2 lN c2 r2,(a=.ok M2/\lN=nx/\c2=c/\r2=r)/\dP M2/\gN N vz w' qo vX p2 M2 lN c2 r2))):
  ak 11 #[aj LB,.agg (zg x)] W fun e w'=>(((∃k,a=.error k)\/∃M2,a=.ok M2/\¬vW M2 [])/\(∃t u,e=.returned (.tuple #[.slice none 0 0,.iface t u]))/\Below W.heap.size W w'/\rX w' LB B DB M nx c r [] l w h)\/
   ∃M2 l2 o n cp,a=.ok M2/\di M2 []=.ok l2/\e=.returned (.tuple #[.slice o n cp,.nilIface])/\w'.ownsRow W.heap.size 3 1 (.slice o n cp) (gL l l2 h).length (bY ((gL l l2 h).map fun(y:Nat)=>(y:Int)))/\K2 LB DB W w'/\rX w' LB B DB M2 nx c r [] l2 w h:=by
 obtain⟨tg,MB,p,rv,qs,pv,cv,hl,hq⟩:=hl;obtain⟨GK,GL,Wj⟩:=aI hl.row;subst Wj;refine(a4x hE hl hw1 hw AZ hh x (∃k,a=.error k) False (fun M2 lN c2 r2=>a=.ok M2/\lN=nx/\c2=c/\r2=r) [] (fun y hy=>(by cases hy)) (fun N V qi qo vX p1 h1 h2 h3=>hAp N V qi qo vX p1 h1 h2 hl.ok h3) (fun V hV=>(Nw x hx _ _ _ V).mono fun e w' ⟨h1,h2⟩=>⟨h2,.inr ⟨_,_,_,h1,aK hl.row (hV.trans (h2.mono hV.size))⟩⟩)).mono fun e w' hr=>?_;rcases hr with⟨h1,h2,h3,h4⟩|⟨vz,MB2,p2,M2,lN,c2,r2,rv2,uG,pv2,cv2,o,n,cp,⟨h1,rfl,rfl,rfl⟩,h2,h3,h4,h5,h6⟩
 ·refine .inl ⟨?_,h1,h2,tg,MB,p,_,qs,pv,cv,h3,hq⟩;rcases h4 with h4|h4|⟨M2,_,_,_,⟨h5, -⟩,h6⟩
  ·exact .inl h4
  ·exact h4.elim
  ·exact .inr ⟨M2,h5,h6⟩
 ·subst hq;exact .inr ⟨M2,uG.map bZ.pc,o,n,cp,h1,h6.pm,h4,by simpa using h5,h3,vz,MB2,p2,rv2,uG,pv2,cv2,h6,rfl⟩
end
section
open Go.RowKit
set_option maxHeartbeats 4000000
set_option maxRecDepth 20000
theorem PV {V w1:World}{l:List Pc}{g cp w h:Nat}{t:List UInt8}(ow:w1.ownsRow V.heap.size 9 1 (.slice (some ⟨g,0,none⟩) (w*h) cp) (w*h) ((iZ aC (l.map dY) w h).map .string))(hw1:1<=w)(hw:w<=40)(hh:h<=40)(ht:yQ (iZ aC (l.map dY) w h) w h=t):
  ak 21 #[.agg #[aa w,aa h,.slice (some ⟨g,0,none⟩) (w*h) cp]] w1 fun e w'=>e=.returned (.string ⟨t.toArray⟩)/\Below w1.heap.size w1 w':=by
 rw[<- ht];exact Ku _ w h g cp _ w1 hw1 hw hh ow
theorem NL (E:Nat->Addr)(W:World)(hE:LE E W):
  ak 6 #[] W fun e w'=>e=.returned (.bool true)/\Below W.heap.size W w':=by
 have RD:ak 20 #[.string ⟨#[60,98,111,120,32,119,61,34,50,34,32,104,61,34,49,34,32,102,105,108,108,61,34,97,34,47,62]⟩] W fun e w'=>∃(sa:ByteArray) (oa:Option Addr) (na ka:Nat) (wX:Option Addr) (na' ka':Nat),e=.returned (.tuple #[.agg #[.string sa,.slice oa na ka,.slice wX na' ka'],.nilIface])/\jR w' (.string sa) (.slice oa na ka) (.slice wX na' ka') Gz/\Below W.heap.size W w':=(a3O E 10 lvS _ _ [47,62] Gz W hE.me (by decide) rfl rfl (by rw[a8G];simp) XV rfl (fun x hx=>by
  rw[aQ];simp only[List.mem_cons,List.not_mem_nil,or_false] at hx;rcases hx with rfl|rfl|rfl<;>simp) rfl (by rw[a8G];rfl) a1Y).mono fun e w' ⟨h1,c0,c1,c2,h4,h5⟩=>by
  have h6:=h5;unfold Gz jR at h6;obtain⟨k1, -,⟨o,cap,k2, -⟩,o',cap',k3, -⟩:=h6;subst k1 k2 k3;exact⟨_,_,_,_,_,_,_,h4,h5,h1⟩
 have NW:∀V c0 c1 c2,Below W.heap.size W V->jR V c0 c1 c2 Gz->ak 9 #[.agg #[c0,c1,c2],.string ⟨#[]⟩,aa 3,aa 2] V fun e w'=>∃LB DB,e=.returned (.tuple #[aj LB,.nilIface])/\rX w' LB V.heap.size DB (dZ Gz) 1 1 (Db Gz) [] [lvP] 3 2/\Below V.heap.size V w':=fun V c0 c1 c2 hV hn=>(a1Z E Gz c0 c1 c2 V 3 2 (hE.below hV) hn (by decide) (by decide) (by decide) (by decide) (by decide)).mono fun e w' ⟨h1,h2⟩=>by
  rcases h2 with⟨h2, -⟩|⟨LB,DB,l, -,h3,h4,h5⟩
  ·exact absurd ⟨a1Y,[lvP],EN,fun x hx=>by rw[List.mem_singleton.1 hx];exact a8M⟩ h2
  ·rw[EN] at h3;cases h3;exact⟨LB,DB,h4,h5,h1⟩
 have DO:∀V LB B DB,Below W.heap.size W V->W.heap.size<=B->rX V LB B DB (dZ Gz) 1 1 (Db Gz) [] [lvP] 3 2->ak 11 #[aj LB,.agg #[.string ⟨#[115,101,116]⟩,aa 0,aa 0,aa 0,.string ⟨#[115,104,111,119]⟩,.string ⟨#[110,111]⟩]] V fun e w'=>∃o cp,e=.returned (.tuple #[.slice o 1 cp,.nilIface])/\w'.ownsRow V.heap.size 3 1 (.slice o 1 cp) 1 [aa 0]/\rX w' LB B DB lvD 1 1 (Db Gz) [] [] 3 2/\Below W.heap.size W w':=fun V LB B DB hV hB hl=>(a4T (hE.below hV) hl (by decide) (by decide) (by decide) (by decide) lvX (by decide) (nO (dZ Gz) 0 [115,104,111,119] [110,111]) (fun N X qi qo vX p1 h1 h2 h3 h4=>xD ((hE.below hV).below h2) h4 h3 0 0 0 (by decide) _ _ (by decide) (by decide))).mono fun e w' hr=>by
  rcases hr with⟨h1, -⟩|⟨M2,l2,o,n,cp,h1,h2,h3,h4,h5,h6⟩
  ·exfalso;rcases h1 with⟨k,h1⟩|⟨M2,h1,h2⟩
   ·rw[NK] at h1;cases h1
   ·rw[NK] at h1;cases h1;exact h2 ⟨[],Cm,fun x hx=>by cases hx⟩
  ·rw[NK] at h1;cases h1;rw[Cm] at h2;cases h2;rw[a4S] at h4;obtain⟨k1,k2,k3⟩:=hl.base;obtain⟨o',cp',hv, -⟩:=bA h4;cases hv;exact⟨o,cp,h3,h4,h6,hV.trans (h5.below (by omega) (by omega) hV.size)⟩
 have HE:Hid (LE E W):=hE;clear hE;go_enter func6,ntmps6;go_upto_region 4 with(go_at_call 20;refine RD.mono ?_;rintro e w1 ⟨sa,oa,na,ka,wX,na',ka',rfl,hn,b1⟩);have b1':=aW w1 (.cells #[.string sa,.slice oa na ka,.slice wX na' ka'] 25);have NW1:=NW _ _ _ _ (az b1 b1') (hn.below b1');clear RD NW;go_upto_region 5 with(go_at_call 9;refine NW1.mono ?_;rintro e w2 ⟨LB,DB,rfl,hl2,b2⟩);have NY:=az b1 (az b1' b2);have z1:=(az b1 b1').size;have PC:=hl2.Xe (by decide) (by decide) (by decide) (by decide);clear NW1;go_upto_region 7 with(first|(go_at_call 10;refine PC.mono ?_;rintro e w3 ⟨g3,c3,rfl,yK,b3⟩;have TX:=PV (t:=[97,97,46,10,46,46,46,10]) yK (by decide) (by decide) (by decide) (by rw[a4R,a8N]))|(go_at_call 21;refine TX.mono ?_;rintro e w4 ⟨rfl,b4⟩));have hl4:=hl2.below (az b3 b4);have D1:=DO _ _ _ _ (az NY (az b3 b4)) z1 hl4;clear DO PC hl2 hl4 TX;go_upto_region 8 with(go_at_call 11;refine D1.mono ?_;rintro e w5 ⟨o5,c5,rfl,pQ,hl5,b5⟩);have bn:=aW w5 (.cells #[aa 0] 3);have kn:=dh w5 #[aa 0] 3;have own:(w5.alloc (.cells #[aa 0] 3)).ownsRow 0 3 1 (.slice (some ⟨w5.heap.size,0,none⟩) 1 1) 1 [aa 0]:=⟨rfl,.inr ⟨w5.heap.size,1,_,rfl,Nat.zero_le _,kn,Nat.le_refl _,by decide,rfl,rfl⟩⟩;have SI:=tJ (w5.alloc (.cells #[aa 0] 3)) o5 (some ⟨w5.heap.size,0,none⟩) c5 1 [0] (aK pQ bn) own (by decide);have SI:ak 18 #[.slice o5 1 c5,.slice (some ⟨w5.heap.size,0,none⟩) 1 1] (w5.alloc (.cells #[aa 0] 3)) fun e w'=>e=.returned (.bool true)/\Below (w5.alloc (.cells #[aa 0] 3)).heap.size (w5.alloc (.cells #[aa 0] 3)) w':=SI;clear own D1;go_wp2_with(first|(go_at_call 18;refine SI.mono ?_;rintro e w6 ⟨rfl,b6⟩;have PC:=(hl5.below (az bn b6)).Xe (by decide) (by decide) (by decide) (by decide))|(go_at_call 10;refine PC.mono ?_;rintro e w7 ⟨g7,c7,rfl,jQ,b7⟩;have TX:=PV (t:=[46,46,46,10,46,46,46,10]) jQ (by decide) (by decide) (by decide) a8O)|(go_at_call 21;refine TX.mono ?_;rintro e w8 ⟨rfl,b8⟩))
 go_ret;exact⟨rfl,az b5 (az (az bn b6) (az b7 b8))⟩
end
end Go.Proofs.YtjfiehbcamfdfaaGreatDoor

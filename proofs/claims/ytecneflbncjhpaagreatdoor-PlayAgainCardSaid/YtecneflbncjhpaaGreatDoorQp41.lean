/- Parts of the proof. -/
import Derived.Test.YtecneflbncjhpaaGreatDoorQp40
namespace Go.Proofs.YtecneflbncjhpaaGreatDoor
open Go.Proofs.Tryz
set_option maxHeartbeats 8000000
section
open Go.RowKit
set_option maxRecDepth 20000
theorem zN (R:Nat):∀f,El R f
 |0=>fun _ _ h=>absurd h (Nat.not_lt_zero _)
 |f+1=>J8 R f (zN R f)
def Sg (s:Bs):Option Nd:=match kT (s.length+1) s with
 |some (n,[])=>some n
 |_=>none
theorem ZU {s:Bs}{n:Nd}(h:kT (s.length+1) s=some (n,[])):Sg s=some n:=by rw[Sg,h]
theorem ZV {s:Bs}(h:kT (s.length+1) s=none):Sg s=none:=by rw[Sg,h]
theorem ZW {s:Bs}{n:Nd}{c:UInt8}{r:Bs}(h:kT (s.length+1) s=some (n,c::r)):Sg s=none:=by rw[Sg,h]
abbrev ndZ:ah:=.agg #[.string ⟨#[]⟩,.slice none 0 0,.slice none 0 0]
def aaY (E:Nat->Addr)(B:Nat)(s:Bs)(e:Ending)(w:ag):Prop:=
 (10000<s.length/\e=.returned (.tuple #[ndZ,.iface 401 (.pointer (some (E 2)))]))\/
 (s.length<=10000/\Sg s=none/\e=.returned (.tuple #[ndZ,.iface 401 (.pointer (some (E 1)))]))\/
 (s.length<=10000/\∃n,Sg s=some n/\(ig n 1 0).1≠0/\∃pb,B<=pb/\e=.returned (.tuple #[ndZ,.iface 90 (ay pb)])/\w.cell? (ak pb 0)=some (aa (ig n 1 0).2)/\w.cell? (ak pb 1)=some (.iface 401 (.pointer (some (E (ig n 1 0).1)))))\/
 (s.length<=10000/\∃n c0 c1 c2,Sg s=some n/\(ig n 1 0).1=0/\e=.returned (.tuple #[.agg #[c0,c1,c2],.nilIface])/\nG w c0 c1 c2 n)
theorem Q6 (E:Nat->Addr)(s:Bs)(W:ag)(hE:ME E W)(h1:W.cell? (ak 1 0)=some (.iface 401 (.pointer (some (E 1)))))(hs:s.length<=9223372036854775807):
  au 9 #[.string ⟨s.toArray⟩] W fun e w'=>Below W.heap.size W w'/\aaY E W.heap.size s e w':=by
 have hsz:=fU s;have nbZ:NB W.heap.size (.string ⟨#[]⟩) (.slice none 0 0) (.slice none 0 0) (W.alloc (.cells #[.string ⟨#[]⟩,.slice none 0 0,.slice none 0 0] 36)):=dw W #[.string ⟨#[]⟩,.slice none 0 0,.slice none 0 0] 36;have b0:=bT W (.cells #[.string ⟨#[]⟩,.slice none 0 0,.slice none 0 0] 36);obtain⟨V0,Jd⟩:∃V,W.alloc (.cells #[.string ⟨#[]⟩,.slice none 0 0,.slice none 0 0] 36)=V:=⟨_,rfl⟩;rw[Jd] at nbZ b0;have e2:=(hE.below b0).c2;have e1:=(b0.cell (az h1)).trans h1;have l2:=az hE.c2;have l1:=az h1;simp only at l1 l2;have q2:¬W.heap.size=0:=by omega
 have q2':¬0=W.heap.size:=by omega
 have q1:¬W.heap.size=1:=by omega
 have q1':¬1=W.heap.size:=by omega
 by_cases hbig:10000<s.length
 ·have hbig':10000<(s.length:Int):=by omega
  have a0:=nbZ.c0;have a1:=nbZ.c1;have a2:=nbZ.c2;have af:=nbZ.di;go_enter func9,ntmps9;go_upto_region 2 with fail;clear Jd;go_region;go_wp2_with fail;refine bodyPost_ret (v:=.tuple #[ndZ,.iface 401 (.pointer (some (E 2)))]) (by simp[results,results9,go_sem,a0,a1,a2]) rfl ⟨?_,.inl ⟨hbig,rfl⟩⟩;exact((((zu 1 b0).setCell ai _).setCell ai _).setCell ai _)
 ·have hbig':(s.length:Int)<=10000:=by omega
  have rdU:RD V0.heap.size s (V0.alloc (.cells #[.string ⟨s.toArray⟩] 51)):=dw V0 #[.string ⟨s.toArray⟩] 51;have Np:=nbZ.al (.cells #[.string ⟨s.toArray⟩] 51);have bU:=aH b0 (bT V0 (.cells #[.string ⟨s.toArray⟩] 51));have szZ:=nbZ.lt;obtain⟨U,hU⟩:∃U,V0.alloc (.cells #[.string ⟨s.toArray⟩] 51)=U:=⟨_,rfl⟩;obtain⟨R,hR⟩:∃R,V0.heap.size=R:=⟨_,rfl⟩;rw[hU] at rdU Np bU;rw[hR] at rdU szZ;have hlt:=rdU.lt;have Ai:R≠W.heap.size:=by omega
  have EL:=zN R (s.length+1) s U (by omega) (by omega) rdU;clear e2 e1;cases hv:kT (s.length+1) s with
  |none=>
   have HZ:Hid (Sg s=none):=ZV hv;have EL1:=EL.mono (R':=fun e w'=>bO R U w'/\∃(s0:aC) (o1:Option Addr) (n1 k1:Nat) (o2:Option Addr) (n2 k2:Nat),e=.returned (.tuple #[.agg #[.string s0,.slice o1 n1 k1,.slice o2 n2 k2],.bool false])) (fun e w' h=>by
    refine⟨h.1,?_⟩;obtain⟨s0,o1,n1,k1,o2,n2,k2,h2|⟨n,r,h2, -⟩⟩:=h.2
    ·exact⟨s0,o1,n1,k1,o2,n2,k2,h2.2⟩
    ·rw[hv] at h2;cases h2)
   clear EL hv;go_enter func9,ntmps9;go_upto_region 6 with(go_at_call 17;refine EL1.mono ?_;rintro e w2 ⟨zY,s0,o1,n1,k1,o2,n2,k2,rfl⟩);have bV:=(bU.trans (zY.below (by omega) bU.size)).trans ((bT w2 (.cells #[.string s0,.slice o1 n1 k1,.slice o2 n2 k2] 36)).mono (aJ bU.size zY.size));have Nq:=(Np.keep zY Ai).al (.cells #[.string s0,.slice o1 n1 k1,.slice o2 n2 k2] 36);obtain⟨V,hV⟩:∃V,w2.alloc (.cells #[.string s0,.slice o1 n1 k1,.slice o2 n2 k2] 36)=V:=⟨_,rfl⟩;rw[hV] at bV Nq⊢;clear hV Jd hU hR;have a0:=Nq.c0;have a1:=Nq.c1;have a2:=Nq.c2;have af:=Nq.di;have e1:=(bV.cell l1).trans h1;go_region;go_wp2_with fail;refine bodyPost_ret (v:=.tuple #[ndZ,.iface 401 (.pointer (some (E 1)))]) (by simp[results,results9,go_sem,a0,a1,a2]) rfl ⟨?_,.inr (.inl ⟨by omega,HZ.out,rfl⟩)⟩;exact((((zu 1 bV).setCell ai _).setCell ai _).setCell ai _)
  |some q=>
   obtain⟨n,r⟩:=q;have EL1:=EL.mono (R':=fun e w'=>bO R U w'/\∃(s0:aC) (o1:Option Addr) (n1 k1:Nat) (o2:Option Addr) (n2 k2:Nat),e=.returned (.tuple #[.agg #[.string s0,.slice o1 n1 k1,.slice o2 n2 k2],.bool true])/\RD R r w'/\oJ (fun b=>U.heap.size<=b) w' (.string s0) (.slice o1 n1 k1) (.slice o2 n2 k2) n) (fun e w' h=>by
    refine⟨h.1,?_⟩;obtain⟨s0,o1,n1,k1,o2,n2,k2,h2|⟨n,r,h2,h3,h4,h5⟩⟩:=h.2
    ·rw[hv] at h2;cases h2.1
    ·rw[hv] at h2;cases h2;exact⟨s0,o1,n1,k1,o2,n2,k2,h3,h4,h5⟩)
   clear EL;cases r with
   |cons c r=>
    have HZ:Hid (Sg s=none):=ZW hv;clear hv;go_enter func9,ntmps9;go_upto_region 6 with(go_at_call 17;refine EL1.mono ?_;rintro e w2 ⟨zY,s0,o1,n1,k1,o2,n2,k2,rfl,mQ,nd2⟩;have rv:=(mQ.al (.cells #[.string s0,.slice o1 n1 k1,.slice o2 n2 k2] 36)).cell);have bV:=(bU.trans (zY.below (by omega) bU.size)).trans ((bT w2 (.cells #[.string s0,.slice o1 n1 k1,.slice o2 n2 k2] 36)).mono (aJ bU.size zY.size));have Nq:=(Np.keep zY Ai).al (.cells #[.string s0,.slice o1 n1 k1,.slice o2 n2 k2] 36);obtain⟨V,hV⟩:∃V,w2.alloc (.cells #[.string s0,.slice o1 n1 k1,.slice o2 n2 k2] 36)=V:=⟨_,rfl⟩;rw[hV] at bV Nq⊢;clear hV Jd hU hR rv;have a0:=Nq.c0;have a1:=Nq.c1;have a2:=Nq.c2;have af:=Nq.di;have e1:=(bV.cell l1).trans h1;go_region;go_wp2_with fail;refine bodyPost_ret (v:=.tuple #[ndZ,.iface 401 (.pointer (some (E 1)))]) (by simp[results,results9,go_sem,a0,a1,a2]) rfl ⟨?_,.inr (.inl ⟨by omega,HZ.out,rfl⟩)⟩;exact((((zu 1 bV).setCell ai _).setCell ai _).setCell ai _)
   |nil=>
    have HZ:Hid (Sg s=some n):=ZU hv;clear hv;go_enter func9,ntmps9;go_upto_region 7 with(go_at_call 17;refine EL1.mono ?_;rintro e w2 ⟨zY,s0,o1,n1,k1,o2,n2,k2,rfl,mQ,nd2⟩;have rv:=(mQ.al (.cells #[.string s0,.slice o1 n1 k1,.slice o2 n2 k2] 36)).cell);have bV:=(bU.trans (zY.below (by omega) bU.size)).trans ((bT w2 (.cells #[.string s0,.slice o1 n1 k1,.slice o2 n2 k2] 36)).mono (aJ bU.size zY.size));have Nq:=(Np.keep zY Ai).al (.cells #[.string s0,.slice o1 n1 k1,.slice o2 n2 k2] 36);have nbV:NB w2.heap.size (.string s0) (.slice o1 n1 k1) (.slice o2 n2 k2) (w2.alloc (.cells #[.string s0,.slice o1 n1 k1,.slice o2 n2 k2] 36)):=dw w2 #[.string s0,.slice o1 n1 k1,.slice o2 n2 k2] 36;have ndV:=oJ.turn (Q:=fun b=>U.heap.size<=b) (Q':=fun b=>U.heap.size<=b) (fun b hb hlt=>⟨hb,(bT w2 (.cells #[.string s0,.slice o1 n1 k1,.slice o2 n2 k2] 36)).block b hlt⟩) n nd2;obtain⟨V,hV⟩:∃V,w2.alloc (.cells #[.string s0,.slice o1 n1 k1,.slice o2 n2 k2] 36)=V:=⟨_,rfl⟩;rw[hV] at bV Nq nbV ndV⊢;clear hV Jd hU hR rv;have m0:=nbV.c0;have m1:=nbV.c1;have m2:=nbV.c2;have CK:=C9 E n _ _ _ V (hE.below bV).ce (oJ.nd n ndV);have zlt:=Nq.lt;by_cases hz:(ig n 1 0).1=0
    ·have CK1:=CK.mono (R':=fun e w'=>Below V.heap.size V w'/\e=.returned .nilIface) (fun e w' h=>by
      refine⟨h.1,?_⟩;rcases h.2 with h2|h2
      ·exact h2.2
      ·exact absurd hz h2.1)
     have HC:=aj hz;clear CK hz;go_wp2_with(go_at_call 18;refine CK1.mono ?_;rintro e w3 ⟨b3,rfl⟩;have p0:=(b3.cell (az m0)).trans m0;have p1:=(b3.cell (az m1)).trans m1;have p2:=(b3.cell (az m2)).trans m2;have Vl:NB W.heap.size (.string ⟨#[]⟩) (.slice none 0 0) (.slice none 0 0) w3:=(b3.block _ zlt).trans Nq;have a0:=Vl.c0;have a1:=Vl.c1;have a2:=Vl.c2;have af:=Vl.di);have bF:=bV.trans (b3.mono bV.size);have ndF:=oJ.turn (Q:=fun b=>U.heap.size<=b) (Q':=fun b=>U.heap.size<=b) (w':=ZC W.heap.size (.string s0) (.slice o1 n1 k1) (.slice o2 n2 k2) w3) (fun b hb hlt=>⟨hb,by
      have hbz:b≠W.heap.size:=by omega
      rw[aY _ _ _ b hbz,aY _ _ _ b hbz,aY _ _ _ b hbz];exact b3.block b hlt⟩) n ndV
     refine bodyPost_ret (v:=.tuple #[.agg #[.string s0,.slice o1 n1 k1,.slice o2 n2 k2],.nilIface]) (by simp[results,results9,go_sem,a0,a1,a2]) rfl ⟨?_,.inr (.inr (.inr ⟨by omega,n,_,_,_,HZ.out,HC.out,rfl,oJ.nd n ndF⟩))⟩;exact(((bF.setCell ai _).setCell ai _).setCell ai _)
    ·have CK1:=CK.mono (R':=fun e w'=>Below V.heap.size V w'/\Flt E V.heap.size (ig n 1 0) e w') (fun e w' h=>by
      refine⟨h.1,?_⟩;rcases h.2 with h2|h2
      ·exact absurd h2.1 hz
      ·exact h2.2)
     have HC:=aj hz;clear CK hz;go_wp2_with(go_at_call 18;refine CK1.mono ?_;rintro e w3 ⟨b3,pb,hpb,rfl,z0,z1⟩;have Vl:NB W.heap.size (.string ⟨#[]⟩) (.slice none 0 0) (.slice none 0 0) w3:=(b3.block _ zlt).trans Nq;have a0:=Vl.c0;have a1:=Vl.c1;have a2:=Vl.c2;have af:=Vl.di);have bF:=bV.trans (b3.mono bV.size);have hpz:pb≠W.heap.size:=by omega
     have ePb:(ZC W.heap.size (.string ⟨#[]⟩) (.slice none 0 0) (.slice none 0 0) w3).heap[pb]? =w3.heap[pb]? :=by rw[aY _ _ _ pb hpz,aY _ _ _ pb hpz,aY _ _ _ pb hpz]
     refine bodyPost_ret (v:=.tuple #[ndZ,.iface 90 (ay pb)]) (by simp[results,results9,go_sem,a0,a1,a2]) rfl ⟨?_,.inr (.inr (.inl ⟨by omega,n,HZ.out,HC.out,pb,by have:=bV.size;omega,rfl,(World.cell?_of_block ePb).trans z0,(World.cell?_of_block ePb).trans z1⟩))⟩;exact(((bF.setCell ai _).setCell ai _).setCell ai _)
def plS:Bs:=[60,103,114,111,117,112,32,105,100,61,34,103,34,62,60,98,111,120,32,105,100,61,34,97,34,32,120,61,34,49,34,32,121,61,34,49,34,32,119,61,34,52,34,32,104,61,34,51,34,32,102,105,108,108,61,34,97,34,47,62,60,112,111,108,121,32,112,111,105,110,116,115,61,34,48,44,48,32,56,44,48,32,52,44,55,34,32,102,105,108,108,61,34,112,34,47,62,60,117,115,101,32,111,102,61,34,97,34,32,109,111,118,101,61,34,109,111,118,101,32,51,32,51,34,47,62,60,47,103,114,111,117,112,62]
def plH:Bs:=[35,97,32,123,32,114,117,108,101,58,32,101,118,101,110,32,125,10]
def gm:Nd:=match Sg plS with|some n=>n|none=>.mk [] [] []
def jG:List Rl:=match GQ plH with| .ok l=>l| .error _=>[]
def EX:List Pc:=match dV (l6 gm) jG with| .ok l=>l| .error _=>[]
theorem ZX:Sg plS=some gm:=by kernel_rfl
theorem Si:(ig gm 1 0).1=0:=by kernel_rfl
theorem aaZ:GQ plH=.ok jG:=by kernel_rfl
theorem ab0:dV (l6 gm) jG=.ok EX:=by kernel_rfl
theorem a7k:(EX.all fun x=>decide (x.pts.length<=30) && (x.pts.all fun a=>iq a==0) && decide (oV (fK x).rule))=true:=by kernel_rfl
theorem a7l:∀x∈jG,NV x:=by
 intro x hx;have h:jG=[jG.headD ⟨[],[],[]⟩]:=by kernel_rfl
 rw[h] at hx;rw[List.mem_singleton.1 hx];exact⟨by kernel_rfl,by kernel_rfl,by kernel_rfl,by decide+kernel⟩
theorem ab1:∀x∈EX,iw (fK x):=fun x hx=>by
 have h:=List.all_eq_true.1 a7k x hx;simp only[Bool.and_eq_true,decide_eq_true_eq,List.all_eq_true,beq_iff_eq] at h;obtain⟨⟨h1,h2⟩,h3⟩:=h;exact⟨⟨h1,h2⟩,h3⟩
theorem ZY {V:ag}{c0 c1 c2:ah}{n:Nd}(hn:nG V c0 c1 c2 n):∃(sa:aC) (oa:Option Addr) (na ka:Nat) (Ck:Option Addr) (na' ka':Nat),c0=.string sa/\c1=.slice oa na ka/\c2=.slice Ck na' ka':=by
 obtain⟨nm,ats,ks⟩:=n;unfold nG at hn;obtain⟨h1, -,⟨o,cap,h2, -⟩,o',cap',h3, -⟩:=hn;exact⟨_,_,_,_,_,_,_,h1,h2,h3⟩
theorem jR.low {W:ag}{LB B B' DB:Nat}{M:Dm}{nx c:Nat}{rl:List Rl}{l:List Pc}{w h:Nat}{X:Option Nat}(hl:jR W LB B DB M nx c rl l w h X)(hb:B'<=B):jR W LB B' DB M nx c rl l w h X:=by
 obtain⟨r,tg,MB,p,rv,qs,pv,cv,h1,h2,h3⟩:=hl;exact⟨r,tg,MB,p,rv,qs,pv,cv,⟨h1.lb,aJ hb h1.base,⟨h1.ds.w.Zc hb,h1.ds.d,h1.ds.n,h1.ds.le,aJ hb h1.ds.low⟩,h1.ok,h1.rok,eZ h1.row hb,h1.pc.low hb,h1.pm,h1.pk,h1.ql,eZ h1.pic hb⟩,h2,h3⟩
theorem ab2:gz gm<=1000000:=by decide+kernel
theorem N7 {E:Nat->Addr}{W:ag}(hP:PE E W):au 5 #[] W fun e w'=>Below W.heap.size W w'/\∃LB DB,e=.returned (.tuple #[ay LB,.nilIface])/\jR w' LB W.heap.size DB (l6 gm) (gz gm) (gz gm) jG EX 12 9 none:=by
 have RD:=(Q6 E plS W hP.le.me hP.ne.c1 (by decide+kernel)).mono (R':=fun e w'=>∃(sa:aC) (oa:Option Addr) (na ka:Nat) (Ck:Option Addr) (na' ka':Nat),e=.returned (.tuple #[.agg #[.string sa,.slice oa na ka,.slice Ck na' ka'],.nilIface])/\nG w' (.string sa) (.slice oa na ka) (.slice Ck na' ka') gm/\Below W.heap.size W w') fun e w' ⟨h1,h2⟩=>by
  rcases h2 with⟨h2, -⟩|⟨-,h2, -⟩|⟨-,n,h2,h3, -⟩|⟨-,n,c0,c1,c2,h2, -,h4,h5⟩
  ·exact absurd h2 (by decide+kernel)
  ·rw[ZX] at h2;cases h2
  ·rw[ZX] at h2;cases h2;exact absurd Si h3
  ·rw[ZX] at h2;cases h2;obtain⟨sa,oa,na,ka,Ck,na',ka',rfl,rfl,rfl⟩:=ZY h5;exact⟨_,_,_,_,_,_,_,h4,h5,h1⟩
 have RS:∀U,Below W.heap.size W U->∀V,Below U.heap.size U V->au 20 #[.string ⟨plH.toArray⟩] V fun e w'=>∃o m cp,e=.returned (.tuple #[.slice o m cp,.nilIface])/\Hid (w'.ownsRow V.heap.size 109 3 (.slice o m cp) jG.length (eY jG))/\Below V.heap.size V w':=fun U hU V hV=>by
  have hq:=hP.below (aH hU hV);refine(Uk plH (by decide+kernel) V (E 1) (E 7) hq.ne.c1 hq.ne.c7 hq.mx).mono fun e w' ⟨h1,h2⟩=>?_;rw[aaZ] at h1;rcases h1 with⟨h1, -⟩|⟨-,v,h3,h4⟩
  ·exact absurd h1 (by decide+kernel)
  ·obtain⟨o,cp,rfl⟩:=aM h4;exact⟨_,_,_,h3,h4,h2⟩
 have NW:∀V c0 c1 c2,Below W.heap.size W V->nG V c0 c1 c2 gm->au 10 #[.agg #[c0,c1,c2],.string ⟨plH.toArray⟩,aa 12,aa 9] V fun e w'=>∃LB DB,e=.returned (.tuple #[ay LB,.nilIface])/\Hid (jR w' LB W.heap.size DB (l6 gm) (gz gm) (gz gm) jG EX 12 9 none)/\Below V.heap.size V w':=fun V c0 c1 c2 hV hn=>(a7d E gm c0 c1 c2 V 12 9 ⟨plH.toArray⟩ jG EX (fun x hx=>rlG (a7l x hx)) ab0 ab1 Si (RS V hV) (hP.below hV).le hn ab2 (by decide) (by decide) (by decide) (by decide)).mono fun e w' ⟨h1,LB,tg,DB,MB,p,rv,qs,pv,cv,h2,h3,h4⟩=>⟨LB,DB,h2,jR.low ⟨rkD gm,tg,MB,p,rv,qs,pv,cv,h3,h4,fun b hb=>by cases hb⟩ hV.size,h1⟩;have RD':au 9 #[.string ⟨#[60,103,114,111,117,112,32,105,100,61,34,103,34,62,60,98,111,120,32,105,100,61,34,97,34,32,120,61,34,49,34,32,121,61,34,49,34,32,119,61,34,52,34,32,104,61,34,51,34,32,102,105,108,108,61,34,97,34,47,62,60,112,111,108,121,32,112,111,105,110,116,115,61,34,48,44,48,32,56,44,48,32,52,44,55,34,32,102,105,108,108,61,34,112,34,47,62,60,117,115,101,32,111,102,61,34,97,34,32,109,111,118,101,61,34,109,111,118,101,32,51,32,51,34,47,62,60,47,103,114,111,117,112,62]⟩] W fun e w'=>∃(sa:aC) (oa:Option Addr) (na ka:Nat) (Ck:Option Addr) (na' ka':Nat),e=.returned (.tuple #[.agg #[.string sa,.slice oa na ka,.slice Ck na' ka'],.nilIface])/\Hid (nG w' (.string sa) (.slice oa na ka) (.slice Ck na' ka') gm)/\Below W.heap.size W w':=RD;have NW':∀V c0 c1 c2,Below W.heap.size W V->nG V c0 c1 c2 gm->au 10 #[.agg #[c0,c1,c2],.string ⟨#[35,97,32,123,32,114,117,108,101,58,32,101,118,101,110,32,125,10]⟩,aa 12,aa 9] V fun e w'=>∃LB DB,e=.returned (.tuple #[ay LB,.nilIface])/\Hid (jR w' LB W.heap.size DB (l6 gm) (gz gm) (gz gm) jG EX 12 9 none)/\Below V.heap.size V w':=NW;clear hP RS RD NW;go_enter func5,ntmps5;go_wp2_with(first|(go_at_call 9;refine RD'.mono ?_;rintro e w1 ⟨sa,oa,na,ka,Ck,na',ka',rfl,hn,b1⟩)|(go_at_call 10;refine(NW' _ _ _ _ (aH b1 (bT w1 _)) (hn.out.below (bT w1 _))).mono ?_;rintro e w2 ⟨LB,DB,rfl,hl,b2⟩))
 go_ret2
 exact⟨aH b1 (aH (bT w1 _) b2),LB,DB,rfl,hl.out⟩
end
section
open Go.RowKit
section
variable {E:Nat->Addr}{W w':ag}{LB B DB:Nat}{M:Dm}{nx c:Nat}{rl:List Rl}{l:List Pc}{w h:Nat}{X:Option Nat}
theorem jR.drop (hl:jR W LB B DB M nx c rl l w h X):jR W LB B DB M nx c rl l w h none:=by
 obtain⟨r,tg,MB,p,rv,qs,pv,cv,h1,h2, -⟩:=hl;exact⟨r,tg,MB,p,rv,qs,pv,cv,h1,h2,fun b hb=>by cases hb⟩
theorem jR.at (hl:jR W LB B DB M nx c rl l w h X):(∃cs f,W.heap[LB]? =some (.cells cs 67 f))/\∃cs f,W.heap[DB]? =some (.cells cs 95 f):=by
 obtain⟨r,tg,MB,p,rv,qs,pv,cv,h1,h2, -⟩:=hl;exact⟨⟨_,_,h1.lb⟩,_,_,h1.ds.w.doc⟩
theorem jR.past (hl:jR W LB B DB M nx c rl l w h X){Vq Nn:Nat}(hL:∃cs f,W.heap[Vq]? =some (.cells cs 67 f))(hD:∃cs f,W.heap[Nn]? =some (.cells cs 95 f))(n1:LB≠Vq)(n2:DB≠Nn)(hk:K2 Vq Nn W w'):jR w' LB B DB M nx c rl l w h none:=by
 obtain⟨r,tg,MB,p,rv,qs,pv,cv,h1,h2, -⟩:=hl;obtain⟨cL,fL,hL⟩:=hL;obtain⟨cD,fD,hD⟩:=hD;have KP:∀{g:Nat} {cs:Array ah} {t:TypeId} {f:Nat×Nat},W.heap[g]? =some (.cells cs t f)->(t≠67\/g≠Vq)->(t≠95\/g≠Nn)->w'.heap[g]? =W.heap[g]? /\ ¬(g=Vq\/g=Nn):=fun{g cs t f} h4 h5 h6=>by
  have e1:g≠Vq:=fun e=>by
   subst e;rw[hL] at h4;cases h4;simp at h5
  have e2:g≠Nn:=fun e=>by
   subst e;rw[hD] at h4;cases h4;simp at h6
  exact⟨hk.block g (aI h4) e1 e2,fun h7=>h7.elim e1 e2⟩
 have OS:∀{k n:Nat} {e:TypeId} {v:ah} {xs:List ah},W.ownsRow B e k v n xs->e≠67->e≠95->w'.ownsRow B e k v n xs:=fun ho h5 h6=>bS ho fun g hg=>by
  obtain⟨cs,f,h4, -⟩:=dS ho g hg;exact(KP h4 (.inl h5) (.inl h6)).1
 obtain⟨kD,tD⟩:=KP h1.ds.w.doc (.inl (by decide)) (.inr n2);have hM:¬(MB=Vq\/MB=Nn):=by
  obtain⟨D,⟨es,cl,h4, -⟩, -⟩:=h1.ds.w.map;rintro(rfl|rfl)
  ·rw[hL] at h4;cases h4
  ·rw[hD] at h4;cases h4
 have kM:=hk.block MB h1.ds.w.map.lt (fun e=>hM (.inl e)) (fun e=>hM (.inr e));have TG:∀{g:Nat} {t:Tg},tg g=some t->¬(g=Vq\/g=Nn)->(if g=Vq\/g=Nn then none else tg g)=some t:=fun h4 h5=>by rw[if_neg h5];exact h4
 have TL:∀{g:Nat} {t:Tg},(if g=Vq\/g=Nn then none else tg g)=some t->tg g=some t:=fun{g t} h4=>by
  by_cases h5:g=Vq\/g=Nn
  ·rw[if_pos h5] at h4;cases h4
  ·rw[if_neg h5] at h4;exact h4
 refine⟨r,fun g=>if g=Vq\/g=Nn then none else tg g,MB,p,rv,qs,pv,cv,⟨(KP h1.lb (.inr n1) (.inl (by decide))).1.trans h1.lb,h1.base,⟨?_,h1.ds.d,h1.ds.n,h1.ds.le,aJ h1.ds.low hk.size⟩,h1.ok,h1.rok,OS h1.row (by decide) (by decide),⟨OS h1.pc.own (by decide) (by decide),fun x hx=>OS (h1.pc.pts x hx) (by decide) (by decide),h1.pc.rt⟩,h1.pm,h1.pk,h1.ql,OS h1.pic (by decide) (by decide)⟩,h2,fun b hb=>by cases hb⟩;exact {
  doc:=kD.trans h1.ds.w.doc
  ji:=TG h1.ds.w.ji tD
  map:=h1.ds.w.map.same kM
  jk:=TG h1.ds.w.jk hM
  els:=fun i e he=>by
   obtain⟨b,va,vk,h3,h4⟩:=h1.ds.w.els i e he;obtain⟨k1,k2⟩:=KP h4.cells (.inl (by decide)) (.inl (by decide));refine⟨b,va,vk,h3,k1.trans h4.cells,TG h4.tag k2,OS h4.ats (by decide) (by decide),fun g hg=>?_,OS h4.kids (by decide) (by decide),fun g hg=>?_⟩
   ·obtain⟨cs,f,h5, -⟩:=dS h4.ats g hg;exact TG (h4.kZ g hg) (KP h5 (.inl (by decide)) (.inl (by decide))).2
   ·obtain⟨cs,f,h5, -⟩:=dS h4.kids g hg;exact TG (h4.iO g hg) (KP h5 (.inl (by decide)) (.inl (by decide))).2
  non:=h1.ds.w.non
  low:=fun b t ht=>by
   have h4:=h1.ds.w.low b t (TL ht);exact⟨h4.1,bI h4.2 hk.size⟩
  dom:=h1.ds.w.dom
  wf:=h1.ds.w.wf
  few:=h1.ds.w.few
  Nh:=fun b i ht=>h1.ds.w.Nh b i (ht.imp TL fun h4=>h4.imp TL TL)}
end
def plQ:gH:=match l6 gm 0 with|some e=>e|none=>⟨[],[],0,[]⟩
def ZZ:Dm:=dZ (dZ (l6 gm) (gz gm) ⟨[98,111,120],[],0,[]⟩) 0 ⟨plQ.name,plQ.ats,plQ.parent,jl plQ.kids 0 (gz gm)⟩
def a00:List Pc:=match dV ZZ jG with| .ok l=>l| .error _=>[]
theorem ab3:l6 gm 0=some plQ:=by kernel_rfl
theorem ab4:l6 gm plQ.parent=none:=by kernel_rfl
theorem a01:dV ZZ jG=.ok a00:=by kernel_rfl
theorem a3x:(a00.all fun x=>decide (x.pts.length<=30) && (x.pts.all fun a=>iq a==0) && decide (oV (fK x).rule))=true:=by kernel_rfl
theorem ab5:(dG (l6 gm) 11 0)[4/8 % (dG (l6 gm) 11 0).length]? =some 0:=by kernel_rfl
theorem ab6:UT ZZ jG:=⟨a00,a01,fun x hx=>by
 have h:=List.all_eq_true.1 a3x x hx;simp only[Bool.and_eq_true,decide_eq_true_eq,List.all_eq_true,beq_iff_eq] at h;obtain⟨⟨h1,h2⟩,h3⟩:=h;exact⟨⟨h1,h2⟩,h3⟩⟩
theorem a7n:¬∃d,10<=d/\Up (l6 gm) 0 d:=fun⟨d,h1,h2⟩=>by
 have h3:Up (l6 gm) 0 1:=⟨plQ,ab3,ab4⟩;have:=Up.same h2 h3;omega
theorem a7o:gz gm<=100:=by decide+kernel
def E5:ZR:=⟨l6 gm,gz gm,gz gm,EX⟩
def Ja:ZR:=⟨ZZ,gz gm+1,gz gm+1,a00⟩
theorem a02 (E:Nat->Addr):zM E jG 12 9 (-1) (-1) E5 E5:=Sb (-1) (by decide)
theorem a03 (E:Nat->Addr):zM E jG 12 9 4 0 E5 Ja:=by
 obtain⟨k1,k2⟩:=Gu (E:=E) (oI Si) (nx:=gz gm) (c:=gz gm) (by decide+kernel) 0 0 [98,111,120] [] (by decide) ab3 a7n (by decide+kernel);have H:=ZQ (E:=E) (M:=l6 gm) (nx:=gz gm) (c:=gz gm) (rl:=jG) (l:=EX) (w:=12) (h:=9) (M2:=ZZ) (l7:=gz gm+1) (c2:=gz gm+1) (l2:=a00) 4 (by decide) 0 ab5 ⟨DU,0,0,0,[98,111,120],[]⟩ (fun E W hP=>yH 4 0 0 _ _ (.inl ⟨rfl,rfl,rfl⟩) W) (k:=0) (by decide) (ZJ (by show DU≠nM;decide) k1 k2 a01 ab6 (by decide) (by decide) (by decide) (by decide));unfold zM;dsimp only[E5,Ja];have e4:((4:Nat):Int)=4:=rfl;have e0:((0:Nat):Int)=0:=rfl;rw[e4,e0] at H;exact H
def vI (w:ag)(o:Option Addr)(cp:Nat)(vs:List Int):Prop:=(∀i x,vs[i]? =some x->∃b off,o=some ⟨b,off,none⟩/\w.cell? (ak b (off+i))=some (aa x)/\jH x)/\(o=none->vs=[]/\cp=0)
theorem vI.below {w w':ag}{o:Option Addr}{cp:Nat}{vs:List Int}(h:vI w o cp vs)(hb:Below w.heap.size w w'):vI w' o cp vs:=
 ⟨fun i x hx=>by
  obtain⟨b,off,h1,h2,h3⟩:=h.1 i x hx;exact⟨b,off,h1,(hb.cell (az h2)).trans h2,h3⟩,h.2⟩
def ab7 (a b:ah)(w:ag)(K:ah->ag->Prop):Prop:=∀ty,∃v' w',(Builtin.append_ #[22,22] ty #[a,b]).run prog w=.ok v' w'/\K v' w'
theorem Sj {w:ag}{ol:Option Addr}{kl n:Nat}{vs:List Int}(hn:vs.length=n)(h:vI w ol kl vs)(hl:n<=1000000){B:Nat}(hB:B<=w.heap.size):ab7 (.slice none 0 0) (.slice ol n kl) w fun v' w'=>∃o cp,v'=.slice o n cp/\w'.ownsRow B 3 1 (.slice o n cp) n (aU vs)/\Below w.heap.size w w':=fun ty=>by
 obtain⟨i0,hi,hz0,hz1,hz2⟩:=info_parts sI;cases ol with
 |none=>
  obtain⟨rfl,rfl⟩:=h.2 rfl;obtain rfl:0=n:=hn;exact⟨_,_,run_append_owned_none w B 22 ty 3 i0 1 underlying22 hi (.slice none 0 0) 0 [] (eH _ _ _ _),none,0,rfl,eH _ _ _ _,aG _ _⟩
 |some ad=>
  obtain⟨v',w',h1,h2,h3, -⟩:=run_append_own (P:=prog) w B 22 ty 3 i0 (aa 0) 1 8 underlying22 hi hz0 hz1 hz2 rfl (by decide) (.slice none 0 0) 0 [] (eH _ _ _ _) ad n kl (aU vs) (by rw[o8];omega) (fun j u hu=>by
   unfold aU at hu;rw[List.getElem?_map,Option.map_eq_some_iff] at hu;obtain⟨x,hx,rfl⟩:=hu;obtain⟨b,off,e1,e2, -⟩:=h.1 j x hx;cases e1;have hadd:(⟨b,off,none⟩:Addr).add j=⟨b,off+j,none⟩:=by unfold Addr.add;split<;>simp_all
   rw[hadd];exact e2) (fun u hu=>by
   unfold aU at hu;obtain⟨x, -,rfl⟩:=List.mem_map.1 hu;rfl) (by simp only[maxLen];omega) (by omega) hB
  rw[Nat.zero_add,List.nil_append] at h2;obtain⟨o,cp,rfl⟩:=aM h2;exact⟨_,_,h1,o,cp,rfl,h2,(aG _ _).grown h3 ai (fun j hj=>by simp[Value.ownBlock] at hj)⟩
theorem Sk {w:ag}{ops:Array Oper}{rest:List Oper}{o:Oper}{a:Act}{Q:Exit->Act->ag->Prop}(hgd:o.guard=none)(s x:Operand)
  (ho:o.op=.call {callee:=.builtin .append,args:=#[s,x],argTypes:=#[22,22]}) (u v:ah) (hs:a.eval s=u) (hx:a.eval x=v) {R:ah->ag->Prop} (hr:ab7 u v w R)
  (h:∀v' w',R v' w'->wpList prog ops Q rest (a.put o.dst v') w'):wpList prog ops Q (o::rest) a w:=
 wpList_plain hgd fun _ hK=>by
  obtain⟨v',w',h1,h2⟩:=hr o.type;unfold Oper.wp execOp;simp only[ho,resolve,invoke,builtin,Sem.run_bind,Sem.run_pure,Result.andThen_ok,List.map_toArray,List.map_cons,List.map_nil,hs,hx,h1];exact hK _ _ (h v' w' h2)
end
section
open Go.RowKit
set_option maxRecDepth 20000
section
variable {E:Nat->Addr}{W W':ag}{LB B DB:Nat}{s t:ZR}{rl:List Rl}{w h:Nat}
def Vr (LB DB B:Nat)(rl:List Rl)(w h n:Nat)(us:List Int)(t:ZR)(V w':ag)(v:ah):Prop:=w'.ownsRow V.heap.size 3 1 v n (aU us)/\K2 LB DB V w'/\jR w' LB B DB t.M t.nx t.c rl t.l w h none
theorem Vr.below {n:Nat}{us:List Int}{V:ag}{v:ah}(h1:Vr LB DB B rl w h n us t V W v)(hb:Below W.heap.size W W'):Vr LB DB B rl w h n us t V W' v:=
 ⟨aQ h1.1 hb,h1.2.1.trans (K2.of_below hb),h1.2.2.below hb⟩
def ab8:Nat->ZR
 |0=>E5
 |1=>E5
 |_=>Ja
theorem a3y (hP:Sa E B W)(hl:jR W LB B DB (l6 gm) (gz gm) (gz gm) jG EX 12 9 none){g:Nat}(h1:W.heap[g]? =some (.cells #[aa (-1),aa 4] 3))(h2:g≠LB)(h3:g≠DB):
  au 7 #[ay LB,.slice (some ⟨g,0,none⟩) 2 2] W fun e w'=>∃o cp,e=.returned (.slice o 2 cp)/\Vr LB DB B jG 12 9 2 [-1,0] Ja W w' (.slice o 2 cp):=by
 refine(ZT (E:=E) (LB:=LB) (B:=B) (DB:=DB) (rl:=jG) (w:=12) (h:=9) ab8 [-1,4] [-1,0] 2 rfl rfl (by decide) (fun i v a e1 e2=>?_) hP (by simp only[ab8,E5];exact hl) (some ⟨g,0,none⟩) 2 ai (fun V hV i v e1=>⟨g,rfl,?_⟩)).mono fun e w' ⟨v,k1,k2,k3,k4⟩=>?_
 ·rcases i with _|_|i
  ·cases e1;cases e2;exact a02 E
  ·cases e1;cases e2;exact a03 E
  ·cases e1
 ·have hc:=(hV.block g (aI h1) h2 h3).trans h1;rcases i with _|_|i
  ·cases e1;exact aD hc 0 _ rfl
  ·cases e1;exact aD hc 1 _ rfl
  ·cases e1
 ·obtain⟨o,cp,rfl⟩:=aM k2;exact⟨o,cp,k1,k2,k3,k4.drop⟩
theorem a04 {o:Option Addr}{cp:Nat}(h1:W.ownsRow B 3 1 (.slice o 2 cp) 2 (aU [-1,0])){g:Nat}(h2:W.heap[g]? =some (.cells #[aa (-1),aa 0] 3)):
  au 6 #[.slice o 2 cp,.slice (some ⟨g,0,none⟩) 2 2] W fun e w'=>e=.returned (.bool true)/\Below W.heap.size W w':=
 uI W o (some ⟨g,0,none⟩) cp 2 [-1,0] h1 (B':=0) ⟨rfl,.inr ⟨g,2,_,rfl,aP _,h2,Nat.le_refl _,by decide,rfl,rfl⟩⟩ (by decide)
end
theorem Q7 (E:Nat->Addr)(W:ag)(hP:PE E W):
  au 4 #[] W fun e w'=>e=.returned (.bool true)/\Below W.heap.size W w':=by
 have NW:=N7 hP;obtain⟨s,hs,SM⟩:=a4x Ja.M Ja.nx Ja.c jG Ja.l 12 9 (by decide) (by decide) (by decide) (by decide);have hs':s.toList.isEmpty=false:=by
  rw[ByteArray.toList_eq];cases h:s.data.toList with
  |nil=>exact absurd (by cases s;simp at h;rw[h]) hs
  |cons a b=>rfl
 have HP:=aj hP;clear hP;go_enter func4,ntmps4;go_upto_region 2 with(go_at_call 5;refine NW.mono ?_;rintro e w1 ⟨b1,LB,DB,rfl,hl⟩);obtain⟨k1,k2,k3⟩:=hl.base;obtain⟨d1,d2⟩:=hl.lt;have HL:=aj hl;have RN:∀V g,Below w1.heap.size w1 V->w1.heap.size<=g->V.heap[g]? =some (.cells #[aa (-1),aa 4] 3)->au 7 #[ay LB,.slice (some ⟨g,0,none⟩) 2 2] V fun e w'=>∃o cp,e=.returned (.slice o 2 cp)/\Vr LB DB W.heap.size jG 12 9 2 [-1,0] Ja V w' (.slice o 2 cp):=fun V g hV hg hc=>a3y ⟨W,HP.out,Nat.le_refl _,aJ b1.size hV.size,b1.trans (hV.mono b1.size)⟩ (HL.out.below hV) hc (by omega) (by omega);have SM':=fun V hV hl=>SM E V LB W.heap.size DB none (HP.out.below hV) hl;clear SM NW hl;go_upto_region 3 with(first|(go_at_call 7;refine(RN _ _ (bT w1 _) ai (dw w1 _ _)).mono ?_;rintro e w2 ⟨o2,c2,rfl,r2⟩;have r3:=r2.below (bT w2 (.cells #[aa (-1),aa 0] 3));have n3:=dw w2 #[aa (-1),aa 0] 3)|(go_at_call 6;refine(a04 r3.1 n3).mono ?_;rintro e w4 ⟨rfl,b4⟩));have r4:=r3.below b4;have b14:Below W.heap.size W w4:=b1.trans (((bT w1 _).mono b1.size).trans (r4.2.1.below k1 k2 (aJ k3 (bT w1 _).size)));have SM4:=SM' w4 b14 r4.2.2;clear SM' RN r2 r3 n3 r4 HL HP;go_wp2_with(go_at_call 8;refine SM4.mono ?_;rintro e w5 ⟨rfl,b5⟩);go_ret;exact⟨rfl,b14.trans (b5.mono b14.size)⟩
section
variable {E:Nat->Addr}{W W':ag}{LB B DB Vq B' Nn:Nat}{M:Dm}{s t:ZR}{rl:List Rl}{w h:Nat}
theorem Sl {n:Nat}(ss:Nat->ZR)(vs us:List Int)(hv:vs.length=n)(hu:us.length=n)(hn:n<=300)(hS:∀i v a,vs[i]? =some v->us[i]? =some a->zM E rl w h v a (ss i) (ss (i+1)))(hP:Sa E B W)(hl:jR W LB B DB (ss 0).M (ss 0).nx (ss 0).c rl (ss 0).l w h none){o:Option Addr}{cp N:Nat}(ho:W.ownsRow N 3 1 (.slice o n cp) n (aU vs))(h1:LB<N)(h2:DB<N):
  au 7 #[ay LB,.slice o n cp] W fun e w'=>∃o cp,e=.returned (.slice o n cp)/\Vr LB DB B rl w h n us (ss n) W w' (.slice o n cp):=by
 obtain⟨o',cp',hv',hle, -, -, -⟩:=dL ho;cases hv';refine(ZT (E:=E) (LB:=LB) (B:=B) (DB:=DB) ss vs us n hv hu hn hS hP hl o cp hle (fun V hV i v e1=>?_)).mono fun e w' ⟨v,k1,k2,k3,k4⟩=>?_
 ·have own:=bS ho fun g hg=>hV.block g (ho.lt g hg).2 (by have:=(ho.lt g hg).1;omega) (by have:=(ho.lt g hg).1;omega);have own':V.ownsRow N 3 1 (.slice o n cp) vs.length (aU vs):=by rw[hv];exact own
  rcases ints_at own' with⟨he, -⟩|⟨g,cap,hv2, -,hc⟩
  ·rw[he] at e1;cases e1
  ·cases hv2;exact⟨g,rfl,hc i v e1⟩
 ·obtain⟨o,cp,rfl⟩:=aM k2;exact⟨o,cp,k1,k2,k3,k4.drop⟩
end
theorem EY (E:Nat->Addr)(vs:List Int)(ol:Option Addr)(kl:Nat)(W:ag)(hP:PE E W)(ha:vI W ol kl vs):
  au 3 #[.slice ol vs.length kl] W fun e w'=>e=.returned (.bool true)/\Below W.heap.size W w':=by
 have PL:=Q7 E W hP;have HP:=aj hP;have HA:=aj ha;obtain⟨n,hn⟩:∃n,vs.length=n:=⟨_,rfl⟩;have HN:=aj hn;rw[hn];clear hP ha hn;by_cases hb:60<n
 ·have hb':(60:Int)<(n:Int):=by omega
  go_enter func3,ntmps3;go_wp2_with(go_at_call 4;refine PL.mono ?_;rintro e w1 ⟨rfl,b1⟩);go_ret;exact⟨rfl,b1⟩
 have hb':¬(60:Int)<(n:Int):=by omega
 have NW:=fun V (hV:Below W.heap.size W V)=>N7 (HP.out.below hV);have hvs:∀v∈vs,v<=9223372036854775807:=fun v hv=>by
  obtain⟨i,hi⟩:=List.getElem?_of_mem hv;obtain⟨-, -, -, -,hI⟩:=HA.out.1 i v hi;exact hI.2
 obtain⟨ss,us,c1,c2,c3⟩:=Sd (E:=E) (rl:=jG) (w:=12) (h:=9) (by decide) (by decide) (by decide) (by decide) vs E5 (oI Si) (by have:=HN.out;have:=a7o;show gz gm+_<=_;omega) hvs;obtain⟨s, -,SM⟩:=a4x (ss n).M (ss n).nx (ss n).c jG (ss n).l 12 9 (by decide) (by decide) (by decide) (by decide);have HC:Hid (ss 0=E5/\us.length=n/\∀i v a,vs[i]? =some v->us[i]? =some a->zM E jG 12 9 v a (ss i) (ss (i+1))):=⟨c1,c2.trans HN.out,c3⟩;clear c1 c2 c3 hvs;go_enter func3,ntmps3;go_upto_region 4 with(go_at_call 4;refine PL.mono ?_;rintro e w1 ⟨rfl,b1⟩);have N1:=NW w1 b1;go_upto_region 5 with(go_at_call 5;refine N1.mono ?_;rintro e w2 ⟨b2,La,Da,rfl,la⟩);have b02:=aH b1 b2;have N2:=NW w2 b02;clear N1 PL NW;go_upto_region 10 with(go_at_call 5;refine N2.mono ?_;rintro e w3 ⟨b3,Lb,Db,rfl,lb⟩);have b03:=aH b02 b3;have la3:=la.below b3;obtain⟨ka1,ka2,ka3⟩:=la3.base;obtain⟨kb1,kb2,kb3⟩:=lb.base;obtain⟨da1,da2⟩:=la.lt;obtain⟨db1,db2⟩:=lb.lt;have hz2:=b2.size;have hz3:=b3.size;have hz1:=b1.size;have P0:∀V,Below W.heap.size W V->PE E V:=fun V hV=>HP.out.below hV;have PA:∀V,Below W.heap.size W V->Sa E w1.heap.size V:=fun V hV=>⟨W,HP.out,hz1,hV.size,hV⟩;have PB:∀V,Below W.heap.size W V->Sa E w2.heap.size V:=fun V hV=>⟨W,HP.out,aJ hz1 hz2,hV.size,hV⟩;have LA:Hid (jR w3 La w1.heap.size Da (ss 0).M (ss 0).nx (ss 0).c jG (ss 0).l 12 9 none):=by rw[HC.out.1];simp only[E5];exact la3
 have LB:Hid (jR w3 Lb w2.heap.size Db (ss 0).M (ss 0).nx (ss 0).c jG (ss 0).l 12 9 none):=by rw[HC.out.1];simp only[E5];exact lb
 clear la lb la3 N2;have A1:=Sj HN.out (HA.out.below b03) (by omega) (Nat.le_refl w3.heap.size);have RA:=fun V o cp (hV:Below w3.heap.size w3 V) (ho:V.ownsRow w3.heap.size 3 1 (.slice o n cp) n (aU vs))=>Sl ss vs us HN.out HC.out.2.1 (by omega) HC.out.2.2 (PA V (aH b03 hV)) (LA.out.below hV) ho (by omega) (by omega);have LBp:=fun V V' (hV:Below w3.heap.size w3 V) (hk:K2 La Da V V')=>(LB.out.below hV).past (LA.out.below hV).at.1 (LA.out.below hV).at.2 (by omega) (by omega) hk;have RB:=fun V V' X o cp (hV:Below w3.heap.size w3 V) (hk:K2 La Da V V') (hX:Below V'.heap.size V' X) (hB:Below W.heap.size W X) (ho:X.ownsRow w3.heap.size 3 1 (.slice o n cp) n (aU vs))=>Sl ss vs us HN.out HC.out.2.1 (by omega) HC.out.2.2 (PB X hB) ((LBp V V' hV hk).below hX) ho (by omega) (by omega);have LAp:=fun V' X Y (hl:jR V' La w1.heap.size Da (ss n).M (ss n).nx (ss n).c jG (ss n).l 12 9 none) (hb:jR V' Lb w2.heap.size Db (ss 0).M (ss 0).nx (ss 0).c jG (ss 0).l 12 9 none) (hX:Below V'.heap.size V' X) (hk:K2 Lb Db X Y)=>(hl.below hX).past (hb.below hX).at.1 (hb.below hX).at.2 (by omega) (by omega) hk;go_upto_region 11 with(first|(have hu:=r5;go_at_call 7;refine(RB w4 w5 w6 o6 c6 b4 r5.2.1 b6 b06 Px).mono ?_;rintro e w7 ⟨o7,c7,rfl,r7⟩)|(go_at_call 7;refine(RA w4 o4 c4 b4 Wq).mono ?_;rintro e w5 ⟨o5,c5,rfl,r5⟩;have hz4:=b4.size;have b05:Below W.heap.size W w5:=(b03.trans (b4.mono b03.size)).trans (r5.2.1.below (by omega) (by omega) (by omega));have A2:=Sj HN.out (HA.out.below b05) (by omega) (show w3.heap.size<=w5.heap.size from aJ hz4 r5.2.1.size))|(have hu:=r5;at_builtin;refine Sk rfl _ _ rfl _ _ rfl rfl A2 ?_;rintro v6 w6 ⟨o6,c6,rfl,Px,b6⟩;have b06:=b05.trans (b6.mono b05.size))|(at_builtin;refine Sk rfl _ _ rfl _ _ rfl rfl A1 ?_;rintro v4 w4 ⟨o4,c4,rfl,Wq,b4⟩));have b67:Below W.heap.size W w7:=b06.trans (r7.2.1.below (by omega) (by omega) b06.size);have la7:=LAp w5 w6 w7 r5.2.2 (LBp w4 w5 b4 r5.2.1) b6 r7.2.1;have lb7:=r7.2.2;have oQ:=aQ r5.1 b6
 have SI:=uI w7 o5 o7 c5 c7 us (by rw[HC.out.2.1];exact bS oQ fun g hg=>r7.2.1.block g (oQ.lt g hg).2 (by have:=(oQ.lt g hg).1;omega) (by have:=(oQ.lt g hg).1;omega)) (by rw[HC.out.2.1];exact r7.1) (by rw[HC.out.2.1];omega);rw[HC.out.2.1] at SI;have SA:=fun V (hV:Below w7.heap.size w7 V)=>SM E V La w1.heap.size Da none (P0 V (b67.trans (hV.mono b67.size))) (la7.below hV);have SB:=fun V (hV:Below w7.heap.size w7 V)=>SM E V Lb w2.heap.size Db none (P0 V (b67.trans (hV.mono b67.size))) (lb7.below hV);clear RA RB LAp LBp LA LB A1 A2 r5 r7 la7 lb7 oQ Wq Px SM HC HA;go_wp2_with(first|(go_at_call 6;refine SI.mono ?_;rintro e w8 ⟨rfl,b8⟩)|(have hu:=b9;go_at_call 8;refine(SB w9 (aH b8 b9)).mono ?_;rintro e w10 ⟨rfl,b10⟩)|(go_at_call 8;refine(SA w8 b8).mono ?_;rintro e w9 ⟨rfl,b9⟩));go_ret;exact⟨rfl,b67.trans ((aH b8 (aH b9 b10)).mono b67.size)⟩
end
end Go.Proofs.YtecneflbncjhpaaGreatDoor

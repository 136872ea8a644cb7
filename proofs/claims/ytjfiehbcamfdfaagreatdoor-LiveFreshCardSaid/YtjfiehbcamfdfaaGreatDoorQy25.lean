/-
  Parts of the proof.
-/
import Derived.Lib.AppendIntMem
import Derived.Lib.ItoaLen
import Derived.Test.YtjfiehbcamfdfaaGreatDoorQy24
namespace Go.Proofs.YtjfiehbcamfdfaaGreatDoor
open Go.Proofs.Tryz
section
open Go.RowKit
def mk (n d:Int):R3:=if d=0 then⟨0,0,11⟩ else if gu n=true\/gu d=true then⟨0,0,2⟩ else low n d
theorem a3M:prog.globalNamed "internal/strconv.uint64pow10"=some 14:=by kernel_rfl
theorem Rn {w w':World}{B:Nat}(h:Lib.TabIs prog w "internal/strconv.uint64pow10" .u64 Lib.pow10Tab)(hb:Below B w w')(hB:w.heap.size<=B):Lib.TabIs prog w' "internal/strconv.uint64pow10" .u64 Lib.pow10Tab:=
 var?_below hb a3M (Nat.lt_of_lt_of_le (ay (h.cell a3M 0 (by simp[Lib.pow10Tab]))) hB) h
theorem Wy (n:Int)(w:World)(hn:lH n)(htab:Lib.TabIs prog w "internal/strconv.uint64pow10" .u64 Lib.pow10Tab):
  ak 231 #[aa n] w fun e w'=>e=.returned (.string ⟨(Lib.itoa n).toArray⟩)/\Below w.heap.size w w':=by
 refine(Tryz.strconv_Itoa n hn.1 hn.2 w htab).mono ?_;rintro e w' ⟨rfl,k,os,rfl⟩;exact⟨rfl,Lib.below_grow _ _ eU k os⟩
end
section
open Go.RowKit Go.Shelf
set_option maxHeartbeats 2000000
theorem NE.below {E:Nat->Addr}{w w':World}(h:NE E w)(hb:Below w.heap.size w w'):NE E w':=by
 obtain⟨c1,c2,c3,c7,c9,c10,⟨a,sy⟩,⟨a',rg⟩,tab,blk,ne⟩:=h;have C:=fun{x:Addr} {v:Value} (hx:w.cell? x=some v)=>(hb.cell (ay hx)).trans hx;refine⟨C c1,C c2,C c3,C c7,C c9,C c10,⟨a,C sy⟩,⟨a',C rg⟩,?_,fun k h1 h2=>?_,ne⟩
 ·exact Rn tab hb eU
 ·obtain⟨c,t,hc⟩:=blk k h1 h2;exact⟨c,t,(hb.block _ (aN hc)).trans hc⟩
theorem De {E:Nat->Addr}{w:World}(h:NE E w)(s:Bs)(hs:s.length<=1000000):
  ak 192 #[bV s] w fun e w'=>e=.returned (aa (Em s))/\Below w.heap.size w w':=by
 have hsz:(⟨s.toArray⟩:ByteArray).size<=1000000:=hs;have hls:(⟨s.toArray⟩:ByteArray).data.toList=s:=rfl;unfold Em;cases ha:Lib.atoiAll s with
 |«syntax»=>
  obtain⟨a,sy⟩:=h.sy;have AT:=Tryz.strconv_Atoi_syntax ⟨s.toArray⟩ (by omega) (by rw[hls];exact ha) (eV a) w sy (.inr ⟨_,_,rfl⟩);clear h sy ha;go_enter func192,ntmps192;go_wp2_with(go_at_call 230;refine AT.mono ?_;rintro e w1 ⟨nb,rfl, -, -,b1⟩);go_ret;exact⟨rfl,b1⟩
 |range=>
  obtain⟨a,rg⟩:=h.rg;have AT:=Tryz.strconv_Atoi_range ⟨s.toArray⟩ (by omega) (by rw[hls];exact ha) (eV a) w rg (.inr ⟨_,_,rfl⟩);clear h rg ha;go_enter func192,ntmps192;go_wp2_with(go_at_call 230;refine AT.mono ?_;rintro e w1 ⟨nb,rfl, -, -,b1⟩);go_ret;exact⟨rfl,b1⟩
 |ok v=>
  have AT:ak 230 #[.string ⟨s.toArray⟩] w fun e w'=>e=.returned (.tuple #[aa v,.nilIface])/\Below w.heap.size w w':=by
   refine(Tryz.strconv_Atoi_ok ⟨s.toArray⟩ (by omega) v (by rw[hls];exact ha) w).mono ?_;rintro e w1 ⟨rfl,rfl|⟨t,rfl⟩⟩
   ·exact⟨rfl,Below.refl _ _⟩
   ·exact⟨rfl,rfl,rfl,rfl,by rw[Lib.bytesWorld_size];omega,fun j hj=>Lib.bytesWorld_at_old w _ _ j hj⟩
  clear ha;dsimp only;by_cases h0:v<0
  ·rw[if_neg (by omega)];go_enter func192,ntmps192;go_wp2_with(go_at_call 230;refine AT.mono ?_;rintro e w1 ⟨rfl,b1⟩);go_ret;exact⟨rfl,b1⟩
  ·by_cases h9:999<v
   ·rw[if_neg (by omega)];go_enter func192,ntmps192;go_wp2_with(go_at_call 230;refine AT.mono ?_;rintro e w1 ⟨rfl,b1⟩);go_ret;exact⟨rfl,b1⟩
   ·have IT:=fun V (hV:NE E V)=>Wy v V ⟨by omega,by omega⟩ hV.tab;have HN:Hid (NE E w):=h;clear h;by_cases hi:Lib.itoa v=s
    ·rw[if_pos ⟨by omega,by omega,hi⟩];rw[hi] at IT;go_enter func192,ntmps192;go_wp2_with(first|(go_at_call 230;refine AT.mono ?_;rintro e w1 ⟨rfl,b1⟩;have I1:=IT w1 (HN.out.below b1))|(go_at_call 231;refine I1.mono ?_;rintro e w2 ⟨rfl,b2⟩));go_ret;exact⟨rfl,az b1 b2⟩
    ·rw[if_neg (fun h=>hi h.2.2)];obtain⟨t,ht⟩:∃t,Lib.itoa v=t:=⟨_,rfl⟩;rw[ht] at IT;have hq:=eH t s;have hq1:(t==s)=false:=by rw[<- ht];simpa using hi
     rw[hq1] at hq;clear hi ht;go_enter func192,ntmps192;go_wp2_with(first|(go_at_call 230;refine AT.mono ?_;rintro e w1 ⟨rfl,b1⟩;have I1:=IT w1 (HN.out.below b1))|(go_at_call 231;refine I1.mono ?_;rintro e w2 ⟨rfl,b2⟩));go_ret;exact⟨rfl,az b1 b2⟩
end
section
open Go.RowKit Go.Shelf
set_option maxHeartbeats 8000000
set_option maxRecDepth 20000
theorem NE.e3 {E:Nat->Addr}{w:World}(h:NE E w):E3 (E 2) (E 3) (E 2) w:=⟨h.c2,h.c3,rfl⟩
theorem NE.e4 {E:Nat->Addr}{w:World}(h:NE E w):E4 (E 1) (E 2) (E 3) w:=⟨h.e3,h.c1⟩
theorem qV (M:Dm)(n:Int)(nm:Bs):VD M n nm=atM M n nm:=rfl
def SzD (M:Dm):Prop:=∀n e,M n=some e->∀a∈e.ats,a.2.length<=200
theorem Gh {M:Dm}(h:SzD M){n:Int}{nm s:Bs}(ha:atM M n nm=some s):s.length<=200:=by
 unfold atM at ha;cases hm:M n with
 |none=>rw[hm] at ha;cases ha
 |some e=>
  rw[hm] at ha;simp only[iK,Option.map_eq_some_iff] at ha;obtain⟨a,h1,h2⟩:=ha;have:=h n e hm a (List.mem_of_find?_eq_some h1);rw[h2] at this;exact this
theorem JN {M:Dm}(h:SzD M)(n:Int)(nm:Bs):(FM M n nm).length<=200:=by
 unfold FM;cases ha:atM M n nm with
 |none=>simp
 |some s=>exact Gh h ha
section
variable {E:Nat->Addr}{B:Nat}{tg:kE}{W:World}{DB MB:Nat}{p:Int->Option Nat}{M:Dm}{nx c:Nat}
theorem N8 (hN:NE E W)(hd:bG B tg W DB MB p M nx c)(hz:SzD M)(WB:Nat)(hw:W.cell? (ag WB 0)=some (aj DB))(n:Int)(hn:dH n)(nm:Bs):
  ak 193 #[aj WB,aa n,bV nm] W fun e w'=>e=.returned (.tuple #[.agg #[aa (dS M n nm).n,aa (dS M n nm).d],Lc (E 1) (E 2) (E 3) (E 2) (dS M n nm).c])/\Below W.heap.size W w':=by
 have b0:=aW W (.cells #[aa 0,aa 0] 127);have T0:=Two.new W (aa 0) (aa 0) 127;have AT:=l8 (hd.below b0) n hn nm;have hw0:=(b0.cell (ay hw)).trans hw;rw[qV] at AT;unfold dS;cases ha:atM M n nm with
 |none=>
  rw[ha] at AT;clear hd ha;go_enter func193,ntmps193;go_wp2_with(go_at_call 17;refine AT.mono ?_;rintro e w1 ⟨rfl,b1⟩;obtain⟨t0,t1,f0,f1⟩:=T0.below b1 eU);refine bodyPost_ret (v:=.tuple #[.agg #[aa 0,aa 1],.nilIface]) (by simp[results,results193,go_sem,t0,t1]) rfl ⟨rfl,?_⟩;exact((az b0 b1).setCell eU _).setCell eU _
 |some s=>
  rw[ha] at AT;have hs:=Gh hz ha;have hsz:(⟨s.toArray⟩:ByteArray).size<=200:=hs;have RD:∀V,NE E V->ak 232 #[bV s] V fun e w'=>e=.returned (.tuple #[.agg #[aa (rd s).n,aa (rd s).d],Lc (E 1) (E 2) (E 3) (E 2) (rd s).c])/\Below V.heap.size V w':=fun V hV=>rO (E 1) (E 2) (E 3) (E 2) ⟨s.toArray⟩ V hV.e3 hV.c1 (by omega);have HN:Hid (NE E W):=hN;dsimp only;generalize rd s=x at RD⊢;obtain⟨ev,hev⟩:∃v,Lc (E 1) (E 2) (E 3) (E 2) x.c=v:=⟨_,rfl⟩;simp only[hev] at RD⊢;clear hd ha hN hev;go_enter func193,ntmps193;go_wp2_with(first|(go_at_call 17;refine AT.mono ?_;rintro e w1 ⟨rfl,b1⟩;have R1:=RD w1 (HN.out.below (az b0 b1)))|(go_at_call 232;refine R1.mono ?_;rintro e w2 ⟨rfl,b2⟩;obtain⟨t0,t1,f0,f1⟩:=T0.below (az b1 b2) eU));refine bodyPost_ret (v:=.tuple #[.agg #[aa x.n,aa x.d],ev]) (by simp[results,results193,go_sem,t0,t1]) rfl ⟨rfl,?_⟩;exact((az b0 (az b1 b2)).setCell eU _).setCell eU _
theorem bN.JO {w:World}{R:Nat}{v0 v1 v2 v3 v4 v5 v6 v7 v8 v9 v10 v11:Value}{t:TypeId}(h:bN w R #[v0,v1,v2,v3,v4,v5,v6,v7,v8,v9,v10,v11] t):
  w.cell? (ag R 0)=some v0/\w.cell? (ag R 1)=some v1/\w.cell? (ag R 2)=some v2/\w.cell? (ag R 3)=some v3/\w.cell? (ag R 4)=some v4/\w.cell? (ag R 5)=some v5/\w.cell? (ag R 6)=some v6/\w.cell? (ag R 7)=some v7/\w.cell? (ag R 8)=some v8/\w.cell? (ag R 9)=some v9/\w.cell? (ag R 10)=some v10/\w.cell? (ag R 11)=some v11/\
  w.frozen? ⟨R,0,none⟩=false/\w.frozen? ⟨R,1,none⟩=false/\w.frozen? ⟨R,2,none⟩=false/\w.frozen? ⟨R,3,none⟩=false/\w.frozen? ⟨R,4,none⟩=false/\w.frozen? ⟨R,5,none⟩=false/\w.frozen? ⟨R,6,none⟩=false/\w.frozen? ⟨R,7,none⟩=false/\w.frozen? ⟨R,8,none⟩=false/\w.frozen? ⟨R,9,none⟩=false/\w.frozen? ⟨R,10,none⟩=false/\w.frozen? ⟨R,11,none⟩=false:=
 ⟨h.cell 0 _ rfl,h.cell 1 _ rfl,h.cell 2 _ rfl,h.cell 3 _ rfl,h.cell 4 _ rfl,h.cell 5 _ rfl,h.cell 6 _ rfl,h.cell 7 _ rfl,h.cell 8 _ rfl,h.cell 9 _ rfl,h.cell 10 _ rfl,h.cell 11 _ rfl,h.bf 0 _ rfl,h.bf 1 _ rfl,h.bf 2 _ rfl,h.bf 3 _ rfl,h.bf 4 _ rfl,h.bf 5 _ rfl,h.bf 6 _ rfl,h.bf 7 _ rfl,h.bf 8 _ rfl,h.bf 9 _ rfl,h.bf 10 _ rfl,h.bf 11 _ rfl⟩
abbrev Gi (n:Int)(q:Value)(m:Mv):Array Value:=#[aa n,q,aa m.a.n,aa m.a.d,aa m.b.n,aa m.b.d,aa m.c.n,aa m.c.d,aa m.d.n,aa m.d.d,aa m.e.n,aa m.e.d,aa m.f.n,aa m.f.d]
def MvR (E:Nat->Addr)(x:Except Nat Mv)(e:Ending)(w':World):Prop:=match x with
 | .ok m=>e=.returned (.tuple #[mv m,.nilIface])
 | .error c=>∃v,e=.returned (.tuple #[mv .zero,v])/\BB E c v w'
theorem Ro (kd:Kd)(ws:List ByteArray):(E9 kd ws).2=0\/(E9 kd ws).2=1\/(E9 kd ws).2=2\/(E9 kd ws).2=3:=by
 have hr:∀a:ByteArray,xV a=0\/xV a=1\/xV a=2\/xV a=3:=fun a=>by
  unfold xV;rcases Bh a.data.toList with h|⟨h, -⟩
  ·exact .inl h
  ·exact .inr h
 have h2:∀(mk:Fr->Fr->Mv) (a b:ByteArray),(lG mk a b).2=0\/(lG mk a b).2=1\/(lG mk a b).2=2\/(lG mk a b).2=3:=fun mk a b=>by
  unfold lG;split
  ·exact hr a
  ·split
   ·exact hr b
   ·exact .inl rfl
 unfold E9;split
 ·exact h2 _ _ _
 ·exact h2 _ _ _
 ·unfold Am;split
  ·exact .inl rfl
  ·split
   ·exact .inl rfl
   ·split
    ·exact .inl rfl
    ·split
     ·exact .inl rfl
     ·exact .inr (.inl rfl)
 ·unfold rd1;split
  ·exact hr _
  ·exact .inl rfl
 ·exact .inr (.inl rfl)
theorem yu:∀(f:Nat) (ws:List ByteArray) (acc:List Mv),(dV f ws acc).2=0\/(dV f ws acc).2=1\/(dV f ws acc).2=2\/(dV f ws acc).2=3
 |_,[],_=>.inl (by simp[dV])
 |0,_::_,_=>.inr (.inl rfl)
 |f+1,k::ws,acc=>by
  unfold dV;cases hk:qg k with
  |none=>exact .inr (.inl rfl)
  |some kd=>
   dsimp only;split
   ·exact .inr (.inl rfl)
   ·split
    ·exact yu f _ _
    ·exact Ro kd ws
theorem JP (s:ByteArray):(iD s).2=0\/(iD s).2=1\/(iD s).2=2\/(iD s).2=3:=by
 unfold iD;split
 ·rcases Es (kU s).1.reverse .one with h|h
  ·exact .inl h
  ·rw[h];exact .inr (.inr (.inl rfl))
 ·unfold kU;split
  ·exact .inl rfl
  ·exact yu _ _ _
theorem JQ {s:ByteArray}(h:(iD s).2=0):(iD s).1.ok:=by
 unfold iD at h⊢;by_cases hl:(kU s).2=0
 ·rw[if_pos hl] at h⊢;refine Bj _ _ Al (fun n hn=>?_) h;unfold kU at hl hn;by_cases h0:s.size=0
  ·rw[if_pos h0] at hn;simp at hn
  ·rw[if_neg h0] at hl hn;exact Ao _ _ _ (by simp) hl n (List.mem_reverse.1 hn)
 ·rw[if_neg hl] at h;exact absurd h hl
theorem a3N {E:Nat->Addr}{c:Nat}(h:c=1\/c=2\/c=3):er0 (E 1) (E 2) (E 3) c=eV (E c):=by
 rcases h with rfl|rfl|rfl<;>rfl
theorem oU (hN:NE E W)(hd:bG B tg W DB MB p M nx c)(hz:SzD M)(WB:Nat)(hw:W.cell? (ag WB 0)=some (aj DB))(n:Int)(hn:dH n)(PB:Nat)(k:Int)(q:Value)(m:Mv)(hm:m.ok)(hp:W.heap[PB]? =some (.cells (Gi k q m) 132)):
  ak 97 #[aj WB,aa n,aj PB] W fun e w'=>MvR E (iG M n m) e w'/\Below W.heap.size W w':=by
 have b0:=aW W (.cells zA 129);have K0:=bN.new W zA 129;have AT:=l8 (hd.below b0) n hn yg;have hw0:=(b0.cell (ay hw)).trans hw;rw[qV] at AT;have hl:=JN hz n yg;unfold iG;unfold FM at hl⊢;generalize (atM M n yg).getD []=s at AT hl⊢;generalize (atM M n yg).isSome=bo at AT;have hsz:(⟨s.toArray⟩:ByteArray).size<=200:=hl;have RD:=fun V (hV:NE E V)=>VP (aT:=E 1) (aB:=E 2) (aS:=E 3) ⟨s.toArray⟩ (by omega) V hV.e4;have HN:Hid (NE E W):=hN;have hrc:=JP ⟨s.toArray⟩;have hro:(iD ⟨s.toArray⟩).2=0->(iD ⟨s.toArray⟩).1.ok:=JQ;obtain⟨rm,rc,hr⟩:∃a b,iD ⟨s.toArray⟩=(a,b):=⟨_,_,rfl⟩;simp only[hr] at RD hrc hro⊢;clear hr hN hd hl;by_cases hc:rc=0
 ·subst hc;have hro:=hro rfl;have hpl:=aN hp;rw[if_neg (by simp)];simp only[show er0 (E 1) (E 2) (E 3) 0=.nilIface from rfl] at RD;by_cases ht:(thenS rm m).2=0
  ·rw[if_pos ht];have TH:=fun V (hV:NE E V)=>Om (aB:=E 2) (aS:=E 3) (aZ:=E 2) (l9 hro) (l9 hm) (J3 hro hm (FX ht)) V hV.e3;generalize (thenS rm m).1=x at TH⊢;clear ht hrc;go_enter func97,ntmps97;go_upto_region 5 with(first|(go_at_call 17;refine AT.mono ?_;rintro e w1 ⟨rfl,b1⟩;have R1:=RD w1 (HN.out.below (az b0 b1)))|(go_at_call 144;refine R1.mono ?_;rintro e w2 ⟨rfl,b2⟩));have b3:=aW w2 (.cells (mA rm) 129);have KM:=bN.new w2 (mA rm) 129;have bU:=az (az b0 b1) (az b2 b3);have K0U:=K0.below (az b1 (az b2 b3)) eU;have vN:=(bU.block _ hpl).trans hp;have hlt:W.heap.size<w2.heap.size:=by have:=b1.size;have:=b2.size;simp at*;omega
   obtain⟨U,hU⟩:∃U,w2.alloc (.cells (mA rm) 129)=U:=⟨_,rfl⟩;rw[hU] at bU K0U vN KM⊢;obtain⟨RB,hRB⟩:∃r,w2.heap.size=r:=⟨_,rfl⟩;rw[hRB] at KM hlt⊢;have NU:=HN.out.below bU;have TU:=fun V (hV:Below U.heap.size U V)=>TH V (NU.below hV);clear hU b0 b1 b2 b3 AT RD R1 TH hw0 K0 hp;have T1:=TU U.drew (below_drewN (Below.refl _ _) 1);obtain⟨m0,m1,m2,m3,m4,m5,m6,m7,m8,m9,m10,m11, -⟩:=KM.JO;have p2:=aA vN 2 _ rfl;have p3:=aA vN 3 _ rfl;have p4:=aA vN 4 _ rfl;have p5:=aA vN 5 _ rfl;have p6:=aA vN 6 _ rfl;have p7:=aA vN 7 _ rfl;have p8:=aA vN 8 _ rfl;have p9:=aA vN 9 _ rfl;have p10:=aA vN 10 _ rfl;have p11:=aA vN 11 _ rfl;have p12:=aA vN 12 _ rfl;have p13:=aA vN 13 _ rfl;have RF:∀V,Below U.heap.size U.drew V->bN V W.heap.size zA 129:=fun V hV=>⟨(hV.block _ K0U.lt).trans K0U.h⟩;clear vN KM
   go_region_with (go_at_call 145;refine T1.mono ?_;rintro e w3 ⟨rfl,b4⟩;obtain⟨z0,z1,z2,z3,z4,z5,z6,z7,z8,z9,z10,z11,y0,y1,y2,y3,y4,y5,y6,y7,y8,y9,Ya,y11⟩:=(RF w3 b4).JO)
   all_goals go_wp2_with fail
   all_goals refine bodyPost_ret (v:=.tuple #[mv x,.nilIface]) (by simp[results,results97,go_sem,z0,z1,z2,z3,z4,z5,z6,z7,z8,z9,z10,z11]) rfl ⟨rfl,?_⟩
   all_goals exact aJ (R:=W.heap.size) eU (mL x) 0 (bU.trans ((below_drewN (Below.refl _ _) 1).trans (b4.mono eU)|>.mono bU.size))
  ·rw[if_neg ht];have TH:∀V,NE E V->ak 145 #[mv rm,mv m] V fun e w'=>(∃v,e=.returned (.tuple #[mv .zero,v])/\Er.is (E 2) (E 3) (E 2) V.heap.size (.bare 2) v w')/\Below V.heap.size V w':=fun V hV=>by
    have h:=Oo (aB:=E 2) (aS:=E 3) (aZ:=E 2) (l9 hro) (l9 hm) (fun y e=>ht (by rw[(J4 e).2.2])) V hV.e3;have h2:(pJ rm m).2=.bare 2:=by
     unfold pJ;rw[if_neg (fun e=>e (oM hro)),if_neg (fun e=>e (oM hm)),if_neg ht]
    rw[h2] at h;exact h
   clear ht hrc;go_enter func97,ntmps97;go_upto_region 5 with(first|(go_at_call 17;refine AT.mono ?_;rintro e w1 ⟨rfl,b1⟩;have R1:=RD w1 (HN.out.below (az b0 b1)))|(go_at_call 144;refine R1.mono ?_;rintro e w2 ⟨rfl,b2⟩));have b3:=aW w2 (.cells (mA rm) 129);have KM:=bN.new w2 (mA rm) 129;have bU:=az (az b0 b1) (az b2 b3);have K0U:=K0.below (az b1 (az b2 b3)) eU;have vN:=(bU.block _ hpl).trans hp;have hlt:W.heap.size<w2.heap.size:=by have:=b1.size;have:=b2.size;simp at*;omega
   obtain⟨U,hU⟩:∃U,w2.alloc (.cells (mA rm) 129)=U:=⟨_,rfl⟩;rw[hU] at bU K0U vN KM⊢;obtain⟨RB,hRB⟩:∃r,w2.heap.size=r:=⟨_,rfl⟩;rw[hRB] at KM hlt⊢;have NU:=HN.out.below bU;have TU:=fun V (hV:Below U.heap.size U V)=>TH V (NU.below hV);clear hU b0 b1 b2 b3 AT RD R1 TH hw0 K0 hp;have T1:=TU U.drew (below_drewN (Below.refl _ _) 1);obtain⟨m0,m1,m2,m3,m4,m5,m6,m7,m8,m9,m10,m11, -⟩:=KM.JO;have p2:=aA vN 2 _ rfl;have p3:=aA vN 3 _ rfl;have p4:=aA vN 4 _ rfl;have p5:=aA vN 5 _ rfl;have p6:=aA vN 6 _ rfl;have p7:=aA vN 7 _ rfl;have p8:=aA vN 8 _ rfl;have p9:=aA vN 9 _ rfl;have p10:=aA vN 10 _ rfl;have p11:=aA vN 11 _ rfl;have p12:=aA vN 12 _ rfl;have p13:=aA vN 13 _ rfl;have RF:∀V,Below U.heap.size U.drew V->bN V W.heap.size zA 129:=fun V hV=>⟨(hV.block _ K0U.lt).trans K0U.h⟩;clear vN KM
   go_region_with (go_at_call 145;refine T1.mono ?_;rintro e w3 ⟨⟨ev,rfl,hev⟩,b4⟩;obtain⟨z0,z1,z2,z3,z4,z5,z6,z7,z8,z9,z10,z11,y0,y1,y2,y3,y4,y5,y6,y7,y8,y9,Ya,y11⟩:=(RF w3 b4).JO)
   all_goals go_wp2_with fail
   all_goals refine bodyPost_ret (v:=.tuple #[mv .zero,ev]) (by simp[results,results97,go_sem,Mv.zero,Fr.zero,z0,z1,z2,z3,z4,z5,z6,z7,z8,z9,z10,z11]) rfl ⟨⟨ev,rfl,by decide,by decide,.inl hev.2⟩,?_⟩
   all_goals exact aJ (R:=W.heap.size) eU zL 0 (bU.trans ((below_drewN (Below.refl _ _) 1).trans (b4.mono eU)|>.mono bU.size))
 ·have hrc:rc=1\/rc=2\/rc=3:=hrc.resolve_left hc;rw[if_pos hc];simp only[a3N hrc] at RD;have HRC:Hid (rc=1\/rc=2\/rc=3):=hrc;clear hrc hro;go_enter func97,ntmps97;go_wp2_with(first|(go_at_call 17;refine AT.mono ?_;rintro e w1 ⟨rfl,b1⟩;have R1:=RD w1 (HN.out.below (az b0 b1)))|(go_at_call 144;refine R1.mono ?_;rintro e w2 ⟨rfl,b2⟩;obtain⟨z0,z1,z2,z3,z4,z5,z6,z7,z8,z9,z10,z11,y0,y1,y2,y3,y4,y5,y6,y7,y8,y9,Ya,y11⟩:=((K0.below (az b1 b2) eU).alloc (.cells (mA rm) 129)).JO));refine bodyPost_ret (v:=.tuple #[mv .zero,eV (E rc)]) (by simp[results,results97,go_sem,Mv.zero,Fr.zero,z0,z1,z2,z3,z4,z5,z6,z7,z8,z9,z10,z11]) rfl ⟨⟨_,rfl,by have:=HRC.out;omega,by have:=HRC.out;omega,.inl rfl⟩,?_⟩;exact aJ (R:=W.heap.size) eU zL 0 ((az b0 (az b1 b2)).alloc (az b0 (az b1 b2)).size _)
end
end
end Go.Proofs.YtjfiehbcamfdfaaGreatDoor

/- Parts of the proof. -/
import Derived.Lib.AppendIntMem
import Derived.Lib.ItoaLen
import Derived.Test.YtecneflbncjhpaaGreatDoorQp25
namespace Go.Proofs.YtecneflbncjhpaaGreatDoor
open Go.Proofs.Tryz
set_option maxHeartbeats 8000000
section
open Go.RowKit
def mk (n d:Int):R3:=if d=0 then⟨0,0,11⟩ else if gu n=true\/gu d=true then⟨0,0,2⟩ else low n d
structure G (aB aS aZ:Addr)(w:ag):Prop where
 e3:E3 aB aS aZ w
 z:EZ aZ w
 tab:Lib.TabIs prog w "internal/strconv.uint64pow10" .u64 Lib.pow10Tab
theorem a6a:prog.globalNamed "internal/strconv.uint64pow10"=some 13:=by kernel_rfl
theorem Gi {w w':ag}{B:Nat}(h:Lib.TabIs prog w "internal/strconv.uint64pow10" .u64 Lib.pow10Tab)(hb:Below B w w')(hB:w.heap.size<=B):Lib.TabIs prog w' "internal/strconv.uint64pow10" .u64 Lib.pow10Tab:=
 var?_below hb a6a (bI (aF (h.cell a6a 0 (by simp[Lib.pow10Tab]))) hB) h
theorem G.below {aB aS aZ:Addr}{w w':ag}{B:Nat}(h:G aB aS aZ w)(hb:Below B w w')(hB:w.heap.size<=B):G aB aS aZ w':=⟨h.e3.below hb hB,h.z.below hb hB,Gi h.tab hb hB⟩
theorem G.alloc {aB aS aZ:Addr}{w:ag}(h:G aB aS aZ w)(o:Obj):G aB aS aZ (w.alloc o):=
 h.below ((aG w.heap.size w).alloc ai o) ai
theorem G.drewN {aB aS aZ:Addr}{w:ag}(h:G aB aS aZ w)(k:Nat):G aB aS aZ (w.drewN k):=h.below (below_drewN (aG w.heap.size w) k) ai
theorem YB (aB aS aZ:Addr)(n d:Int)(w:ag)(hn:jH n)(hd:jH d)(h:E3 aB aS aZ w)(hZ:EZ aZ w):
  au 164 #[aa n,aa d] w fun e w'=>e=.returned (.tuple #[.agg #[aa (mk n d).n,aa (mk n d).d],er aB aS aZ (mk n d).c])/\Below w.heap.size w w':=by
 obtain⟨n1,n2⟩:=hn;obtain⟨d1,d2⟩:=hd;have hlt:=aF hZ.z;have hlt':=aF h.b;simp only at hlt hlt';have hne:¬w.heap.size=10:=by omega
 have hne':¬10=w.heap.size:=by omega
 have hne1:¬w.heap.size=0:=by omega
 have ai5:¬0=w.heap.size:=by omega
 have hcZ:=(hZ.alloc (.cells #[aa 0,aa 0] 123)).z;have hcB:=(h.alloc (.cells #[aa 0,aa 0] 123)).b;clear hlt hlt';by_cases hd0:d=0
 ·subst hd0;have hm:mk n 0=⟨0,0,11⟩:=by unfold mk;rw[if_pos rfl]
  rw[hm];clear hm;go_enter func164,ntmps164;go_wp2;go_region;go_wp2;refine bodyPost_ret (v:=.tuple #[.agg #[aa 0,aa 0],.iface 401 (.pointer (some aZ))]) (by simp[results,results164,go_sem]) rfl ⟨rfl,?_⟩;exact((aG _ _).alloc ai _).drew
 by_cases b1:gu n=true
 ·have hm:mk n d=⟨0,0,2⟩:=by unfold mk;rw[if_neg hd0,if_pos (Or.inl b1)]
  rw[hm];clear hm;go_enter func164,ntmps164;go_wp2_with(go_at_call 215;refine(dQ _ _ (by omega) (by omega)).mono ?_;rintro e w' ⟨rfl,rfl⟩);go_region;go_wp2;refine bodyPost_ret (v:=.tuple #[.agg #[aa 0,aa 0],.iface 401 (.pointer (some aB))]) (by simp[results,results164,go_sem]) rfl ⟨rfl,?_⟩;exact((aG _ _).alloc ai _).drew
 have b1:gu n=false:=by simpa using b1
 by_cases b2:gu d=true
 ·have hm:mk n d=⟨0,0,2⟩:=by unfold mk;rw[if_neg hd0,if_pos (Or.inr b2)]
  rw[hm];clear hm;go_enter func164,ntmps164;go_wp2_with(go_at_call 215;refine(dQ _ _ (by omega) (by omega)).mono ?_;rintro e w' ⟨rfl,rfl⟩);go_region;go_wp2;refine bodyPost_ret (v:=.tuple #[.agg #[aa 0,aa 0],.iface 401 (.pointer (some aB))]) (by simp[results,results164,go_sem]) rfl ⟨rfl,?_⟩;exact((aG _ _).alloc ai _).drew
 have b2:gu d=false:=by simpa using b2
 have hm:mk n d=low n d:=by unfold mk;rw[if_neg hd0,if_neg (by simp[b1,b2])]
 rw[hm];clear hm;have l1:=yI.1 b1;have l2:=yI.1 b2;have l11: -1073741824<=n:=by omega
 have l12:n<=1073741824:=by omega
 have l21: -1073741824<=d:=by omega
 have l22:d<=1073741824:=by omega
 clear l1 l2;go_enter func164,ntmps164;go_wp2_with(first|(go_at_call 215;refine(dQ _ _ (by omega) (by omega)).mono ?_;rintro e w' ⟨rfl,rfl⟩)|(go_at_call 216;refine(uM aB aS aZ _ _ _ (by omega) (by omega) hd0 (by omega) (by omega) ?_).mono ?_;exact h.alloc _;rintro e w2 ⟨rfl,hb2⟩;obtain⟨s1,s2,s3,s4⟩:=Two.below (Two.new w _ _ _) hb2 ai));refine bodyPost_ret (v:=.tuple #[.agg #[aa (low n d).n,aa (low n d).d],er aB aS aZ (low n d).c]) (by simp[results,results164,go_sem,s1,s2]) rfl ⟨rfl,?_⟩;exact((((aG _ _).alloc ai _).trans (hb2.mono (by simp))).setCell (by exact Nat.le_refl _) _).setCell (by exact Nat.le_refl _) _
theorem D9 (n:Int)(w:ag)(hn:jH n)(htab:Lib.TabIs prog w "internal/strconv.uint64pow10" .u64 Lib.pow10Tab):
  au 111 #[aa n] w fun e w'=>e=.returned (.string ⟨(Lib.itoa n).toArray⟩)/\Below w.heap.size w w':=by
 refine(Tryz.strconv_Itoa n hn.1 hn.2 w htab).mono ?_;rintro e w' ⟨rfl,k,os,rfl⟩;exact⟨rfl,Lib.below_grow _ _ ai k os⟩
theorem Iy (n:Int)(s:aC)(w:ag)(hn:jH n)(hs:(⟨(Lib.itoa n).toArray⟩:aC)=s)(htab:Lib.TabIs prog w "internal/strconv.uint64pow10" .u64 Lib.pow10Tab):
  au 111 #[aa n] w fun e w'=>e=.returned (.string s)/\Below w.heap.size w w':=by
 subst hs;exact D9 n w hn htab
theorem oC (n:Int)(hn:jH n):∃s:aC,(⟨(Lib.itoa n).toArray⟩:aC)=s/\s.size<=21/\s.data.toList=Lib.itoa n:=
 ⟨_,rfl,by have:=Lib.itoa_length_le n hn.1 hn.2;simpa[ByteArray.size] using this,by simp⟩
def Dc (n d:Int):List UInt8:=if d=1 then Lib.itoa n else Lib.itoa n++47::Lib.itoa d
theorem YC (aB aS aZ:Addr)(n d:Int)(w:ag)(hn:jH n)(hd:jH d)(h:G aB aS aZ w):
  au 165 #[.agg #[aa n,aa d]] w fun e w'=>e=.returned (.string ⟨(Dc n d).toArray⟩)/\Below w.heap.size w w':=by
 by_cases hd1:d=1
 ·subst hd1;have ht:Dc n 1=Lib.itoa n:=by unfold Dc;rw[if_pos rfl]
  rw[ht];go_enter func165,ntmps165;go_wp2_with(go_at_call 111;refine(D9 _ _ hn ?_).mono ?_;exact(h.alloc _).tab;rintro e w1 ⟨rfl,hb⟩);go_ret;exact⟨rfl,((aG _ _).alloc ai _).trans (hb.mono (by simp))⟩
 ·obtain⟨sn,en,zn,ln⟩:=oC n hn;obtain⟨sd,ed,zd,ld⟩:=oC d hd;have ht:(⟨(Dc n d).toArray⟩:aC)=sn++⟨#[47]⟩++sd:=by
   unfold Dc;rw[if_neg hd1,<- en,<- ed];apply ByteArray.ext;simp
  rw[ht];have EN:=aj en;have ED:=aj ed;have hA:¬9223372036854775807<sn.size+1:=by omega
  have hB:¬9223372036854775807<sn.size+1+sd.size:=by omega
  clear ht en ed ln ld;go_enter func165,ntmps165;go_wp2
  go_region_held3 (fun w'=>w'.cell? ⟨w.heap.size,0,none⟩=some (aa n)/\w'.cell? ⟨w.heap.size,1,none⟩=some (aa d)) (go_keep) (first|(go_at_call_of 111 n;refine(Iy _ sn _ hn EN.out ?_).mono ?_;exact((h.alloc _).drewN 1).tab;rintro e w1 ⟨rfl,hb⟩;obtain⟨s1,s2,s3,s4⟩:=Two.below ((Two.new w _ _ _).drewN 1) hb ai)|(go_at_call_of 111 d;refine(Iy _ sd _ hd ED.out ?_).mono ?_;exact(((h.alloc _).drewN 1).below hb ai).tab;rintro e w2 ⟨rfl,hb2⟩;obtain⟨u1,u2,u3,u4⟩:=Two.below ⟨s1,s2,s3,s4⟩ hb2 ai))
  go_wp2;go_ret;exact⟨rfl,(((aG _ _).alloc ai _).drew.trans (hb.mono (by simp))).trans (hb2.mono (by have:=hb.size;simp at this;omega))⟩
end
section
open Go.RowKit Go.Shelf
theorem NE.below {E:Nat->Addr}{w w':ag}(h:NE E w)(hb:Below w.heap.size w w'):NE E w':=by
 obtain⟨c1,c2,c3,c7,c9,c10,⟨a,sy⟩,⟨a',rg⟩,tab,blk,ne⟩:=h;have C:=fun{x:Addr} {v:ah} (hx:w.cell? x=some v)=>(hb.cell (aF hx)).trans hx;refine⟨C c1,C c2,C c3,C c7,C c9,C c10,⟨a,C sy⟩,⟨a',C rg⟩,?_,fun k h1 h2=>?_,ne⟩
 ·exact Gi tab hb ai
 ·obtain⟨c,t,hc⟩:=blk k h1 h2;exact⟨c,t,(hb.block _ (bu hc)).trans hc⟩
theorem EG {E:Nat->Addr}{w:ag}(h:NE E w)(s:Bs)(hs:s.length<=1000000):
  au 192 #[bV s] w fun e w'=>e=.returned (aa (G6 s))/\Below w.heap.size w w':=by
 have hsz:(⟨s.toArray⟩:aC).size<=1000000:=hs;have hls:(⟨s.toArray⟩:aC).data.toList=s:=rfl;unfold G6;cases ha:Lib.atoiAll s with
 |«syntax»=>
  obtain⟨a,sy⟩:=h.sy;have AT:=Tryz.strconv_Atoi_syntax ⟨s.toArray⟩ (by omega) (by rw[hls];exact ha) (eV a) w sy (.inr ⟨_,_,rfl⟩);clear h sy ha;go_enter func192,ntmps192;go_wp2_with(go_at_call 235;refine AT.mono ?_;rintro e w1 ⟨nb,rfl, -, -,b1⟩);go_ret;exact⟨rfl,b1⟩
 |range=>
  obtain⟨a,rg⟩:=h.rg;have AT:=Tryz.strconv_Atoi_range ⟨s.toArray⟩ (by omega) (by rw[hls];exact ha) (eV a) w rg (.inr ⟨_,_,rfl⟩);clear h rg ha;go_enter func192,ntmps192;go_wp2_with(go_at_call 235;refine AT.mono ?_;rintro e w1 ⟨nb,rfl, -, -,b1⟩);go_ret;exact⟨rfl,b1⟩
 |ok v=>
  have AT:au 235 #[.string ⟨s.toArray⟩] w fun e w'=>e=.returned (.tuple #[aa v,.nilIface])/\Below w.heap.size w w':=by
   refine(Tryz.strconv_Atoi_ok ⟨s.toArray⟩ (by omega) v (by rw[hls];exact ha) w).mono ?_;rintro e w1 ⟨rfl,rfl|⟨t,rfl⟩⟩
   ·exact⟨rfl,aG _ _⟩
   ·exact⟨rfl,rfl,rfl,rfl,by rw[Lib.bytesWorld_size];omega,fun j hj=>Lib.bytesWorld_at_old w _ _ j hj⟩
  clear ha;dsimp only;by_cases h0:v<0
  ·rw[if_neg (by omega)];go_enter func192,ntmps192;go_wp2_with(go_at_call 235;refine AT.mono ?_;rintro e w1 ⟨rfl,b1⟩);go_ret;exact⟨rfl,b1⟩
  ·by_cases h9:999<v
   ·rw[if_neg (by omega)];go_enter func192,ntmps192;go_wp2_with(go_at_call 235;refine AT.mono ?_;rintro e w1 ⟨rfl,b1⟩);go_ret;exact⟨rfl,b1⟩
   ·have IT:=fun V (hV:NE E V)=>D9 v V ⟨by omega,by omega⟩ hV.tab;have HN:=aj h;clear h;by_cases hi:Lib.itoa v=s
    ·rw[if_pos ⟨by omega,by omega,hi⟩];rw[hi] at IT;go_enter func192,ntmps192;go_wp2_with(first|(go_at_call 235;refine AT.mono ?_;rintro e w1 ⟨rfl,b1⟩;have I1:=IT w1 (HN.out.below b1))|(go_at_call 111;refine I1.mono ?_;rintro e w2 ⟨rfl,b2⟩));go_ret;exact⟨rfl,aH b1 b2⟩
    ·rw[if_neg (fun h=>hi h.2.2)];obtain⟨t,ht⟩:∃t,Lib.itoa v=t:=⟨_,rfl⟩;rw[ht] at IT;have hq:=gD t s;have hq1:(t==s)=false:=by rw[<- ht];simpa using hi
     rw[hq1] at hq;clear hi ht;go_enter func192,ntmps192;go_wp2_with(first|(go_at_call 235;refine AT.mono ?_;rintro e w1 ⟨rfl,b1⟩;have I1:=IT w1 (HN.out.below b1))|(go_at_call 111;refine I1.mono ?_;rintro e w2 ⟨rfl,b2⟩));go_ret;exact⟨rfl,aH b1 b2⟩
end
section
open Go.RowKit Go.Shelf
set_option maxRecDepth 20000
theorem NE.e3 {E:Nat->Addr}{w:ag}(h:NE E w):E3 (E 2) (E 3) (E 2) w:=⟨h.c2,h.c3,rfl⟩
theorem NE.e4 {E:Nat->Addr}{w:ag}(h:NE E w):E4 (E 1) (E 2) (E 3) w:=⟨h.e3,h.c1⟩
theorem rQ (M:Dm)(n:Int)(nm:Bs):Ov M n nm=zQ M n nm:=rfl
def SzD (M:Dm):Prop:=∀n e,M n=some e->∀a∈e.ats,a.2.length<=200
theorem Iz {M:Dm}(h:SzD M){n:Int}{nm s:Bs}(ha:zQ M n nm=some s):s.length<=200:=by
 unfold zQ at ha;cases hm:M n with
 |none=>rw[hm] at ha;cases ha
 |some e=>
  rw[hm] at ha;simp only[kQ,Option.map_eq_some_iff] at ha;obtain⟨a,h1,h2⟩:=ha;have:=h n e hm a (List.mem_of_find?_eq_some h1);rw[h2] at this;exact this
theorem Ma {M:Dm}(h:SzD M)(n:Int)(nm:Bs):(I4 M n nm).length<=200:=by
 unfold I4;cases ha:zQ M n nm with
 |none=>simp
 |some s=>exact Iz h ha
section
variable {E:Nat->Addr}{B:Nat}{tg:bP}{W:ag}{DB MB:Nat}{p:Int->Option Nat}{M:Dm}{nx c:Nat}
theorem OZ (hN:NE E W)(hd:aX B tg W DB MB p M nx c)(hz:SzD M)(WB:Nat)(hw:W.cell? (ak WB 0)=some (ay DB))(n:Int)(hn:dR n)(nm:Bs):
  au 193 #[ay WB,aa n,bV nm] W fun e w'=>e=.returned (.tuple #[.agg #[aa (fJ M n nm).n,aa (fJ M n nm).d],Nf (E 1) (E 2) (E 3) (E 2) (fJ M n nm).c])/\Below W.heap.size W w':=by
 have b0:=bT W (.cells #[aa 0,aa 0] 123);have T0:=Two.new W (aa 0) (aa 0) 123;have AT:=jP (hd.below b0) n hn nm;have hw0:=(b0.cell (aF hw)).trans hw;rw[rQ] at AT;unfold fJ;cases ha:zQ M n nm with
 |none=>
  rw[ha] at AT;clear hd ha;go_enter func193,ntmps193;go_wp2_with(go_at_call 137;refine AT.mono ?_;rintro e w1 ⟨rfl,b1⟩;obtain⟨t0,t1,f0,f1⟩:=T0.below b1 ai);refine bodyPost_ret (v:=.tuple #[.agg #[aa 0,aa 1],.nilIface]) (by simp[results,results193,go_sem,t0,t1]) rfl ⟨rfl,?_⟩;exact((aH b0 b1).setCell ai _).setCell ai _
 |some s=>
  rw[ha] at AT;have hs:=Iz hz ha;have hsz:(⟨s.toArray⟩:aC).size<=200:=hs;have RD:∀V,NE E V->au 236 #[bV s] V fun e w'=>e=.returned (.tuple #[.agg #[aa (rd s).n,aa (rd s).d],Nf (E 1) (E 2) (E 3) (E 2) (rd s).c])/\Below V.heap.size V w':=fun V hV=>sD (E 1) (E 2) (E 3) (E 2) ⟨s.toArray⟩ V hV.e3 hV.c1 (by omega);have HN:=aj hN;dsimp only;generalize rd s=x at RD⊢;obtain⟨ev,hev⟩:∃v,Nf (E 1) (E 2) (E 3) (E 2) x.c=v:=⟨_,rfl⟩;simp only[hev] at RD⊢;clear hd ha hN hev;go_enter func193,ntmps193;go_wp2_with(first|(go_at_call 137;refine AT.mono ?_;rintro e w1 ⟨rfl,b1⟩;have R1:=RD w1 (HN.out.below (aH b0 b1)))|(go_at_call 236;refine R1.mono ?_;rintro e w2 ⟨rfl,b2⟩;obtain⟨t0,t1,f0,f1⟩:=T0.below (aH b1 b2) ai));refine bodyPost_ret (v:=.tuple #[.agg #[aa x.n,aa x.d],ev]) (by simp[results,results193,go_sem,t0,t1]) rfl ⟨rfl,?_⟩;exact((aH b0 (aH b1 b2)).setCell ai _).setCell ai _
theorem dY.Mc {w:ag}{R:Nat}{v0 v1 v2 v3 v4 v5 v6 v7 v8 v9 v10 v11:ah}{t:TypeId}(h:dY w R #[v0,v1,v2,v3,v4,v5,v6,v7,v8,v9,v10,v11] t):
  w.cell? (ak R 0)=some v0/\w.cell? (ak R 1)=some v1/\w.cell? (ak R 2)=some v2/\w.cell? (ak R 3)=some v3/\w.cell? (ak R 4)=some v4/\w.cell? (ak R 5)=some v5/\w.cell? (ak R 6)=some v6/\w.cell? (ak R 7)=some v7/\w.cell? (ak R 8)=some v8/\w.cell? (ak R 9)=some v9/\w.cell? (ak R 10)=some v10/\w.cell? (ak R 11)=some v11/\
  w.frozen? ⟨R,0,none⟩=false/\w.frozen? ⟨R,1,none⟩=false/\w.frozen? ⟨R,2,none⟩=false/\w.frozen? ⟨R,3,none⟩=false/\w.frozen? ⟨R,4,none⟩=false/\w.frozen? ⟨R,5,none⟩=false/\w.frozen? ⟨R,6,none⟩=false/\w.frozen? ⟨R,7,none⟩=false/\w.frozen? ⟨R,8,none⟩=false/\w.frozen? ⟨R,9,none⟩=false/\w.frozen? ⟨R,10,none⟩=false/\w.frozen? ⟨R,11,none⟩=false:=
 ⟨h.cell 0 _ rfl,h.cell 1 _ rfl,h.cell 2 _ rfl,h.cell 3 _ rfl,h.cell 4 _ rfl,h.cell 5 _ rfl,h.cell 6 _ rfl,h.cell 7 _ rfl,h.cell 8 _ rfl,h.cell 9 _ rfl,h.cell 10 _ rfl,h.cell 11 _ rfl,h.di 0 _ rfl,h.di 1 _ rfl,h.di 2 _ rfl,h.di 3 _ rfl,h.di 4 _ rfl,h.di 5 _ rfl,h.di 6 _ rfl,h.di 7 _ rfl,h.di 8 _ rfl,h.di 9 _ rfl,h.di 10 _ rfl,h.di 11 _ rfl⟩
abbrev plA (n:Int)(q:ah)(m:Mv):Array ah:=#[aa n,q,aa m.a.n,aa m.a.d,aa m.b.n,aa m.b.d,aa m.c.n,aa m.c.d,aa m.d.n,aa m.d.d,aa m.e.n,aa m.e.d,aa m.f.n,aa m.f.d]
def MvR (E:Nat->Addr)(x:Except Nat Mv)(e:Ending)(w':ag):Prop:=match x with
 | .ok m=>e=.returned (.tuple #[mv m,.nilIface])
 | .error c=>∃v,e=.returned (.tuple #[mv .zero,v])/\Nj E c v w'
theorem Uw (kd:Kd)(ws:List aC):(FP kd ws).2=0\/(FP kd ws).2=1\/(FP kd ws).2=2\/(FP kd ws).2=3:=by
 have hr:∀a:aC,zh a=0\/zh a=1\/zh a=2\/zh a=3:=fun a=>by
  unfold zh;rcases Ct a.data.toList with h|⟨h, -⟩
  ·exact .inl h
  ·exact .inr h
 have h2:∀(mk:Fr->Fr->Mv) (a b:aC),(mQ mk a b).2=0\/(mQ mk a b).2=1\/(mQ mk a b).2=2\/(mQ mk a b).2=3:=fun mk a b=>by
  unfold mQ;split
  ·exact hr a
  ·split
   ·exact hr b
   ·exact .inl rfl
 unfold FP;split
 ·exact h2 _ _ _
 ·exact h2 _ _ _
 ·unfold BK;split
  ·exact .inl rfl
  ·split
   ·exact .inl rfl
   ·split
    ·exact .inl rfl
    ·split
     ·exact .inl rfl
     ·exact .inr (.inl rfl)
 ·unfold xu;split
  ·exact hr _
  ·exact .inl rfl
 ·exact .inr (.inl rfl)
theorem zI:∀(f:Nat) (ws:List aC) (acc:List Mv),(fP f ws acc).2=0\/(fP f ws acc).2=1\/(fP f ws acc).2=2\/(fP f ws acc).2=3
 |_,[],_=>.inl (by simp[fP])
 |0,_::_,_=>.inr (.inl rfl)
 |f+1,k::ws,acc=>by
  unfold fP;cases hk:qG k with
  |none=>exact .inr (.inl rfl)
  |some kd=>
   dsimp only;split
   ·exact .inr (.inl rfl)
   ·split
    ·exact zI f _ _
    ·exact Uw kd ws
theorem Md (s:aC):(je s).2=0\/(je s).2=1\/(je s).2=2\/(je s).2=3:=by
 unfold je;split
 ·rcases G7 (mq s).1.reverse .one with h|h
  ·exact .inl h
  ·rw[h];exact .inr (.inr (.inl rfl))
 ·unfold mq;split
  ·exact .inl rfl
  ·exact zI _ _ _
theorem Me {s:aC}(h:(je s).2=0):(je s).1.ok:=by
 unfold je at h⊢;by_cases hl:(mq s).2=0
 ·rw[if_pos hl] at h⊢;refine Cv _ _ BJ (fun n hn=>?_) h;unfold mq at hl hn;by_cases h0:s.size=0
  ·rw[if_pos h0] at hn;simp at hn
  ·rw[if_neg h0] at hl hn;exact BL _ _ _ (by simp) hl n (List.mem_reverse.1 hn)
 ·rw[if_neg hl] at h;exact absurd h hl
theorem a6b {E:Nat->Addr}{c:Nat}(h:c=1\/c=2\/c=3):er0 (E 1) (E 2) (E 3) c=eV (E c):=by
 rcases h with rfl|rfl|rfl<;>rfl
theorem P6 (hN:NE E W)(hd:aX B tg W DB MB p M nx c)(hz:SzD M)(WB:Nat)(hw:W.cell? (ak WB 0)=some (ay DB))(n:Int)(hn:dR n)(PB:Nat)(k:Int)(q:ah)(m:Mv)(hm:m.ok)(hp:W.heap[PB]? =some (.cells (plA k q m) 128)):
  au 91 #[ay WB,aa n,ay PB] W fun e w'=>MvR E (uC M n m) e w'/\Below W.heap.size W w':=by
 have b0:=bT W (.cells zA 125);have K0:=dY.new W zA 125;have AT:=jP (hd.below b0) n hn zx;have hw0:=(b0.cell (aF hw)).trans hw;rw[rQ] at AT;have hl:=Ma hz n zx;unfold uC;unfold I4 at hl⊢;generalize (zQ M n zx).getD []=s at AT hl⊢;generalize (zQ M n zx).isSome=bo at AT;have hsz:(⟨s.toArray⟩:aC).size<=200:=hl;have RD:=fun V (hV:NE E V)=>Y6 (aT:=E 1) (aB:=E 2) (aS:=E 3) ⟨s.toArray⟩ (by omega) V hV.e4;have HN:=aj hN;have hrc:=Md ⟨s.toArray⟩;have hro:(je ⟨s.toArray⟩).2=0->(je ⟨s.toArray⟩).1.ok:=Me;obtain⟨rm,rc,hr⟩:∃a b,je ⟨s.toArray⟩=(a,b):=⟨_,_,rfl⟩;simp only[hr] at RD hrc hro⊢;clear hr hN hd hl;by_cases hc:rc=0
 ·subst hc;have hro:=hro rfl;have hpl:=bu hp;rw[if_neg (by simp)];simp only[show er0 (E 1) (E 2) (E 3) 0=.nilIface from rfl] at RD;by_cases ht:(thenS rm m).2=0
  ·rw[if_pos ht];have TH:=fun V (hV:NE E V)=>Qw (aB:=E 2) (aS:=E 3) (aZ:=E 2) (mH hro) (mH hm) (KS hro hm (Ic ht)) V hV.e3;generalize (thenS rm m).1=x at TH⊢;clear ht hrc;go_enter func91,ntmps91;go_upto_region 5 with(first|(go_at_call 137;refine AT.mono ?_;rintro e w1 ⟨rfl,b1⟩;have R1:=RD w1 (HN.out.below (aH b0 b1)))|(go_at_call 146;refine R1.mono ?_;rintro e w2 ⟨rfl,b2⟩));have b3:=bT w2 (.cells (mA rm) 125);have KM:=dY.new w2 (mA rm) 125;have bU:=aH (aH b0 b1) (aH b2 b3);have K0U:=K0.below (aH b1 (aH b2 b3)) ai;have wX:=(bU.block _ hpl).trans hp;have hlt:W.heap.size<w2.heap.size:=by have:=b1.size;have:=b2.size;simp at*;omega
   obtain⟨U,hU⟩:∃U,w2.alloc (.cells (mA rm) 125)=U:=⟨_,rfl⟩;rw[hU] at bU K0U wX KM⊢;obtain⟨RB,P7⟩:∃r,w2.heap.size=r:=⟨_,rfl⟩;rw[P7] at KM hlt⊢;have NU:=HN.out.below bU;have TU:=fun V (hV:Below U.heap.size U V)=>TH V (NU.below hV);clear hU b0 b1 b2 b3 AT RD R1 TH hw0 K0 hp;have T1:=TU U.drew (below_drewN (aG _ _) 1);obtain⟨m0,m1,m2,m3,m4,m5,m6,m7,m8,m9,m10,m11, -⟩:=KM.Mc;have p2:=aD wX 2 _ rfl;have p3:=aD wX 3 _ rfl;have p4:=aD wX 4 _ rfl;have p5:=aD wX 5 _ rfl;have p6:=aD wX 6 _ rfl;have p7:=aD wX 7 _ rfl;have p8:=aD wX 8 _ rfl;have p9:=aD wX 9 _ rfl;have p10:=aD wX 10 _ rfl;have p11:=aD wX 11 _ rfl;have p12:=aD wX 12 _ rfl;have p13:=aD wX 13 _ rfl;have RF:∀V,Below U.heap.size U.drew V->dY V W.heap.size zA 125:=fun V hV=>⟨(hV.block _ K0U.lt).trans K0U.h⟩;clear wX KM
   go_region_with (go_at_call 147;refine T1.mono ?_;rintro e w3 ⟨rfl,b4⟩;obtain⟨z0,z1,z2,z3,z4,z5,z6,z7,z8,z9,z10,z11,y0,y1,y2,y3,y4,y5,y6,y7,y8,y9,y10,y11⟩:=(RF w3 b4).Mc)
   all_goals go_wp2_with fail
   all_goals refine bodyPost_ret (v:=.tuple #[mv x,.nilIface]) (by simp[results,results91,go_sem,z0,z1,z2,z3,z4,z5,z6,z7,z8,z9,z10,z11]) rfl ⟨rfl,?_⟩
   all_goals exact aW (R:=W.heap.size) ai (mL x) 0 (bU.trans ((below_drewN (aG _ _) 1).trans (b4.mono ai)|>.mono bU.size))
  ·rw[if_neg ht];have TH:∀V,NE E V->au 147 #[mv rm,mv m] V fun e w'=>(∃v,e=.returned (.tuple #[mv .zero,v])/\Er.is (E 2) (E 3) (E 2) V.heap.size (.bare 2) v w')/\Below V.heap.size V w':=fun V hV=>by
    have h:=Qx (aB:=E 2) (aS:=E 3) (aZ:=E 2) (mH hro) (mH hm) (fun y e=>ht (by rw[(KZ e).2.2])) V hV.e3;have h2:(qx rm m).2=.bare 2:=by
     unfold qx;rw[if_neg (fun e=>e (pK hro)),if_neg (fun e=>e (pK hm)),if_neg ht]
    rw[h2] at h;exact h
   clear ht hrc;go_enter func91,ntmps91;go_upto_region 5 with(first|(go_at_call 137;refine AT.mono ?_;rintro e w1 ⟨rfl,b1⟩;have R1:=RD w1 (HN.out.below (aH b0 b1)))|(go_at_call 146;refine R1.mono ?_;rintro e w2 ⟨rfl,b2⟩));have b3:=bT w2 (.cells (mA rm) 125);have KM:=dY.new w2 (mA rm) 125;have bU:=aH (aH b0 b1) (aH b2 b3);have K0U:=K0.below (aH b1 (aH b2 b3)) ai;have wX:=(bU.block _ hpl).trans hp;have hlt:W.heap.size<w2.heap.size:=by have:=b1.size;have:=b2.size;simp at*;omega
   obtain⟨U,hU⟩:∃U,w2.alloc (.cells (mA rm) 125)=U:=⟨_,rfl⟩;rw[hU] at bU K0U wX KM⊢;obtain⟨RB,P7⟩:∃r,w2.heap.size=r:=⟨_,rfl⟩;rw[P7] at KM hlt⊢;have NU:=HN.out.below bU;have TU:=fun V (hV:Below U.heap.size U V)=>TH V (NU.below hV);clear hU b0 b1 b2 b3 AT RD R1 TH hw0 K0 hp;have T1:=TU U.drew (below_drewN (aG _ _) 1);obtain⟨m0,m1,m2,m3,m4,m5,m6,m7,m8,m9,m10,m11, -⟩:=KM.Mc;have p2:=aD wX 2 _ rfl;have p3:=aD wX 3 _ rfl;have p4:=aD wX 4 _ rfl;have p5:=aD wX 5 _ rfl;have p6:=aD wX 6 _ rfl;have p7:=aD wX 7 _ rfl;have p8:=aD wX 8 _ rfl;have p9:=aD wX 9 _ rfl;have p10:=aD wX 10 _ rfl;have p11:=aD wX 11 _ rfl;have p12:=aD wX 12 _ rfl;have p13:=aD wX 13 _ rfl;have RF:∀V,Below U.heap.size U.drew V->dY V W.heap.size zA 125:=fun V hV=>⟨(hV.block _ K0U.lt).trans K0U.h⟩;clear wX KM
   go_region_with (go_at_call 147;refine T1.mono ?_;rintro e w3 ⟨⟨ev,rfl,hev⟩,b4⟩;obtain⟨z0,z1,z2,z3,z4,z5,z6,z7,z8,z9,z10,z11,y0,y1,y2,y3,y4,y5,y6,y7,y8,y9,y10,y11⟩:=(RF w3 b4).Mc)
   all_goals go_wp2_with fail
   all_goals refine bodyPost_ret (v:=.tuple #[mv .zero,ev]) (by simp[results,results91,go_sem,Mv.zero,Fr.zero,z0,z1,z2,z3,z4,z5,z6,z7,z8,z9,z10,z11]) rfl ⟨⟨ev,rfl,by decide,by decide,.inl hev.2⟩,?_⟩
   all_goals exact aW (R:=W.heap.size) ai zL 0 (bU.trans ((below_drewN (aG _ _) 1).trans (b4.mono ai)|>.mono bU.size))
 ·have hrc:rc=1\/rc=2\/rc=3:=hrc.resolve_left hc;rw[if_pos hc];simp only[a6b hrc] at RD;have HRC:=aj hrc;clear hrc hro;go_enter func91,ntmps91;go_wp2_with(first|(go_at_call 137;refine AT.mono ?_;rintro e w1 ⟨rfl,b1⟩;have R1:=RD w1 (HN.out.below (aH b0 b1)))|(go_at_call 146;refine R1.mono ?_;rintro e w2 ⟨rfl,b2⟩;obtain⟨z0,z1,z2,z3,z4,z5,z6,z7,z8,z9,z10,z11,y0,y1,y2,y3,y4,y5,y6,y7,y8,y9,y10,y11⟩:=((K0.below (aH b1 b2) ai).alloc (.cells (mA rm) 125)).Mc));refine bodyPost_ret (v:=.tuple #[mv .zero,eV (E rc)]) (by simp[results,results91,go_sem,Mv.zero,Fr.zero,z0,z1,z2,z3,z4,z5,z6,z7,z8,z9,z10,z11]) rfl ⟨⟨_,rfl,by have:=HRC.out;omega,by have:=HRC.out;omega,.inl rfl⟩,?_⟩;exact aW (R:=W.heap.size) ai zL 0 ((aH b0 (aH b1 b2)).alloc (aH b0 (aH b1 b2)).size _)
end
end
end Go.Proofs.YtecneflbncjhpaaGreatDoor

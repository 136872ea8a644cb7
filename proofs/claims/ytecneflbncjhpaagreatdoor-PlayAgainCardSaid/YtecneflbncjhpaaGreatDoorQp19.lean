/- Parts of the proof. -/
import Derived.Test.YtecneflbncjhpaaGreatDoorQp13
namespace Go.Proofs.YtecneflbncjhpaaGreatDoor
open Go.Proofs.Tryz
set_option maxHeartbeats 4000000
section
theorem R4 (s:Bs)(j:Nat)(c:UInt8)(h:s[j]? =some c):((⟨s.toArray⟩:aC).data[j]!)=c:=by
 have hj:=(jc.1 h).1;have h2:=(jc.1 h).2;simp[getElem!_pos,hj,h2]
theorem fF (s:Bs):(⟨s.toArray⟩:aC).size=s.length:=by simp[ByteArray.size]
theorem Ug {s:Bs}(h:lastB s=none):Lib.lastIndexByte ⟨s.toArray⟩ 32= -1:=by
 rcases Lib.lastIndexByte_spec ⟨s.toArray⟩ 32 with⟨h1, -⟩|⟨i,hi,h1,h2, -⟩
 ·exact h1
 ·exfalso;rw[fF] at hi;have h3:s[i]? =some s[i]:=dK hi;rw[R4 s i _ h3] at h2;have h4:s[i]=32:=by
   rw[<- UInt8.toNat_inj];have:((32:UInt8).toNat:Int)=32:=rfl;omega
  exact lY h (by rw[<- h4];exact List.getElem_mem hi)
theorem Uh {s a b:Bs}(h:lastB s=some (a,b)):Lib.lastIndexByte ⟨s.toArray⟩ 32=a.length:=by
 obtain⟨h1,h2⟩:=jY h;have ha:s[a.length]? =some 32:=by rw[h1];simp
 rcases Lib.lastIndexByte_spec ⟨s.toArray⟩ 32 with⟨-,h3⟩|⟨i,hi,h3,h4,h5⟩
 ·exfalso;have h6:=h3 a.length (by rw[fF,h1];simp);rw[R4 s _ _ ha] at h6;exact h6 rfl
 ·rw[h3];rw[fF] at hi h5;have h6:s[i]? =some s[i]:=dK hi;rw[R4 s i _ h6] at h4;have h7:s[i]=32:=by
   rw[<- UInt8.toNat_inj];have:((32:UInt8).toNat:Int)=32:=rfl;omega
  rcases Nat.lt_trichotomy i a.length with hlt|heq|hgt
  ·exfalso;have h8:=h5 a.length hlt (by rw[h1];simp);rw[R4 s _ _ ha] at h8;exact h8 rfl
  ·rw[heq]
  ·exfalso;rw[h7,h1,iK (by omega)] at h6;obtain⟨k,hk⟩:∃k,i-a.length=k+1:=⟨i-a.length-1,by omega⟩;rw[hk,List.getElem?_cons_succ] at h6;exact h2 (fV h6)
theorem R5 (a p:Bs):Lib.hasSuffix a p=decide (a.drop (a.length-p.length)=p):=by
 unfold Lib.hasSuffix;rw[Bool.eq_iff_iff,decide_eq_true_eq,List.isSuffixOf_iff_suffix];constructor
 ·rintro⟨t,rfl⟩;rw[List.length_append,Nat.add_sub_cancel,List.drop_left]
 ·intro h;refine⟨a.take (a.length-p.length),?_⟩;have h2:=List.take_append_drop (a.length-p.length) a;rw[h] at h2;exact h2
theorem a1O (a:Bs):Lib.hasSuffix a [32,62]=(Ei a).isSome/\Lib.trimSuffix a [32,62]=(Ei a).getD a:=by
 unfold Lib.trimSuffix;rw[R5];unfold Ei;show(decide (a.drop (a.length-2)=[32,62])=_)/\(if decide (a.drop (a.length-2)=[32,62])=true then a.take (a.length-2) else a)=_;by_cases h:a.drop (a.length-2)=[32,62]
 ·rw[if_pos h,if_pos (decide_eq_true h),decide_eq_true h];exact⟨rfl,rfl⟩
 ·rw[if_neg h,if_neg (by simpa using h),decide_eq_false h];exact⟨rfl,rfl⟩
theorem any_mk (c:UInt8):([35,46,91]:List UInt8).contains c=Tc c:=by
 unfold Tc;rw[List.contains_cons,List.contains_cons,List.contains_cons,List.contains_nil,Bool.or_false,Bool.or_assoc]
theorem any_none:∀{s:Bs},fE s=none->Lib.indexAny s [35,46,91]= -1
 |[],_=>rfl
 |c::s,h=>by
  rw[fE] at h;split at h
  ·cases h
  ·rename_i hc;have hs:fE s=none:=by
    cases hs:fE s with
    |none=>rfl
    |some x=>rw[hs] at h;cases h
   rw[Lib.indexAny,any_mk,if_neg hc,any_none hs];rfl
theorem any_some:∀{s a r:Bs} {m:UInt8},fE s=some (a,m,r)->Lib.indexAny s [35,46,91]=a.length
 |[],_,_,_,h=>by simp[fE] at h
 |c::s,a,r,m,h=>by
  rw[fE] at h;split at h
  ·rename_i hc;cases h;rw[Lib.indexAny,any_mk,if_pos hc];rfl
  ·rename_i hc;cases hs:fE s with
   |none=>rw[hs] at h;cases h
   |some x=>
    obtain⟨x1,x2,x3⟩:=x;rw[hs] at h;cases h;have h1:=any_some hs;rw[Lib.indexAny,any_mk,if_neg hc,h1,if_neg (by rw[beq_iff_eq];omega)];show(x1.length:Int)+1=((c::x1:Bs).length:Int);rw[List.length_cons];omega
end
section
open Go.RowKit Go.Shelf
abbrev bV (s:Bs):ah:=.string ⟨s.toArray⟩
theorem gD (s l:Bs):((⟨s.toArray⟩:aC).toList==l)=(s==l):=by
 rw[ByteArray.toList_eq]
theorem wS (k c:UInt8):((k.toNat:Int)==(c.toNat:Int))=(k==c):=by
 by_cases h:k=c
 ·subst h;simp
 ·rw[beq_eq_false_iff_ne.2 h,beq_eq_false_iff_ne];intro e;exact h (UInt8.toNat_inj.1 (by omega))
theorem rF (s:Bs)(w:ag):au 224 #[bV s] w fun e w'=>e=.returned (.bool (yQ s))/\w'=w:=by
 have h0:=gD s [];have h1:=gD s [42];unfold yQ;cases ha:(s==[]) with
 |true=>
  rw[ha] at h0;go_enter func224,ntmps224;go_wp2_with fail;go_ret;exact⟨rfl,rfl⟩
 |false=>
  rw[ha] at h0;cases hb:(s==[42]) with
  |true=>
   rw[hb] at h1;go_enter func224,ntmps224;go_wp2_with fail;go_ret;exact⟨rfl,rfl⟩
  |false=>
   rw[hb] at h1;go_enter func224,ntmps224;go_wp2_with fail;go_ret;exact⟨rfl,rfl⟩
theorem Oz (k:UInt8)(s:Bs)(hs:s.length<=1000000)(w:ag):au 177 #[.int .u8 k.toNat,bV s] w fun e w'=>e=.returned (.bool (NT (k,s)))/\w'=w:=by
 have FA:=rF s w;have IN:au 69 #[bV s] w fun e w'=>e=.returned (.bool (gG s))/\w'=w:=iN ⟨s.toArray⟩ (by rw[fF];omega) w;have h0:((k.toNat:Int)==0)=(k==0):=wS k 0;unfold NT;simp only;cases hk:(k==0) with
 |false=>
  rw[hk] at h0;go_enter func177,ntmps177;go_wp2_with(go_at_call 69;refine IN.mono ?_;rintro e w1 ⟨rfl,h⟩;rw[h];clear h);go_ret;exact⟨by simp,rfl⟩
 |true=>
  rw[hk] at h0;cases ha:yQ s with
  |true=>
   rw[ha] at FA;go_enter func177,ntmps177;go_wp2_with(go_at_call 224;refine FA.mono ?_;rintro e w1 ⟨rfl,h⟩;rw[h];clear h);go_ret;exact⟨rfl,rfl⟩
  |false=>
   rw[ha] at FA;go_enter func177,ntmps177;go_wp2_with(first|(go_at_call 224;refine FA.mono ?_;rintro e w1 ⟨rfl,h⟩;rw[h];clear h)|(go_at_call 69;refine IN.mono ?_;rintro e w1 ⟨rfl,h⟩;rw[h];clear h));go_ret;exact⟨by simp,rfl⟩
theorem Cy (k:UInt8)(s:Bs)(hs:s.length<=1000000)(w:ag):au 223 #[.int .u8 k.toNat,bV s] w fun e w'=>e=.returned (bV (lZ k s))/\w'=w:=by
 have CS:au 72 #[bV s,.string ⟨#[93]⟩] w fun e w'=>e=.returned (.tuple #[bV (Lib.trimSuffix s [93]),.bool (Lib.hasSuffix s [93])])/\w'=w:=Tryz.strings_CutSuffix ⟨s.toArray⟩ ⟨#[93]⟩ w (by rw[fF];omega);have h0:((k.toNat:Int)==91)=(k==91):=wS k 91;have hn0:((k.toNat:Int) !=91)= !(k==91):=by rw[bne,h0]
 by_cases hk:k=91
 ·have hk':(k==91)=true:=by rw[hk];rfl
  rw[hk'] at hn0 h0;unfold lZ;rw[if_pos hk];have hsf:=R5 s [93];unfold Lib.trimSuffix at CS;rw[hsf] at CS;by_cases hd:s.drop (s.length-1)=[93]
  ·rw[if_pos hd];rw[show(decide (s.drop (s.length-([93]:Bs).length)=[93]))=true from decide_eq_true hd,if_pos rfl] at CS;clear hsf hd hk;go_enter func223,ntmps223;go_wp2_with(go_at_call 72;refine CS.mono ?_;rintro e w1 ⟨rfl,h⟩;rw[h];clear h);go_ret;exact⟨rfl,rfl⟩
  ·rw[if_neg hd];rw[show(decide (s.drop (s.length-([93]:Bs).length)=[93]))=false from decide_eq_false hd,if_neg (by simp)] at CS;clear hsf hd hk;go_enter func223,ntmps223;go_wp2_with(go_at_call 72;refine CS.mono ?_;rintro e w1 ⟨rfl,h⟩;rw[h];clear h);go_ret;exact⟨rfl,rfl⟩
 ·have hk':(k==91)=false:=by rw[beq_eq_false_iff_ne];exact hk
  rw[hk'] at hn0 h0;unfold lZ;rw[if_neg hk];clear CS hk;go_enter func223,ntmps223;go_wp2_with fail;go_ret;exact⟨rfl,rfl⟩
theorem Ie (k:UInt8)(s:Bs)(w:ag):au 232 #[.int .u8 k.toNat,bV s] w fun e w'=>e=.returned (aa (JH (k,s):Nat))/\w'=w:=by
 have FA:=rF s w;have h1:((k.toNat:Int)==35)=(k==35):=wS k 35;have h2:((k.toNat:Int)==46)=(k==46):=wS k 46;have h3:((k.toNat:Int)==91)=(k==91):=wS k 91;unfold JH;simp only;by_cases k1:k=35
 ·have e1:(k==35)=true:=by rw[k1];rfl
  rw[e1] at h1;rw[if_pos k1];clear k1 h2 h3;go_enter func232,ntmps232;go_wp2_with fail;go_ret;exact⟨rfl,rfl⟩
 have e1:(k==35)=false:=by rw[beq_eq_false_iff_ne];exact k1
 rw[e1] at h1;rw[if_neg k1];by_cases k2:k=46
 ·have e2:(k==46)=true:=by rw[k2];rfl
  rw[e2] at h2;rw[if_pos (.inl k2)];clear k1 k2 h3;go_enter func232,ntmps232;go_wp2_with fail;go_ret;exact⟨rfl,rfl⟩
 have e2:(k==46)=false:=by rw[beq_eq_false_iff_ne];exact k2
 rw[e2] at h2;by_cases k3:k=91
 ·have e3:(k==91)=true:=by rw[k3];rfl
  rw[e3] at h3;rw[if_pos (.inr k3)];clear k1 k2 k3;go_enter func232,ntmps232;go_wp2_with fail;go_ret;exact⟨rfl,rfl⟩
 have e3:(k==91)=false:=by rw[beq_eq_false_iff_ne];exact k3
 rw[e3] at h3;rw[if_neg (by rintro(h|h);exact k2 h;exact k3 h)];clear k1 k2 k3;cases ha:yQ s with
 |true=>
  rw[ha] at FA;go_enter func232,ntmps232;go_wp2_with(go_at_call 224;refine FA.mono ?_;rintro e w1 ⟨rfl,h⟩;rw[h];clear h);go_ret;exact⟨rfl,rfl⟩
 |false=>
  rw[ha] at FA;go_enter func232,ntmps232;go_wp2_with(go_at_call 224;refine FA.mono ?_;rintro e w1 ⟨rfl,h⟩;rw[h];clear h);go_ret;exact⟨rfl,rfl⟩
theorem Y7 {B:Nat}{w v:ag}(h:Below B w v):Below B w v.drew:=⟨h.os,h.tape,h.output,h.size,h.block⟩
theorem Ig (u v:Bs):(⟨(u++v).toArray⟩:aC).extract 0 u.length=⟨u.toArray⟩:=by
 apply ByteArray.ext;simp
theorem R6 (u v:Bs)(c:UInt8)(n:Nat)(hn:n=(u++c::v).length):(⟨(u++c::v).toArray⟩:aC).extract (u.length+1) n=⟨v.toArray⟩:=by
 subst hn;apply ByteArray.ext;simp;exact List.take_of_length_le (by omega)
theorem Ih (s a b:Bs)(k:Lk)(h:qB s=(a,k,b))(hs:s.length<=1000000)(w:ag):au 175 #[bV s] w fun e w'=>e=.returned (.tuple #[bV a,bV k.bs,bV b])/\Below w.heap.size w w':=by
 have LI:au 220 #[bV s,.int .u8 32] w fun e w'=>e=.returned (aa (Lib.lastIndexByte ⟨s.toArray⟩ 32))/\w'=w:=Tryz.strings_LastIndexByte ⟨s.toArray⟩ 32 (by rw[fF];omega) w;unfold qB at h;cases hl:lastB s with
 |none=>
  rw[hl] at h;cases h;rw[Ug hl] at LI;clear hl;go_enter func175,ntmps175;go_wp2_with(go_at_call 220;refine LI.mono ?_;rintro e w1 ⟨rfl,h⟩;rw[h];clear h);refine bodyPost_ret (v:=.tuple #[bV [],bV Lk.no.bs,bV s]) (by simp[results,results175,go_sem,Lk.bs]) rfl ⟨rfl,aG _ _⟩
 |some x=>
  obtain⟨u,v⟩:=x;rw[hl] at h;simp only at h;rw[Uh hl] at LI;obtain⟨h1, -⟩:=jY hl;subst h1;clear hl;have hlen:(u++32::v).length=u.length+(v.length+1):=by simp
  have hu:(u.length:Int)<=((⟨(u++32::v).toArray⟩:aC).size:Int):=by rw[fF,hlen];omega
  have hu0:¬(u.length:Int)<0:=by omega
  have hul:u.length<=1000000:=by omega
  obtain⟨so1,so2⟩:=a1O u;have CS:au 72 #[.string ((⟨(u++32::v).toArray⟩:aC).extract 0 u.length),.string ⟨#[32,62]⟩] w fun e w'=>e=.returned (.tuple #[bV ((Ei u).getD u),.bool (Ei u).isSome])/\w'=w:=by
   rw[Ig,<- so1,<- so2];exact Tryz.strings_CutSuffix ⟨u.toArray⟩ ⟨#[32,62]⟩ w (by rw[fF];omega)
  clear so1 so2;obtain⟨K1,hK1⟩:∃K1:Nat,(u.length:Int)+1=K1:=⟨u.length+1,by omega⟩;have hK2:(K1:Int)<=((⟨(u++32::v).toArray⟩:aC).size:Int):=by rw[fF,hlen];omega
  have hdr:(⟨(u++32::v).toArray⟩:aC).extract K1 (u++32::v).length=⟨v.toArray⟩:=by
   rw[show K1=u.length+1 from by omega];exact R6 u v 32 _ rfl
  have htk:=Ig u (32::v);obtain⟨s,hse⟩:∃s,u++32::v=s:=⟨_,rfl⟩;rw[hse] at LI CS hu hK2 hdr htk⊢;have HDR:=aj hdr;have HTK:=aj htk;clear hse hs hlen hdr htk;cases hg:Ei u with
  |some x=>
   rw[hg] at h CS;cases h;go_enter func175,ntmps175;go_upto_region 6 with(first|(go_at_call 220;refine LI.mono ?_;rintro e w1 ⟨rfl,h⟩;rw[h];clear h)|(go_at_call 72;refine CS.mono ?_;rintro e w1 ⟨rfl,h⟩;rw[h];clear h));go_region;go_wp2_with fail;have hb:=Y7 (aG w.heap.size w);obtain⟨w9,hw9⟩:∃w9,w.drew=w9:=⟨_,rfl⟩;rw[hw9] at hb⊢;rw[HDR.out];refine bodyPost_ret (v:=.tuple #[bV a,.string ⟨#[32,62,32]⟩,bV b]) (by simp[results,results175,go_sem]) rfl ⟨rfl,hb⟩
  |none=>
   rw[hg] at h CS;cases h;go_enter func175,ntmps175;go_upto_region 7 with(first|(go_at_call 220;refine LI.mono ?_;rintro e w1 ⟨rfl,h⟩;rw[h];clear h)|(go_at_call 72;refine CS.mono ?_;rintro e w1 ⟨rfl,h⟩;rw[h];clear h));go_region;go_wp2_with fail;have hb:=Y7 (aG w.heap.size w);obtain⟨w9,hw9⟩:∃w9,w.drew=w9:=⟨_,rfl⟩;rw[hw9] at hb⊢;rw[HDR.out,HTK.out];refine bodyPost_ret (v:=.tuple #[bV a,.string ⟨#[32]⟩,bV b]) (by simp[results,results175,go_sem]) rfl ⟨rfl,hb⟩
end
section
open Go.RowKit Go.Shelf
set_option maxRecDepth 100000
attribute [local go_sem] Oper.semAt_some
def Lx:ah->Nat
 | .string s=>s.size
 |_=>0
theorem yh (s:Bs):Lx (bV s)=s.length:=fF s
theorem rG {A C:ag}(h:Below A.heap.size A C):A.grownBy C none:=⟨h.os,h.tape,h.output,h.size,fun k hk _=>h.block k hk⟩
def qL (B:Nat)(A C:ag):Prop:=C.heap[B]? =A.heap[B]?
theorem qL.trans {B:Nat}{X Y Z:ag}(h:qL B X Y)(k:qL B Y Z):qL B X Z:=Eq.trans k h
theorem qL.put {B:Nat}{w:ag}(hB:B<w.heap.size)(W:ag)(l:Nat)(o o':Obj)(hl:w.heap.size<=l)(_:W.heap[l]? =some o)(_:o.isCells=false)(_:o.isWalk=false):qL B W (W.putObj l o'):=World.putObj_heap_other (by omega)
theorem qL.of_below {B:Nat}{A C:ag}(h:Below A.heap.size A C)(hB:B<A.heap.size):qL B A C:=h.block B hB
theorem zz (s:Bs)(w:ag):au 128 #[bV s] w fun e w'=>e=.returned (.func (.func 174) #[] #[ay w.heap.size])/\w'=w.alloc (.cells #[bV s] 9):=by
 go_enter func128,ntmps128;go_wp2;go_ret;exact⟨rfl,rfl⟩
abbrev StB:={x:Bs//x.length<=1000000}
abbrev Ga (l:List StB):List Bs:=l.map Subtype.val
theorem Gb (s:Bs)(hs:s.length<=1000000)(n:Nat)(B:Nat)(w0:ag)(hB:w0.heap[B]? =some (.cells #[bV s] 9)):
  SeqStopsK Fence.wide n prog 174 #[ay B] (fun x:StB=>#[bV x.1]) (qL B) (fun xs=>Ga xs=gU s) (fun p=>Ga p<+:gU s) (gU s).length w0:=by
 intro l J Jx W hW hJ hJx hY h0;have hBl:B<w0.heap.size:=(cZ.1 hB).1;have hBW:W.heap[B]? =some (.cells #[bV s] 9):=(hW.block B hBl).trans hB;have c0:W.cell? (ak B 0)=some (bV s):=by simp[World.cell?,hBW]
 have hJb:∀p A C,J p A->Below A.heap.size A C->J p C:=fun p A C h hb=>hJ p A C none h (rG hb) (fun r e=>by cases e);obtain⟨a,k,b,hc⟩:∃a k b,qB s=(a,k,b):=⟨_,_,_,rfl⟩;have CU:=Ih s a b k hc hs W;refine callsIn_of_wp func174 rfl trivial ?_ rfl;simp only[ntmps174,List.size_toArray,List.length_cons,List.length_nil,Nat.reduceAdd,Nat.reduceSub,Array.replicate_succ,Array.replicate_zero,List.push_toArray,List.append_toArray,List.nil_append,List.cons_append]
 gi_wp2_with (refine⟨trivial,(fun h=>by cases h),?_⟩;gi_at_call 175;refine(callsIn_wide.2 CU).mono ?_;rintro e w1 ⟨rfl,hb1⟩)
 gi_loopw [3,4,5] (fun y3 y4 y5 wr=>∃(pre:List StB) (t a:Bs) (k:Lk) (b:Bs),qB t=(a,k,b)/\t.length<=1000000/\Ga pre++gU t=gU s/\y3=bV a/\y4=bV k.bs/\y5=bV b/\J pre wr/\qL B W wr) (fun y3 y4 _ _=>2*Lx y3+(if Lx y4=0 then 0 else 1))
 case atStart=>exact⟨[],s,a,k,b,hc,hs,rfl,rfl,rfl,rfl,hJb _ _ _ h0 hb1,hb1.block B (bI hBl hW.size)⟩
 case round=>
  obtain⟨pre,t,a,k,b,hct,htl,hps,rfl,rfl,rfl,hJp,hKp⟩:=hrel;have hpl:pre.length<(gU s).length:=by
   rw[<- hps,List.length_append,List.length_map];have:0<(gU t).length:=by
    by_cases hk:k=.no
    ·subst hk;rw[JJ hct];simp
    ·rw[Bn hct hk];simp
   omega
  have hbl:b.length<=1000000:=aJ (Fs hct) htl;obtain⟨fn,tmps,assign,body,hy,hR⟩:=hY pre ⟨b,hbl⟩ wr hJp hpl;by_cases hk:k=.no
  ·subst hk;have hst:=JJ hct;rw[hst] at hps;have hkb:((⟨Lk.no.bs.toArray⟩:aC).toList==[])=true:=by rw[gD];rfl
   have OA:=aj hps;clear hps hst hct
   gi_wp2
   refine⟨(fun h=>by cases h),hR.mono ?_⟩;rintro e W3 (⟨rfl,hJ3,hk3⟩|⟨rfl,hJx3⟩)
   ·gi_wp2
    go_end0
    exact⟨⟨_,rfl⟩,.inl ⟨_,by rw[<- OA.out];simp,hJ3⟩⟩
   ·gi_wp2
    go_end0
    exact⟨⟨_,rfl⟩,.inr ⟨_,by rw[<- OA.out];simp,hJx3⟩⟩
  ·have hst:=Bn hct hk;have hal:=nR hct hk;rw[hst] at hps;have hkb:List.isEmpty k.bs=false:=by
    cases k with
    |no=>exact absurd rfl hk
    |right=>rfl
    |below=>rfl
   have hkl:Lx (bV k.bs)≠0:=by
    cases k with
    |no=>exact absurd rfl hk
    |right=>decide
    |below=>decide
   obtain⟨a',k',b',hc'⟩:∃a' k' b',qB a=(a',k',b'):=⟨_,_,_,rfl⟩;have HCU:Hid (∀V,au 175 #[bV a] V fun e w'=>e=.returned (.tuple #[bV a',bV k'.bs,bV b'])/\Below V.heap.size V w'):=fun V=>Ih a a' b' k' hc' (by omega) V;have OA:=aj hps;obtain⟨kb,adP⟩:∃kb:Bs,k.bs=kb:=⟨_,rfl⟩;rw[adP] at hkb hkl⊢;clear hps hst hk
   gi_wp2
   refine⟨(fun h=>by cases h),hR.mono ?_⟩;rintro e W3 (⟨rfl,hJ3,hk3⟩|⟨rfl,hJx3⟩)
   ·have CU:=HCU.out W3
    gi_wp2_with (refine⟨trivial,(fun h=>by cases h),?_⟩;gi_at_call 175;refine(callsIn_wide.2 CU).mono ?_;rintro e w4 ⟨rfl,hb4⟩)
    go_roundw
    case rel=>exact⟨pre++[⟨b,hbl⟩],a,a',k',b',hc',by omega,by rw[<- OA.out];simp,rfl,rfl,rfl,hJb _ _ _ hJ3 hb4,(hKp.trans hk3).trans (hb4.block B (cZ.1 (Eq.trans (show W3.heap[B]? =W.heap[B]? from hKp.trans hk3) hBW)).1)⟩
    case measure=>
     by_cases hk':k'=.no
     ·have h1:a'=[]:=by
       unfold qB at hc';split at hc'
       ·cases hc';rfl
       ·split at hc'<;>cases hc'<;>exact absurd hk' (by simp)
      subst hk' h1;rw[if_neg hkl];simp[Lx,Lk.bs,ByteArray.size]
     ·have h1:=nR hc' hk';have h2:Lx (bV k'.bs)≠0:=by
       cases k' with
       |no=>exact absurd rfl hk'
       |right=>decide
       |below=>decide
      rw[if_neg hkl,if_neg h2,yh,yh];omega
   ·gi_wp2
    go_end0
    exact⟨⟨_,rfl⟩,.inr ⟨_,by rw[<- OA.out];exact⟨gU a,by simp⟩,hJx3⟩⟩
end
end Go.Proofs.YtecneflbncjhpaaGreatDoor

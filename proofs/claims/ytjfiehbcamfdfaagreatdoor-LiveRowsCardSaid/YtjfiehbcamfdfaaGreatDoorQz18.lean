/- Parts of the proof. -/
import Derived.Test.YtjfiehbcamfdfaaGreatDoorQz17
namespace Go.Proofs.YtjfiehbcamfdfaaGreatDoor
open Go.Proofs.Tryz
set_option maxHeartbeats 4000000
section
open Go.RowKit Go.Shelf
abbrev bV (s:Bs):ah:=.string ⟨s.toArray⟩
theorem fD (s l:Bs):((⟨s.toArray⟩:aD).toList==l)=(s==l):=by
 rw[ByteArray.toList_eq]
theorem vL (k c:UInt8):((k.toNat:Int)==(c.toNat:Int))=(k==c):=by
 by_cases h:k=c
 ·subst h;simp
 ·rw[beq_eq_false_iff_ne.2 h,beq_eq_false_iff_ne];intro e;exact h (UInt8.toNat_inj.1 (by omega))
theorem qE (s:Bs)(w:ag):ax 217 #[bV s] w fun e w'=>e=.returned (.bool (xV s))/\w'=w:=by
 have h0:=fD s [];have h1:=fD s [42];unfold xV;cases ha:(s==[]) with
 |true=>
  rw[ha] at h0;go_enter func217,ntmps217;go_wp2_with fail;go_ret;exact⟨rfl,rfl⟩
 |false=>
  rw[ha] at h0;cases hb:(s==[42]) with
  |true=>
   rw[hb] at h1;go_enter func217,ntmps217;go_wp2_with fail;go_ret;exact⟨rfl,rfl⟩
  |false=>
   rw[hb] at h1;go_enter func217,ntmps217;go_wp2_with fail;go_ret;exact⟨rfl,rfl⟩
theorem MU (k:UInt8)(s:Bs)(hs:s.length<=1000000)(w:ag):ax 174 #[.int .u8 k.toNat,bV s] w fun e w'=>e=.returned (.bool (M9 (k,s)))/\w'=w:=by
 have FA:=qE s w;have IN:ax 102 #[bV s] w fun e w'=>e=.returned (.bool (fP s))/\w'=w:=gm ⟨s.toArray⟩ (by rw[eG];omega) w;have h0:((k.toNat:Int)==0)=(k==0):=vL k 0;unfold M9;simp only;cases hk:(k==0) with
 |false=>
  rw[hk] at h0;go_enter func174,ntmps174;go_wp2_with(go_at_call 102;refine IN.mono ?_;rintro e w1 ⟨rfl,h⟩;rw[h];clear h);go_ret;exact⟨by simp,rfl⟩
 |true=>
  rw[hk] at h0;cases ha:xV s with
  |true=>
   rw[ha] at FA;go_enter func174,ntmps174;go_wp2_with(go_at_call 217;refine FA.mono ?_;rintro e w1 ⟨rfl,h⟩;rw[h];clear h);go_ret;exact⟨rfl,rfl⟩
  |false=>
   rw[ha] at FA;go_enter func174,ntmps174;go_wp2_with(first|(go_at_call 217;refine FA.mono ?_;rintro e w1 ⟨rfl,h⟩;rw[h];clear h)|(go_at_call 102;refine IN.mono ?_;rintro e w1 ⟨rfl,h⟩;rw[h];clear h));go_ret;exact⟨by simp,rfl⟩
theorem Bu (k:UInt8)(s:Bs)(hs:s.length<=1000000)(w:ag):ax 216 #[.int .u8 k.toNat,bV s] w fun e w'=>e=.returned (bV (kU k s))/\w'=w:=by
 have CS:ax 78 #[bV s,.string ⟨#[93]⟩] w fun e w'=>e=.returned (.tuple #[bV (Lib.trimSuffix s [93]),.bool (Lib.hasSuffix s [93])])/\w'=w:=Tryz.strings_CutSuffix ⟨s.toArray⟩ ⟨#[93]⟩ w (by rw[eG];omega);have h0:((k.toNat:Int)==91)=(k==91):=vL k 91;have hn0:((k.toNat:Int) !=91)= !(k==91):=by rw[bne,h0]
 by_cases hk:k=91
 ·have hk':(k==91)=true:=by rw[hk];rfl
  rw[hk'] at hn0 h0;unfold kU;rw[if_pos hk];have hsf:=PE s [93];unfold Lib.trimSuffix at CS;rw[hsf] at CS;by_cases hd:s.drop (s.length-1)=[93]
  ·rw[if_pos hd];rw[show(decide (s.drop (s.length-([93]:Bs).length)=[93]))=true from decide_eq_true hd,if_pos rfl] at CS;clear hsf hd hk;go_enter func216,ntmps216;go_wp2_with(go_at_call 78;refine CS.mono ?_;rintro e w1 ⟨rfl,h⟩;rw[h];clear h);go_ret;exact⟨rfl,rfl⟩
  ·rw[if_neg hd];rw[show(decide (s.drop (s.length-([93]:Bs).length)=[93]))=false from decide_eq_false hd,if_neg (by simp)] at CS;clear hsf hd hk;go_enter func216,ntmps216;go_wp2_with(go_at_call 78;refine CS.mono ?_;rintro e w1 ⟨rfl,h⟩;rw[h];clear h);go_ret;exact⟨rfl,rfl⟩
 ·have hk':(k==91)=false:=by rw[beq_eq_false_iff_ne];exact hk
  rw[hk'] at hn0 h0;unfold kU;rw[if_neg hk];clear CS hk;go_enter func216,ntmps216;go_wp2_with fail;go_ret;exact⟨rfl,rfl⟩
theorem Gf (k:UInt8)(s:Bs)(w:ag):ax 227 #[.int .u8 k.toNat,bV s] w fun e w'=>e=.returned (aa (Ih (k,s):Nat))/\w'=w:=by
 have FA:=qE s w;have h1:((k.toNat:Int)==35)=(k==35):=vL k 35;have h2:((k.toNat:Int)==46)=(k==46):=vL k 46;have h3:((k.toNat:Int)==91)=(k==91):=vL k 91;unfold Ih;simp only;by_cases k1:k=35
 ·have e1:(k==35)=true:=by rw[k1];rfl
  rw[e1] at h1;rw[if_pos k1];clear k1 h2 h3;go_enter func227,ntmps227;go_wp2_with fail;go_ret;exact⟨rfl,rfl⟩
 have e1:(k==35)=false:=by rw[beq_eq_false_iff_ne];exact k1
 rw[e1] at h1;rw[if_neg k1];by_cases k2:k=46
 ·have e2:(k==46)=true:=by rw[k2];rfl
  rw[e2] at h2;rw[if_pos (.inl k2)];clear k1 k2 h3;go_enter func227,ntmps227;go_wp2_with fail;go_ret;exact⟨rfl,rfl⟩
 have e2:(k==46)=false:=by rw[beq_eq_false_iff_ne];exact k2
 rw[e2] at h2;by_cases k3:k=91
 ·have e3:(k==91)=true:=by rw[k3];rfl
  rw[e3] at h3;rw[if_pos (.inr k3)];clear k1 k2 k3;go_enter func227,ntmps227;go_wp2_with fail;go_ret;exact⟨rfl,rfl⟩
 have e3:(k==91)=false:=by rw[beq_eq_false_iff_ne];exact k3
 rw[e3] at h3;rw[if_neg (by rintro(h|h);exact k2 h;exact k3 h)];clear k1 k2 k3;cases ha:xV s with
 |true=>
  rw[ha] at FA;go_enter func227,ntmps227;go_wp2_with(go_at_call 217;refine FA.mono ?_;rintro e w1 ⟨rfl,h⟩;rw[h];clear h);go_ret;exact⟨rfl,rfl⟩
 |false=>
  rw[ha] at FA;go_enter func227,ntmps227;go_wp2_with(go_at_call 217;refine FA.mono ?_;rintro e w1 ⟨rfl,h⟩;rw[h];clear h);go_ret;exact⟨rfl,rfl⟩
theorem WH {B:Nat}{w v:ag}(h:Below B w v):Below B w v.drew:=⟨h.os,h.tape,h.output,h.size,h.block⟩
theorem Gg (u v:Bs):(⟨(u++v).toArray⟩:aD).extract 0 u.length=⟨u.toArray⟩:=by
 apply ByteArray.ext;simp
theorem PG (u v:Bs)(c:UInt8)(n:Nat)(hn:n=(u++c::v).length):(⟨(u++c::v).toArray⟩:aD).extract (u.length+1) n=⟨v.toArray⟩:=by
 subst hn;apply ByteArray.ext;simp;exact List.take_of_length_le (by omega)
theorem Gh (s a b:Bs)(k:Lk)(h:oU s=(a,k,b))(hs:s.length<=1000000)(w:ag):ax 172 #[bV s] w fun e w'=>e=.returned (.tuple #[bV a,bV k.bs,bV b])/\Below w.heap.size w w':=by
 have LI:ax 213 #[bV s,.int .u8 32] w fun e w'=>e=.returned (aa (Lib.lastIndexByte ⟨s.toArray⟩ 32))/\w'=w:=Tryz.strings_LastIndexByte ⟨s.toArray⟩ 32 (by rw[eG];omega) w;unfold oU at h;cases hl:lastB s with
 |none=>
  rw[hl] at h;cases h;rw[RV hl] at LI;clear hl;go_enter func172,ntmps172;go_wp2_with(go_at_call 213;refine LI.mono ?_;rintro e w1 ⟨rfl,h⟩;rw[h];clear h);refine bodyPost_ret (v:=.tuple #[bV [],bV Lk.no.bs,bV s]) (by simp[results,results172,go_sem,Lk.bs]) rfl ⟨rfl,Below.refl _ _⟩
 |some x=>
  obtain⟨u,v⟩:=x;rw[hl] at h;simp only at h;rw[RZ hl] at LI;obtain⟨h1, -⟩:=jE hl;subst h1;clear hl;have hlen:(u++32::v).length=u.length+(v.length+1):=by simp
  have hu:(u.length:Int)<=((⟨(u++32::v).toArray⟩:aD).size:Int):=by rw[eG,hlen];omega
  have hu0:¬(u.length:Int)<0:=by omega
  have hul:u.length<=1000000:=by omega
  obtain⟨so1,so2⟩:=a0b u;have CS:ax 78 #[.string ((⟨(u++32::v).toArray⟩:aD).extract 0 u.length),.string ⟨#[32,62]⟩] w fun e w'=>e=.returned (.tuple #[bV ((CZ u).getD u),.bool (CZ u).isSome])/\w'=w:=by
   rw[Gg,<- so1,<- so2];exact Tryz.strings_CutSuffix ⟨u.toArray⟩ ⟨#[32,62]⟩ w (by rw[eG];omega)
  clear so1 so2;obtain⟨K1,hK1⟩:∃K1:Nat,(u.length:Int)+1=K1:=⟨u.length+1,by omega⟩;have hK2:(K1:Int)<=((⟨(u++32::v).toArray⟩:aD).size:Int):=by rw[eG,hlen];omega
  have hdr:(⟨(u++32::v).toArray⟩:aD).extract K1 (u++32::v).length=⟨v.toArray⟩:=by
   rw[show K1=u.length+1 from by omega];exact PG u v 32 _ rfl
  have htk:=Gg u (32::v);obtain⟨s,hse⟩:∃s,u++32::v=s:=⟨_,rfl⟩;rw[hse] at LI CS hu hK2 hdr htk⊢;have HDR:=aj hdr;have HTK:=aj htk;clear hse hs hlen hdr htk;cases hg:CZ u with
  |some x=>
   rw[hg] at h CS;cases h;go_enter func172,ntmps172;go_upto_region 6 with(first|(go_at_call 213;refine LI.mono ?_;rintro e w1 ⟨rfl,h⟩;rw[h];clear h)|(go_at_call 78;refine CS.mono ?_;rintro e w1 ⟨rfl,h⟩;rw[h];clear h));go_region;go_wp2_with fail;have hb:=WH (Below.refl w.heap.size w);obtain⟨w9,hw9⟩:∃w9,w.drew=w9:=⟨_,rfl⟩;rw[hw9] at hb⊢;rw[HDR.out];refine bodyPost_ret (v:=.tuple #[bV a,.string ⟨#[32,62,32]⟩,bV b]) (by simp[results,results172,go_sem]) rfl ⟨rfl,hb⟩
  |none=>
   rw[hg] at h CS;cases h;go_enter func172,ntmps172;go_upto_region 7 with(first|(go_at_call 213;refine LI.mono ?_;rintro e w1 ⟨rfl,h⟩;rw[h];clear h)|(go_at_call 78;refine CS.mono ?_;rintro e w1 ⟨rfl,h⟩;rw[h];clear h));go_region;go_wp2_with fail;have hb:=WH (Below.refl w.heap.size w);obtain⟨w9,hw9⟩:∃w9,w.drew=w9:=⟨_,rfl⟩;rw[hw9] at hb⊢;rw[HDR.out,HTK.out];refine bodyPost_ret (v:=.tuple #[bV a,.string ⟨#[32]⟩,bV b]) (by simp[results,results172,go_sem]) rfl ⟨rfl,hb⟩
end
section
open Go.RowKit Go.Shelf
set_option maxRecDepth 100000
attribute [local go_sem] Oper.semAt_some
def JK:ah->Nat
 | .string s=>s.size
 |_=>0
theorem xy (s:Bs):JK (bV s)=s.length:=eG s
theorem qF {A C:ag}(h:Below A.heap.size A C):A.grownBy C none:=⟨h.os,h.tape,h.output,h.size,fun k hk _=>h.block k hk⟩
def pJ (B:Nat)(A C:ag):Prop:=C.heap[B]? =A.heap[B]?
theorem pJ.trans {B:Nat}{X Y Z:ag}(h:pJ B X Y)(k:pJ B Y Z):pJ B X Z:=Eq.trans k h
theorem pJ.put {B:Nat}{w:ag}(hB:B<w.heap.size)(W:ag)(l:Nat)(o o':Obj)(hl:w.heap.size<=l)(_:W.heap[l]? =some o)(_:o.isCells=false)(_:o.isWalk=false):pJ B W (W.putObj l o'):=World.putObj_heap_other (by omega)
theorem pJ.of_below {B:Nat}{A C:ag}(h:Below A.heap.size A C)(hB:B<A.heap.size):pJ B A C:=h.block B hB
theorem yD (s:Bs)(w:ag):ax 126 #[bV s] w fun e w'=>e=.returned (.func (.func 171) #[] #[ay w.heap.size])/\w'=w.alloc (.cells #[bV s] 9):=by
 go_enter func126,ntmps126;go_wp2;go_ret;exact⟨rfl,rfl⟩
abbrev StB:={x:Bs//x.length<=1000000}
abbrev EM (l:List StB):List Bs:=l.map Subtype.val
theorem EN (s:Bs)(hs:s.length<=1000000)(n:Nat)(B:Nat)(w0:ag)(hB:w0.heap[B]? =some (.cells #[bV s] 9)):
  SeqStopsK Fence.wide n prog 171 #[ay B] (fun x:StB=>#[bV x.1]) (pJ B) (fun xs=>EM xs=fV s) (fun p=>EM p<+:fV s) (fV s).length w0:=by
 intro l J Jx W hW hJ hJx hY h0;have hBl:B<w0.heap.size:=(Array.getElem?_eq_some_iff.1 hB).1;have hBW:W.heap[B]? =some (.cells #[bV s] 9):=(hW.block B hBl).trans hB;have c0:W.cell? (ak B 0)=some (bV s):=by simp[World.cell?,hBW]
 have YW:∀p A C,J p A->Below A.heap.size A C->J p C:=fun p A C h hb=>hJ p A C none h (qF hb) (fun r e=>by cases e);obtain⟨a,k,b,hc⟩:∃a k b,oU s=(a,k,b):=⟨_,_,_,rfl⟩;have CU:=Gh s a b k hc hs W;refine callsIn_of_wp func171 rfl trivial ?_ rfl;simp only[ntmps171,List.size_toArray,List.length_cons,List.length_nil,Nat.reduceAdd,Nat.reduceSub,Array.replicate_succ,Array.replicate_zero,List.push_toArray,List.append_toArray,List.nil_append,List.cons_append]
 gi_wp2_with (refine⟨trivial,(fun h=>by cases h),?_⟩;gi_at_call 172;refine(callsIn_wide.2 CU).mono ?_;rintro e w1 ⟨rfl,hb1⟩)
 gi_loopw [3,4,5] (fun y3 y4 y5 wr=>∃(pre:List StB) (t a:Bs) (k:Lk) (b:Bs),oU t=(a,k,b)/\t.length<=1000000/\EM pre++fV t=fV s/\y3=bV a/\y4=bV k.bs/\y5=bV b/\J pre wr/\pJ B W wr) (fun y3 y4 _ _=>2*JK y3+(if JK y4=0 then 0 else 1))
 case atStart=>exact⟨[],s,a,k,b,hc,hs,rfl,rfl,rfl,rfl,YW _ _ _ h0 hb1,hb1.block B (Nat.lt_of_lt_of_le hBl hW.size)⟩
 case round=>
  obtain⟨pre,t,a,k,b,hct,htl,hps,rfl,rfl,rfl,hJp,hKp⟩:=hrel;have hpl:pre.length<(fV s).length:=by
   rw[<- hps,List.length_append,List.length_map];have:0<(fV t).length:=by
    by_cases hk:k=.no
    ·subst hk;rw[Ij hct];simp
    ·rw[Ad hct hk];simp
   omega
  have hbl:b.length<=1000000:=Nat.le_trans (Ee hct) htl;obtain⟨fn,tmps,assign,body,hy,hR⟩:=hY pre ⟨b,hbl⟩ wr hJp hpl;by_cases hk:k=.no
  ·subst hk;have hst:=Ij hct;rw[hst] at hps;have hkb:((⟨Lk.no.bs.toArray⟩:aD).toList==[])=true:=by rw[fD];rfl
   have MW:=aj hps;clear hps hst hct
   gi_wp2
   refine⟨(fun h=>by cases h),hR.mono ?_⟩;rintro e W3 (⟨rfl,hJ3,hk3⟩|⟨rfl,hJx3⟩)
   ·gi_wp2
    go_end0
    exact⟨⟨_,rfl⟩,.inl ⟨_,by rw[<- MW.out];simp,hJ3⟩⟩
   ·gi_wp2
    go_end0
    exact⟨⟨_,rfl⟩,.inr ⟨_,by rw[<- MW.out];simp,hJx3⟩⟩
  ·have hst:=Ad hct hk;have hal:=mV hct hk;rw[hst] at hps;have hkb:List.isEmpty k.bs=false:=by
    cases k with
    |no=>exact absurd rfl hk
    |right=>rfl
    |below=>rfl
   have hkl:JK (bV k.bs)≠0:=by
    cases k with
    |no=>exact absurd rfl hk
    |right=>decide
    |below=>decide
   obtain⟨a',k',b',hc'⟩:∃a' k' b',oU a=(a',k',b'):=⟨_,_,_,rfl⟩;have HCU:Hid (∀V,ax 172 #[bV a] V fun e w'=>e=.returned (.tuple #[bV a',bV k'.bs,bV b'])/\Below V.heap.size V w'):=fun V=>Gh a a' b' k' hc' (by omega) V;have MW:=aj hps;obtain⟨kb,abo⟩:∃kb:Bs,k.bs=kb:=⟨_,rfl⟩;rw[abo] at hkb hkl⊢;clear hps hst hk
   gi_wp2
   refine⟨(fun h=>by cases h),hR.mono ?_⟩;rintro e W3 (⟨rfl,hJ3,hk3⟩|⟨rfl,hJx3⟩)
   ·have CU:=HCU.out W3
    gi_wp2_with (refine⟨trivial,(fun h=>by cases h),?_⟩;gi_at_call 172;refine(callsIn_wide.2 CU).mono ?_;rintro e w4 ⟨rfl,hb4⟩)
    go_roundw
    case rel=>exact⟨pre++[⟨b,hbl⟩],a,a',k',b',hc',by omega,by rw[<- MW.out];simp,rfl,rfl,rfl,YW _ _ _ hJ3 hb4,(hKp.trans hk3).trans (hb4.block B (Array.getElem?_eq_some_iff.1 (Eq.trans (show W3.heap[B]? =W.heap[B]? from hKp.trans hk3) hBW)).1)⟩
    case measure=>
     by_cases hk':k'=.no
     ·have h1:a'=[]:=by
       unfold oU at hc';split at hc'
       ·cases hc';rfl
       ·split at hc'<;>cases hc'<;>exact absurd hk' (by simp)
      subst hk' h1;rw[if_neg hkl];simp[JK,Lk.bs,ByteArray.size]
     ·have h1:=mV hc' hk';have h2:JK (bV k'.bs)≠0:=by
       cases k' with
       |no=>exact absurd rfl hk'
       |right=>decide
       |below=>decide
      rw[if_neg hkl,if_neg h2,xy,xy];omega
   ·gi_wp2
    go_end0
    exact⟨⟨_,rfl⟩,.inr ⟨_,by rw[<- MW.out];exact⟨fV a,by simp⟩,hJx3⟩⟩
end
section
theorem yE (s:aD)(pos:Nat)(h:pos<s.size)(ha:128<=(s[pos]'h).toNat):∀k,1<=k->k<(Utf8.decode s pos).2->pos+k<s.size/\128<=(s.get! (pos+k)).toNat:=by
 have hn:¬(s[pos]'h).toNat<128:=by omega
 intro k hk1 hk2;have h2:(Utf8.decode s pos).2<=4:=by
  simp only[Utf8.decode]
  repeat' split
  all_goals simp
 simp only[Utf8.decode,get_at s pos h,hn,if_false] at hk2;have key:∀k,(decide (pos+k<s.size) && ((s.get! (pos+k)).toNat/64==2))=true->pos+k<s.size/\128<=(s.get! (pos+k)).toNat:=fun k hk=>by
  simp only[Bool.and_eq_true,decide_eq_true_eq,beq_iff_eq] at hk;exact⟨hk.1,by omega⟩
 split at hk2
 ·rename_i hc;rw[Bool.and_eq_true] at hc;have:k=1:=by split at hk2<;>simp only at hk2<;>omega
  subst this;exact key 1 hc.2
 ·split at hk2
  ·rename_i hc;rw[Bool.and_eq_true,Bool.and_eq_true] at hc;have:k=1\/k=2:=by split at hk2<;>simp only at hk2<;>omega
   rcases this with rfl|rfl
   ·exact key 1 hc.1.2
   ·exact key 2 hc.2
  ·split at hk2
   ·rename_i hc;rw[Bool.and_eq_true,Bool.and_eq_true,Bool.and_eq_true] at hc;have:k=1\/k=2\/k=3:=by split at hk2<;>simp only at hk2<;>omega
    rcases this with rfl|rfl|rfl
    ·exact key 1 hc.1.1.2
    ·exact key 2 hc.1.2
    ·exact key 3 hc.2
   ·simp only at hk2;omega
theorem JL (s:aD)(pos:Nat)(h:pos<s.size):pos+(Utf8.decode s pos).2<=s.size:=by
 by_cases ha:128<=(s[pos]'h).toNat
 ·have h1:=(decode_high s pos h ha).2;by_cases h2:(Utf8.decode s pos).2=1
  ·omega
  ·have:=(yE s pos h ha ((Utf8.decode s pos).2-1) (by omega) (by omega)).1;omega
 ·have hn:(s[pos]'h).toNat<128:=by omega
  simp only[Utf8.decode,get_at s pos h,hn,if_true];omega
theorem JM (r:Int)(h:128<=r):2<=(Utf8.encode r).size/\(Utf8.encode r).size<=4/\∀x∈(Utf8.encode r).data.toList,128<=x.toNat:=by
 unfold Utf8.encode;simp only;generalize hc:(if Utf8.valid r=true then r.toNat else Utf8.runeError)=c;have h1:128<=c:=by
  rw[<- hc];split
  ·omega
  ·decide
 have h2:c<=1114111:=by
  rw[<- hc];split
  ·rename_i hv;unfold Utf8.valid at hv;simp at hv;omega
  ·decide
 have key:∀n:Nat,128<=n->n<256->128<=(UInt8.ofNat n).toNat:=fun n h3 h4=>by
  rw[UInt8.toNat_ofNat',Nat.mod_eq_of_lt (by simpa using h4)];exact h3
 rw[if_neg (by omega)];split
 ·refine⟨by simp[ByteArray.size],by simp[ByteArray.size],?_⟩;intro x hx;simp only[List.mem_cons,List.not_mem_nil,or_false] at hx;rcases hx with rfl|rfl
  ·exact key _ (by omega) (by omega)
  ·exact key _ (by omega) (by omega)
 ·split
  ·refine⟨by simp[ByteArray.size],by simp[ByteArray.size],?_⟩;intro x hx;simp only[List.mem_cons,List.not_mem_nil,or_false] at hx;rcases hx with rfl|rfl|rfl
   ·exact key _ (by omega) (by omega)
   ·exact key _ (by omega) (by omega)
   ·exact key _ (by omega) (by omega)
  ·refine⟨by simp[ByteArray.size],by simp[ByteArray.size],?_⟩;intro x hx;simp only[List.mem_cons,List.not_mem_nil,or_false] at hx;rcases hx with rfl|rfl|rfl|rfl
   ·exact key _ (by omega) (by omega)
   ·exact key _ (by omega) (by omega)
   ·exact key _ (by omega) (by omega)
   ·exact key _ (by omega) (by omega)
end
end Go.Proofs.YtjfiehbcamfdfaaGreatDoor

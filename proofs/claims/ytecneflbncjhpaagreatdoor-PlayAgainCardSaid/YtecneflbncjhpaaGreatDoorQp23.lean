/- Parts of the proof. -/
import Derived.Test.YtecneflbncjhpaaGreatDoorQp20
import Derived.Test.YtecneflbncjhpaaGreatDoorQp22
namespace Go.Proofs.YtecneflbncjhpaaGreatDoor
open Go.Proofs.Tryz
set_option maxHeartbeats 8000000
section
open Go.RowKit Go.Shelf
set_option maxRecDepth 100000
attribute [local go_sem] Oper.semAt_some
def Yi (l:List Bs):Nat:=(l.map fun t=>jU (qp t)).sum
theorem Yj (l:List Bs)(x:Bs):Yi (l++[x])=Yi l+jU (pts 0 x):=by
 unfold Yi;rw[List.map_append,List.sum_append];simp[qp,pts]
theorem Rf (x:UInt8×Bs):JH x<=100:=by
 unfold JH;split
 ·exact Nat.le_refl _
 ·split
  ·decide
  ·split<;>decide
theorem CW:∀l:List (UInt8×Bs),jU l<=100*l.length
 |[]=>Nat.le_refl _
 |x::l=>by
  have h1:=Rf x;have h2:=CW l;unfold jU at h2⊢;rw[List.map_cons,List.sum_cons,List.length_cons];omega
theorem Yk:∀l:List Bs,(∀x∈l,x.length<=1000000)->Yi l<=100000100*l.length
 |[],_=>Nat.le_refl _
 |x::l,h=>by
  have h1:=CW (pts 0 x);have h2:=Ac x.length 0 x ai;have h3:=h x (by simp);have h4:=Yk l (fun y hy=>h y (by simp[hy]));unfold Yi at h4⊢;rw[List.map_cons,List.sum_cons,List.length_cons,show qp x=pts 0 x from rfl];omega
theorem Uo (s:Bs)(hs:s.length<=1000000)(W:ag):CallsIn Fence.wide 12 prog 185 #[.agg #[bV s]] W fun e w'=>e=.returned (aa (wtM s:Nat))/\Below W.heap.size W w':=by
 obtain⟨hS0,hT0,hB0,hsz0,b0⟩:=gY W (.cells #[bV s] 107) (.cells #[aa 0] 3) (.cells #[bV s] 9);have hmx:prog.follows .mixedOrders=true:=by kernel_rfl
 refine callsIn_of_wp_marks func185 rfl trivial ?_ rfl;simp only[ntmps185,List.size_toArray,List.length_cons,List.length_nil,Nat.reduceAdd,Nat.reduceSub,Array.replicate_succ,Array.replicate_zero,List.push_toArray,List.append_toArray,List.nil_append,List.cons_append]
 gi_wp2_with (refine⟨trivial,?_⟩;gi_at_call 128;refine(callsIn_wide.2 (zz s _)).mono ?_;rintro e w1 ⟨rfl,h1⟩;rw[h1];clear h1)
 obtain⟨U,hU⟩:∃U,(((W.alloc (.cells #[bV s] 107)).alloc (.cells #[aa 0] 3)).alloc (.cells #[bV s] 9))=U:=⟨_,rfl⟩;rw[hU] at b0 hS0 hT0 hB0 hsz0⊢;clear hU;refine wpIn_rangeFunc_ownH rfl (by omega) (gf:=174) (lb:=#[.pointer (some ⟨W.heap.size+1+1,0,none⟩)]) rfl trivial (enters_of func174 (by kernel_rfl) rfl)
  (encs:=fun x:StB=>#[bV x.1]) (Kp:=qL (W.heap.size+1+1)) (S:=fun xs=>Ga xs=gU s) (Sp:=fun p=>Ga p<+:gU s) (N:=(gU s).length) (w0:=U)
  (Gb s hs _ _ U hB0) qL.trans (fun X l o o' hl h1 h2 h3=>qL.put (w:=U) (by omega) X l o o' hl h1 h2 h3) (aG _ _) (fun _=>rfl)
  (fun pre X=>X.heap[W.heap.size+1]? =some (.cells #[aa (Yi (Ga pre):Nat)] 3)/\Below W.heap.size W X/\U.heap.size<=X.heap.size)
  (fun _ _ _=>False)
  (fun pre A C row hs hg hr=>⟨iI hs.1 (by omega) hg hr,mZ hs.2.1 (by omega) hg hr,aJ hs.2.2 hg.size⟩)
  (fun _ _ _ _ _ h _ _=>h)
  ⟨hT0,b0,Nat.le_refl _⟩
  (fun x a' _=>a'={tmps:=#[.agg #[bV s],ay W.heap.size,aa 0,.pointer (some ⟨W.heap.size+1,0,none⟩),bV x.1,undef,undef,ay W.heap.size,bV s,.func (.func 174) #[] #[.pointer (some ⟨W.heap.size+1+1,0,none⟩)],bV x.1,undef,undef,undef,undef,undef,undef,undef,undef,undef,undef],defers:=[]})
  (fun _ _ _ _ _ _ h _ _=>h)
  ?assign ?body ?done ?stop
 case assign=>
  intro l pre x X K hI hK
  gi_wp2
  exact hK _ _ (KeepsFrom.refl _ _) rfl hI rfl
 case body=>
  rintro l pre x a' X hl ⟨r₀,hl₀⟩ ⟨hT,hb,hu⟩ rfl hlen;obtain⟨st,hnl⟩:=x
  gi_wp2_with (refine⟨trivial,?_⟩;gi_at_call 176;refine(CallsIn.inRound l (callsIn_wide.2 (rH st _))).mono ?_;rintro e w2 ⟨rfl,h⟩;rw[h];clear h)
  have hB2:=dW X (.cells #[bV st] 9);have hT2:(X.alloc (.cells #[bV st] 9)).heap[W.heap.size+1]? =some (.cells #[aa (Yi (Ga pre):Nat)] 3):=(Below.heap_alloc _ _ _ (by omega)).trans hT;have hl2:(X.alloc (.cells #[bV st] 9)).heap[l]? =some (.loop r₀):=(Below.heap_alloc _ _ _ (by have:=(cZ.1 hl₀).1;omega)).trans hl₀;have hb2:Below W.heap.size W (X.alloc (.cells #[bV st] 9)):=hb.alloc hb.size _;have hk2:qL (W.heap.size+1+1) X (X.alloc (.cells #[bV st] 9)):=Below.heap_alloc _ _ _ (by omega);have kf2:KeepsFrom U.heap.size X (X.alloc (.cells #[bV st] 9)):=(KeepsOthers.alloc _ _).from _;have hz2:(X.alloc (.cells #[bV st] 9)).heap.size=X.heap.size+1:=dB _ _;obtain⟨X2,hX2⟩:∃X2,X.alloc (.cells #[bV st] 9)=X2:=⟨_,rfl⟩;rw[hX2] at hB2 hT2 hl2 hb2 hk2 kf2 hz2⊢;clear hX2;have hwl:=Yk (Ga pre) (fun y hy=>by obtain⟨z, -,rfl⟩:=List.mem_map.1 hy;exact z.2);rw[List.length_map] at hwl;have hpc:pre.length<=1000001:=by
   have:=lF (s.length+1) s;unfold gU at hlen;omega
  have HWS:Hid (Yi (Ga pre++[st])=Yi (Ga pre)+jU (pts 0 st)):=Yj _ _;obtain⟨a0,ha0⟩:∃a0,Yi (Ga pre)=a0:=⟨_,rfl⟩;rw[ha0] at hT2 hwl HWS;clear ha0 hT;refine wpIn_rangeFunc_ownN (l₀:=l) (r₀:=r₀) rfl hl2 (by omega) (gf:=221) (lb:=#[ay X.heap.size]) rfl trivial (enters_of func221 (by kernel_rfl) rfl)
   (encs:=ptV) (Kp:=qL X.heap.size) (S:=fun xs=>vz xs=pts 0 st) (Sp:=fun p=>vz p<+:pts 0 st) (N:=(pts 0 st).length) (w0:=X2)
   (SeqStopsK.inRound l (yj st hnl _ _ X2 hB2)) qL.trans (fun Y l o o' hl h1 h2 h3=>qL.put (w:=X2) (by omega) Y l o o' hl h1 h2 h3) (aG _ _) (fun _=>rfl)
   (fun pre' Y=>Y.heap[W.heap.size+1]? =some (.cells #[aa (a0+jU (vz pre'):Nat)] 3)/\Below W.heap.size W Y/\KeepsFrom U.heap.size X Y/\qL (W.heap.size+1+1) X Y/\X2.heap.size<=Y.heap.size)
   (fun _ _ _=>False)
   (fun pre' A C row hs hg hr=>⟨iI hs.1 (by omega) hg hr,mZ hs.2.1 (by omega) hg hr,ownFrom_keepsFrom (β:=Unit) (w₀:=X) (B':=X2.heap.size) (by omega) () A C row hs.2.2.1 hg hr,hs.2.2.2.1.trans (hg.block _ (by omega) (fun e=>by have:=(hr _ e.symm).1;omega)),aJ hs.2.2.2.2 hg.size⟩)
   (fun _ _ _ _ _ h _ _=>h)
   ⟨hT2,hb2,kf2,hk2,Nat.le_refl _⟩
   (fun y a' _=>a'={tmps:=#[.agg #[bV s],ay W.heap.size,aa 0,.pointer (some ⟨W.heap.size+1,0,none⟩),bV st,.int .u8 y.1.1.toNat,bV y.1.2,ay W.heap.size,bV s,.func (.func 174) #[] #[.pointer (some ⟨W.heap.size+1+1,0,none⟩)],bV st,bV st,.func (.func 221) #[] #[ay X.heap.size],.int .u8 y.1.1.toNat,bV y.1.2,undef,undef,undef,undef,undef,undef],defers:=[]})
   (fun _ _ _ _ _ _ h _ _=>h)
   ?assign2 ?a9T ?a9U ?a9V
  case assign2=>
   intro l2 pre' y Y K hI hK
   gi_wp2
   exact hK _ _ (KeepsFrom.refl _ _) rfl hI rfl
  case a9T=>
   rintro l2 pre' y a' Y hl2-⟨Fb,hb3,kf3,hk3,hz3⟩ rfl ahW;obtain⟨⟨k,nm⟩,hnm⟩:=y;have c1:=bH Fb;have f1:=gI Fb;have WO:=fun V=>Ie k nm V;have hp1:=CW (vz pre');have hp2:=Ac st.length 0 st ai;have hp3:=Rf (k,nm);rw[List.length_map] at hp1;have hpe:vz (pre'++[⟨(k,nm),hnm⟩])=vz pre'++[(k,nm)]:=by simp
   have HV:Hid (a0+jU (vz (pre'++[⟨(k,nm),hnm⟩]))=(a0+jU (vz pre'))+JH (k,nm)):=(by
    rw[hpe,Td];simp[jU];omega:a0+jU (vz (pre'++[⟨(k,nm),hnm⟩]))=(a0+jU (vz pre'))+JH (k,nm))
   have hbc:a0+jU (vz pre')<=1000000000000000:=by omega
   obtain⟨c,hc⟩:∃c,a0+jU (vz pre')=c:=⟨_,rfl⟩;obtain⟨wk,hwk⟩:∃wk,JH (k,nm)=wk:=⟨_,rfl⟩;rw[hc] at c1 Fb HV hbc;rw[hwk] at WO hp3 HV;clear hc hwk hpe hp1 hp2;have hwr:IntKind.i64.wrap ((c:Int)+(wk:Int))=((c+wk:Nat):Int):=by
    rw[IntWalk.i64_in _ (by omega)];omega
   have h4:=gZ Fb (aa ((c:Int)+(wk:Int)));have HT4:=aj h4;have hb4:=(hb3.setCell (p:=⟨W.heap.size+1,0,none⟩) (by simp only;omega) (aa ((c:Int)+(wk:Int)))).drew;have ko4:=(eF Y ⟨W.heap.size+1,0,none⟩ (aa ((c:Int)+(wk:Int)))).trans (KeepsOthers.drew _);have hk4:qL X.heap.size Y (Y.setCell ⟨W.heap.size+1,0,none⟩ (aa ((c:Int)+(wk:Int)))).drew:=aY Y ⟨W.heap.size+1,0,none⟩ _ X.heap.size (by simp only;omega);have hk5:qL (W.heap.size+1+1) Y (Y.setCell ⟨W.heap.size+1,0,none⟩ (aa ((c:Int)+(wk:Int)))).drew:=aY Y ⟨W.heap.size+1,0,none⟩ _ (W.heap.size+1+1) (by simp only;omega);clear h4
   gi_wp2
   gi_region_with_o ((refine⟨trivial,?_⟩;gi_at_call 232;refine(CallsIn.inRound l2 (CallsIn.inRound l (callsIn_wide.2 (WO _)))).mono ?_;rintro e w3 ⟨rfl,h⟩;rw[h];clear h))
   all_goals gi_wp2
   all_goals exact⟨ko4.from _,hk4,by rw[HV.out,Int.natCast_add];exact HT4.out,hb4,kf3.trans (ko4.from _),hk3.trans hk5,aJ hz3 ko4.size⟩
  case a9U=>
   rintro xs Y hS ⟨Fb,hb3,kf3,hk3,hz3⟩;rw[hS] at Fb;have hpe:Ga (pre++[⟨st,hnl⟩])=Ga pre++[st]:=by simp
   gi_wp2
   exact⟨kf3,hk3,by rw[hpe,HWS.out];exact Fb,hb3,by omega⟩
  case a9V=>
   rintro c pre' Y-h;exact h.elim
 case done=>
  rintro D xs X hD hS ⟨hT,hb, -⟩ hK;rw[hS] at hT;have c1:=bH hT
  gi_wp2
  refine⟨by simp,.inl ⟨_,_,rfl,run_takeDeferred hK,?_⟩⟩;refine⟨aa (Yi (gU s):Nat),?_,rfl,hb.trans (belowK_b (w:=W) ai X D _ _ (by omega) hK rfl rfl)⟩;simp[results,results185,go_sem]
 case stop=>
  rintro D c pre X- - h -;exact h.elim
theorem OQ (s:Bs)(hs:s.length<=1000000)(W:ag):au 185 #[.agg #[bV s]] W fun e w'=>e=.returned (aa (wtM s:Nat))/\Below W.heap.size W w':=callsIn_wide.1 (Uo s hs W)
end
section
open Go.RowKit Go.Shelf
set_option maxRecDepth 100000
attribute [local go_sem] Oper.semAt_some
theorem Uq (v nm:Bs)(hv:v.length<=1000000)(W:ag):
  au 268 #[.slice (some ⟨W.heap.size,0,none⟩) (Lib.countB ⟨v.toArray⟩ ⟨#[32]⟩+1) (Lib.countB ⟨v.toArray⟩ ⟨#[32]⟩+1),.string ⟨nm.toArray⟩] (W.alloc (.cells ((Lib.splitB ⟨#[32]⟩ 0 (Lib.countB ⟨v.toArray⟩ ⟨#[32]⟩) ⟨v.toArray⟩).map Value.string).toArray 9)) fun e w'=>e=.returned (.bool (a8S v nm))/\w'=W.alloc (.cells ((Lib.splitB ⟨#[32]⟩ 0 (Lib.countB ⟨v.toArray⟩ ⟨#[32]⟩) ⟨v.toArray⟩).map Value.string).toArray 9):=by
 have h1:1<=(⟨#[32]⟩:aC).size:=by decide
 have hlen:=Lib.splitB_all ⟨#[32]⟩ h1 0 _ (⟨v.toArray⟩:aC) rfl;have hle:=Lib.countB_le ⟨#[32]⟩ h1 (⟨v.toArray⟩:aC).size ⟨v.toArray⟩ ai;rw[fF] at hle;have h:=Tryz.slices_Contains_string W.heap.size 0 (Lib.countB ⟨v.toArray⟩ ⟨#[32]⟩+1) (Lib.countB ⟨v.toArray⟩ ⟨#[32]⟩+1) (Lib.splitB ⟨#[32]⟩ 0 (Lib.countB ⟨v.toArray⟩ ⟨#[32]⟩) ⟨v.toArray⟩) ⟨nm.toArray⟩ (W.alloc (.cells ((Lib.splitB ⟨#[32]⟩ 0 (Lib.countB ⟨v.toArray⟩ ⟨#[32]⟩) ⟨v.toArray⟩).map Value.string).toArray 9)) (by rw[hlen];exact Nat.le_refl _) (by omega) (fun j hj=>by
  have hb:=dW W (.cells ((Lib.splitB ⟨#[32]⟩ 0 (Lib.countB ⟨v.toArray⟩ ⟨#[32]⟩) ⟨v.toArray⟩).map Value.string).toArray 9);refine aD hb (0+j) _ ?_;rw[Nat.zero_add,List.getElem?_toArray,List.getElem?_map,dK hj];simp[hj])
 rw[List.take_of_length_le (by rw[hlen];exact Nat.le_refl _)] at h;exact h
section
variable {B:Nat}{tg:bP}{W:ag}{DB MB:Nat}{p:Int->Option Nat}{M:Dm}{nx c:Nat}
theorem Ip (h:aX B tg W DB MB p M nx c)(n:Int)(e:gH)(he:M n=some e)(hva:∀a∈e.ats,a.2.length<=1000000)(k:UInt8)(nm:Bs):
  au 233 #[.int .u8 k.toNat,bV nm,ay DB,aa n] W fun r w'=>r=.returned (.bool (yU e (k,nm)))/\Below W.heap.size W w':=by
 have hn:=h.i64 he;have a1X:∀x,Ov M n x=kQ e.ats x:=fun x=>by unfold Ov;rw[he]
 have hal:∀x,((kQ e.ats x).getD []).length<=1000000:=fun x=>by
  rcases wQ e.ats x 0 with⟨-,h2⟩|⟨i,y, -,h2,h3⟩
  ·rw[h2];exact aP _
  ·rw[h3];exact hva y (fV h2)
 have h1:((k.toNat:Int)==35)=(k==35):=wS k 35;have h2:((k.toNat:Int)==46)=(k==46):=wS k 46;have h3:((k.toNat:Int)==91)=(k==91):=wS k 91;unfold yU;simp only;by_cases k1:k=35
 ·have e1:(k==35)=true:=by rw[k1];rfl
  rw[e1] at h1;rw[if_pos k1];have AT:au 137 #[ay DB,aa n,.string ⟨#[105,100]⟩] W _:=jP h n hn [105,100];rw[a1X] at AT;obtain⟨v,hv⟩:∃v,(kQ e.ats [105,100]).getD []=v:=⟨_,rfl⟩;rw[hv] at AT⊢;have hcm:((⟨v.toArray⟩:aC).toList==(⟨nm.toArray⟩:aC).toList)=(v==nm):=by rw[ByteArray.toList_eq,ByteArray.toList_eq]
  clear k1 h2 h3 hal hv;go_enter func233,ntmps233;go_wp2_with(go_at_call 137;refine AT.mono ?_;rintro r w1 ⟨rfl,hb1⟩);go_ret;exact⟨rfl,hb1⟩
 have e1:(k==35)=false:=by rw[beq_eq_false_iff_ne];exact k1
 rw[e1] at h1;rw[if_neg k1];by_cases k2:k=46
 ·have e2:(k==46)=true:=by rw[k2];rfl
  rw[e2] at h2;rw[if_pos k2];have AT:au 137 #[ay DB,aa n,.string ⟨#[99,108,97,115,115]⟩] W _:=jP h n hn [99,108,97,115,115];rw[a1X] at AT;have hvl:=hal [99,108,97,115,115];obtain⟨v,hv⟩:∃v,(kQ e.ats [99,108,97,115,115]).getD []=v:=⟨_,rfl⟩;rw[hv] at AT hvl⊢;have SP:=fun V=>xS ⟨v.toArray⟩ (by rw[fF];omega) V;have CL:=fun V=>Uq v nm hvl V;clear k1 k2 h3 hal hv hvl;go_enter func233,ntmps233;go_wp2_with(first|(go_at_call 268;refine(CL _).mono ?_;rintro r w3 ⟨rfl,h3⟩;rw[h3];clear h3)|(go_at_call 239;refine(SP _).mono ?_;rintro r w2 ⟨rfl,h2⟩;rw[h2];clear h2)|(go_at_call 137;refine AT.mono ?_;rintro r w1 ⟨rfl,hb1⟩));go_ret;exact⟨rfl,hb1.alloc hb1.size _⟩
 have e2:(k==46)=false:=by rw[beq_eq_false_iff_ne];exact k2
 rw[e2] at h2;rw[if_neg k2];by_cases k3:k=91
 ·have e3:(k==91)=true:=by rw[k3];rfl
  rw[e3] at h3;rw[if_pos k3];have AT:=jP h n hn nm;rw[a1X] at AT;clear k1 k2 k3 hal;go_enter func233,ntmps233;go_wp2_with(go_at_call 137;refine AT.mono ?_;rintro r w1 ⟨rfl,hb1⟩);go_ret;exact⟨rfl,hb1⟩
 have e3:(k==91)=false:=by rw[beq_eq_false_iff_ne];exact k3
 rw[e3] at h3;rw[if_neg k3];have FA:=rF nm W;have NA:au 84 #[ay DB,aa n] W fun r w'=>r=.returned (bV e.name)/\w'=W:=by
  have h4:=oh h n hn;rw[he] at h4;exact h4
 clear k1 k2 k3 hal a1X;cases ha:yQ nm with
 |true=>
  rw[ha] at FA;go_enter func233,ntmps233;go_wp2_with(go_at_call 224;refine FA.mono ?_;rintro r w1 ⟨rfl,h⟩;rw[h];clear h);go_ret;exact⟨rfl,aG _ _⟩
 |false=>
  rw[ha] at FA;have hcm:((⟨e.name.toArray⟩:aC).toList==(⟨nm.toArray⟩:aC).toList)=(e.name==nm):=by rw[ByteArray.toList_eq,ByteArray.toList_eq]
  go_enter func233,ntmps233;go_wp2_with(first|(go_at_call 224;refine FA.mono ?_;rintro r w1 ⟨rfl,h⟩;rw[h];clear h)|(go_at_call 84;refine NA.mono ?_;rintro r w1 ⟨rfl,h⟩;rw[h];clear h));go_ret;exact⟨by simp,aG _ _⟩
theorem LX (h:aX B tg W DB MB p M nx c)(n:Int)(hn:dR n)(e:gH)(he:M n=some e)(hne:e.name≠[])(hva:∀a∈e.ats,a.2.length<=1000000)(s:Bs)(hs:s.length<=1000000):
  CallsIn Fence.wide 9 prog 187 #[bV s,ay DB,aa n] W fun r w'=>r=.returned (.bool ((qp s).all (yU e)))/\Below W.heap.size W w':=by
 obtain⟨hP0,hN0,hR0,hB0,hsz0,b0⟩:=zC W (.cells #[ay DB] 55) (.cells #[aa n] 3) (.cells #[.bool false] 4) (.cells #[bV s] 9);obtain⟨-, -, -, -,b3⟩:=gY W (.cells #[ay DB] 55) (.cells #[aa n] 3) (.cells #[.bool false] 4);have NA:au 84 #[ay DB,aa n] (((W.alloc (.cells #[ay DB] 55)).alloc (.cells #[aa n] 3)).alloc (.cells #[.bool false] 4)) fun r w'=>r=.returned (bV e.name)/\w'=(((W.alloc (.cells #[ay DB] 55)).alloc (.cells #[aa n] 3)).alloc (.cells #[.bool false] 4)):=by
  have h4:=oh (h.below b3) n hn;rw[he] at h4;exact h4
 have hem:e.name.isEmpty=false:=by
  cases hq:e.name with
  |nil=>exact absurd hq hne
  |cons _ _=>rfl
 refine callsIn_of_wp_marks func187 rfl trivial ?_ rfl;simp only[ntmps187,List.size_toArray,List.length_cons,List.length_nil,Nat.reduceAdd,Nat.reduceSub,Array.replicate_succ,Array.replicate_zero,List.push_toArray,List.append_toArray,List.nil_append,List.cons_append]
 gi_wp2_with (first|(refine⟨trivial,?_⟩;gi_at_call 84;refine(callsIn_wide.2 NA).mono ?_;rintro r w1 ⟨rfl,h1⟩;rw[h1];clear h1)|(refine⟨trivial,?_⟩;gi_at_call 176;refine(callsIn_wide.2 (rH s _)).mono ?_;rintro r w1 ⟨rfl,h1⟩;rw[h1];clear h1))
 obtain⟨U,hU⟩:∃U,((((W.alloc (.cells #[ay DB] 55)).alloc (.cells #[aa n] 3)).alloc (.cells #[.bool false] 4)).alloc (.cells #[bV s] 9))=U:=⟨_,rfl⟩;rw[hU] at b0 hP0 hN0 hR0 hB0 hsz0⊢;clear hU NA b3;refine wpIn_rangeFunc_ownF rfl (by omega) (gf:=221) (lb:=#[.pointer (some ⟨W.heap.size+1+1+1,0,none⟩)]) rfl trivial (enters_of func221 (by kernel_rfl) rfl)
  (encs:=ptV) (Kp:=qL (W.heap.size+1+1+1)) (S:=fun xs=>vz xs=pts 0 s) (Sp:=fun p=>vz p<+:pts 0 s) (N:=(pts 0 s).length) (w0:=U)
  (yj s hs _ _ U hB0) qL.trans (fun X l o o' hl h1 h2 h3=>qL.put (w:=U) (by omega) X l o o' hl h1 h2 h3) (aG _ _) (fun _=>rfl)
  (fun pre X=>X.heap[W.heap.size]? =some (.cells #[ay DB] 55)/\X.heap[W.heap.size+1]? =some (.cells #[aa n] 3)/\X.heap[W.heap.size+1+1]? =some (.cells #[.bool false] 4)/\Below W.heap.size W X/\(vz pre).all (yU e)=true/\U.heap.size<=X.heap.size)
  (fun c pre X=>c=.ret/\(vz pre).all (yU e)=false/\X.heap[W.heap.size+1+1]? =some (.cells #[.bool false] 4)/\Below W.heap.size W X)
  (fun pre A C row hs hg hr=>⟨iI hs.1 (by omega) hg hr,iI hs.2.1 (by omega) hg hr,iI hs.2.2.1 (by omega) hg hr,mZ hs.2.2.2.1 (by omega) hg hr,hs.2.2.2.2.1,aJ hs.2.2.2.2.2 hg.size⟩)
  (fun c pre A C row hs hg hr=>⟨hs.1,hs.2.1,iI hs.2.2.1 (by omega) hg hr,mZ hs.2.2.2 (by omega) hg hr⟩)
  ⟨hP0,hN0,hR0,b0,rfl,Nat.le_refl _⟩
  (fun x=>{tmps:=#[bV s,ay DB,aa n,undef,ay W.heap.size,.pointer (some ⟨W.heap.size+1,0,none⟩),.pointer (some ⟨W.heap.size+1+1,0,none⟩),.int .u8 x.1.1.toNat,bV x.1.2,ay DB,aa n,bV e.name,.bool false,bV s,.func (.func 221) #[] #[.pointer (some ⟨W.heap.size+1+1+1,0,none⟩)],.int .u8 x.1.1.toNat,bV x.1.2,undef,undef,undef,undef,undef,undef],defers:=[]})
  ?assign ?body ?done ?stop
 case assign=>
  intro l x X K hK
  gi_wp2
  exact hK
 case body=>
  rintro l pre x X ⟨hP,hN,hR,hb,hok,hu⟩ hlen;obtain⟨⟨k,nm⟩,hnl⟩:=x;have c1:=bH hP;have c2:=bH hN;have hpe:vz (pre++[⟨(k,nm),hnl⟩])=vz pre++[(k,nm)]:=by simp
  have PF:=Ip (h.below hb) n e he hva k nm;cases hp:yU e (k,nm) with
  |true=>
   rw[hp] at PF
   gi_wp2_with (refine⟨trivial,?_⟩;gi_at_call 233;refine(CallsIn.inRound l (callsIn_wide.2 PF)).mono ?_;rintro r w2 ⟨rfl,b2⟩)
   exact⟨sQ b2,b2.block _ (by omega),eX b2 hP,eX b2 hN,eX b2 hR,hb.trans (b2.mono hb.size),by rw[hpe,List.all_append,hok];simp[hp],aJ hu b2.size⟩
  |false=>
   rw[hp] at PF
   gi_wp2_with (refine⟨trivial,?_⟩;gi_at_call 233;refine(CallsIn.inRound l (callsIn_wide.2 PF)).mono ?_;rintro r w2 ⟨rfl,b2⟩;have c3:=bH (eX b2 hR);have f3:=gI (eX b2 hR))
   exact⟨(sQ b2).trans (eF _ _ _),rfl,by rw[hpe,List.all_append];simp[hp],gZ (eX b2 hR) _,(hb.trans (b2.mono hb.size)).setCell (by simp only;omega) _⟩
 case done=>
  rintro D xs X hD hS ⟨hP,hN,hR,hb,hok, -⟩ hK;rw[hS] at hok;have c3:=bH hR;have f3:=gI hR
  gi_wp2
  have hK':=(eF X ⟨W.heap.size+1+1,0,none⟩ (.bool true)).same D _ hK rfl;refine⟨by simp,.inl ⟨_,_,rfl,run_takeDeferred hK',?_⟩⟩;have hr2:=gZ hR (.bool true);have hr3:=(World.putObj_heap_other (w:=X.setCell ⟨W.heap.size+1+1,0,none⟩ (.bool true)) (o:=.deferred none) (show W.heap.size+1+1≠D by omega)).trans hr2;have oc:=bH hr3;refine⟨.bool true,?_,by rw[show qp s=pts 0 s from rfl,hok],(hb.setCell (p:=⟨W.heap.size+1+1,0,none⟩) (by simp only;omega) _).trans (belowK_b (w:=W) ai _ D _ _ (by omega) hK' rfl rfl)⟩;simp[results,results187,go_sem,oc]
 case stop=>
  rintro D c pre X hD hpre ⟨rfl,hbad,hR,hb⟩ hK;have hv:(qp s).all (yU e)=false:=by
   obtain⟨rest,hrest⟩:=hpre;rw[show qp s=pts 0 s from rfl,<- hrest,List.all_append,hbad];rfl
  gi_wp2
  refine⟨by simp,.inl ⟨_,_,rfl,run_takeDeferred hK,?_⟩⟩;have hr3:=(World.putObj_heap_other (w:=X) (o:=.deferred none) (show W.heap.size+1+1≠D by omega)).trans hR;have oc:=bH hr3;refine⟨.bool false,?_,by rw[hv],hb.trans (belowK_b (w:=W) ai X D _ _ (by omega) hK rfl rfl)⟩;simp[results,results187,go_sem,oc]
def EA (M:Dm):Prop:=∀n e,M n=some e->e.name≠[]/\∀a∈e.ats,a.2.length<=1000000
theorem Iq (h:aX B tg W DB MB p M nx c)(hF:EA M)(n:Int)(hn:dR n)(s:Bs)(hs:s.length<=1000000):
  au 187 #[bV s,ay DB,aa n] W fun r w'=>r=.returned (.bool (JI M s n))/\Below W.heap.size W w':=by
 unfold JI;cases he:M n with
 |none=>
  obtain⟨-, -,hR0,hsz0,b3⟩:=gY W (.cells #[ay DB] 55) (.cells #[aa n] 3) (.cells #[.bool false] 4);have NA:au 84 #[ay DB,aa n] (((W.alloc (.cells #[ay DB] 55)).alloc (.cells #[aa n] 3)).alloc (.cells #[.bool false] 4)) fun r w'=>r=.returned (.string ⟨#[]⟩)/\w'=(((W.alloc (.cells #[ay DB] 55)).alloc (.cells #[aa n] 3)).alloc (.cells #[.bool false] 4)):=by
   have h4:=oh (h.below b3) n hn;rw[he] at h4;exact h4
  refine(callsIn_wide (n:=9)).1 ?_;refine callsIn_of_wp_marks func187 rfl trivial ?_ rfl;simp only[ntmps187,List.size_toArray,List.length_cons,List.length_nil,Nat.reduceAdd,Nat.reduceSub,Array.replicate_succ,Array.replicate_zero,List.push_toArray,List.append_toArray,List.nil_append,List.cons_append]
  gi_wp2_with (refine⟨trivial,?_⟩;gi_at_call 84;refine(callsIn_wide.2 NA).mono ?_;rintro r w1 ⟨rfl,h1⟩;rw[h1];clear h1)
  have oc:=bH hR0;refine⟨.bool false,?_,rfl,b3⟩;simp[results,results187,go_sem,oc]
 |some e=>
  obtain⟨h1,h2⟩:=hF n e he;refine(callsIn_wide.1 (LX h n hn e he h1 h2 s hs)).mono fun r w' hr=>⟨?_,hr.2⟩;rw[hr.1];simp[h1]
end
end
section
open Go.RowKit
def yl (M:Dm)(n:Int)(e o:gH):Dm:=dZ M e.parent ⟨o.name,o.ats,o.parent,woL o.kids n⟩
end
end Go.Proofs.YtecneflbncjhpaaGreatDoor

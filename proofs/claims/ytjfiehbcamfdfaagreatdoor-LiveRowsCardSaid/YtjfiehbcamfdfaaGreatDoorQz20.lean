/- Parts of the proof. -/
import Derived.Test.YtjfiehbcamfdfaaGreatDoorQz19
namespace Go.Proofs.YtjfiehbcamfdfaaGreatDoor
open Go.Proofs.Tryz
set_option maxHeartbeats 8000000
section
open Go.RowKit Go.Shelf
set_option maxRecDepth 100000
attribute [local go_sem] Oper.semAt_some
def WN (l:List Bs):Nat:=(l.map fun t=>jA (oM t)).sum
theorem WQ (l:List Bs)(x:Bs):WN (l++[x])=WN l+jA (pts 0 x):=by
 unfold WN;rw[List.map_append,List.sum_append];simp[oM,pts]
theorem PU (x:UInt8×Bs):Ih x<=100:=by
 unfold Ih;split
 ·exact Nat.le_refl _
 ·split
  ·decide
  ·split<;>decide
theorem BB:∀l:List (UInt8×Bs),jA l<=100*l.length
 |[]=>Nat.le_refl _
 |x::l=>by
  have h1:=PU x;have h2:=BB l;unfold jA at h2⊢;rw[List.map_cons,List.sum_cons,List.length_cons];omega
theorem WR:∀l:List Bs,(∀x∈l,x.length<=1000000)->WN l<=100000100*l.length
 |[],_=>Nat.le_refl _
 |x::l,h=>by
  have h1:=BB (pts 0 x);have h2:=zm x.length 0 x ai;have h3:=h x (by simp);have h4:=WR l (fun y hy=>h y (by simp[hy]));unfold WN at h4⊢;rw[List.map_cons,List.sum_cons,List.length_cons,show oM x=pts 0 x from rfl];omega
theorem Si (s:Bs)(hs:s.length<=1000000)(W:ag):CallsIn Fence.wide 12 prog 185 #[.agg #[bV s]] W fun e w'=>e=.returned (aa (Yz s:Nat))/\Below W.heap.size W w':=by
 obtain⟨hS0,hT0,hB0,hsz0,b0⟩:=gp W (.cells #[bV s] 108) (.cells #[aa 0] 3) (.cells #[bV s] 9);have hmx:prog.follows .mixedOrders=true:=by kernel_rfl
 refine callsIn_of_wp_marks func185 rfl trivial ?_ rfl;simp only[ntmps185,List.size_toArray,List.length_cons,List.length_nil,Nat.reduceAdd,Nat.reduceSub,Array.replicate_succ,Array.replicate_zero,List.push_toArray,List.append_toArray,List.nil_append,List.cons_append]
 gi_wp2_with (refine⟨trivial,?_⟩;gi_at_call 126;refine(callsIn_wide.2 (yD s _)).mono ?_;rintro e w1 ⟨rfl,h1⟩;rw[h1];clear h1)
 obtain⟨U,hU⟩:∃U,(((W.alloc (.cells #[bV s] 108)).alloc (.cells #[aa 0] 3)).alloc (.cells #[bV s] 9))=U:=⟨_,rfl⟩;rw[hU] at b0 hS0 hT0 hB0 hsz0⊢;clear hU;refine wpIn_rangeFunc_ownH rfl (by omega) (gf:=171) (lb:=#[.pointer (some ⟨W.heap.size+1+1,0,none⟩)]) rfl trivial (enters_of func171 (by kernel_rfl) rfl)
  (encs:=fun x:StB=>#[bV x.1]) (Kp:=pJ (W.heap.size+1+1)) (S:=fun xs=>EM xs=fV s) (Sp:=fun p=>EM p<+:fV s) (N:=(fV s).length) (w0:=U)
  (EN s hs _ _ U hB0) pJ.trans (fun X l o o' hl h1 h2 h3=>pJ.put (w:=U) (by omega) X l o o' hl h1 h2 h3) (Below.refl _ _) (fun _=>rfl)
  (fun pre X=>X.heap[W.heap.size+1]? =some (.cells #[aa (WN (EM pre):Nat)] 3)/\Below W.heap.size W X/\U.heap.size<=X.heap.size)
  (fun _ _ _=>False)
  (fun pre A C row hs hg hr=>⟨gN hs.1 (by omega) hg hr,lV hs.2.1 (by omega) hg hr,Nat.le_trans hs.2.2 hg.size⟩)
  (fun _ _ _ _ _ h _ _=>h)
  ⟨hT0,b0,Nat.le_refl _⟩
  (fun x a' _=>a'={tmps:=#[.agg #[bV s],ay W.heap.size,aa 0,.pointer (some ⟨W.heap.size+1,0,none⟩),bV x.1,undef,undef,ay W.heap.size,bV s,.func (.func 171) #[] #[.pointer (some ⟨W.heap.size+1+1,0,none⟩)],bV x.1,undef,undef,undef,undef,undef,undef,undef,undef,undef,undef],defers:=[]})
  (fun _ _ _ _ _ _ h _ _=>h)
  ?assign ?body ?done ?stop
 case assign=>
  intro l pre x X K hI hK
  gi_wp2
  exact hK _ _ (KeepsFrom.refl _ _) rfl hI rfl
 case body=>
  rintro l pre x a' X hl ⟨r₀,hl₀⟩ ⟨hT,hb,hu⟩ rfl hlen;obtain⟨st,hnl⟩:=x
  gi_wp2_with (refine⟨trivial,?_⟩;gi_at_call 173;refine(CallsIn.inRound l (callsIn_wide.2 (qG st _))).mono ?_;rintro e w2 ⟨rfl,h⟩;rw[h];clear h)
  have hB2:=World.alloc_heap_new X (.cells #[bV st] 9);have hT2:(X.alloc (.cells #[bV st] 9)).heap[W.heap.size+1]? =some (.cells #[aa (WN (EM pre):Nat)] 3):=(Below.heap_alloc _ _ _ (by omega)).trans hT;have hl2:(X.alloc (.cells #[bV st] 9)).heap[l]? =some (.loop r₀):=(Below.heap_alloc _ _ _ (by have:=(Array.getElem?_eq_some_iff.1 hl₀).1;omega)).trans hl₀;have hb2:Below W.heap.size W (X.alloc (.cells #[bV st] 9)):=hb.alloc hb.size _;have hk2:pJ (W.heap.size+1+1) X (X.alloc (.cells #[bV st] 9)):=Below.heap_alloc _ _ _ (by omega);have kf2:KeepsFrom U.heap.size X (X.alloc (.cells #[bV st] 9)):=(KeepsOthers.alloc _ _).from _;have hz2:(X.alloc (.cells #[bV st] 9)).heap.size=X.heap.size+1:=World.size_alloc _ _;obtain⟨X2,hX2⟩:∃X2,X.alloc (.cells #[bV st] 9)=X2:=⟨_,rfl⟩;rw[hX2] at hB2 hT2 hl2 hb2 hk2 kf2 hz2⊢;clear hX2;have hwl:=WR (EM pre) (fun y hy=>by obtain⟨z, -,rfl⟩:=List.mem_map.1 hy;exact z.2);rw[List.length_map] at hwl;have hpc:pre.length<=1000001:=by
   have:=kC (s.length+1) s;unfold fV at hlen;omega
  have HWS:Hid (WN (EM pre++[st])=WN (EM pre)+jA (pts 0 st)):=WQ _ _;obtain⟨a0,ha0⟩:∃a0,WN (EM pre)=a0:=⟨_,rfl⟩;rw[ha0] at hT2 hwl HWS;clear ha0 hT;refine wpIn_rangeFunc_ownN (l₀:=l) (r₀:=r₀) rfl hl2 (by omega) (gf:=214) (lb:=#[ay X.heap.size]) rfl trivial (enters_of func214 (by kernel_rfl) rfl)
   (encs:=ptV) (Kp:=pJ X.heap.size) (S:=fun xs=>uk xs=pts 0 st) (Sp:=fun p=>uk p<+:pts 0 st) (N:=(pts 0 st).length) (w0:=X2)
   (SeqStopsK.inRound l (xz st hnl _ _ X2 hB2)) pJ.trans (fun Y l o o' hl h1 h2 h3=>pJ.put (w:=X2) (by omega) Y l o o' hl h1 h2 h3) (Below.refl _ _) (fun _=>rfl)
   (fun pre' Y=>Y.heap[W.heap.size+1]? =some (.cells #[aa (a0+jA (uk pre'):Nat)] 3)/\Below W.heap.size W Y/\KeepsFrom U.heap.size X Y/\pJ (W.heap.size+1+1) X Y/\X2.heap.size<=Y.heap.size)
   (fun _ _ _=>False)
   (fun pre' A C row hs hg hr=>⟨gN hs.1 (by omega) hg hr,lV hs.2.1 (by omega) hg hr,ownFrom_keepsFrom (β:=Unit) (w₀:=X) (B':=X2.heap.size) (by omega) () A C row hs.2.2.1 hg hr,hs.2.2.2.1.trans (hg.block _ (by omega) (fun e=>by have:=(hr _ e.symm).1;omega)),Nat.le_trans hs.2.2.2.2 hg.size⟩)
   (fun _ _ _ _ _ h _ _=>h)
   ⟨hT2,hb2,kf2,hk2,Nat.le_refl _⟩
   (fun y a' _=>a'={tmps:=#[.agg #[bV s],ay W.heap.size,aa 0,.pointer (some ⟨W.heap.size+1,0,none⟩),bV st,.int .u8 y.1.1.toNat,bV y.1.2,ay W.heap.size,bV s,.func (.func 171) #[] #[.pointer (some ⟨W.heap.size+1+1,0,none⟩)],bV st,bV st,.func (.func 214) #[] #[ay X.heap.size],.int .u8 y.1.1.toNat,bV y.1.2,undef,undef,undef,undef,undef,undef],defers:=[]})
   (fun _ _ _ _ _ _ h _ _=>h)
   ?assign2 ?a7F ?a7G ?a7H
  case assign2=>
   intro l2 pre' y Y K hI hK
   gi_wp2
   exact hK _ _ (KeepsFrom.refl _ _) rfl hI rfl
  case a7F=>
   rintro l2 pre' y a' Y hl2-⟨DZ,hb3,kf3,hk3,hz3⟩ rfl afU;obtain⟨⟨k,nm⟩,hnm⟩:=y;have c1:=bG DZ;have f1:=fJ DZ;have WO:=fun V=>Gf k nm V;have hp1:=BB (uk pre');have hp2:=zm st.length 0 st ai;have hp3:=PU (k,nm);rw[List.length_map] at hp1;have hpe:uk (pre'++[⟨(k,nm),hnm⟩])=uk pre'++[(k,nm)]:=by simp
   have HV:Hid (a0+jA (uk (pre'++[⟨(k,nm),hnm⟩]))=(a0+jA (uk pre'))+Ih (k,nm)):=(by
    rw[hpe,QT];simp[jA];omega:a0+jA (uk (pre'++[⟨(k,nm),hnm⟩]))=(a0+jA (uk pre'))+Ih (k,nm))
   have hbc:a0+jA (uk pre')<=1000000000000000:=by omega
   obtain⟨c,hc⟩:∃c,a0+jA (uk pre')=c:=⟨_,rfl⟩;obtain⟨wk,hwk⟩:∃wk,Ih (k,nm)=wk:=⟨_,rfl⟩;rw[hc] at c1 DZ HV hbc;rw[hwk] at WO hp3 HV;clear hc hwk hpe hp1 hp2;have hwr:IntKind.i64.wrap ((c:Int)+(wk:Int))=((c+wk:Nat):Int):=by
    rw[IntWalk.i64_in _ (by omega)];omega
   have h4:=gq DZ (aa ((c:Int)+(wk:Int)));have HT4:=aj h4;have hb4:=(hb3.setCell (p:=⟨W.heap.size+1,0,none⟩) (by simp only;omega) (aa ((c:Int)+(wk:Int)))).drew;have ko4:=(KeepsOthers.setCell Y ⟨W.heap.size+1,0,none⟩ (aa ((c:Int)+(wk:Int)))).trans (KeepsOthers.drew _);have hk4:pJ X.heap.size Y (Y.setCell ⟨W.heap.size+1,0,none⟩ (aa ((c:Int)+(wk:Int)))).drew:=Below.heap_setCell Y ⟨W.heap.size+1,0,none⟩ _ X.heap.size (by simp only;omega);have hk5:pJ (W.heap.size+1+1) Y (Y.setCell ⟨W.heap.size+1,0,none⟩ (aa ((c:Int)+(wk:Int)))).drew:=Below.heap_setCell Y ⟨W.heap.size+1,0,none⟩ _ (W.heap.size+1+1) (by simp only;omega);clear h4
   gi_wp2
   gi_region_with_o ((refine⟨trivial,?_⟩;gi_at_call 227;refine(CallsIn.inRound l2 (CallsIn.inRound l (callsIn_wide.2 (WO _)))).mono ?_;rintro e w3 ⟨rfl,h⟩;rw[h];clear h))
   all_goals gi_wp2
   all_goals exact⟨ko4.from _,hk4,by rw[HV.out,Int.natCast_add];exact HT4.out,hb4,kf3.trans (ko4.from _),hk3.trans hk5,Nat.le_trans hz3 ko4.size⟩
  case a7G=>
   rintro xs Y hS ⟨DZ,hb3,kf3,hk3,hz3⟩;rw[hS] at DZ;have hpe:EM (pre++[⟨st,hnl⟩])=EM pre++[st]:=by simp
   gi_wp2
   exact⟨kf3,hk3,by rw[hpe,HWS.out];exact DZ,hb3,by omega⟩
  case a7H=>
   rintro c pre' Y-h;exact h.elim
 case done=>
  rintro D xs X hD hS ⟨hT,hb, -⟩ hK;rw[hS] at hT;have c1:=bG hT
  gi_wp2
  refine⟨by simp,.inl ⟨_,_,rfl,run_takeDeferred hK,?_⟩⟩;refine⟨aa (WN (fV s):Nat),?_,rfl,hb.trans (belowK_b (w:=W) ai X D _ _ (by omega) hK rfl rfl)⟩;simp[results,results185,go_sem]
 case stop=>
  rintro D c pre X- - h -;exact h.elim
theorem Nc (s:Bs)(hs:s.length<=1000000)(W:ag):ax 185 #[.agg #[bV s]] W fun e w'=>e=.returned (aa (Yz s:Nat))/\Below W.heap.size W w':=callsIn_wide.1 (Si s hs W)
end
section
open Go.RowKit Go.Shelf
set_option maxRecDepth 100000
attribute [local go_sem] Oper.semAt_some
theorem Sj (v nm:Bs)(hv:v.length<=1000000)(W:ag):
  ax 255 #[.slice (some ⟨W.heap.size,0,none⟩) (Lib.countB ⟨v.toArray⟩ ⟨#[32]⟩+1) (Lib.countB ⟨v.toArray⟩ ⟨#[32]⟩+1),.string ⟨nm.toArray⟩] (W.alloc (.cells ((Lib.splitB ⟨#[32]⟩ 0 (Lib.countB ⟨v.toArray⟩ ⟨#[32]⟩) ⟨v.toArray⟩).map Value.string).toArray 9)) fun e w'=>e=.returned (.bool (a6A v nm))/\w'=W.alloc (.cells ((Lib.splitB ⟨#[32]⟩ 0 (Lib.countB ⟨v.toArray⟩ ⟨#[32]⟩) ⟨v.toArray⟩).map Value.string).toArray 9):=by
 have h1:1<=(⟨#[32]⟩:aD).size:=by decide
 have hlen:=Lib.splitB_all ⟨#[32]⟩ h1 0 _ (⟨v.toArray⟩:aD) rfl;have hle:=Lib.countB_le ⟨#[32]⟩ h1 (⟨v.toArray⟩:aD).size ⟨v.toArray⟩ ai;rw[eG] at hle;have h:=Tryz.slices_Contains_string W.heap.size 0 (Lib.countB ⟨v.toArray⟩ ⟨#[32]⟩+1) (Lib.countB ⟨v.toArray⟩ ⟨#[32]⟩+1) (Lib.splitB ⟨#[32]⟩ 0 (Lib.countB ⟨v.toArray⟩ ⟨#[32]⟩) ⟨v.toArray⟩) ⟨nm.toArray⟩ (W.alloc (.cells ((Lib.splitB ⟨#[32]⟩ 0 (Lib.countB ⟨v.toArray⟩ ⟨#[32]⟩) ⟨v.toArray⟩).map Value.string).toArray 9)) (by rw[hlen];exact Nat.le_refl _) (by omega) (fun j hj=>by
  have hb:=World.alloc_heap_new W (.cells ((Lib.splitB ⟨#[32]⟩ 0 (Lib.countB ⟨v.toArray⟩ ⟨#[32]⟩) ⟨v.toArray⟩).map Value.string).toArray 9);refine aF hb (0+j) _ ?_;rw[Nat.zero_add,List.getElem?_toArray,List.getElem?_map,List.getElem?_eq_getElem hj];simp[hj])
 rw[List.take_of_length_le (by rw[hlen];exact Nat.le_refl _)] at h;exact h
section
variable {B:Nat}{tg:bf}{W:ag}{DB MB:Nat}{p:Int->Option Nat}{M:Dm}{nx c:Nat}
theorem Gn (h:aO B tg W DB MB p M nx c)(n:Int)(e:dO)(he:M n=some e)(hva:∀a∈e.ats,a.2.length<=1000000)(k:UInt8)(nm:Bs):
  ax 228 #[.int .u8 k.toNat,bV nm,ay DB,aa n] W fun r w'=>r=.returned (.bool (xY e (k,nm)))/\Below W.heap.size W w':=by
 have hn:=h.i64 he;have a0h:∀x,MJ M n x=jk e.ats x:=fun x=>by unfold MJ;rw[he]
 have hal:∀x,((jk e.ats x).getD []).length<=1000000:=fun x=>by
  rcases ru e.ats x 0 with⟨-,h2⟩|⟨i,y, -,h2,h3⟩
  ·rw[h2];exact Nat.zero_le _
  ·rw[h3];exact hva y (List.mem_of_getElem? h2)
 have h1:((k.toNat:Int)==35)=(k==35):=vL k 35;have h2:((k.toNat:Int)==46)=(k==46):=vL k 46;have h3:((k.toNat:Int)==91)=(k==91):=vL k 91;unfold xY;simp only;by_cases k1:k=35
 ·have e1:(k==35)=true:=by rw[k1];rfl
  rw[e1] at h1;rw[if_pos k1];have AT:ax 17 #[ay DB,aa n,.string ⟨#[105,100]⟩] W _:=jv h n hn [105,100];rw[a0h] at AT;obtain⟨v,hv⟩:∃v,(jk e.ats [105,100]).getD []=v:=⟨_,rfl⟩;rw[hv] at AT⊢;have hcm:((⟨v.toArray⟩:aD).toList==(⟨nm.toArray⟩:aD).toList)=(v==nm):=by rw[ByteArray.toList_eq,ByteArray.toList_eq]
  clear k1 h2 h3 hal hv;go_enter func228,ntmps228;go_wp2_with(go_at_call 17;refine AT.mono ?_;rintro r w1 ⟨rfl,hb1⟩);go_ret;exact⟨rfl,hb1⟩
 have e1:(k==35)=false:=by rw[beq_eq_false_iff_ne];exact k1
 rw[e1] at h1;rw[if_neg k1];by_cases k2:k=46
 ·have e2:(k==46)=true:=by rw[k2];rfl
  rw[e2] at h2;rw[if_pos k2];have AT:ax 17 #[ay DB,aa n,.string ⟨#[99,108,97,115,115]⟩] W _:=jv h n hn [99,108,97,115,115];rw[a0h] at AT;have hvl:=hal [99,108,97,115,115];obtain⟨v,hv⟩:∃v,(jk e.ats [99,108,97,115,115]).getD []=v:=⟨_,rfl⟩;rw[hv] at AT hvl⊢;have SP:=fun V=>xw ⟨v.toArray⟩ (by rw[eG];omega) V;have CL:=fun V=>Sj v nm hvl V;clear k1 k2 h3 hal hv hvl;go_enter func228,ntmps228;go_wp2_with(first|(go_at_call 255;refine(CL _).mono ?_;rintro r w3 ⟨rfl,h3⟩;rw[h3];clear h3)|(go_at_call 235;refine(SP _).mono ?_;rintro r w2 ⟨rfl,h2⟩;rw[h2];clear h2)|(go_at_call 17;refine AT.mono ?_;rintro r w1 ⟨rfl,hb1⟩));go_ret;exact⟨rfl,hb1.alloc hb1.size _⟩
 have e2:(k==46)=false:=by rw[beq_eq_false_iff_ne];exact k2
 rw[e2] at h2;rw[if_neg k2];by_cases k3:k=91
 ·have e3:(k==91)=true:=by rw[k3];rfl
  rw[e3] at h3;rw[if_pos k3];have AT:=jv h n hn nm;rw[a0h] at AT;clear k1 k2 k3 hal;go_enter func228,ntmps228;go_wp2_with(go_at_call 17;refine AT.mono ?_;rintro r w1 ⟨rfl,hb1⟩);go_ret;exact⟨rfl,hb1⟩
 have e3:(k==91)=false:=by rw[beq_eq_false_iff_ne];exact k3
 rw[e3] at h3;rw[if_neg k3];have FA:=qE nm W;have NA:ax 90 #[ay DB,aa n] W fun r w'=>r=.returned (bV e.name)/\w'=W:=by
  have h4:=ng h n hn;rw[he] at h4;exact h4
 clear k1 k2 k3 hal a0h;cases ha:xV nm with
 |true=>
  rw[ha] at FA;go_enter func228,ntmps228;go_wp2_with(go_at_call 217;refine FA.mono ?_;rintro r w1 ⟨rfl,h⟩;rw[h];clear h);go_ret;exact⟨rfl,Below.refl _ _⟩
 |false=>
  rw[ha] at FA;have hcm:((⟨e.name.toArray⟩:aD).toList==(⟨nm.toArray⟩:aD).toList)=(e.name==nm):=by rw[ByteArray.toList_eq,ByteArray.toList_eq]
  go_enter func228,ntmps228;go_wp2_with(first|(go_at_call 217;refine FA.mono ?_;rintro r w1 ⟨rfl,h⟩;rw[h];clear h)|(go_at_call 90;refine NA.mono ?_;rintro r w1 ⟨rfl,h⟩;rw[h];clear h));go_ret;exact⟨by simp,Below.refl _ _⟩
theorem JP (h:aO B tg W DB MB p M nx c)(n:Int)(hn:bA n)(e:dO)(he:M n=some e)(hne:e.name≠[])(hva:∀a∈e.ats,a.2.length<=1000000)(s:Bs)(hs:s.length<=1000000):
  CallsIn Fence.wide 9 prog 187 #[bV s,ay DB,aa n] W fun r w'=>r=.returned (.bool ((oM s).all (xY e)))/\Below W.heap.size W w':=by
 obtain⟨hP0,hN0,hR0,hB0,hsz0,b0⟩:=yF W (.cells #[ay DB] 52) (.cells #[aa n] 3) (.cells #[.bool false] 4) (.cells #[bV s] 9);obtain⟨-, -, -, -,b3⟩:=gp W (.cells #[ay DB] 52) (.cells #[aa n] 3) (.cells #[.bool false] 4);have NA:ax 90 #[ay DB,aa n] (((W.alloc (.cells #[ay DB] 52)).alloc (.cells #[aa n] 3)).alloc (.cells #[.bool false] 4)) fun r w'=>r=.returned (bV e.name)/\w'=(((W.alloc (.cells #[ay DB] 52)).alloc (.cells #[aa n] 3)).alloc (.cells #[.bool false] 4)):=by
  have h4:=ng (h.below b3) n hn;rw[he] at h4;exact h4
 have hem:e.name.isEmpty=false:=by
  cases hq:e.name with
  |nil=>exact absurd hq hne
  |cons _ _=>rfl
 refine callsIn_of_wp_marks func187 rfl trivial ?_ rfl;simp only[ntmps187,List.size_toArray,List.length_cons,List.length_nil,Nat.reduceAdd,Nat.reduceSub,Array.replicate_succ,Array.replicate_zero,List.push_toArray,List.append_toArray,List.nil_append,List.cons_append]
 gi_wp2_with (first|(refine⟨trivial,?_⟩;gi_at_call 90;refine(callsIn_wide.2 NA).mono ?_;rintro r w1 ⟨rfl,h1⟩;rw[h1];clear h1)|(refine⟨trivial,?_⟩;gi_at_call 173;refine(callsIn_wide.2 (qG s _)).mono ?_;rintro r w1 ⟨rfl,h1⟩;rw[h1];clear h1))
 obtain⟨U,hU⟩:∃U,((((W.alloc (.cells #[ay DB] 52)).alloc (.cells #[aa n] 3)).alloc (.cells #[.bool false] 4)).alloc (.cells #[bV s] 9))=U:=⟨_,rfl⟩;rw[hU] at b0 hP0 hN0 hR0 hB0 hsz0⊢;clear hU NA b3;refine wpIn_rangeFunc_ownF rfl (by omega) (gf:=214) (lb:=#[.pointer (some ⟨W.heap.size+1+1+1,0,none⟩)]) rfl trivial (enters_of func214 (by kernel_rfl) rfl)
  (encs:=ptV) (Kp:=pJ (W.heap.size+1+1+1)) (S:=fun xs=>uk xs=pts 0 s) (Sp:=fun p=>uk p<+:pts 0 s) (N:=(pts 0 s).length) (w0:=U)
  (xz s hs _ _ U hB0) pJ.trans (fun X l o o' hl h1 h2 h3=>pJ.put (w:=U) (by omega) X l o o' hl h1 h2 h3) (Below.refl _ _) (fun _=>rfl)
  (fun pre X=>X.heap[W.heap.size]? =some (.cells #[ay DB] 52)/\X.heap[W.heap.size+1]? =some (.cells #[aa n] 3)/\X.heap[W.heap.size+1+1]? =some (.cells #[.bool false] 4)/\Below W.heap.size W X/\(uk pre).all (xY e)=true/\U.heap.size<=X.heap.size)
  (fun c pre X=>c=.ret/\(uk pre).all (xY e)=false/\X.heap[W.heap.size+1+1]? =some (.cells #[.bool false] 4)/\Below W.heap.size W X)
  (fun pre A C row hs hg hr=>⟨gN hs.1 (by omega) hg hr,gN hs.2.1 (by omega) hg hr,gN hs.2.2.1 (by omega) hg hr,lV hs.2.2.2.1 (by omega) hg hr,hs.2.2.2.2.1,Nat.le_trans hs.2.2.2.2.2 hg.size⟩)
  (fun c pre A C row hs hg hr=>⟨hs.1,hs.2.1,gN hs.2.2.1 (by omega) hg hr,lV hs.2.2.2 (by omega) hg hr⟩)
  ⟨hP0,hN0,hR0,b0,rfl,Nat.le_refl _⟩
  (fun x=>{tmps:=#[bV s,ay DB,aa n,undef,ay W.heap.size,.pointer (some ⟨W.heap.size+1,0,none⟩),.pointer (some ⟨W.heap.size+1+1,0,none⟩),.int .u8 x.1.1.toNat,bV x.1.2,ay DB,aa n,bV e.name,.bool false,bV s,.func (.func 214) #[] #[.pointer (some ⟨W.heap.size+1+1+1,0,none⟩)],.int .u8 x.1.1.toNat,bV x.1.2,undef,undef,undef,undef,undef,undef],defers:=[]})
  ?assign ?body ?done ?stop
 case assign=>
  intro l x X K hK
  gi_wp2
  exact hK
 case body=>
  rintro l pre x X ⟨hP,hN,hR,hb,hok,hu⟩ hlen;obtain⟨⟨k,nm⟩,hnl⟩:=x;have c1:=bG hP;have c2:=bG hN;have hpe:uk (pre++[⟨(k,nm),hnl⟩])=uk pre++[(k,nm)]:=by simp
  have PF:=Gn (h.below hb) n e he hva k nm;cases hp:xY e (k,nm) with
  |true=>
   rw[hp] at PF
   gi_wp2_with (refine⟨trivial,?_⟩;gi_at_call 228;refine(CallsIn.inRound l (callsIn_wide.2 PF)).mono ?_;rintro r w2 ⟨rfl,b2⟩)
   exact⟨rA b2,b2.block _ (by omega),dL b2 hP,dL b2 hN,dL b2 hR,hb.trans (b2.mono hb.size),by rw[hpe,List.all_append,hok];simp[hp],Nat.le_trans hu b2.size⟩
  |false=>
   rw[hp] at PF
   gi_wp2_with (refine⟨trivial,?_⟩;gi_at_call 228;refine(CallsIn.inRound l (callsIn_wide.2 PF)).mono ?_;rintro r w2 ⟨rfl,b2⟩;have c3:=bG (dL b2 hR);have f3:=fJ (dL b2 hR))
   exact⟨(rA b2).trans (KeepsOthers.setCell _ _ _),rfl,by rw[hpe,List.all_append];simp[hp],gq (dL b2 hR) _,(hb.trans (b2.mono hb.size)).setCell (by simp only;omega) _⟩
 case done=>
  rintro D xs X hD hS ⟨hP,hN,hR,hb,hok, -⟩ hK;rw[hS] at hok;have c3:=bG hR;have f3:=fJ hR
  gi_wp2
  have hK':=(KeepsOthers.setCell X ⟨W.heap.size+1+1,0,none⟩ (.bool true)).same D _ hK rfl;refine⟨by simp,.inl ⟨_,_,rfl,run_takeDeferred hK',?_⟩⟩;have hr2:=gq hR (.bool true);have hr3:=(World.putObj_heap_other (w:=X.setCell ⟨W.heap.size+1+1,0,none⟩ (.bool true)) (o:=.deferred none) (show W.heap.size+1+1≠D by omega)).trans hr2;have oc:=bG hr3;refine⟨.bool true,?_,by rw[show oM s=pts 0 s from rfl,hok],(hb.setCell (p:=⟨W.heap.size+1+1,0,none⟩) (by simp only;omega) _).trans (belowK_b (w:=W) ai _ D _ _ (by omega) hK' rfl rfl)⟩;simp[results,results187,go_sem,oc]
 case stop=>
  rintro D c pre X hD hpre ⟨rfl,hbad,hR,hb⟩ hK;have hv:(oM s).all (xY e)=false:=by
   obtain⟨rest,hrest⟩:=hpre;rw[show oM s=pts 0 s from rfl,<- hrest,List.all_append,hbad];rfl
  gi_wp2
  refine⟨by simp,.inl ⟨_,_,rfl,run_takeDeferred hK,?_⟩⟩;have hr3:=(World.putObj_heap_other (w:=X) (o:=.deferred none) (show W.heap.size+1+1≠D by omega)).trans hR;have oc:=bG hr3;refine⟨.bool false,?_,by rw[hv],hb.trans (belowK_b (w:=W) ai X D _ _ (by omega) hK rfl rfl)⟩;simp[results,results187,go_sem,oc]
def Dn (M:Dm):Prop:=∀n e,M n=some e->e.name≠[]/\∀a∈e.ats,a.2.length<=1000000
theorem Gp (h:aO B tg W DB MB p M nx c)(hF:Dn M)(n:Int)(hn:bA n)(s:Bs)(hs:s.length<=1000000):
  ax 187 #[bV s,ay DB,aa n] W fun r w'=>r=.returned (.bool (Ii M s n))/\Below W.heap.size W w':=by
 unfold Ii;cases he:M n with
 |none=>
  obtain⟨-, -,hR0,hsz0,b3⟩:=gp W (.cells #[ay DB] 52) (.cells #[aa n] 3) (.cells #[.bool false] 4);have NA:ax 90 #[ay DB,aa n] (((W.alloc (.cells #[ay DB] 52)).alloc (.cells #[aa n] 3)).alloc (.cells #[.bool false] 4)) fun r w'=>r=.returned (.string ⟨#[]⟩)/\w'=(((W.alloc (.cells #[ay DB] 52)).alloc (.cells #[aa n] 3)).alloc (.cells #[.bool false] 4)):=by
   have h4:=ng (h.below b3) n hn;rw[he] at h4;exact h4
  refine(callsIn_wide (n:=9)).1 ?_;refine callsIn_of_wp_marks func187 rfl trivial ?_ rfl;simp only[ntmps187,List.size_toArray,List.length_cons,List.length_nil,Nat.reduceAdd,Nat.reduceSub,Array.replicate_succ,Array.replicate_zero,List.push_toArray,List.append_toArray,List.nil_append,List.cons_append]
  gi_wp2_with (refine⟨trivial,?_⟩;gi_at_call 90;refine(callsIn_wide.2 NA).mono ?_;rintro r w1 ⟨rfl,h1⟩;rw[h1];clear h1)
  have oc:=bG hR0;refine⟨.bool false,?_,rfl,b3⟩;simp[results,results187,go_sem,oc]
 |some e=>
  obtain⟨h1,h2⟩:=hF n e he;refine(callsIn_wide.1 (JP h n hn e he h1 h2 s hs)).mono fun r w' hr=>⟨?_,hr.2⟩;rw[hr.1];simp[h1]
end
end
end Go.Proofs.YtjfiehbcamfdfaaGreatDoor

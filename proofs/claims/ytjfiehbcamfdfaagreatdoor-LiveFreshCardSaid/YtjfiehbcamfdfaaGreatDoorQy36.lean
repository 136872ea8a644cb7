/-
  Parts of the proof.
-/
import Derived.Test.YtjfiehbcamfdfaaGreatDoorQy30
import Derived.Test.YtjfiehbcamfdfaaGreatDoorQy35
namespace Go.Proofs.YtjfiehbcamfdfaaGreatDoor
open Go.Proofs.Tryz
section
def Dh (l:List (Bs×Bs)):Prop:=(∀a∈l,fo a.1=true/\isVal a.2=true)/\(l.map Prod.fst).Nodup
def a4a (e:iy):Prop:=fo e.name=true/\e.ats.length<=12/\Dh e.ats
theorem JX {ahead:List (Bs×Bs)}{a:Bs×Bs}:Mf ahead a=0↔fo a.1=true/\isVal a.2=true/\a.1 ∉ ahead.map Prod.fst:=by
 unfold Mf;by_cases h1:fo a.1=true
 ·rw[if_pos h1];by_cases h2:ahead.any (fun x=>x.1==a.1)=true
  ·rw[if_pos h2];rw[List.any_eq_true] at h2;obtain⟨x,hx,he⟩:=h2;refine⟨fun h=>(by cases h),fun h=>absurd (List.mem_map.2 ⟨x,hx,eq_of_beq he⟩) h.2.2⟩
  ·rw[if_neg h2];have h3:a.1 ∉ ahead.map Prod.fst:=fun h=>h2 (by
    obtain⟨x,hx,he⟩:=List.mem_map.1 h;rw[List.any_eq_true];exact⟨x,hx,by rw[he];simp⟩)
   by_cases h4:isVal a.2=true
   ·rw[if_pos h4];exact⟨fun _=>⟨h1,h4,h3⟩,fun _=>rfl⟩
   ·rw[if_neg h4];exact⟨fun h=>(by cases h),fun h=>absurd h.2.1 h4⟩
 ·rw[if_neg h1];exact⟨fun h=>(by cases h),fun h=>absurd h.1 h1⟩
theorem JY:∀(l ahead:List (Bs×Bs)),(ahead.map Prod.fst).Nodup->(yV ahead l=0↔(∀a∈l,fo a.1=true/\isVal a.2=true)/\((ahead++l).map Prod.fst).Nodup)
 |[],ahead,hn=>by
  rw[yV];simp[hn]
 |a::l,ahead,hn=>by
  rw[yV];by_cases h:Mf ahead a=0
  ·rw[if_pos h];obtain⟨h1,h2,h3⟩:=JX.1 h;have hn':((ahead++[a]).map Prod.fst).Nodup:=by
    rw[List.map_append,List.nodup_append];exact⟨hn,by simp,fun x hx y hy e=>by simp at hy;subst hy;subst e;exact h3 hx⟩
   rw[JY l (ahead++[a]) hn',List.append_assoc];constructor
   ·rintro⟨k1,k2⟩;exact⟨fun x hx=>by
     rcases List.mem_cons.1 hx with rfl|hx
     ·exact⟨h1,h2⟩
     ·exact k1 x hx,k2⟩
   ·rintro⟨k1,k2⟩;exact⟨fun x hx=>k1 x (by simp[hx]),k2⟩
  ·rw[if_neg h];refine⟨fun e=>absurd e h,fun⟨k1,k2⟩=>absurd (JX.2 ⟨(k1 a (by simp)).1,(k1 a (by simp)).2,fun hm=>?_⟩) h⟩;rw[List.map_append,List.nodup_append] at k2;exact k2.2.2 a.1 hm a.1 (by simp) rfl
theorem Dh.ck {l:List (Bs×Bs)}:yV [] l=0↔Dh l:=by
 rw[JY l [] (by simp),List.nil_append];rfl
theorem Nj (l:List (Bs×Bs))(nm v:Bs):(gm l nm v).map Prod.fst=if(iK l nm).isSome then l.map Prod.fst else l.map Prod.fst++[nm]:=by
 induction l with
 |nil=>rfl
 |cons a l ih=>
  rw[gm,gZ];by_cases hk:(a.1==nm)=true
  ·rw[if_pos hk,if_pos hk];simp[eq_of_beq hk]
  ·rw[if_neg hk,if_neg hk,List.map_cons,ih,List.map_cons];cases iK l nm<;>rfl
theorem RQ {l:List (Bs×Bs)}{nm:Bs}(h:iK l nm=none):nm ∉ l.map Prod.fst:=by
 induction l with
 |nil=>simp
 |cons a l ih=>
  rw[gZ] at h;by_cases hk:(a.1==nm)=true
  ·rw[if_pos hk] at h;cases h
  ·rw[if_neg hk] at h;simp only[List.map_cons,List.mem_cons,not_or];exact⟨fun e=>hk (by rw[e];simp),ih h⟩
theorem Dh.set {l:List (Bs×Bs)}{nm v:Bs}(h:Dh l)(h1:fo nm=true)(h2:isVal v=true):Dh (gm l nm v):=by
 refine⟨fun a ha=>?_,?_⟩
 ·rcases Ul l nm v ha with rfl|ha
  ·exact⟨h1,h2⟩
  ·exact h.1 a ha
 ·rw[Nj];cases hs:iK l nm with
  |some v=>exact h.2
  |none=>
   simp only[Option.isSome_none,Bool.false_eq_true,if_false];rw[List.nodup_append];refine⟨h.2,by simp,fun x hx y hy e=>?_⟩;simp at hy;subst hy;subst e;exact RQ hs hx
theorem BK (l:List (Bs×Bs))(nm:Bs):(uR l nm).Sublist l:=by
 induction l with
 |nil=>exact .slnil
 |cons a l ih=>
  rw[uR];by_cases hk:(a.1==nm)=true
  ·rw[if_pos hk];exact List.sublist_cons_self a l
  ·rw[if_neg hk];exact ih.cons_cons a
theorem Dh.off {l:List (Bs×Bs)}{nm:Bs}(h:Dh l):Dh (uR l nm):=
 ⟨fun a ha=>h.1 a ((BK l nm).subset ha),((BK l nm).map Prod.fst).nodup h.2⟩
def dP (M:Dm):Prop:=∀i e,M i=some e->a4a e
theorem dP.set {M:Dm}(h:dP M){n:Int}{e:iy}(he:M n=some e){nm v:Bs}(h1:fo nm=true)(h2:isVal v=true)(h3:(iK e.ats nm).isSome=true\/e.ats.length<12):dP (jN M n e (gm e.ats nm v)):=fun i x hx=>by
 unfold jN gH at hx;by_cases hi:i=n
 ·rw[if_pos hi] at hx;cases hx;obtain⟨k1,k2,k3⟩:=h n e he;refine⟨k1,?_,k3.set h1 h2⟩;show(gm e.ats nm v).length<=12;rw[Uk];split
  ·exact k2
  ·next hs=>
   rcases h3 with h3|h3
   ·exact absurd h3 hs
   ·omega
 ·rw[if_neg hi] at hx;exact h i x hx
theorem dP.off {M:Dm}(h:dP M){n:Int}{e:iy}(he:M n=some e){nm:Bs}:dP (jN M n e (uR e.ats nm)):=fun i x hx=>by
 unfold jN gH at hx;by_cases hi:i=n
 ·rw[if_pos hi] at hx;cases hx;obtain⟨k1,k2,k3⟩:=h n e he;exact⟨k1,Nat.le_trans (BK e.ats nm).length_le k2,k3.off⟩
 ·rw[if_neg hi] at hx;exact h i x hx
theorem a8v {M:Dm}{r:Int->Nat}(hw:Wd M r)(hok:dP M):∀(f:Nat) (n:Int) (e:iy) (ahead:Nat),M n=some e->Dp M f n->ahead+szM M f n<=100->fT (yZ M f n) (r n) ahead=(0,ahead+szM M f n)
 |0,_,_,_,_,hd,_=>hd.elim
 |f+1,n,e,ahead,he,hd,hs=>by
  obtain⟨k1,k2,k3⟩:=hok n e he;have hr:=(hw.rb n e he).2;rw[a9K he] at hs⊢;have h1:ck1 e.name e.ats (r n) ahead=0:=by
   unfold ck1;rw[if_neg (by omega),if_neg (by omega),if_pos k1,if_neg (by omega)];exact Dh.ck.2 k3
  rw[yZ,he];show fT (.mk e.name e.ats (e.kids.map (yZ M f))) (r n) ahead=_;rw[fT,if_pos h1];have key:∀(l:List Int) (a:Nat),(∀k∈l,k∈e.kids)->a+(l.map (szM M f)).sum<=100->uD (l.map (yZ M f)) (r n+1) a=(0,a+(l.map (szM M f)).sum):=fun l=>by
   induction l with
   |nil=>intro a _ _;rfl
   |cons k l ih=>
    intro a hl ha;rw[List.map_cons,List.sum_cons] at ha;rw[List.map_cons (f:=szM M f),List.sum_cons];obtain⟨x,hx, -⟩:=hw.down n e k he (hl k (by simp));have hrk:=(hw.step he (hl k (by simp))).1;have hk:=a8v hw hok f k x a hx (hd e he k (hl k (by simp))) (by omega);rw[hrk] at hk;rw[List.map_cons,uD,hk,if_pos rfl,ih _ (fun j hj=>hl j (by simp[hj])) (by simp only;omega)];simp only;congr 1;omega
  rw[key e.kids (ahead+1) (fun _ h=>h) (by omega)];congr 1;omega
end
section
open Go.RowKit
def NdR (N:Nat)(n:Nd)(e:Ending)(w:World):Prop:=∃(s:ByteArray) (o1:Option Addr) (n1 k1:Nat) (o2:Option Addr) (n2 k2:Nat),e=.returned (.agg #[.string s,.slice o1 n1 k1,.slice o2 n2 k2])/\mY (fun b=>N<=b) w (.string s) (.slice o1 n1 k1) (.slice o2 n2 k2) n
structure PX (N XB:Nat)(nm:Bs)(vA vK:Value)(ats:List (Bs×Bs))(K:List V3)(ks:List Nd)(V w:World):Prop where
 nb:NB XB (.string ⟨nm.toArray⟩) vA vK w
 lt:N<XB
 at_:w.ownsRow (N+1) 65 2 vA ats.length (aF ats)
 own:w.ownsRow (N+1) 25 3 vK K.length (cZ K)
 nx:vK.ownBlock≠some XB
 kr:KR (fun b=>N<b/\b≠XB/\vK.ownBlock≠some b) w K ks
 res:w.heap[N]? =some (.cells #[.string ⟨#[]⟩,.slice none 0 0,.slice none 0 0] 25)
 low:Below N V w
theorem PX.below {N XB:Nat}{nm:Bs}{vA vK:Value}{ats:List (Bs×Bs)}{K:List V3}{ks:List Nd}{V w w':World}(h:PX N XB nm vA vK ats K ks V w)(hN:N<=w.heap.size)(hb:Below w.heap.size w w'):PX N XB nm vA vK ats K ks V w':=
 ⟨by have:=h.nb;unfold NB at this⊢;exact(hb.block _ (aD this)).trans this,h.lt,aK h.at_ hb,aK h.own hb,h.nx,KR.turn (fun b hq hl=>⟨hq,hb.block b hl⟩) h.kr,(hb.block _ (aD h.res)).trans h.res,h.low.trans (hb.mono hN)⟩
theorem PX.more {N XB g cap n:Nat}{nm:Bs}{vA vK a b c:Value}{ats:List (Bs×Bs)}{K:List V3}{ks:List Nd}{k:Nd}{V w w2 w3:World}(h:PX N XB nm vA vK ats K ks V w)(hN:N<=w.heap.size)(hb:Below w.heap.size w w2)(hk:mY (fun b=>w.heap.size<=b) w2 a b c k)(ob:Obj)
  (ow:w3.ownsRow (N+1) 25 3 (.slice (some ⟨g,0,none⟩) n cap) (K.length+1) (cZ K++[a,b,c])) (gr:(w2.alloc ob).grownBy w3 vK.ownBlock) (hat:vK.ownBlock=some g\/g=(w2.alloc ob).heap.size):
  PX N XB nm vA (.slice (some ⟨g,0,none⟩) n cap) ats (K++[(a,b,c)]) (ks++[k]) V (w3.setCell ⟨XB,2,none⟩ (.slice (some ⟨g,0,none⟩) n cap)):=by
 have h2:=h.below hN (az hb (aW w2 ob));have sz:=(az hb (aW w2 ob)).size;have hXw:=aD (show w.heap[XB]? =_ from h.nb);have hXB:XB<(w2.alloc ob).heap.size:=by omega
 have hgX:g≠XB:=by
  rintro rfl;rcases hat with hat|hat
  ·exact h.nx hat
  ·omega
 have b3:∀q,q<(w2.alloc ob).heap.size->vK.ownBlock≠some q->w3.heap[q]? =(w2.alloc ob).heap[q]? :=fun q hq hn=>gr.block q hq (fun e=>hn e.symm);have b4:∀q,q≠XB->(w3.setCell ⟨XB,2,none⟩ (.slice (some ⟨g,0,none⟩) n cap)).heap[q]? =w3.heap[q]? :=fun q hq=>Below.heap_setCell _ _ _ q hq;have XH:NB XB (.string ⟨nm.toArray⟩) vA vK w3:=by
  have h3:=h2.nb;unfold NB at h3⊢;exact(b3 XB hXB h.nx).trans h3
 have hgl:=ow.lt g rfl;have hKl:∀q,vK.ownBlock=some q->q<w.heap.size:=fun q hq=>(h.own.lt q hq).2;have hst:=(Below.refl XB w3).setCell (p:=⟨XB,2,none⟩) eU (.slice (some ⟨g,0,none⟩) n cap);have adr:Below N V w3:=h2.low.grown gr (by omega) (fun q hq=>by have:=(h.own.lt q hq).1;omega);refine⟨XH.set2 _,h.lt,?_,?_,fun e1=>hgX (Option.some.inj e1),?_,?_,adr.setCell (Nat.le_of_lt h.lt) _⟩
 ·refine bS h2.at_ fun q hq=>?_;obtain⟨cs,f,h3, -⟩:=dJ h2.at_ q hq;have hqK:vK.ownBlock≠some q:=fun e1=>by
   obtain⟨cs',f',h4, -⟩:=dJ h2.own q e1;rw[h3] at h4;cases h4
  have hqX:q≠XB:=fun e1=>by
   have h4:(w2.alloc ob).heap[XB]? =_:=h2.nb;rw[e1,h4] at h3;cases h3
  rw[b4 q hqX,b3 q (aD h3) hqK]
 ·rw[yA,List.length_append];exact bS ow fun q hq=>b4 q (fun e1=>hgX (by cases hq;exact e1))
 ·refine KR.snoc (KR.turn (fun q hq hl=>?_) h2.kr) (mY.turn (fun q hq hl=>?_) k hk)
  ·obtain⟨q1,q2,q3⟩:=hq;refine⟨⟨q1,q2,fun e1=>?_⟩,by rw[b4 q q2,b3 q hl q3]⟩;have e2:g=q:=Option.some.inj e1;subst e2;rcases hat with hat|hat
   ·exact q3 hat
   ·omega
  ·have hqw:w.heap.size<=q:=hq;have hs2:=(aW w2 ob).size;have hqK:vK.ownBlock≠some q:=fun e1=>by have:=hKl q e1;omega
   refine⟨⟨by have:=h.lt;omega,by omega,fun e1=>?_⟩,by rw[b4 q (by omega),b3 q (by omega) hqK];exact(aW w2 ob).block q hl⟩;have e2:g=q:=Option.some.inj e1;subst e2;rcases hat with hat|hat
   ·exact hqK hat
   ·omega
 ·rw[b4 N (by have:=h.lt;omega),b3 N (by have:=h.lt;omega) (fun e1=>by have:=(h.own.lt N e1).1;omega)];exact h2.res
theorem PX.done {N XB:Nat}{nm:Bs}{vA vK:Value}{ats:List (Bs×Bs)}{K:List V3}{ks:List Nd}{V w w':World}(h:PX N XB nm vA vK ats K ks V w)(hl:nm.length<=maxLen)(ha:∀x∈ats,x.1.length<=maxLen/\x.2.length<=maxLen)(hw:∀b,b≠N->w'.heap[b]? =w.heap[b]?):mY (fun b=>N<=b) w' (.string ⟨nm.toArray⟩) vA vK (.mk nm ats ks):=by
 refine mY.turn (Q:=fun b=>N<b) (w:=w) (fun b hb _=>⟨Nat.le_of_lt hb,hw b (by have:N<b:=hb;omega)⟩) _ (mY.make (B:=N+1) hl ?_ h.own (KR.turn (fun b hb _=>⟨hb.1,rfl⟩) h.kr) fun b hb=>(h.own.lt b hb).1);exact xH.turn (xH.XA h.at_ ha) fun b hb _=>⟨(h.at_.lt b hb).1,rfl⟩
end
section
open Go.RowKit
set_option maxHeartbeats 8000000
set_option maxRecDepth 20000
structure SXK (XB:Nat)(vK:Value)(w:World):Prop where
 c:w.cell? (ag XB 2)=some vK
abbrev oZ:Obj:=.cells #[.string ⟨#[]⟩,.slice none 0 0,.slice none 0 0] 25
theorem EO {V U w1:World}{XB:Nat}{nm:Bs}{o:Option Addr}{n k:Nat}{ats:List (Bs×Bs)}(b0:Below V.heap.size V U)(sU:U.heap.size=V.heap.size+1)(k0:U.heap[V.heap.size]? =some oZ)(b1:Below U.heap.size U w1)(hX:U.heap.size<=XB)(hx:w1.heap[XB]? =some (.cells #[.string ⟨nm.toArray⟩,.slice o n k,.slice none 0 0] 25))(ow:w1.ownsRow U.heap.size 65 2 (.slice o n k) ats.length (aF ats)):PX V.heap.size XB nm (.slice o n k) (.slice none 0 0) ats [] [] V w1:=
 ⟨hx,by omega,by rw[<- sU];exact ow,World.ownsRow_nil _ _ _ _,(fun e=>by cases e),trivial,(b1.block _ (by omega)).trans k0,az b0 b1⟩
theorem a1a {V U w1:World}{nm:Bs}{o:Option Addr}{n k:Nat}{ats:List (Bs×Bs)}(b0:Below V.heap.size V U)(sU:U.heap.size=V.heap.size+1)(k0:U.heap[V.heap.size]? =some oZ)(b1:Below U.drew.heap.size U.drew w1)(ow:w1.ownsRow U.drew.heap.size 65 2 (.slice o n k) ats.length (aF ats)):PX V.heap.size w1.heap.size nm (.slice o n k) (.slice none 0 0) ats [] [] V (w1.alloc (.cells #[.string ⟨nm.toArray⟩,.slice o n k,.slice none 0 0] 25)):=by
 have b1':Below U.heap.size U w1:=⟨b1.os,b1.tape,b1.output,b1.size,b1.block⟩;exact EO b0 sU k0 (az b1' (aW _ _)) b1'.size (dh w1 _ _) (aK ow (aW _ _))
theorem a1b {V U w1:World}{nm:Bs}{o:Option Addr}{n k:Nat}{ats:List (Bs×Bs)}(b0:Below V.heap.size V U)(sU:U.heap.size=V.heap.size+1)(k0:U.heap[V.heap.size]? =some oZ)(b1:Below (U.alloc oZ).drew.heap.size (U.alloc oZ).drew w1)(ow:w1.ownsRow (U.alloc oZ).drew.heap.size 65 2 (.slice o n k) ats.length (aF ats)):PX V.heap.size U.heap.size nm (.slice o n k) (.slice none 0 0) ats [] [] V (((w1.setCell ⟨U.heap.size,0,none⟩ (.string ⟨nm.toArray⟩)).setCell ⟨U.heap.size,1,none⟩ (.slice o n k)).setCell ⟨U.heap.size,2,none⟩ (.slice none 0 0)):=by
 have b1':Below (U.alloc oZ).heap.size (U.alloc oZ) w1:=⟨b1.os,b1.tape,b1.output,b1.size,b1.block⟩;have hs:(U.alloc oZ).heap.size=U.heap.size+1:=World.size_alloc _ _;have kx:=(b1'.block U.heap.size (by omega)).trans (dh U #[.string ⟨#[]⟩,.slice none 0 0,.slice none 0 0] 25);have ow':w1.ownsRow (U.heap.size+1) 65 2 (.slice o n k) ats.length (aF ats):=by rw[<- hs];exact ow
 have Cs:=fJ (fJ (fJ ow' (p:=⟨U.heap.size,0,none⟩) (Nat.lt_succ_self _) (.string ⟨nm.toArray⟩)) (p:=⟨U.heap.size,1,none⟩) (Nat.lt_succ_self _) (.slice o n k)) (p:=⟨U.heap.size,2,none⟩) (Nat.lt_succ_self _) (.slice none 0 0);exact EO b0 sU k0 ((((az (aW U oZ) b1').setCell (by simp) _).setCell (by simp) _).setCell (by simp) _) eU (Gb kx _ _ _) (eu Cs (Nat.le_succ _))
section
variable {B:Nat}{tg:kE}{W:World}{DB MB:Nat}{p:Int->Option Nat}{M:Dm}{nx c:Nat}{r:Int->Nat}
theorem Cn (h:gN B tg W DB MB p M nx c r)(hok:dP M):∀(f:Nat) (n:Int) (V:World),Below W.heap.size W V->dH n->Dp M f n->ak 66 #[aj DB,aa n] V fun e w'=>NdR V.heap.size (yZ M f n) e w'/\Below V.heap.size V w'
 |0,_,_,_,_,hd=>hd.elim
 |f+1,n,V,hV,hn,hd=>by
  have IH:=Cn h hok f;obtain⟨ND,hND⟩:∃x,yZ M (f+1) n=x:=⟨_,rfl⟩;rw[hND];have HND:Hid (yZ M (f+1) n=ND):=hND;clear hND;have b0:=aW V oZ;have k0:=dh V #[.string ⟨#[]⟩,.slice none 0 0,.slice none 0 0] 25;have hdU:=(h.below (az hV b0)).w;have d0:=hdU.d0;go_enter func66,ntmps66;go_upto_region 1 with fail;obtain⟨U,hU⟩:∃U,V.alloc oZ=U:=⟨_,rfl⟩;have sU:U.heap.size=V.heap.size+1:=by rw[<- hU,World.size_alloc]
  rw[hU] at b0 k0 hdU d0⊢;clear hU;cases hm:M n with
  |none=>
   have hp:=hdU.non n hm;have z0:=aA k0 0 _ rfl;have z1:=aA k0 1 _ rfl;have z2:=aA k0 2 _ rfl;have y0:=dF k0 0;have y1:=dF k0 1;have y2:=dF k0 2;go_wp2_with(at_lookup;refine lY _ rfl _ _ 83 rfl underlying3 underlying83 (eG _) rfl hdU.map n rfl hn hp ?_);have r4:=Gb k0 (.string ⟨#[]⟩) (.slice none 0 0) (.slice none 0 0);have e0:=aA r4 0 _ rfl;have e1:=aA r4 1 _ rfl;have e2:=aA r4 2 _ rfl;refine bodyPost_ret (v:=.agg #[.string ⟨#[]⟩,.slice none 0 0,.slice none 0 0]) (by simp[results,results66,go_sem,e0,e1,e2]) rfl ?_;have hnd:ND=.mk [] [] []:=by rw[<- HND.out,yZ,hm]
   subst hnd;refine⟨⟨⟨#[]⟩,none,0,0,none,0,0,rfl,?_⟩,((b0.setCell (by simp) _).setCell (by simp) _).setCell (by simp) _⟩;unfold mY;exact⟨rfl,by decide,⟨none,0,rfl,by decide,by decide,fun _=>rfl,fun i x hx=>by simp at hx⟩,none,0,rfl,by decide,by decide,fun _=>rfl,by unfold qm;trivial⟩
  |some e=>
   obtain⟨EB,va,vk,hp,he⟩:=hdU.els n e hm;obtain⟨ova,kva,hva⟩:=aI he.ats;obtain⟨ovk,kvk,hvk⟩:=aI he.kids;subst hva hvk;obtain⟨a1,a2,a3⟩:=hok n e hm;have hal:∀a∈e.ats,a.1.length<=maxLen/\a.2.length<=maxLen:=fun a ha=>by
    have h1:=Aq (a3.1 a ha).1;have h2:=nD (a3.1 a ha).2;simp only[maxLen];omega
   have hkl:=h.few hm;have hkw:=(hdU.wf n e hm).2;have CA:=fun X (hX:Below U.heap.size U X)=>Mk X _ e.ats (Cf (aK he.ats hX) hal) (by omega);have C1:=CA U.drew (below_drewN (Below.refl _ _) 1);have C2:=CA (U.alloc oZ).drew (below_drewN (aW _ _) 1);go_upto_region 4 with(at_lookup;refine eY _ rfl _ _ 83 rfl underlying3 underlying83 (eG _) rfl hdU.map n rfl hn EB hp ?_)
   go_cut [7] from 22 to 31 (fun v wx=>∃XB oA nA kA,v=aj XB/\PX V.heap.size XB e.name (.slice oA nA kA) (.slice none 0 0) e.ats [] [] V wx)
   case first=>
    have x0:=he.c0;have x1:=he.c1;have x0':=bO oZ x0;have x1':=bO oZ x1;have KK:∀w1,Below (U.alloc oZ).drew.heap.size (U.alloc oZ).drew w1->jY w1 U.heap.size (.string ⟨#[]⟩) (.slice none 0 0) (.slice none 0 0):=fun w1 b1=>jY.of ((b1.block U.heap.size (by show _<(U.alloc oZ).heap.size;rw[World.size_alloc];omega)).trans (dh U #[.string ⟨#[]⟩,.slice none 0 0,.slice none 0 0] 25));have KE:∀w1,Below U.drew.heap.size U.drew w1->w1.cell? (ag EB 0)=some (.string ⟨e.name.toArray⟩):=fun w1 b1=>(b1.cell (ax (show U.drew.cell? _=_ from x0))).trans x0;have KE':∀w1,Below (U.alloc oZ).drew.heap.size (U.alloc oZ).drew w1->w1.cell? (ag EB 0)=some (.string ⟨e.name.toArray⟩):=fun w1 b1=>(b1.cell (ax (show(U.alloc oZ).drew.cell? _=_ from x0'))).trans x0';have HB0:Hid (Below V.heap.size V U/\U.heap.size=V.heap.size+1/\U.heap[V.heap.size]? =some oZ):=⟨b0,sU,k0⟩;clear IH CA b0 sU k0 hd hkw
    go_region_with (go_at_call 42;first|(refine C1.mono ?_;rintro e1 w1 ⟨oA,nA,kA,rfl,ow,b1⟩;have y0:=KE w1 b1;have y0':=bO oZ y0)|(refine C2.mono ?_;rintro e1 w1 ⟨oA,nA,kA,rfl,ow,b1⟩;have y0:=KE' w1 b1;obtain⟨u0,u1,u2,f0,f1,f2⟩:=KK w1 b1))
    all_goals go_wp2_with fail
    all_goals go_meet
    all_goals obtain⟨b0,sU,k0⟩:=HB0.out
    all_goals first|(have hu:=u0;exact⟨_,oA,nA,kA,rfl,a1b b0 sU k0 b1 ow⟩)|exact⟨_,oA,nA,kA,rfl,a1a b0 sU k0 b1 ow⟩
   case rest=>
    obtain⟨XB,oA,nA,kA,rfl,hG⟩:=hcut;obtain⟨i0,hi,hz0,hz1,hz2⟩:=info_parts nodeInfo;have hEV:∀X,Below V.heap.size V X->X.cell? (ag EB 3)=some (.slice ovk e.kids.length kvk)/\X.ownsRow B 3 1 (.slice ovk e.kids.length kvk) e.kids.length (bY e.kids):=fun X hX=>by
     obtain⟨EB',va',vk',hp',he'⟩:=(h.below (az hV hX)).w.els n e hm;obtain⟨EB2,va2,vk2,hp2,he2⟩:=(h.below hV).w.els n e hm;have hh:=(az (Below.refl _ _) b0).block EB2 (aD he2.cells);rw[hp] at hp' hp2;cases hp';cases hp2;have h1:=he.cells;rw[hh,he2.cells] at h1;have h2:=(hX.block EB (aD he2.cells)).trans he2.cells;have h3:=he'.cells;rw[h2] at h3;rw[h1] at h3;have h4:vk'=.slice ovk e.kids.length kvk:=by
      have h5:=Option.some.inj h3;simp at h5;exact h5.2.symm
     subst h4;exact⟨he'.c3,he'.kids⟩
    have hkd:∀k∈e.kids,Dp M f k:=hd e hm;have hsV:=hG.low.size;have x3:=(hEV wc hG.low).1;clear C1 C2 CA k0 hd;go_wp2_with fail
    go_loopw [37] (fun i wr=>∃(k:Nat) (K:List V3) (oK:Option Addr) (nK cK:Nat),k<=e.kids.length/\i=aa k/\PX V.heap.size XB e.name (.slice oA nA kA) (.slice oK nK cK) e.ats K ((e.kids.take k).map (yZ M f)) V wr) (fun i _=>e.kids.length-(intOf i).toNat)
    case atStart=>exact⟨0,[],none,0,0,Nat.zero_le _,rfl,hG⟩
    case round=>
     obtain⟨k,K,oK,nK,cK,hk,rfl,hg⟩:=hrel;have sV:=hg.low.size;by_cases hlt:k<e.kids.length
     ·have hlt':(k:Int)<(e.kids.length:Int):=by omega
      obtain⟨kid,qh⟩:∃y,e.kids[k]? =some y:=⟨_,List.getElem?_eq_getElem hlt⟩;have hmem:=List.mem_of_getElem? qh;have hrow:=(hEV wr hg.low).2;obtain⟨gk,hgk,hck⟩:=bJ hrow k (aa kid) (by rw[bY,List.getElem?_map,qh];rfl);obtain⟨o',c',hov, -, -, -,hog⟩:=bA hrow;cases hov;have a3D:=hog gk hgk;subst a3D;have IK:=IH kid wr.drew (below_drewN (az hV hg.low) 1) (hkw kid hmem) (hkd kid hmem);have hlK:K.length<=100:=by
       have h1:=hg.kr.len;rw[List.length_map,List.length_take] at h1;omega
      have hKn:nK=K.length:=by
       obtain⟨o2,c2,hv2, -⟩:=bA hg.own;cases hv2;rfl
      subst hKn;have hS:SXK XB (.slice oK K.length cK) wr.drew:=⟨hg.nb.c2⟩;have HTK:Hid ((e.kids.take (k+1)).map (yZ M f)=(e.kids.take k).map (yZ M f)++[yZ M f kid]):=(by rw[List.take_add_one,qh,List.map_append];rfl:(e.kids.take (k+1)).map (yZ M f)=(e.kids.take k).map (yZ M f)++[yZ M f kid]);clear hrow hog qh;go_upto_region 8 with fail;refine BL (SXK XB (.slice oK K.length cK)) 8 (by kernel_rfl) ?_;refine aR (v:=?v0) 0 rfl (by kernel_rfl) (by kernel_rfl) (by kernel_rfl) (by kernel_rfl) (fun _ _ _ h=>h) hS (.inl ⟨rfl,fun w hw=>?hy0⟩) ?hr0
      case hy0=>have g1:=hw.c;go_simp;try with_reducible rfl
      simp only[Act.put,List.setIfInBounds_toArray];refine aR (v:=?v1) 1 rfl (by kernel_rfl) (by kernel_rfl) (by kernel_rfl) (by kernel_rfl) (fun _ _ _ h=>h) hS (.inl ⟨rfl,fun w hw=>?hy1⟩) ?hr1
      case hy1=>have g1:=hw.c;go_simp;try with_reducible rfl
      simp only[Act.put];refine aR (v:=?v2) 2 rfl (by kernel_rfl) (by kernel_rfl) (by kernel_rfl) (by kernel_rfl) (fun _ _ _ h=>h) hS (.inl ⟨rfl,fun w hw=>?hy2⟩) ?hr2
      case hy2=>have g1:=hw.c;go_simp;try with_reducible rfl
      simp only[Act.put];refine aR (v:=?v3) 3 rfl (by kernel_rfl) (by kernel_rfl) (by kernel_rfl) (by kernel_rfl) (fun _ _ _ h=>h) hS (.inl ⟨rfl,fun w hw=>?hy3⟩) ?hr3
      case hy3=>have g1:=hw.c;go_simp;try with_reducible rfl
      simp only[Act.put];refine jv 4 (by kernel_rfl) rfl (fun K1 hK1=>?_);go_simp;go_wp2_with(go_at_call 66;refine IK.mono ?_;rintro e2 w2 ⟨⟨s2,o2,n2,k2,o2',n2',k2',rfl,hq2⟩,b2⟩);have b2':Below wr.heap.size wr w2:=⟨b2.os,b2.tape,b2.output,b2.size,b2.block⟩;have hg2:=hg.below sV b2';have hS2:SXK XB (.slice oK K.length cK) w2:=⟨hg2.nb.c2⟩;refine hK1.out _ _ (fun _=>hS2) ?_;clear hK1;refine jv 5 (by kernel_rfl) rfl (fun K1 hK1=>?_);go_simp;have hg3:=hg2.below (Nat.le_trans sV b2'.size) (aW w2 (.cells #[.string s2,.slice o2 n2 k2,.slice o2' n2' k2'] 25));have hS3:SXK XB (.slice oK K.length cK) (w2.alloc (.cells #[.string s2,.slice o2 n2 k2,.slice o2' n2' k2'] 25)):=⟨hg3.nb.c2⟩;have H0:=dh w2 #[.string s2,.slice o2 n2 k2,.slice o2' n2' k2'] 25;have s2':=b2'.size;refine hK1.out _ _ (fun _=>hS3) ?_;clear hK1;refine jv 6 (by kernel_rfl) rfl (fun K1 hK1=>?_);refine step_append_lies _ rfl (.tmp 42) (.tmp 46) 23 rfl (V.heap.size+1) 25 i0 (.agg #[.string ⟨#[]⟩,.slice none 0 0,.slice none 0 0]) 3 64 underlying23 hi hz0 hz1 hz2 rfl (by decide) (.slice oK K.length cK) K.length (cZ K) rfl hg3.own ⟨w2.heap.size,0,none⟩ 1 1 [.string s2,.slice o2 n2 k2,.slice o2' n2' k2'] rfl rfl (World.news_of_block H0) (fun u hu=>by simp at hu;rcases hu with rfl|rfl|rfl<;>rfl) (by decide) (by rw[aQ];omega) (by omega) (by simp;omega) _ rfl ?_;intro g7 nH w7 jQ lU Mm a2W;have FIN:=hg.more sV b2' hq2 (.cells #[.string s2,.slice o2 n2 k2,.slice o2' n2' k2'] 25) jQ lU Mm;have GQ:NB XB (.string ⟨e.name.toArray⟩) (.slice oA nA kA) (.slice oK K.length cK) w7:=(lU.block XB (aD hg3.nb) (fun e1=>hg.nx e1.symm)).trans hg3.nb;have hS7:SXK XB (.slice oK K.length cK) w7:=⟨GQ.c2⟩;have m2:=GQ.c2;have mf:=GQ.bf 2;refine hK1.out _ _ (fun _=>hS7) ?_;clear hK1;simp only[Act.put];refine jv 7 (by kernel_rfl) rfl (fun K1 hK1=>?_);go_simp;refine hK1.out _ _ (fun _=>hS7) ?_;clear hK1;refine jv 8 (by kernel_rfl) rfl (fun K1 hK1=>?_);go_simp;refine hK1.out _ _ (fun h=>absurd rfl h) ?_
      clear hK1;refine Nl (by kernel_rfl) ?_ _;have a2X:Hid (PX V.heap.size XB e.name (.slice oA nA kA) (.slice (some ⟨g7,0,none⟩) (K.length+1) nH) e.ats (K++[(.string s2,.slice o2 n2 k2,.slice o2' n2' k2')]) ((e.kids.take k).map (yZ M f)++[yZ M f kid]) V (w7.setCell ⟨XB,2,none⟩ (.slice (some ⟨g7,0,none⟩) (K.length+1) nH))):=FIN;clear FIN hg hg2 hg3 jQ lU Mm GQ;go_wp2_with fail
      go_roundw
      case rel=>exact⟨k+1,_,_,_,_,by omega,by go_num,by rw[HTK.out];exact a2X.out⟩
      case measure=>simp[intOf];omega
     ·obtain rfl:k=e.kids.length:=by omega
      have n0:=hg.nb.c0;have n1:=hg.nb.c1;have n2:=hg.nb.c2;have r0:=aA hg.res 0 _ rfl;have r1:=aA hg.res 1 _ rfl;have r2:=aA hg.res 2 _ rfl;have q0:=dF hg.res 0;have q1:=dF hg.res 1;have q2:=dF hg.res 2;go_wp2_with fail;have r4:=Gb hg.res (.string ⟨e.name.toArray⟩) (.slice oA nA kA) (.slice oK nK cK);have e0:=aA r4 0 _ rfl;have e1:=aA r4 1 _ rfl;have e2:=aA r4 2 _ rfl;refine bodyPost_ret (v:=.agg #[.string ⟨e.name.toArray⟩,.slice oA nA kA,.slice oK nK cK]) (by simp[results,results66,go_sem,e0,e1,e2]) rfl ?_;have hnd:ND=.mk e.name e.ats (e.kids.map (yZ M f)):=by rw[<- HND.out,yZ,hm]
      subst hnd;refine⟨⟨_,_,_,_,_,_,_,rfl,?_⟩,((hg.low.setCell (by simp) _).setCell (by simp) _).setCell (by simp) _⟩;have hgd:=hg.done (w':=((wr.setCell ⟨V.heap.size,0,none⟩ (.string ⟨e.name.toArray⟩)).setCell ⟨V.heap.size,1,none⟩ (.slice oA nA kA)).setCell ⟨V.heap.size,2,none⟩ (.slice oK nK cK)) (by have h1:=Aq a1;simp only[maxLen];omega) hal (fun b hb=>(Below.heap_setCell _ _ _ b hb).trans ((Below.heap_setCell _ _ _ b hb).trans (Below.heap_setCell _ _ _ b hb)));rw[List.take_length] at hgd;exact hgd
end
end
end Go.Proofs.YtjfiehbcamfdfaaGreatDoor

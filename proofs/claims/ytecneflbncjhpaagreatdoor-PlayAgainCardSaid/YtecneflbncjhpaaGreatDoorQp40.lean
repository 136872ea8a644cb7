/- Parts of the proof. -/
import Derived.Test.YtecneflbncjhpaaGreatDoorQp39
namespace Go.Proofs.YtecneflbncjhpaaGreatDoor
open Go.Proofs.Tryz
set_option maxHeartbeats 8000000
section
open Go.RowKit
def NdR (N:Nat)(n:Nd)(e:Ending)(w:ag):Prop:=∃(s:aC) (o1:Option Addr) (n1 k1:Nat) (o2:Option Addr) (n2 k2:Nat),e=.returned (.agg #[.string s,.slice o1 n1 k1,.slice o2 n2 k2])/\oJ (fun b=>N<=b) w (.string s) (.slice o1 n1 k1) (.slice o2 n2 k2) n
structure Vp (N XB:Nat)(nm:Bs)(vA vK:ah)(ats:List (Bs×Bs))(K:List V3)(ks:List Nd)(V w:ag):Prop where
 nb:NB XB (.string ⟨nm.toArray⟩) vA vK w
 lt:N<XB
 at_:w.ownsRow (N+1) 100 2 vA ats.length (bJ ats)
 own:w.ownsRow (N+1) 36 3 vK K.length (dJ K)
 nx:vK.ownBlock≠some XB
 kr:KR (fun b=>N<b/\b≠XB/\vK.ownBlock≠some b) w K ks
 res:w.heap[N]? =some (.cells #[.string ⟨#[]⟩,.slice none 0 0,.slice none 0 0] 36)
 low:Below N V w
theorem Vp.below {N XB:Nat}{nm:Bs}{vA vK:ah}{ats:List (Bs×Bs)}{K:List V3}{ks:List Nd}{V w w':ag}(h:Vp N XB nm vA vK ats K ks V w)(hN:N<=w.heap.size)(hb:Below w.heap.size w w'):Vp N XB nm vA vK ats K ks V w':=
 ⟨by have:=h.nb;unfold NB at this⊢;exact(hb.block _ (aI this)).trans this,h.lt,aQ h.at_ hb,aQ h.own hb,h.nx,KR.turn (fun b hq hl=>⟨hq,hb.block b hl⟩) h.kr,(hb.block _ (aI h.res)).trans h.res,h.low.trans (hb.mono hN)⟩
theorem Vp.more {N XB g cap n:Nat}{nm:Bs}{vA vK a b c:ah}{ats:List (Bs×Bs)}{K:List V3}{ks:List Nd}{k:Nd}{V w w2 w3:ag}(h:Vp N XB nm vA vK ats K ks V w)(hN:N<=w.heap.size)(hb:Below w.heap.size w w2)(hk:oJ (fun b=>w.heap.size<=b) w2 a b c k)(ob:Obj)
  (ow:w3.ownsRow (N+1) 36 3 (.slice (some ⟨g,0,none⟩) n cap) (K.length+1) (dJ K++[a,b,c])) (gr:(w2.alloc ob).grownBy w3 vK.ownBlock) (hat:vK.ownBlock=some g\/g=(w2.alloc ob).heap.size):
  Vp N XB nm vA (.slice (some ⟨g,0,none⟩) n cap) ats (K++[(a,b,c)]) (ks++[k]) V (w3.setCell ⟨XB,2,none⟩ (.slice (some ⟨g,0,none⟩) n cap)):=by
 have h2:=h.below hN (aH hb (bT w2 ob));have sz:=(aH hb (bT w2 ob)).size;have hXw:=aI (show w.heap[XB]? =_ from h.nb);have hXB:XB<(w2.alloc ob).heap.size:=by omega
 have ZM:g≠XB:=by
  rintro rfl;rcases hat with hat|hat
  ·exact h.nx hat
  ·omega
 have b3:∀q,q<(w2.alloc ob).heap.size->vK.ownBlock≠some q->w3.heap[q]? =(w2.alloc ob).heap[q]? :=fun q hq hn=>gr.block q hq (fun e=>hn e.symm);have b4:∀q,q≠XB->(w3.setCell ⟨XB,2,none⟩ (.slice (some ⟨g,0,none⟩) n cap)).heap[q]? =w3.heap[q]? :=fun q hq=>aY _ _ _ q hq;have Zw:NB XB (.string ⟨nm.toArray⟩) vA vK w3:=by
  have h3:=h2.nb;unfold NB at h3⊢;exact(b3 XB hXB h.nx).trans h3
 have hKl:∀q,vK.ownBlock=some q->q<w.heap.size:=fun q hq=>(h.own.lt q hq).2;have afM:Below N V w3:=h2.low.grown gr (by omega) (fun q hq=>by have:=(h.own.lt q hq).1;omega);refine⟨Zw.set2 _,h.lt,?_,?_,fun e1=>ZM (dP e1),?_,?_,afM.setCell (Nat.le_of_lt h.lt) _⟩
 ·refine bS h2.at_ fun q hq=>?_;obtain⟨cs,f,h3, -⟩:=dS h2.at_ q hq;have hqK:vK.ownBlock≠some q:=fun e1=>by
   obtain⟨cs',f',h4, -⟩:=dS h2.own q e1;rw[h3] at h4;cases h4
  have hqX:q≠XB:=fun e1=>by
   have h4:(w2.alloc ob).heap[XB]? =_:=h2.nb;rw[e1,h4] at h3;cases h3
  rw[b4 q hqX,b3 q (aI h3) hqK]
 ·rw[zK,List.length_append];exact bS ow fun q hq=>b4 q (fun e1=>ZM (by cases hq;exact e1))
 ·refine KR.snoc (KR.turn (fun q hq hl=>?_) h2.kr) (oJ.turn (fun q hq hl=>?_) k hk)
  ·obtain⟨q1,q2,q3⟩:=hq;refine⟨⟨q1,q2,fun e1=>?_⟩,by rw[b4 q q2,b3 q hl q3]⟩;have e2:g=q:=dP e1;subst e2;rcases hat with hat|hat
   ·exact q3 hat
   ·omega
  ·have hqw:w.heap.size<=q:=hq;have hs2:=(bT w2 ob).size;have hqK:vK.ownBlock≠some q:=fun e1=>by have:=hKl q e1;omega
   refine⟨⟨by have:=h.lt;omega,by omega,fun e1=>?_⟩,by rw[b4 q (by omega),b3 q (by omega) hqK];exact(bT w2 ob).block q hl⟩;have e2:g=q:=dP e1;subst e2;rcases hat with hat|hat
   ·exact hqK hat
   ·omega
 ·rw[b4 N (by have:=h.lt;omega),b3 N (by have:=h.lt;omega) (fun e1=>by have:=(h.own.lt N e1).1;omega)];exact h2.res
theorem Vp.done {N XB:Nat}{nm:Bs}{vA vK:ah}{ats:List (Bs×Bs)}{K:List V3}{ks:List Nd}{V w w':ag}(h:Vp N XB nm vA vK ats K ks V w)(hl:nm.length<=maxLen)(ha:∀x∈ats,x.1.length<=maxLen/\x.2.length<=maxLen)(hw:∀b,b≠N->w'.heap[b]? =w.heap[b]?):oJ (fun b=>N<=b) w' (.string ⟨nm.toArray⟩) vA vK (.mk nm ats ks):=by
 refine oJ.turn (Q:=fun b=>N<b) (w:=w) (fun b hb _=>⟨Nat.le_of_lt hb,hw b (by have:N<b:=hb;omega)⟩) _ (oJ.make (B:=N+1) hl ?_ h.own (KR.turn (fun b hb _=>⟨hb.1,rfl⟩) h.kr) fun b hb=>(h.own.lt b hb).1);exact yF.turn (yF.Zp h.at_ ha) fun b hb _=>⟨(h.at_.lt b hb).1,rfl⟩
end
section
open Go.RowKit
set_option maxRecDepth 20000
structure SXK (XB:Nat)(vK:ah)(w:ag):Prop where
 c:w.cell? (ak XB 2)=some vK
abbrev oZ:Obj:=.cells #[.string ⟨#[]⟩,.slice none 0 0,.slice none 0 0] 36
theorem Gv {V U w1:ag}{XB:Nat}{nm:Bs}{o:Option Addr}{n k:Nat}{ats:List (Bs×Bs)}(b0:Below V.heap.size V U)(sU:U.heap.size=V.heap.size+1)(k0:U.heap[V.heap.size]? =some oZ)(b1:Below U.heap.size U w1)(hX:U.heap.size<=XB)(hx:w1.heap[XB]? =some (.cells #[.string ⟨nm.toArray⟩,.slice o n k,.slice none 0 0] 36))(ow:w1.ownsRow U.heap.size 100 2 (.slice o n k) ats.length (bJ ats)):Vp V.heap.size XB nm (.slice o n k) (.slice none 0 0) ats [] [] V w1:=
 ⟨hx,by omega,by rw[<- sU];exact ow,eH _ _ _ _,(fun e=>by cases e),trivial,(b1.block _ (by omega)).trans k0,aH b0 b1⟩
theorem a3q {V U w1:ag}{nm:Bs}{o:Option Addr}{n k:Nat}{ats:List (Bs×Bs)}(b0:Below V.heap.size V U)(sU:U.heap.size=V.heap.size+1)(k0:U.heap[V.heap.size]? =some oZ)(b1:Below U.drew.heap.size U.drew w1)(ow:w1.ownsRow U.drew.heap.size 100 2 (.slice o n k) ats.length (bJ ats)):Vp V.heap.size w1.heap.size nm (.slice o n k) (.slice none 0 0) ats [] [] V (w1.alloc (.cells #[.string ⟨nm.toArray⟩,.slice o n k,.slice none 0 0] 36)):=by
 have b1':Below U.heap.size U w1:=⟨b1.os,b1.tape,b1.output,b1.size,b1.block⟩;exact Gv b0 sU k0 (aH b1' (bT _ _)) b1'.size (dw w1 _ _) (aQ ow (bT _ _))
theorem a3r {V U w1:ag}{nm:Bs}{o:Option Addr}{n k:Nat}{ats:List (Bs×Bs)}(b0:Below V.heap.size V U)(sU:U.heap.size=V.heap.size+1)(k0:U.heap[V.heap.size]? =some oZ)(b1:Below (U.alloc oZ).drew.heap.size (U.alloc oZ).drew w1)(ow:w1.ownsRow (U.alloc oZ).drew.heap.size 100 2 (.slice o n k) ats.length (bJ ats)):Vp V.heap.size U.heap.size nm (.slice o n k) (.slice none 0 0) ats [] [] V (((w1.setCell ⟨U.heap.size,0,none⟩ (.string ⟨nm.toArray⟩)).setCell ⟨U.heap.size,1,none⟩ (.slice o n k)).setCell ⟨U.heap.size,2,none⟩ (.slice none 0 0)):=by
 have b1':Below (U.alloc oZ).heap.size (U.alloc oZ) w1:=⟨b1.os,b1.tape,b1.output,b1.size,b1.block⟩;have hs:(U.alloc oZ).heap.size=U.heap.size+1:=dB _ _;have kx:=(b1'.block U.heap.size (by omega)).trans (dw U #[.string ⟨#[]⟩,.slice none 0 0,.slice none 0 0] 36);have ow':w1.ownsRow (U.heap.size+1) 100 2 (.slice o n k) ats.length (bJ ats):=by rw[<- hs];exact ow
 have yc:=gX (gX (gX ow' (p:=⟨U.heap.size,0,none⟩) (Nat.lt_succ_self _) (.string ⟨nm.toArray⟩)) (p:=⟨U.heap.size,1,none⟩) (Nat.lt_succ_self _) (.slice o n k)) (p:=⟨U.heap.size,2,none⟩) (Nat.lt_succ_self _) (.slice none 0 0);exact Gv b0 sU k0 ((((aH (bT U oZ) b1').setCell (by simp) _).setCell (by simp) _).setCell (by simp) _) ai (GJ kx _ _ _) (eZ yc (Nat.le_succ _))
section
variable {B:Nat}{tg:bP}{W:ag}{DB MB:Nat}{p:Int->Option Nat}{M:Dm}{nx c:Nat}{r:Int->Nat}
theorem DZ (h:jm B tg W DB MB p M nx c r)(hok:eG M):∀(f:Nat) (n:Int) (V:ag),Below W.heap.size W V->dR n->Dp M f n->au 62 #[ay DB,aa n] V fun e w'=>NdR V.heap.size (EI M f n) e w'/\Below V.heap.size V w'
 |0,_,_,_,_,hd=>hd.elim
 |f+1,n,V,hV,hn,hd=>by
  have IH:=DZ h hok f;obtain⟨ND,hND⟩:∃x,EI M (f+1) n=x:=⟨_,rfl⟩;rw[hND];have HND:=aj hND;clear hND;have b0:=bT V oZ;have k0:=dw V #[.string ⟨#[]⟩,.slice none 0 0,.slice none 0 0] 36;have hdU:=(h.below (aH hV b0)).w;have d0:=hdU.d0;go_enter func62,ntmps62;go_upto_region 1 with fail;obtain⟨U,hU⟩:∃U,V.alloc oZ=U:=⟨_,rfl⟩;have sU:U.heap.size=V.heap.size+1:=by rw[<- hU,dB]
  rw[hU] at b0 k0 hdU d0⊢;clear hU;cases hm:M n with
  |none=>
   have hp:=hdU.non n hm;have z0:=aD k0 0 _ rfl;have z1:=aD k0 1 _ rfl;have z2:=aD k0 2 _ rfl;have y0:=aR k0 0;have y1:=aR k0 1;have y2:=aR k0 2;go_wp2_with(at_lookup;refine lC _ rfl _ _ 93 rfl underlying3 underlying93 (eD _) rfl hdU.map n rfl hn hp ?_);have r4:=GJ k0 (.string ⟨#[]⟩) (.slice none 0 0) (.slice none 0 0);have e0:=aD r4 0 _ rfl;have e1:=aD r4 1 _ rfl;have e2:=aD r4 2 _ rfl;refine bodyPost_ret (v:=.agg #[.string ⟨#[]⟩,.slice none 0 0,.slice none 0 0]) (by simp[results,results62,go_sem,e0,e1,e2]) rfl ?_;have hnd:ND=.mk [] [] []:=by rw[<- HND.out,EI,hm]
   subst hnd;refine⟨⟨⟨#[]⟩,none,0,0,none,0,0,rfl,?_⟩,((b0.setCell (by simp) _).setCell (by simp) _).setCell (by simp) _⟩;unfold oJ;exact⟨rfl,by decide,⟨none,0,rfl,by decide,by decide,fun _=>rfl,fun i x hx=>by simp at hx⟩,none,0,rfl,by decide,by decide,fun _=>rfl,by unfold qK;trivial⟩
  |some e=>
   obtain⟨EB,va,vk,hp,he⟩:=hdU.els n e hm;obtain⟨ova,kva,hva⟩:=aM he.ats;obtain⟨ovk,kvk,hvk⟩:=aM he.kids;subst hva hvk;obtain⟨a1,a2,a3⟩:=hok n e hm;have hal:∀a∈e.ats,a.1.length<=maxLen/\a.2.length<=maxLen:=fun a ha=>by
    have h1:=jg (a3.1 a ha).1;have h2:=lS (a3.1 a ha).2;simp only[maxLen];omega
   have hkl:=h.few hm;have hkw:=(hdU.wf n e hm).2;have CA:=fun X (hX:Below U.heap.size U X)=>Oe X _ e.ats (Dx (aQ he.ats hX) hal) (by omega);have C1:=CA U.drew (below_drewN (aG _ _) 1);have C2:=CA (U.alloc oZ).drew (below_drewN (bT _ _) 1);go_upto_region 4 with(at_lookup;refine fq _ rfl _ _ 93 rfl underlying3 underlying93 (eD _) rfl hdU.map n rfl hn EB hp ?_)
   go_cut [7] from 22 to 31 (fun v wx=>∃XB oA nA kA,v=ay XB/\Vp V.heap.size XB e.name (.slice oA nA kA) (.slice none 0 0) e.ats [] [] V wx)
   case first=>
    have x0:=he.c0;have x1:=he.c1;have x0':=bK oZ x0;have x1':=bK oZ x1;have KK:∀w1,Below (U.alloc oZ).drew.heap.size (U.alloc oZ).drew w1->kU w1 U.heap.size (.string ⟨#[]⟩) (.slice none 0 0) (.slice none 0 0):=fun w1 b1=>kU.of ((b1.block U.heap.size (by show _<(U.alloc oZ).heap.size;rw[dB];omega)).trans (dw U #[.string ⟨#[]⟩,.slice none 0 0,.slice none 0 0] 36));have KE:∀w1,Below U.drew.heap.size U.drew w1->w1.cell? (ak EB 0)=some (.string ⟨e.name.toArray⟩):=fun w1 b1=>(b1.cell (az (show U.drew.cell? _=_ from x0))).trans x0;have KE':∀w1,Below (U.alloc oZ).drew.heap.size (U.alloc oZ).drew w1->w1.cell? (ak EB 0)=some (.string ⟨e.name.toArray⟩):=fun w1 b1=>(b1.cell (az (show(U.alloc oZ).drew.cell? _=_ from x0'))).trans x0';have HB0:Hid (Below V.heap.size V U/\U.heap.size=V.heap.size+1/\U.heap[V.heap.size]? =some oZ):=⟨b0,sU,k0⟩;clear IH CA b0 sU k0 hd hkw
    go_region_with (go_at_call 41;first|(refine C1.mono ?_;rintro e1 w1 ⟨oA,nA,kA,rfl,ow,b1⟩;have y0:=KE w1 b1;have y0':=bK oZ y0)|(refine C2.mono ?_;rintro e1 w1 ⟨oA,nA,kA,rfl,ow,b1⟩;have y0:=KE' w1 b1;obtain⟨u0,u1,u2,f0,f1,f2⟩:=KK w1 b1))
    all_goals go_wp2_with fail
    all_goals go_meet
    all_goals obtain⟨b0,sU,k0⟩:=HB0.out
    all_goals first|(have hu:=u0;exact⟨_,oA,nA,kA,rfl,a3r b0 sU k0 b1 ow⟩)|exact⟨_,oA,nA,kA,rfl,a3q b0 sU k0 b1 ow⟩
   case rest=>
    obtain⟨XB,oA,nA,kA,rfl,hG⟩:=hcut;obtain⟨i0,hi,hz0,hz1,hz2⟩:=info_parts nodeInfo;have hEV:∀X,Below V.heap.size V X->X.cell? (ak EB 3)=some (.slice ovk e.kids.length kvk)/\X.ownsRow B 3 1 (.slice ovk e.kids.length kvk) e.kids.length (aU e.kids):=fun X hX=>by
     obtain⟨EB',va',vk',hp',he'⟩:=(h.below (aH hV hX)).w.els n e hm;obtain⟨EB2,va2,vk2,hp2,he2⟩:=(h.below hV).w.els n e hm;have hh:=(aH (aG _ _) b0).block EB2 (aI he2.cells);rw[hp] at hp' hp2;cases hp';cases hp2;have h1:=he.cells;rw[hh,he2.cells] at h1;have h2:=(hX.block EB (aI he2.cells)).trans he2.cells;have h3:=he'.cells;rw[h2] at h3;rw[h1] at h3;have h4:vk'=.slice ovk e.kids.length kvk:=by
      have h5:=dP h3;simp at h5;exact h5.2.symm
     subst h4;exact⟨he'.c3,he'.kids⟩
    have hkd:∀k∈e.kids,Dp M f k:=hd e hm;have hsV:=hG.low.size;have x3:=(hEV wc hG.low).1;clear C1 C2 CA k0 hd;go_wp2_with fail
    go_loopw [37] (fun i wr=>∃(k:Nat) (K:List V3) (oK:Option Addr) (nK cK:Nat),k<=e.kids.length/\i=aa k/\Vp V.heap.size XB e.name (.slice oA nA kA) (.slice oK nK cK) e.ats K ((e.kids.take k).map (EI M f)) V wr) (fun i _=>e.kids.length-(intOf i).toNat)
    case atStart=>exact⟨0,[],none,0,0,aP _,rfl,hG⟩
    case round=>
     obtain⟨k,K,oK,nK,cK,hk,rfl,hg⟩:=hrel;have sV:=hg.low.size;by_cases hlt:k<e.kids.length
     ·have hlt':(k:Int)<(e.kids.length:Int):=by omega
      obtain⟨kid,nZ⟩:∃y,e.kids[k]? =some y:=⟨_,dK hlt⟩;have hmem:=fV nZ;have hrow:=(hEV wr hg.low).2;obtain⟨gk,hgk,hck⟩:=dF hrow k (aa kid) (by rw[aU,List.getElem?_map,nZ];rfl);obtain⟨o',c',hov, -, -, -,hog⟩:=dL hrow;cases hov;have a6j:=hog gk hgk;subst a6j;have IK:=IH kid wr.drew (below_drewN (aH hV hg.low) 1) (hkw kid hmem) (hkd kid hmem);have hlK:K.length<=100:=by
       have h1:=hg.kr.len;rw[List.length_map,List.length_take] at h1;omega
      have hKn:nK=K.length:=by
       obtain⟨o2,c2,hv2, -⟩:=dL hg.own;cases hv2;rfl
      subst hKn;have hS:SXK XB (.slice oK K.length cK) wr.drew:=⟨hg.nb.c2⟩;have HTK:Hid ((e.kids.take (k+1)).map (EI M f)=(e.kids.take k).map (EI M f)++[EI M f kid]):=(by rw[List.take_add_one,nZ,List.map_append];rfl:(e.kids.take (k+1)).map (EI M f)=(e.kids.take k).map (EI M f)++[EI M f kid]);clear hrow hog nZ;go_upto_region 8 with fail;refine Dn (SXK XB (.slice oK K.length cK)) 8 (by kernel_rfl) ?_;refine bG (v:=?v0) 0 rfl (by kernel_rfl) (by kernel_rfl) (by kernel_rfl) (by kernel_rfl) (fun _ _ _ h=>h) hS (.inl ⟨rfl,fun w hw=>?hy0⟩) ?hr0
      case hy0=>have g1:=hw.c;go_simp;try with_reducible rfl
      simp only[Act.put,List.setIfInBounds_toArray];refine bG (v:=?v1) 1 rfl (by kernel_rfl) (by kernel_rfl) (by kernel_rfl) (by kernel_rfl) (fun _ _ _ h=>h) hS (.inl ⟨rfl,fun w hw=>?hy1⟩) ?hr1
      case hy1=>have g1:=hw.c;go_simp;try with_reducible rfl
      simp only[Act.put];refine bG (v:=?v2) 2 rfl (by kernel_rfl) (by kernel_rfl) (by kernel_rfl) (by kernel_rfl) (fun _ _ _ h=>h) hS (.inl ⟨rfl,fun w hw=>?hy2⟩) ?hr2
      case hy2=>have g1:=hw.c;go_simp;try with_reducible rfl
      simp only[Act.put];refine bG (v:=?v3) 3 rfl (by kernel_rfl) (by kernel_rfl) (by kernel_rfl) (by kernel_rfl) (fun _ _ _ h=>h) hS (.inl ⟨rfl,fun w hw=>?hy3⟩) ?hr3
      case hy3=>have g1:=hw.c;go_simp;try with_reducible rfl
      simp only[Act.put];refine jW 4 (by kernel_rfl) rfl (fun K1 hK1=>?_);go_simp;go_wp2_with(go_at_call 62;refine IK.mono ?_;rintro e2 w2 ⟨⟨s2,o2,n2,k2,o2',n2',k2',rfl,hq2⟩,b2⟩);have b2':Below wr.heap.size wr w2:=⟨b2.os,b2.tape,b2.output,b2.size,b2.block⟩;have hg2:=hg.below sV b2';have hS2:SXK XB (.slice oK K.length cK) w2:=⟨hg2.nb.c2⟩;refine hK1.out _ _ (fun _=>hS2) ?_;clear hK1;refine jW 5 (by kernel_rfl) rfl (fun K1 hK1=>?_);go_simp;have hg3:=hg2.below (aJ sV b2'.size) (bT w2 (.cells #[.string s2,.slice o2 n2 k2,.slice o2' n2' k2'] 36));have hS3:SXK XB (.slice oK K.length cK) (w2.alloc (.cells #[.string s2,.slice o2 n2 k2,.slice o2' n2' k2'] 36)):=⟨hg3.nb.c2⟩;have H0:=dw w2 #[.string s2,.slice o2 n2 k2,.slice o2' n2' k2'] 36;have s2':=b2'.size;refine hK1.out _ _ (fun _=>hS3) ?_;clear hK1;refine jW 6 (by kernel_rfl) rfl (fun K1 hK1=>?_);refine step_append_lies _ rfl (.tmp 42) (.tmp 46) 34 rfl (V.heap.size+1) 36 i0 (.agg #[.string ⟨#[]⟩,.slice none 0 0,.slice none 0 0]) 3 64 underlying34 hi hz0 hz1 hz2 rfl (by decide) (.slice oK K.length cK) K.length (dJ K) rfl hg3.own ⟨w2.heap.size,0,none⟩ 1 1 [.string s2,.slice o2 n2 k2,.slice o2' n2' k2'] rfl rfl (World.news_of_block H0) (fun u hu=>by simp at hu;rcases hu with rfl|rfl|rfl<;>rfl) (by decide) (by rw[bq];omega) (by omega) (by simp;omega) _ rfl ?_;intro g7 tK w7 kN jS NP a4M;have FIN:=hg.more sV b2' hq2 (.cells #[.string s2,.slice o2 n2 k2,.slice o2' n2' k2'] 36) kN jS NP;have Jg:NB XB (.string ⟨e.name.toArray⟩) (.slice oA nA kA) (.slice oK K.length cK) w7:=(jS.block XB (aI hg3.nb) (fun e1=>hg.nx e1.symm)).trans hg3.nb;have hS7:SXK XB (.slice oK K.length cK) w7:=⟨Jg.c2⟩;have m2:=Jg.c2;have mf:=Jg.di 2;refine hK1.out _ _ (fun _=>hS7) ?_;clear hK1;simp only[Act.put];refine jW 7 (by kernel_rfl) rfl (fun K1 hK1=>?_);go_simp;refine hK1.out _ _ (fun _=>hS7) ?_;clear hK1;refine jW 8 (by kernel_rfl) rfl (fun K1 hK1=>?_);go_simp;refine hK1.out _ _ (fun h=>absurd rfl h) ?_
      clear hK1;refine Pv (by kernel_rfl) ?_ _;have a5E:=aj FIN;clear FIN hg hg2 hg3 kN jS NP Jg;go_wp2_with fail
      go_roundw
      case rel=>exact⟨k+1,_,_,_,_,by omega,by go_num,by rw[HTK.out];exact a5E.out⟩
      case measure=>simp[intOf];omega
     ·obtain rfl:k=e.kids.length:=by omega
      have n0:=hg.nb.c0;have n1:=hg.nb.c1;have n2:=hg.nb.c2;have r0:=aD hg.res 0 _ rfl;have r1:=aD hg.res 1 _ rfl;have r2:=aD hg.res 2 _ rfl;have q0:=aR hg.res 0;have q1:=aR hg.res 1;have q2:=aR hg.res 2;go_wp2_with fail;have r4:=GJ hg.res (.string ⟨e.name.toArray⟩) (.slice oA nA kA) (.slice oK nK cK);have e0:=aD r4 0 _ rfl;have e1:=aD r4 1 _ rfl;have e2:=aD r4 2 _ rfl;refine bodyPost_ret (v:=.agg #[.string ⟨e.name.toArray⟩,.slice oA nA kA,.slice oK nK cK]) (by simp[results,results62,go_sem,e0,e1,e2]) rfl ?_;have hnd:ND=.mk e.name e.ats (e.kids.map (EI M f)):=by rw[<- HND.out,EI,hm]
      subst hnd;refine⟨⟨_,_,_,_,_,_,_,rfl,?_⟩,((hg.low.setCell (by simp) _).setCell (by simp) _).setCell (by simp) _⟩;have hgd:=hg.done (w':=((wr.setCell ⟨V.heap.size,0,none⟩ (.string ⟨e.name.toArray⟩)).setCell ⟨V.heap.size,1,none⟩ (.slice oA nA kA)).setCell ⟨V.heap.size,2,none⟩ (.slice oK nK cK)) (by have h1:=jg a1;simp only[maxLen];omega) hal (fun b hb=>(aY _ _ _ b hb).trans ((aY _ _ _ b hb).trans (aY _ _ _ b hb)));rw[List.take_length] at hgd;exact hgd
end
end
section
open Go.RowKit
section
variable {W:ag}{LB B DB:Nat}{M:Dm}{nx c:Nat}{r:Int->Nat}{rl:List Rl}{l:List Pc}{w h:Nat}
theorem LvE.doc (hl:LvE W LB B DB M nx c r rl l w h):au 25 #[ay LB] W fun e w'=>e=.returned (ay DB)/\W=w':=by
 obtain⟨tg,MB,p,rv,qs,pv,cv,h1, -⟩:=hl;have l0:=aD h1.lb 0 _ rfl;clear h1;go_enter func25,ntmps25;go_wp2_with fail;go_ret;exact⟨rfl,rfl⟩
theorem ZP {V w1:ag}{n:Nd}{s:aC}{o1 o2:Option Addr}{n1 k1 n2 k2:Nat}(hb:Below (V.alloc oZ).heap.size (V.alloc oZ) w1)(hq:oJ (fun b=>(V.alloc oZ).heap.size<=b) w1 (.string s) (.slice o1 n1 k1) (.slice o2 n2 k2) n):
  kU w1 V.heap.size (.string ⟨#[]⟩) (.slice none 0 0) (.slice none 0 0)/\(((w1.setCell ⟨V.heap.size,0,none⟩ (.string s)).setCell ⟨V.heap.size,1,none⟩ (.slice o1 n1 k1)).setCell ⟨V.heap.size,2,none⟩ (.slice o2 n2 k2)).heap[V.heap.size]? =some (.cells #[.string s,.slice o1 n1 k1,.slice o2 n2 k2] 36)/\
   oJ (fun b=>V.heap.size<=b) (((w1.setCell ⟨V.heap.size,0,none⟩ (.string s)).setCell ⟨V.heap.size,1,none⟩ (.slice o1 n1 k1)).setCell ⟨V.heap.size,2,none⟩ (.slice o2 n2 k2)) (.string s) (.slice o1 n1 k1) (.slice o2 n2 k2) n/\Below V.heap.size V (((w1.setCell ⟨V.heap.size,0,none⟩ (.string s)).setCell ⟨V.heap.size,1,none⟩ (.slice o1 n1 k1)).setCell ⟨V.heap.size,2,none⟩ (.slice o2 n2 k2)):=by
 have hs:(V.alloc oZ).heap.size=V.heap.size+1:=dB _ _;have k0:=(hb.block V.heap.size (by omega)).trans (dw V #[.string ⟨#[]⟩,.slice none 0 0,.slice none 0 0] 36);refine⟨kU.of k0,GJ k0 _ _ _,oJ.turn (fun b hq _=>?_) n hq,(((aH (bT V oZ) hb).setCell (by simp) _).setCell (by simp) _).setCell (by simp) _⟩;have hq:(V.alloc oZ).heap.size<=b:=hq;have hne:b≠V.heap.size:=by omega
 exact⟨by omega,(aY _ _ _ b hne).trans ((aY _ _ _ b hne).trans (aY _ _ _ b hne))⟩
theorem LvE.node (hl:LvE W LB B DB M nx c r rl l w h):au 14 #[ay LB] W fun e w'=>NdR W.heap.size (EI M 11 0) e w'/\Below W.heap.size W w':=by
 obtain⟨tg,MB,p,rv,qs,pv,cv,h1, -⟩:=hl;have l0:=bK oZ (aD h1.lb 0 _ rfl);obtain⟨e0,he0, -⟩:=h1.ds.d.root;have ND:∀V,Below W.heap.size W V->au 62 #[ay DB,aa 0] V fun e w'=>NdR V.heap.size (EI M 11 0) e w'/\Below V.heap.size V w':=fun V hV=>DZ h1.ds h1.ok 11 0 V hV (by decide) (h1.ds.d.dp 11 0 e0 he0 (by omega));obtain⟨X,hX⟩:∃X,EI M 11 0=X:=⟨_,rfl⟩;rw[hX] at ND⊢;clear hX h1 he0;have ND':∀V,Below W.heap.size W V->au 29 #[ay DB] V fun e w'=>NdR V.heap.size X e w'/\Below V.heap.size V w':=fun V hV=>by
  have N1:=ND (V.alloc oZ) (aH hV (bT _ _));clear ND hV l0;go_enter func29,ntmps29;go_wp2_with(go_at_call 62;refine N1.mono ?_;rintro e w1 ⟨⟨s,o1,n1,k1,o2,n2,k2,rfl,hq⟩,hb⟩;obtain⟨⟨c0,c1,c2,f0,f1,f2⟩,r4,hq',hb'⟩:=ZP hb hq);have e0:=aD r4 0 _ rfl;have e1:=aD r4 1 _ rfl;have e2:=aD r4 2 _ rfl;refine bodyPost_ret (v:=.agg #[.string s,.slice o1 n1 k1,.slice o2 n2 k2]) (by simp[results,results29,go_sem,e0,e1,e2]) rfl ?_;exact⟨⟨s,o1,n1,k1,o2,n2,k2,rfl,hq'⟩,hb'⟩
 have N1:=ND' (W.alloc oZ) (bT _ _);clear ND ND';go_enter func14,ntmps14;go_wp2_with(go_at_call 29;refine N1.mono ?_;rintro e w1 ⟨⟨s,o1,n1,k1,o2,n2,k2,rfl,hq⟩,hb⟩;obtain⟨⟨c0,c1,c2,f0,f1,f2⟩,r4,hq',hb'⟩:=ZP hb hq);have e0:=aD r4 0 _ rfl;have e1:=aD r4 1 _ rfl;have e2:=aD r4 2 _ rfl;refine bodyPost_ret (v:=.agg #[.string s,.slice o1 n1 k1,.slice o2 n2 k2]) (by simp[results,results14,go_sem,e0,e1,e2]) rfl ?_;exact⟨⟨s,o1,n1,k1,o2,n2,k2,rfl,hq'⟩,hb'⟩
end
end
section
open Go.RowKit
set_option maxRecDepth 20000
section
variable {E:Nat->Addr}{W:ag}{LB B DB:Nat}{M:Dm}{nx c:Nat}{rl:List Rl}{l:List Pc}{w h:Nat}{X:Option Nat}
theorem jR.doc (hl:jR W LB B DB M nx c rl l w h X):au 25 #[ay LB] W fun e w'=>e=.returned (ay DB)/\W=w':=by
 obtain⟨r,hl⟩:=hl.e;exact hl.doc
theorem jR.made (hl:jR W LB B DB M nx c rl l w h X):au 12 #[ay LB] W fun e w'=>e=.returned (.bool true)/\W=w':=by
 have DC:=hl.doc;clear hl;go_enter func12,ntmps12;go_wp2_with(go_at_call 25;refine DC.mono ?_;rintro e w1 ⟨rfl,rfl⟩);go_ret;exact⟨rfl,rfl⟩
end
theorem a4x (M:Dm)(nx c:Nat)(rl:List Rl)(l:List Pc)(w h:Nat)(hw1:1<=w)(hw:w<=40)(ug:1<=h)(hh:h<=40):∃s:aC,s≠⟨#[]⟩/\∀(E:Nat->Addr) (W:ag) (LB B DB:Nat) (X:Option Nat),PE E W->jR W LB B DB M nx c rl l w h X->au 8 #[ay LB] W fun e w'=>e=.returned (.string s)/\Below W.heap.size W w':=by
 obtain⟨s1,hs1,HT⟩:∃s1:aC,s1.size<=10000/\∀(E:Nat->Addr) (V:ag) (c0 c1 c2:ah),ME E V->nG V c0 c1 c2 (EI M 11 0)->au 13 #[.agg #[c0,c1,c2]] V fun e w'=>∃u,e=.returned (.tuple #[.string s1,u])/\Below V.heap.size V w':=by
  by_cases h1:(ig (EI M 11 0) 1 0).1=0
  ·by_cases h2:(txt (EI M 11 0)).length<=10000
   ·refine⟨⟨(txt (EI M 11 0)).toArray⟩,by simpa[ByteArray.size] using h2,fun E V c0 c1 c2 hE hn=>(Hw E _ c0 c1 c2 V hE hn).mono fun e w' ⟨k1,k2⟩=>?_⟩;rcases k2 with⟨k2, -⟩|⟨-,k2, -⟩|⟨-, -,k2⟩
    ·exact absurd h1 k2
    ·omega
    ·exact⟨_,k2,k1⟩
   ·refine⟨⟨#[]⟩,by decide,fun E V c0 c1 c2 hE hn=>(Hw E _ c0 c1 c2 V hE hn).mono fun e w' ⟨k1,k2⟩=>?_⟩;rcases k2 with⟨k2, -⟩|⟨-, -,k2⟩|⟨-,k2, -⟩
    ·exact absurd h1 k2
    ·exact⟨_,k2,k1⟩
    ·exact absurd k2 h2
  ·refine⟨⟨#[]⟩,by decide,fun E V c0 c1 c2 hE hn=>(Hw E _ c0 c1 c2 V hE hn).mono fun e w' ⟨k1,k2⟩=>?_⟩;rcases k2 with⟨-,pb, -,k2, -⟩|⟨k2, -⟩|⟨k2, -⟩
   ·exact⟨_,k2,k1⟩
   ·exact absurd k2 h1
   ·exact absurd k2 h1
 obtain⟨s2,hs2,aaU⟩:∃s2:aC,s2.size<=2000/\(⟨(IZ (lW aN (l.map fK) w h) w h).toArray⟩:aC)=s2:=⟨_,by
  have:=DJ (lW aN (l.map fK) w h) w h;have h3:=Nat.mul_le_mul (show w+1<=41 by omega) hh;simp[ByteArray.size];omega,rfl⟩
 refine⟨s1++⟨#[10]⟩++s2,fun h0=>?_,fun E W LB B DB X hP hl=>?_⟩
 ·have:=congrArg ByteArray.size h0;simp at this;have h4:(⟨#[10]⟩:aC).size=1:=rfl;have h5:(⟨#[]⟩:aC).size=0:=rfl;omega
 have IM:=hl.made;have ND:au 14 #[ay LB] W fun e w1=>∃(s:aC) (o1:Option Addr) (n1 k1:Nat) (o2:Option Addr) (n2 k2:Nat),e=.returned (.agg #[.string s,.slice o1 n1 k1,.slice o2 n2 k2])/\nG w1 (.string s) (.slice o1 n1 k1) (.slice o2 n2 k2) (EI M 11 0)/\Below W.heap.size W w1:=by
  obtain⟨r,hl⟩:=hl.e;exact hl.node.mono fun e w1 ⟨⟨s,o1,n1,k1,o2,n2,k2,h1,h2⟩,h3⟩=>⟨s,o1,n1,k1,o2,n2,k2,h1,oJ.nd _ h2,h3⟩
 have TX:=fun V (hV:Below W.heap.size W V)=>HT E V;have PC:=fun V (hV:Below W.heap.size W V)=>(hl.below hV).e.choose_spec.pic hw1 hw ug hh;have PX:=fun V g cp (B:Nat) (hc:V.ownsRow B 9 1 (.slice (some ⟨g,0,none⟩) (w*h) cp) (w*h) ((lW aN (l.map fK) w h).map .string))=>MN _ w h g cp B V hw1 hw hh hc;simp only[aaU] at PX;have HM:=fun V (hV:Below W.heap.size W V)=>(hP.below hV).le.me;have hA:¬9223372036854775807<s1.size+1:=by omega
 have hB:¬9223372036854775807<s1.size+1+s2.size:=by omega
 clear hl hP HT aaU;go_enter func8,ntmps8;go_wp2_with(first|(go_at_call 12;refine IM.mono ?_;rintro e w0 ⟨rfl,rfl⟩)|(go_at_call 14;refine ND.mono ?_;rintro e w1 ⟨s,o1,n1,k1,o2,n2,k2,rfl,hn,b1⟩)|(go_at_call 13;refine(TX w1 b1 _ _ _ (HM w1 b1) hn).mono ?_;rintro e w2 ⟨u,rfl,b2⟩;have b12:=aH b1 b2)|(go_at_call 15;refine(PC w2 b12).mono ?_;rintro e w3 ⟨g,cp,rfl,ow,b3⟩;have b13:=aH b12 b3)|(go_at_call 16;refine(PX w3 g cp _ ow).mono ?_;rintro e w4 ⟨rfl,b4⟩));go_ret;exact⟨rfl,aH b13 b4⟩
section
variable {E:Nat->Addr}{W w':ag}{LB B DB:Nat}{M:Dm}{nx c:Nat}{rl:List Rl}{l:List Pc}{w h:Nat}{X:Option Nat}
theorem jR.turn (hl:jR W LB B DB M nx c rl l w h X)(hs:∀g,B<=g->g<W.heap.size->X≠some g->w'.heap[g]? =W.heap[g]?)(hx:∀b,X=some b->∃cs f,W.heap[b]? =some (.cells cs 3 f))(hz:W.heap.size<=w'.heap.size){Y:Option Nat}(hy:∀b,Y=some b->X=some b\/W.heap.size<=b):jR w' LB B DB M nx c rl l w h Y:=by
 obtain⟨r,tg,MB,p,rv,qs,pv,cv,h1,h2,h3⟩:=hl;have NX:∀{g:Nat} {cs:Array ah} {t:TypeId} {f:Nat×Nat},W.heap[g]? =some (.cells cs t f)->t≠3->X≠some g:=fun h4 h5 h6=>by
  obtain⟨cs',f',h7⟩:=hx _ h6;rw[h4] at h7;cases h7;exact h5 rfl
 have OS:∀{k n:Nat} {e:TypeId} {v:ah} {xs:List ah},W.ownsRow B e k v n xs->e≠3->w'.ownsRow B e k v n xs:=fun h he=>bS h fun g hg=>by
  obtain⟨cs,f,h4, -⟩:=dS h g hg;exact hs g (h.lt g hg).1 (h.lt g hg).2 (NX h4 he)
 exact⟨r,tg,MB,p,rv,qs,pv,cv,⟨(hs LB h1.base (aI h1.lb) (NX h1.lb (by decide))).trans h1.lb,h1.base,⟨h1.ds.w.turn (fun g t ht=>hs g (h1.ds.w.low g t ht).1 (h1.ds.w.low g t ht).2 fun e1=>by rw[h3 g e1] at ht;cases ht) hz,h1.ds.d,h1.ds.n,h1.ds.le,aJ h1.ds.low hz⟩,h1.ok,h1.rok,OS h1.row (by decide),⟨OS h1.pc.own (by decide),fun x hx=>OS (h1.pc.pts x hx) (by decide),h1.pc.rt⟩,h1.pm,h1.pk,h1.ql,OS h1.pic (by decide)⟩,h2,fun b hb=>(hy b hb).elim (h3 b) fun h4=>h1.ds.w.new h4⟩
theorem jR.lt (hl:jR W LB B DB M nx c rl l w h X):LB<W.heap.size/\DB<W.heap.size:=by
 obtain⟨r,tg,MB,p,rv,qs,pv,cv,h1, -, -⟩:=hl;exact⟨aI h1.lb,aI h1.ds.w.doc⟩
theorem jR.lst (hl:jR W LB B DB M nx c rl l w h X):eG M/\nx<=1000000/\0<(dG M 11 0).length/\(dG M 11 0).length<=100/\∀i∈dG M 11 0,dR i:=by
 obtain⟨r,tg,MB,p,rv,qs,pv,cv,h1, -, -⟩:=hl;obtain⟨L,h2,h3,h4⟩:=h1.ds.all;have h5:=h1.ds.Dh.2;refine⟨h1.ok,h1.ds.w.few,by rw[h2];simp,h5,fun i hi=>?_⟩;rw[h2] at hi;rcases List.mem_cons.1 hi with rfl|hi
 ·decide
 ·obtain⟨-,e,he⟩:=h4 i hi;exact h1.ds.w.i64 he
theorem jR.all (hl:jR W LB B DB M nx c rl l w h X):au 57 #[ay DB] W fun e w'=>∃o k,e=.returned (.slice o (dG M 11 0).length k)/\Below W.heap.size W w'/\w'.ownsRow (W.heap.size+1) 3 1 (.slice o (dG M 11 0).length k) (dG M 11 0).length (aU (dG M 11 0)):=by
 obtain⟨r,tg,MB,p,rv,qs,pv,cv,h1, -, -⟩:=hl;exact Ra h1.ds.w 11 (by decide) h1.ds.Dh.1 (by have:=h1.ds.Dh.2;omega)
theorem aaV (hP:PE E W)(hl:jR W LB B DB M nx c rl l w h X)(q k v:Nat)(h8:(v:Int)/8=(q:Int))(hk:(v:Int) % 8=(k:Int))(hv:(v:Int)<=9223372036854775807)(n:Int)(hn:(dG M 11 0)[q % (dG M 11 0).length]? =some n)(x:Ed)
  (hE:∀E W,PE E W->au 59 #[aa k,aa q,aa n] W fun e w'=>e=.returned (.agg (vS x))/\Below W.heap.size W w') (Q:ah->ag->Prop)
  (hD:∀W',Below W.heap.size W W'->au 58 #[ay LB,.agg (vS x)] W' fun e w'=>∃t u,e=.returned (.tuple #[t,u])/\Q u w'):
  au 24 #[ay LB,aa v] W fun e w'=>∃u,e=.returned u/\Q u w':=by
 have IM:=hl.made;have DC:=hl.doc;have AL:=hl.all;have h0:=hl.lst.2.2.1;have h1:=hl.lst.2.2.2.1;have EO:=fun V (hV:Below W.heap.size W V)=>hE E V (hP.below hV);obtain⟨V8,hV8⟩:∃v8:ah,v8=.agg (vS x):=⟨_,rfl⟩;simp only[<- hV8] at EO hD;clear hl hP hE hV8;generalize dG M 11 0=lst at*;obtain⟨c',hc⟩:∃c',lst.length=c':=⟨_,rfl⟩;have HN:Hid (lst[q % c']? =some n):=by rw[<- hc];exact hn
 have HC:=aj hc;rw[hc] at AL h0 h1;clear hn hc;obtain⟨r,hr⟩:∃r,q % c'=r:=⟨_,rfl⟩;rw[hr] at HN;have e3:(q:Int) % (c':Int)=(r:Int):=by omega
 have e4:(r:Int)<(c':Int):=by have:=Nat.mod_lt q h0;omega
 have e5:((c':Int)==0)=false:=by rw[beq_eq_false_iff_ne];omega
 clear hr;have CG:∀(V:ag) (o:Option Addr) (kk:Nat),V.ownsRow (W.heap.size+1) 3 1 (.slice o c' kk) c' (aU lst)->∃g,o=some ⟨g,0,none⟩/\V.cell? (ak g r)=some (aa n):=fun V o kk own=>by
  have own':V.ownsRow (W.heap.size+1) 3 1 (.slice o c' kk) lst.length (aU lst):=by rw[HC.out];exact own
  rcases ints_at own' with⟨he, -⟩|⟨g,cap,hv, -,hc⟩
  ·have:=HN.out;rw[he] at this;simp at this
  ·injection hv with hv1;exact⟨g,hv1,hc r n HN.out⟩
 go_enter func24,ntmps24;go_wp2_with(first|(go_at_call 12;refine IM.mono ?_;rintro e w0 ⟨rfl,rfl⟩)|(go_at_call 25;refine DC.mono ?_;rintro e w0 ⟨rfl,rfl⟩)|(go_at_call 57;refine AL.mono ?_;rintro e w1 ⟨o,kk,rfl,b1,own⟩;obtain⟨g,rfl,cg⟩:=CG w1 o kk own)|(go_at_call 59;refine(EO w1 b1).mono ?_;rintro e w2 ⟨rfl,b2⟩;have b12:=aH b1 b2)|(go_at_call 58;refine(hD w2 b12).mono ?_;rintro e w3 ⟨t,u,rfl,hq⟩));go_ret;exact⟨_,rfl,hq⟩
end
def Sa (E:Nat->Addr)(B:Nat)(W:ag):Prop:=∃V,PE E V/\V.heap.size<=B/\V.heap.size<=W.heap.size/\Below V.heap.size V W
section
variable {E:Nat->Addr}{W w':ag}{LB B DB:Nat}{M:Dm}{nx c:Nat}{rl:List Rl}{l:List Pc}{w h:Nat}{X:Option Nat}
theorem Sa.pe (h:Sa E B W):PE E W:=h.choose_spec.1.below h.choose_spec.2.2.2
theorem Sa.below (h:Sa E B W)(hb:Below W.heap.size W w'):Sa E B w':=by
 obtain⟨V,h1,h2,h3,h4⟩:=h;exact⟨V,h1,h2,aJ h3 hb.size,h4.trans (hb.mono h3)⟩
theorem jR.base (hl:jR W LB B DB M nx c rl l w h X):B<=LB/\B<=DB/\B<=W.heap.size:=hl.e.choose_spec.base
theorem Sa.k2 (h:Sa E B W)(hb:B<=LB)(hd:B<=DB)(hk:K2 LB DB W w'):Sa E B w':=by
 obtain⟨V,h1,h2,h3,h4⟩:=h;exact⟨V,h1,h2,aJ h3 hk.size,h4.trans (hk.below (aJ h2 hb) (aJ h2 hd) h3)⟩
theorem a3t {k:Nat}{u:ah}(h:(k=0/\u=.nilIface)\/(1<=k/\ErK E k u W))(hk:k<=11)(hE:EE E W):au 23 #[u] W fun e w'=>∃y,e=.returned (.tuple #[aa k,y])/\Below W.heap.size W w':=by
 rcases h with⟨rfl,rfl⟩|⟨h1,rfl|⟨pb,n,rfl,h2,h3⟩⟩
 ·exact(Yg W).mono fun e w' ⟨h1,h2⟩=>⟨_,h1,by rw[h2];exact aG _ _⟩
 ·exact(a1U k h1 hk W hE).mono fun e w' ⟨h1,h2⟩=>⟨_,h1,h2⟩
 ·exact(OL k pb 0 n h1 hk W hE h2 h3).mono fun e w' ⟨h1,h2⟩=>⟨_,h1,h2⟩
def a3u (E:Nat->Addr)(v a:Int)(M:Dm)(nx c:Nat)(rl:List Rl)(l:List Pc)(w h:Nat)(M2:Dm)(l7 c2:Nat)(l2:List Pc):Prop:=∀W LB B DB X,(∀b,X=some b->b<W.heap.size)->Sa E B W->jR W LB B DB M nx c rl l w h X->au 11 #[ay LB,aa v] W fun e w'=>e=.returned (aa a)/\K2 LB DB W w'/\jR w' LB B DB M2 l7 c2 rl l2 w h X
def afN (E:Nat->Addr)(v:Int)(M:Dm)(nx c:Nat)(rl:List Rl)(l:List Pc)(w h:Nat):Prop:=∃(a:Int) (M2:Dm) (l7 c2:Nat) (l2:List Pc),l7<=nx+1/\eG M2/\a3u E v a M nx c rl l w h M2 l7 c2 l2
theorem Sb (v:Int)(hv:v<0):a3u E v (-1) M nx c rl l w h M nx c l:=fun W LB B DB X hX hP hl=>by
 have h1:decide (v<0)=true:=decide_eq_true hv;have HL:=aj hl;clear hl hP hv;go_enter func11,ntmps11;go_wp2_with fail;go_ret;exact⟨rfl,K2.refl _ _ _,HL.out⟩
theorem a7i (v:Nat)(a:Nat)(Q:ag->Prop)(hD:au 24 #[ay LB,aa v] W fun e w1=>∃u,e=.returned u/\au 23 #[u] w1 fun e w2=>∃y,e=.returned (.tuple #[aa a,y])/\Q w2):
  au 11 #[ay LB,aa v] W fun e w'=>e=.returned (aa a)/\Q w':=by
 have h1:decide ((v:Int)<0)=false:=decide_eq_false (by omega);go_enter func11,ntmps11;go_wp2_with(first|(go_at_call 24;refine hD.mono ?_;rintro e w1 ⟨u,rfl,hC⟩)|(go_at_call 23;refine hC.mono ?_;rintro e w2 ⟨y,rfl,hq⟩));go_ret;exact⟨rfl,hq⟩
theorem a7g.apx {x:Ed}{n:Int}(hx:a7g x n)(hM:eG M)(hn:dR n)(hnx:nx<1000000):x.kd≠nM/\ApX E x M nx c:=by
 rcases hx with⟨nm,v,rfl,h1,h2⟩|rfl|rfl
 ·exact⟨by show MJ≠nM;decide,a7e hM n 0 0 hn nm v h1 h2⟩
 ·exact⟨by show ng≠nM;decide,Vn hM n 0 0 hn [] []⟩
 ·exact⟨by show DU≠nM;decide,a7f hM hnx n 0 hn [98,111,120] [] (by decide)⟩
theorem ZQ (v:Nat)(hv:(v:Int)<=9223372036854775807)(n:Int)(h5:(dG M 11 0)[v/8 % (dG M 11 0).length]? =some n)(x:Ed)(hx2:∀E W,PE E W->au 59 #[aa (v % 8:Nat),aa (v/8:Nat),aa n] W fun e w'=>e=.returned (.agg (vS x))/\Below W.heap.size W w'){k:Nat}(k3:k<=11){M2:Dm}{l7 c2:Nat}{l2:List Pc}(k6:DoF E x M nx c rl l w h k M2 l7 c2 l2):a3u E v k M nx c rl l w h M2 l7 c2 l2:=fun W LB B DB X hX hP hl=>by
 obtain⟨b1,b2,b3⟩:=hl.base;exact a7i v k _ ((aaV hP.pe hl (v/8) (v % 8) v (by omega) (by omega) hv _ h5 x hx2 _ (fun W' hb=>(k6 W' LB B DB X (fun b hb'=>bI (hX b hb') hb.size) (hP.below hb).pe.le (hl.below hb)).mono fun e w' ⟨g1,g2,t,u,g3,g4⟩=>⟨t,u,g3,(⟨(K2.of_below hb).trans g1,g2,g4⟩:K2 LB DB W w'/\jR w' LB B DB M2 l7 c2 rl l2 w h X/\((k=0/\u=.nilIface)\/(1<=k/\ErK E k u w')))⟩)).mono fun e w1 ⟨u,g1,g2,g3,g4⟩=>⟨u,g1,(a3t g4 k3 (hP.k2 b1 b2 g2).pe.ee).mono fun e w2 ⟨y,g5,g6⟩=>⟨y,g5,g2.trans (K2.of_below g6),g3.below g6⟩⟩)
theorem aaW (hM:eG M)(hnx:nx<1000000)(hw1:1<=w)(hw:w<=40)(ug:1<=h)(hh:h<=40)(v:Int)(hv:v<=9223372036854775807):afN E v M nx c rl l w h:=by
 rcases Int.lt_or_le v 0 with h0|h0
 ·exact⟨-1,M,nx,c,l,Nat.le_succ _,hM,Sb v h0⟩
 obtain⟨v,rfl⟩:=Int.eq_ofNat_of_zero_le h0;by_cases hN:∃W LB B DB X,jR W LB B DB M nx c rl l w h X
 ·obtain⟨W0,LB0,B0,DB0,X0,hl0⟩:=hN;obtain⟨-, -,h2,h3,h4⟩:=hl0.lst;have h5:v/8 % (dG M 11 0).length<(dG M 11 0).length:=Nat.mod_lt _ h2;obtain⟨x,hx1,hx2⟩:=ZO (v % 8) (v/8) (by omega) ((dG M 11 0)[v/8 % (dG M 11 0).length]) (by omega);obtain⟨k1,k2⟩:=hx1.apx (E:=E) (c:=c) hM (h4 _ (List.getElem_mem h5)) hnx;obtain⟨k,M2,l7,c2,l2,k3,k4,k5,k6⟩:=afL (rl:=rl) (l:=l) hM k1 k2 hw1 hw ug hh;exact⟨k,M2,l7,c2,l2,k4,k5,ZQ v hv _ (dK h5) x hx2 k3 k6⟩
 ·exact⟨0,M,nx,c,l,Nat.le_succ _,hM,fun W LB B DB X hX hP hl=>absurd ⟨W,LB,B,DB,X,hl⟩ hN⟩
end
structure ZR where
 M:Dm
 nx:Nat
 c:Nat
 l:List Pc
def zM (E:Nat->Addr)(rl:List Rl)(w h:Nat)(v a:Int)(s t:ZR):Prop:=a3u E v a s.M s.nx s.c rl s.l w h t.M t.nx t.c t.l
section
variable {E:Nat->Addr}{rl:List Rl}{w h:Nat}
theorem Sd (hw1:1<=w)(hw:w<=40)(ug:1<=h)(hh:h<=40):∀(vs:List Int) (s:ZR),eG s.M->s.nx+vs.length<=1000000->(∀v∈vs,v<=9223372036854775807)->∃(ss:Nat->ZR) (us:List Int),ss 0=s/\us.length=vs.length/\∀i v a,vs[i]? =some v->us[i]? =some a->zM E rl w h v a (ss i) (ss (i+1))
 |[],s,_,_,_=>⟨fun _=>s,[],rfl,rfl,fun i v a h _=>by simp at h⟩
 |v::vs,s,hM,hn,hv=>by
  rw[List.length_cons] at hn;obtain⟨a,M2,l7,c2,l2,h1,h2,h3⟩:=aaW (E:=E) (nx:=s.nx) (c:=s.c) (rl:=rl) (l:=s.l) hM (by omega) hw1 hw ug hh v (hv v (by simp));obtain⟨ss,us,k1,k2,k3⟩:=Sd hw1 hw ug hh vs ⟨M2,l7,c2,l2⟩ h2 (by show l7+_<=_;omega) (fun x hx=>hv x (by simp[hx]));refine⟨fun i=>match i with|0=>s|i+1=>ss i,a::us,rfl,by simp[k2],fun i v' a' h4 h5=>?_⟩;cases i with
  |zero=>
   rw[List.getElem?_cons_zero] at h4 h5;cases h4;cases h5;show zM E rl w h v a s (ss 0);rw[k1];exact h3
  |succ i=>
   rw[List.getElem?_cons_succ] at h4 h5;exact k3 i v' a' h4 h5
theorem a3v {us:List Int}{k:Nat}{a:Int}(h:us[k]? =some a):us.take (k+1)=us.take k++[a]:=by
 rw[List.take_add_one,h];rfl
theorem ready {W wr w3:ag}{LB DB:Nat}{o':Option Addr}{n cp':Nat}{xs:List ah}(hown:wr.ownsRow W.heap.size 3 1 (.slice o' n cp') n xs)(k3:K2 LB DB wr w3)(d1:LB<W.heap.size)(d2:DB<W.heap.size)(hK:K2 LB DB W wr)(a:Int):
  W.heap.size<=w3.heap.size/\(w3.alloc (.cells #[aa a] 3)).ownsRow W.heap.size 3 1 (.slice o' n cp') n xs/\(w3.alloc (.cells #[aa a] 3)).heap[w3.heap.size]? =some (.cells #[aa a] 3):=
 ⟨aJ hK.size k3.size,World.ownsRow.alloc (bS hown fun g hg=>k3.block g (hown.lt g hg).2 (by have:=(hown.lt g hg).1;omega) (by have:=(hown.lt g hg).1;omega)) _,dW w3 _⟩
theorem a3w {W wr w3 w7:ag}{LB DB B:Nat}{o':Option Addr}{n cp':Nat}{xs:List ah}(hown:wr.ownsRow W.heap.size 3 1 (.slice o' n cp') n xs)(k3:K2 LB DB wr w3)(d1:LB<W.heap.size)(d2:DB<W.heap.size)(hK:K2 LB DB W wr)(a:Int){M:Dm}{nx c:Nat}{l:List Pc}(hl:jR w3 LB B DB M nx c rl l w h (Value.slice o' n cp').ownBlock)
  (jS:(w3.alloc (.cells #[aa a] 3)).grownBy w7 (Value.slice o' n cp').ownBlock) {g7:Nat} (at7:(Value.slice o' n cp').ownBlock=some g7\/g7=(w3.alloc (.cells #[aa a] 3)).heap.size):K2 LB DB W w7/\Hid (jR w7 LB B DB M nx c rl l w h (some g7)):=by
 obtain⟨h1,h2, -⟩:=ready hown k3 d1 d2 hK a;have b37:Below W.heap.size w3 w7:=((aG _ _).alloc h1 _).grown jS (by simp;omega) (fun j hj=>(hown.lt j hj).1);have k37:=hK.trans k3;refine⟨⟨b37.os.trans k37.os,b37.tape.trans k37.tape,b37.output.trans k37.output,aJ k37.size b37.size,fun k hk e1 e2=>(b37.block k hk).trans (k37.block k hk e1 e2)⟩,?_⟩;exact(hl.below (bT w3 _)).turn (fun g _ hg hx=>jS.block g hg fun e=>hx e.symm) (fun b hb=>by obtain⟨cs,f,h3, -⟩:=dS h2 b hb;exact⟨cs,f,h3⟩) jS.size (fun b hb=>by cases hb;exact at7.imp id fun h=>by rw[h];exact Nat.le_refl _)
theorem ZT {W:ag}{LB B DB:Nat}(ss:Nat->ZR)(vs us:List Int)(n0:Nat)(hn0:vs.length=n0)(hl2:us.length=n0)(hvl:n0<=300)(hS:∀i v a,vs[i]? =some v->us[i]? =some a->zM E rl w h v a (ss i) (ss (i+1)))(hP:Sa E B W)(hl:jR W LB B DB (ss 0).M (ss 0).nx (ss 0).c rl (ss 0).l w h none)(o:Option Addr)(cp:Nat)(hcp:n0<=cp)(hc:∀V,K2 LB DB W V->∀i v,vs[i]? =some v->∃g,o=some ⟨g,0,none⟩/\V.cell? (ak g i)=some (aa v)):
  au 7 #[ay LB,.slice o n0 cp] W fun e w'=>∃v,e=.returned v/\w'.ownsRow W.heap.size 3 1 v n0 (aU us)/\K2 LB DB W w'/\jR w' LB B DB (ss n0).M (ss n0).nx (ss n0).c rl (ss n0).l w h v.ownBlock:=by
 obtain⟨i0,hi,hz0,hz1,hz2⟩:=info_parts sI;obtain⟨b1,b2,b3⟩:=hl.base;obtain⟨d1,d2⟩:=hl.lt;have hmin:min (n0:Int) 300=(n0:Int):=by omega
 have hmax:max (n0:Int) 0=(n0:Int):=by omega
 have amY:(n0:Int)<=(cp:Int):=by omega
 have HV:=aj hn0;have HU:=aj hl2;have HS:=aj hS;have HC:=aj hc;have HL:=aj hl;clear hn0 hl2 hS hc hl;go_enter func7,ntmps7;go_wp2_with fail
 go_loopw [5,14] (fun u i wr=>∃(k:Nat) (o':Option Addr) (n cp':Nat),k<=n0/\u=.slice o' n cp'/\i=aa k/\n=k/\wr.ownsRow W.heap.size 3 1 (.slice o' n cp') n (aU (us.take k))/\K2 LB DB W wr/\Hid (jR wr LB B DB (ss k).M (ss k).nx (ss k).c rl (ss k).l w h (Value.slice o' n cp').ownBlock)) (fun _ i _=>n0-(intOf i).toNat)
 case atStart=>exact⟨0,none,0,0,aP _,rfl,rfl,rfl,eH _ _ _ _,K2.refl _ _ _,HL.out⟩
 case round=>
  obtain⟨k,o',n,cp',hk,rfl,rfl,hn,hown,hK,hLv⟩:=hrel;by_cases hlt:k<n0
  ·have hlt':(k:Int)<(n0:Int):=by omega
   have hv:=dK (l:=vs) (i:=k) (by rw[HV.out];exact hlt);have ha:=dK (l:=us) (i:=k) (by rw[HU.out];exact hlt);generalize vs[k]'(by rw[HV.out];exact hlt)=v at hv;generalize us[k]'(by rw[HU.out];exact hlt)=a at ha;obtain⟨g0,rfl,cg⟩:=HC.out wr hK k v hv;have ST:=HS.out k v a hv ha wr LB B DB _ (fun b hb=>(hown.lt b hb).2) (hP.k2 b1 b2 hK) hLv.out;have HT:Hid (us.take (k+1)=us.take k++[a]):=a3v ha;have ST':au 11 #[ay LB,aa v] wr fun e w'=>e=.returned (aa a)/\K2 LB DB wr w'/\Hid (jR w' LB B DB (ss (k+1)).M (ss (k+1)).nx (ss (k+1)).c rl (ss (k+1)).l w h (Value.slice o' n cp').ownBlock):=ST;have HK:=aj hK;clear ST hv ha hLv hK;subst hn;go_upto_region 5 with fail;go_wp2_with(first|(go_at_call 11;refine ST'.mono ?_;rintro e w3 ⟨rfl,k3,hL3⟩;have RD:=ready hown k3 d1 d2 HK.out a;obtain⟨hs3,zT,H0⟩:=RD)|(at_builtin;refine wpList_append_lies _ rfl _ _ 22 rfl W.heap.size 3 i0 (aa 0) 1 8 underlying22 hi hz0 hz1 hz2 rfl (by decide) _ _ _ rfl zT ⟨w3.heap.size,0,none⟩ 1 1 [aa a] rfl rfl (World.news_of_block H0) (fun u hu=>by simp at hu;subst hu;rfl) (by decide) (by simp only[maxLen];omega) (by omega) (by simp;omega) _ rfl ?_;intro g7 c7 w7 kN jS at7 lt7))
   go_roundw
   case rel=>
    obtain⟨f1,f2⟩:=a3w hown k3 d1 d2 HK.out a hL3.out jS at7;exact⟨n+1,_,_,c7,by omega,rfl,by go_num,rfl,by rw[HT.out,aU,List.map_append];exact kN,f1,f2⟩
   case measure=>simp[intOf];omega
  ·obtain rfl:k=n0:=by omega
   go_wp2_with fail;go_ret;exact⟨_,rfl,by rw[<- List.take_of_length_le (Nat.le_of_eq HU.out),<- hn];exact hn▸hown,hK,hLv.out⟩
end
end
end Go.Proofs.YtecneflbncjhpaaGreatDoor

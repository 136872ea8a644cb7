/-
  Parts of the proof.
-/
import Derived.Test.YtjfiehbcamfdfaaGreatDoorQy37
namespace Go.Proofs.YtjfiehbcamfdfaaGreatDoor
open Go.Proofs.Tryz
section
open Go.RowKit
def MF (tg:kE)(i:Int)(v:Value):kE:=fun x=>if v.ownBlock=some x then some (.ats i) else tg x
theorem bG.a3d {B:Nat}{tg:kE}{w w8:World}{DB MB:Nat}{p:Int->Option Nat}{M:Dm}{nx c EB:Nat}{i:Int}{e:iy}{va vk v7:Value}{L:List (Bs×Bs)}(h:bG B tg w DB MB p M nx c)(hi:M i=some e)(hp:p i=some EB)(he:yf B tg w i EB e va vk)
  (hE:w8.heap[EB]? =some (.cells #[.string ⟨e.name.toArray⟩,v7,aa e.parent,vk] 90)) (jQ:w8.ownsRow B 65 2 v7 L.length (aF L)) (Ml:v7.ownBlock=va.ownBlock\/∀g,v7.ownBlock=some g->w.heap.size<=g)
  (ho:w8.os=w.os) (ht:w8.tape=w.tape) (hu:w8.output=w.output) (hz:w.heap.size<=w8.heap.size) (blk:∀x,x<w.heap.size->x≠EB->va.ownBlock≠some x->w8.heap[x]? =w.heap[x]?):
  bG B (MF tg i v7) w8 DB MB p (gH M i ⟨e.name,L,e.parent,e.kids⟩) nx c/\(∀x,x<w.heap.size->MF tg i v7 x=tg x)/\KT tg w w8:=by
 have ZE:=aD he.cells;have neE:va.ownBlock≠some EB:=fun e1=>by have h1:=he.lI EB e1;rw[he.tag] at h1;cases h1
 have tk:∀x,x<w.heap.size->MF tg i v7 x=tg x:=fun x hx=>by
  unfold MF;split
  ·rename_i h1;rcases Ml with h2|h2
   ·exact(he.lI x (h2.symm.trans h1)).symm
   ·have:=h2 x h1;omega
  ·rfl
 refine⟨h.put hi hp (va:=v7) (vk:=vk) ⟨hE,?_,jQ,?_,?_,?_⟩ hz (h.wf i e hi) tk ?_ ?_ ?_,tk,⟨ho,ht,hu,hz,fun x hx hn=>?_⟩⟩
 ·rw[tk EB ZE];exact he.tag
 ·intro g hg;unfold MF;rw[if_pos hg]
 ·exact bS he.kids fun g hg=>blk g (he.kids.lt g hg).2 (fun e1=>by have h1:=he.jX g hg;rw[e1,he.tag] at h1;cases h1) (fun e1=>by have h1:=he.jX g hg;rw[he.lI g e1] at h1;cases h1)
 ·intro g hg;rw[tk g (he.kids.lt g hg).2];exact he.jX g hg
 ·intro x t ht;unfold MF at ht;split at ht
  ·rename_i h1;exact jQ.lt x h1
  ·have:=h.low x t ht;omega
 ·intro x hx;unfold MF;split
  ·exact .inr (.inr (.inl rfl))
  ·exact .inl (h.new hx)
 ·intro x t ht h1 h2 h3;exact blk x (h.low x t ht).2 (fun e1=>by rw[e1,he.tag] at ht;cases ht;exact h1 rfl) (fun e1=>by rw[he.lI x e1] at ht;cases ht;exact h2 rfl)
 ·exact blk x hx (fun e1=>by rw[e1,he.tag] at hn;cases hn) (fun e1=>by rw[he.lI x e1] at hn;cases hn)
theorem OO:∀(l:List (Bs×Bs)) (nm v:Bs),iK l nm=none->gm l nm v=l++[(nm,v)]
 |[],_,_,_=>rfl
 |a::l,nm,v,h=>by
  rw[gZ] at h;rw[gm];by_cases hk:(a.1==nm)=true
  ·rw[if_pos hk] at h;cases h
  ·rw[if_neg hk] at h⊢;rw[OO l nm v h];rfl
theorem FU:∀(l:List (Bs×Bs)) (nm v:Bs) (k i:Nat),fI nm k l=((k+i:Nat):Int)->gm l nm v=l.set i (nm,v)/\uR l nm=l.take i++l.drop (i+1)/\∃x,l[i]? =some x/\x.1=nm
 |[],nm,v,k,i,h=>by unfold fI at h;omega
 |a::l,nm,v,k,i,h=>by
  unfold fI at h;rw[gm,uR];by_cases hk:(a.1==nm)=true
  ·rw[if_pos hk] at h⊢;rw[if_pos hk];obtain rfl:i=0:=by omega
   exact⟨rfl,by simp,a,rfl,eq_of_beq hk⟩
  ·rw[if_neg hk] at h⊢;rw[if_neg hk];have hi:1<=i:=by
    rcases vI l nm (k+1) with⟨h1, -⟩|⟨j,x,h1, -⟩<;>omega
   obtain⟨j,rfl⟩:∃j,i=j+1:=⟨i-1,by omega⟩;obtain⟨h1,h2,x,h3,h4⟩:=FU l nm v (k+1) j (by rw[h];congr 1;omega);exact⟨by rw[h1];rfl,by rw[h2];simp,x,by simpa using h3,h4⟩
theorem Be:∀(l:List (Bs×Bs)) (i:Nat) (nm v:Bs),(∃x,l[i]? =some x/\x.1=nm)->(aF l).set (i*2+1) (.string ⟨v.toArray⟩)=aF (l.set i (nm,v))
 |[],_,_,_,⟨x,h,_⟩=>by simp at h
 |a::l,0,nm,v,⟨x,h,hx⟩=>by
  simp at h;subst h hx;rfl
 |a::l,i+1,nm,v,⟨x,h,hx⟩=>by
  have:=Be l i nm v ⟨x,by simpa using h,hx⟩;rw[show(i+1)*2+1=i*2+1+1+1 from by omega];simp only[aF,List.cons_append,List.nil_append,List.set_cons_succ,this]
end
section
open Go.RowKit
set_option maxHeartbeats 4000000
set_option maxRecDepth 20000
def nO (M:Dm)(n:Int)(nm v:Bs):Except Nat Dm:=match M n with
 |none=>.error 5
 |some e=>if fo nm=false then .error 4 else if isVal v=false then .error 10 else if(iK e.ats nm).isSome=false/\12<=e.ats.length then .error 7 else .ok (jN M n e (gm e.ats nm v))
def xm (E:Nat->Addr)(B:Nat)(tg:kE)(W:World)(DB MB:Nat)(p:Int->Option Nat)(nx c:Nat)(x:Except Nat Dm)(e:Ending)(w':World):Prop:=match x with
 | .error k=>e=.returned (.iface 390 (.pointer (some (E k))))/\Below W.heap.size W w'
 | .ok M'=>e=.returned .nilIface/\KT tg W w'/\∃uF,(∀x,x<W.heap.size->uF x=tg x)/\bG B uF w' DB MB p M' nx c
theorem Bz {w:World}{B k n g cap:Nat}{e:TypeId}{xs:List Value}(h:w.ownsRow B e k (.slice (some ⟨g,0,none⟩) n cap) n xs)(j:Nat)(v:Value):(w.setCell ⟨g,j,none⟩ v).ownsRow B e k (.slice (some ⟨g,0,none⟩) n cap) n (xs.set j v):=by
 obtain⟨h1,h2⟩:=h;refine⟨by rw[List.length_set];exact h1,?_⟩;rcases h2 with⟨h2,_⟩|⟨g',cap',cur,h3,h4,h5,h6,h7,h8,h9⟩
 ·cases h2
 ·cases h3;refine .inr ⟨g,cap,cur.setIfInBounds j v,rfl,h4,heap_setCell_same w g j cur e v h5,h6,h7,by simpa using h8,?_⟩;rw[<- h9,Array.toList_setIfInBounds,List.take_set]
theorem xq {w:World}{B k n g cap:Nat}{e:TypeId}{xs:List Value}(h:w.ownsRow B e k (.slice (some ⟨g,0,none⟩) n cap) n xs)(j:Nat):w.frozen? ⟨g,j,none⟩=false:=by
 rcases h.2 with⟨h2,_⟩|⟨g',cap',cur,h3,h4,h5, -⟩
 ·cases h2
 ·cases h3;exact dF h5 j
section
variable {E:Nat->Addr}{B:Nat}{tg:kE}{W:World}{DB MB:Nat}{p:Int->Option Nat}{M:Dm}{nx c:Nat}
theorem a06 (hE:DE E W)(h:bG B tg W DB MB p M nx c)(hB:B<=W.heap.size)(n:Int)(hn:dH n)(nm v:Bs)(hnl:nm.length<=1000000)(hvl:v.length<=1000000):
  ak 60 #[aj DB,aa n,.string ⟨nm.toArray⟩,.string ⟨v.toArray⟩] W fun e w'=>xm E B tg W DB MB p nx c (nO M n nm v) e w':=by
 have d0:=h.d0;have k4:=hE.c4;have k5:=hE.c5;have k10:=hE.c10;unfold nO;cases hm:M n with
 |none=>
  have hp:=h.non n hm;simp only;go_enter func60,ntmps60;go_wp2_with(at_lookup;refine lY _ rfl _ _ 83 rfl underlying3 underlying83 (eG _) rfl h.map n rfl hn hp ?_);go_ret;exact⟨rfl,Below.refl _ _⟩
 |some e=>
  obtain⟨EB,va,vk,hp,he⟩:=h.els n e hm;have IN:=kZ ⟨nm.toArray⟩ (by show nm.length<=_;omega) W;have IV:=xX ⟨v.toArray⟩ (by show v.length<=_;omega) W;simp only at IN IV;simp only;cases hnm:fo nm with
  |false=>
   rw[hnm] at IN;rw[if_pos rfl];go_enter func60,ntmps60;go_wp2_with(first|(at_lookup;refine eY _ rfl _ _ 83 rfl underlying3 underlying83 (eG _) rfl h.map n rfl hn EB hp ?_)|(go_at_call 102;refine IN.mono ?_;rintro e1 w1 ⟨rfl,rfl⟩));go_ret;exact⟨rfl,Below.refl _ _⟩
  |true=>
   rw[hnm] at IN;rw[if_neg (by simp)];cases hvv:isVal v with
   |false=>
    rw[hvv] at IV;rw[if_pos rfl];go_enter func60,ntmps60;go_wp2_with(first|(at_lookup;refine eY _ rfl _ _ 83 rfl underlying3 underlying83 (eG _) rfl h.map n rfl hn EB hp ?_)|(go_at_call 102;refine IN.mono ?_;rintro e1 w1 ⟨rfl,rfl⟩)|(go_at_call 111;refine IV.mono ?_;rintro e1 w1 ⟨rfl,rfl⟩));go_ret;exact⟨rfl,Below.refl _ _⟩
   |true=>
    rw[hvv] at IV;rw[if_neg (by simp)];have PO:=qO he nm;have hlen:e.ats.length<=maxLen:=by
     obtain⟨o,cap, -,h2,h3, -⟩:=bA he.ats;omega
    rcases vI e.ats nm 0 with⟨hf,hat⟩|⟨i,x,hf,hix,hat⟩
    ·rw[hf] at PO;rw[hat];obtain⟨ov,kv,Js⟩:=aI he.ats;subst Js;by_cases h12:12<=e.ats.length
     ·rw[if_pos ⟨rfl,h12⟩];have h12z:(12:Int)<=(e.ats.length:Int):=by omega
      have C1:∀w1,Below W.heap.size W w1->w1.cell? (ag EB 1)=some (.slice ov e.ats.length kv)/\w1.cell? (ag 2 0)=some (.iface 390 (.pointer (some (E 7)))):=fun w1 b1=>⟨(b1.cell (ax he.c1)).trans he.c1,(b1.cell (ax hE.c7)).trans hE.c7⟩;go_enter func60,ntmps60;go_wp2_with(first|(at_lookup;refine eY _ rfl _ _ 83 rfl underlying3 underlying83 (eG _) rfl h.map n rfl hn EB hp ?_)|(go_at_call 102;refine IN.mono ?_;rintro e1 w1 ⟨rfl,rfl⟩)|(go_at_call 111;refine IV.mono ?_;rintro e1 w1 ⟨rfl,rfl⟩)|(go_at_call 35;refine PO.mono ?_;rintro e1 w1 ⟨rfl,b1⟩;obtain⟨q1,q7⟩:=C1 w1 b1));go_ret;exact⟨rfl,b1⟩
     ·rw[if_neg (fun hh=>h12 hh.2)];have h12z:(e.ats.length:Int)<12:=by omega
      obtain⟨i0,hi,hz0,hz1,hz2⟩:=info_parts vw;have C1:∀w1,Below W.heap.size W w1->w1.cell? (ag EB 1)=some (.slice ov e.ats.length kv):=fun w1 b1=>(b1.cell (ax he.c1)).trans he.c1;have OW:∀w1,Below W.heap.size W w1->(w1.alloc (.cells #[.string ⟨nm.toArray⟩,.string ⟨v.toArray⟩] 65)).ownsRow B 65 2 (.slice ov e.ats.length kv) e.ats.length (aF e.ats):=fun w1 b1=>World.ownsRow.alloc (aK he.ats b1) _;have neE:some EB≠(Value.slice ov e.ats.length kv).ownBlock:=fun e1=>by have h1:=he.lI EB e1.symm;rw[he.tag] at h1;cases h1
      have E7:∀w1,Below W.heap.size W w1->∀w7,(w1.alloc (.cells #[.string ⟨nm.toArray⟩,.string ⟨v.toArray⟩] 65)).grownBy w7 (Value.slice ov e.ats.length kv).ownBlock->w7.heap[EB]? =some (.cells #[.string ⟨e.name.toArray⟩,.slice ov e.ats.length kv,aa e.parent,vk] 90):=fun w1 b1 w7 gr=>by
       have b2:=az b1 (aW w1 (.cells #[.string ⟨nm.toArray⟩,.string ⟨v.toArray⟩] 65));exact(gr.block EB (Nat.lt_of_lt_of_le (aD he.cells) b2.size) neE).trans ((b2.block EB (aD he.cells)).trans he.cells)
      go_enter func60,ntmps60;go_upto_region 14 with(first|(at_lookup;refine eY _ rfl _ _ 83 rfl underlying3 underlying83 (eG _) rfl h.map n rfl hn EB hp ?_)|(go_at_call 102;refine IN.mono ?_;rintro e1 w1 ⟨rfl,rfl⟩)|(go_at_call 111;refine IV.mono ?_;rintro e1 w1 ⟨rfl,rfl⟩)|(go_at_call 35;refine PO.mono ?_;rintro e1 w1 ⟨rfl,b1⟩;have q1:=C1 w1 b1;have Rh:=OW w1 b1;have H0:=dh w1 #[.string ⟨nm.toArray⟩,.string ⟨v.toArray⟩] 65;have hs1:=b1.size));go_wp2_with(at_builtin;(refine wpList_append_own_at _ rfl _ _ 22 rfl B 65 i0 (.agg #[.string ⟨#[]⟩,.string ⟨#[]⟩]) 2 32 underlying22 hi hz0 hz1 hz2 rfl (by decide) _ _ _ rfl Rh ⟨w1.heap.size,0,none⟩ 1 1 [.string ⟨nm.toArray⟩,.string ⟨v.toArray⟩] rfl rfl (World.news_of_block H0) (fun u hu=>by simp at hu;rcases hu with rfl|rfl<;>rfl) (by simp only[maxLen];omega) (by omega) (by simp;omega) ?_;intro v7 w7 jQ gr8 _ at8;obtain⟨o7,c7,rfl⟩:=aI jQ;have gr8:(w1.alloc (.cells #[.string ⟨nm.toArray⟩,.string ⟨v.toArray⟩] 65)).grownBy w7 (Value.slice ov e.ats.length kv).ownBlock:=gr8;have at8:(Value.slice o7 (e.ats.length+1) c7).ownBlock=(Value.slice ov e.ats.length kv).ownBlock\/(Value.slice o7 (e.ats.length+1) c7).ownBlock=some (w1.alloc (.cells #[.string ⟨nm.toArray⟩,.string ⟨v.toArray⟩] 65)).heap.size:=at8;clear gr8 at8;have e7:=E7 w1 b1 w7 gr8;have e70:=aA e7 1 _ rfl;have e7f:=dF e7));go_ret;have b2:=az b1 (aW w1 (.cells #[.string ⟨nm.toArray⟩,.string ⟨v.toArray⟩] 65));have ow8:w7.ownsRow B 65 2 (.slice o7 (e.ats.length+1) c7) (gm e.ats nm v).length (aF (gm e.ats nm v)):=by
       rw[OO e.ats nm v hat,yc,List.length_append];exact jQ
      have ne7:(Value.slice o7 (e.ats.length+1) c7).ownBlock≠some EB:=fun e1=>by
       rcases at8 with h1|h1
       ·exact neE (e1.symm.trans h1)
       ·rw[h1] at e1;have:=aD he.cells;have:=b2.size;cases e1;omega
      have r1:=h.a3d hm hp he (w8:=w7.setCell ⟨EB,1,none⟩ (.slice o7 (e.ats.length+1) c7)) (v7:=.slice o7 (e.ats.length+1) c7) (L:=gm e.ats nm v) (by rw[heap_setCell_same w7 EB 1 _ _ _ e7];rfl) (bS ow8 fun g hg=>Below.heap_setCell _ _ _ g (fun e1=>ne7 (by rw[hg,e1]))) (at8.imp id fun h1 g hg=>by rw[h1] at hg;cases hg;exact b2.size) (gr8.os.trans b2.os) (gr8.tape.trans b2.tape) (gr8.output.trans b2.output) (by rw[World.size_setCell];exact Nat.le_trans b2.size gr8.size) (fun x hx h1 h2=>by rw[Below.heap_setCell _ _ _ x h1,gr8.block x (Nat.lt_of_lt_of_le hx b2.size) (fun e1=>h2 e1.symm),b2.block x hx]);exact⟨rfl,r1.2.2,_,r1.2.1,r1.1⟩
    ·rw[Nat.zero_add] at hf;rw[hf] at PO;rw[hat,if_neg (fun hh=>by simp at hh)];obtain⟨hset, -,hx1⟩:=FU e.ats nm v 0 i (by rw[hf,Nat.zero_add]);obtain⟨hil, -⟩:=List.getElem?_eq_some_iff.1 hix;obtain⟨g,hg, -⟩:=bJ he.ats _ _ (iU hix).2;obtain⟨ov,kv,Js,hkv,hkm, -,h5⟩:=bA he.ats;have hov:=h5 g hg;subst Js hov;have hiz:(i:Int)<(e.ats.length:Int):=by omega
     have hkz:(e.ats.length:Int)<=(kv:Int):=by omega
     have neG:g≠EB:=fun e1=>by have h1:=he.lI g hg;rw[e1,he.tag] at h1;cases h1
     have C1:∀w1,Below W.heap.size W w1->w1.cell? (ag EB 1)=some (.slice (some ⟨g,0,none⟩) e.ats.length kv)/\w1.cell? (ag g (i*2+1))=some (.string ⟨x.2.toArray⟩)/\w1.frozen? ⟨g,i*2+1,none⟩=false:=fun w1 b1=>by
      obtain⟨g',hg',hc⟩:=bJ (aK he.ats b1) _ _ (iU hix).2;rw[hg] at hg';cases hg';exact⟨(b1.cell (ax he.c1)).trans he.c1,hc,xq (aK he.ats b1) _⟩
     go_enter func60,ntmps60;go_wp2_with(first|(at_lookup;refine eY _ rfl _ _ 83 rfl underlying3 underlying83 (eG _) rfl h.map n rfl hn EB hp ?_)|(go_at_call 102;refine IN.mono ?_;rintro e1 w1 ⟨rfl,rfl⟩)|(go_at_call 111;refine IV.mono ?_;rintro e1 w1 ⟨rfl,rfl⟩)|(go_at_call 35;refine PO.mono ?_;rintro e1 w1 ⟨rfl,b1⟩;obtain⟨q1,q2,q3⟩:=C1 w1 b1));go_ret;have ow8:=Bz (aK he.ats b1) (i*2+1) (.string ⟨v.toArray⟩);rw[Be e.ats i nm v hx1,<- hset] at ow8;have hl8:e.ats.length=(gm e.ats nm v).length:=by rw[hset,List.length_set]
     have hE8:(w1.setCell ⟨g,i*2+1,none⟩ (.string ⟨v.toArray⟩)).heap[EB]? =some (.cells #[.string ⟨e.name.toArray⟩,.slice (some ⟨g,0,none⟩) e.ats.length kv,aa e.parent,vk] 90):=(Below.heap_setCell _ _ _ EB (fun e1=>neG e1.symm)).trans ((b1.block EB (aD he.cells)).trans he.cells);have hsz:=World.size_setCell w1 ⟨g,i*2+1,none⟩ (.string ⟨v.toArray⟩);have hst:=(Below.refl g w1).setCell (p:=⟨g,i*2+1,none⟩) eU (.string ⟨v.toArray⟩);have r1:=h.a3d hm hp he (L:=gm e.ats nm v) hE8 (by rw[<- hl8];exact ow8) (.inl rfl) (hst.os.trans b1.os) (hst.tape.trans b1.tape) (hst.output.trans b1.output) (by rw[hsz];exact b1.size) (fun y hy h1 h2=>by rw[Below.heap_setCell _ _ _ y (fun e1=>h2 (by rw[hg,e1])),b1.block y hy]);exact⟨rfl,r1.2.2,_,r1.2.1,r1.1⟩
end
end
section
open Go.RowKit
set_option maxHeartbeats 4000000
set_option maxRecDepth 20000
section
variable {B k n g cap:Nat}{e:TypeId}
theorem ED:∀(vs:List Value) (o:Nat) (w:World) (xs:List Value),w.ownsRow B e k (.slice (some ⟨g,0,none⟩) n cap) n xs->o+vs.length<=xs.length->(w.setCells g o vs).ownsRow B e k (.slice (some ⟨g,0,none⟩) n cap) n (xs.take o++vs++xs.drop (o+vs.length))
 |[],o,w,xs,h,_=>by simpa[World.setCells] using h
 |v::vs,o,w,xs,h,hl=>by
  simp only[List.length_cons] at hl;have h1:=ED vs (o+1) (w.setCell ⟨g,o,none⟩ v) (xs.set o v) (Bz h o v) (by rw[List.length_set];omega);rw[List.take_add_one,List.take_set_of_le eU,List.getElem?_set_self (by omega),List.drop_set_of_lt (by omega)] at h1;rw[List.length_cons,show o+(vs.length+1)=o+1+vs.length from by omega];simpa[World.setCells] using h1
theorem a09 {w:World}{xs:List Value}(h:w.ownsRow B e k (.slice (some ⟨g,0,none⟩) n cap) n xs){m:Nat}(hm:m<=n):w.ownsRow B e k (.slice (some ⟨g,0,none⟩) m cap) m (xs.take (m*k)):=by
 have hk:m*k<=n*k:=Nat.mul_le_mul_right k hm;refine⟨by rw[List.length_take,h.1];omega,?_⟩;rcases h.2 with⟨h2,_⟩|⟨g',cap',cur,h3,h4,h5,h6,h7,h8,h9⟩
 ·cases h2
 ·cases h3;exact .inr ⟨g,cap,cur,rfl,h4,h5,by omega,h7,h8,by rw[<- h9,List.take_take,Nat.min_eq_left hk]⟩
theorem JL {w:World}{xs:List Value}(h:w.ownsRow B e k (.slice (some ⟨g,0,none⟩) n cap) n xs):∀(vs:List Value) (j:Nat),n*k<=j->(w.setCells g j vs).ownsRow B e k (.slice (some ⟨g,0,none⟩) n cap) n xs
 |[],_,_=>h
 |v::vs,j,hj=>by
  have h1:=Bz h j v;rw[List.set_eq_of_length_le (by rw[h.1];exact hj)] at h1;exact JL h1 vs (j+1) (by omega)
end
theorem lg (g:Nat):∀(vs:List Value) (o:Nat) (w:World) (x:Nat),x≠g->(w.setCells g o vs).heap[x]? =w.heap[x]?
 |[],_,_,_,_=>rfl
 |v::vs,o,w,x,hx=>(lg g vs (o+1) (w.setCell ⟨g,o,none⟩ v) x hx).trans (Below.heap_setCell _ _ _ x hx)
theorem setCells_size (g:Nat):∀(vs:List Value) (o:Nat) (w:World),(w.setCells g o vs).heap.size=w.heap.size
 |[],_,_=>rfl
 |v::vs,o,w=>(setCells_size g vs (o+1) (w.setCell ⟨g,o,none⟩ v)).trans (World.size_setCell _ _ _)
theorem Dc (w:World)(ty:TypeId)(b o c:Nat)(hc:∀j,j<2->(w.cell? (ag b (o+j))).isSome=true)(hf:∀j,j<2->w.frozen? ⟨b,o+j,none⟩=false):
  (Builtin.clear_ #[22] ty #[.slice (some ⟨b,o,none⟩) 1 c]).run prog w=.ok (.tuple #[]) (w.setCells b o [.string ⟨#[]⟩,.string ⟨#[]⟩]):=by
 have hv:∀w,(zeroValue 65).run prog w=.ok (.agg #[.string ⟨#[]⟩,.string ⟨#[]⟩]) w:=fun w=>by kernel_rfl
 have hz:Builtin.zeroCells (Value.agg #[.string ⟨#[]⟩,.string ⟨#[]⟩]).cells 1=#[.string ⟨#[]⟩,.string ⟨#[]⟩]:=by kernel_rfl
 have hst:=run_storeCells_cells (P:=prog) b o [.string ⟨#[]⟩,.string ⟨#[]⟩] 0 w (by simpa using hc) (by simpa using hf) (fun v hv=>by simp at hv;rw[hv];rfl);simp only[Nat.add_zero] at hst;simp[Builtin.clear_,run_underlying underlying22,hv,hz,hst]
theorem Ri (l:List (Bs×Bs))(i:Nat)(hi:i<l.length):((aF l).take (i*2)++aF (l.drop (i+1))++(aF l).drop (i*2+(aF (l.drop (i+1))).length)).take ((l.length-1)*2)=aF (l.take i++l.drop (i+1)):=by
 have h1:aF l=aF (l.take i)++aF (l.drop i):=by rw[<- iF,List.take_append_drop]
 have h2:(aF (l.take i)).length=i*2:=by rw[gJ,List.length_take];omega
 have h3:(aF (l.drop (i+1))).length=(l.length-(i+1))*2:=by rw[gJ,List.length_drop]
 have h4:(aF l).take (i*2)=aF (l.take i):=by rw[h1,List.take_append_of_le_length (by omega),List.take_of_length_le (by omega)]
 rw[iF,h4,List.take_append_of_le_length (by rw[List.length_append];omega),List.take_of_length_le (by rw[List.length_append];omega)]
theorem a0a {B:Nat}(w:World)(g cap i I1:Nat)(l:List (Bs×Bs))(h:w.ownsRow B 65 2 (.slice (some ⟨g,0,none⟩) l.length cap) l.length (aF l))(hi:i<l.length)(hI:i+1=I1):
  ak 112 #[.slice (some ⟨g,0,none⟩) l.length cap,aa i,aa I1] w fun e w'=>e=.returned (.slice (some ⟨g,0,none⟩) (l.length-1) cap)/\w'.ownsRow B 65 2 (.slice (some ⟨g,0,none⟩) (l.length-1) cap) (l.length-1) (aF (l.take i++l.drop (i+1)))/\w'.os=w.os/\w'.tape=w.tape/\w'.output=w.output/\w'.heap.size=w.heap.size/\∀x,x≠g->w'.heap[x]? =w.heap[x]? :=by
 obtain⟨i0,hi0,hz0,hz1,hz2⟩:=info_parts vw;obtain⟨o',c',ho',hcap,hm, -, -⟩:=bA h;cases ho';obtain⟨news,hnews⟩:∃news,news=aF (l.drop I1):=⟨_,rfl⟩;have hlen:news.length=(l.length-I1)*2:=by rw[hnews,gJ,List.length_drop]
 have hcl:=gJ l;have Gf:∀j,j<l.length*2->∃u,(aF l)[j]? =some u/\w.cell? (ag g j)=some u:=fun j hj=>by
  obtain⟨u,hu⟩:∃u,(aF l)[j]? =some u:=⟨_,List.getElem?_eq_getElem (by omega)⟩;obtain⟨g',hg',hc⟩:=bJ h j u hu;cases hg';exact⟨u,hu,hc⟩
 have hfz:=xq h;obtain⟨A,hA,hsrc⟩:∃A:Addr,(if cap=I1 then some (⟨g,0,none⟩:Addr) else some ⟨g,I1*2,none⟩)=some A/\Hid (∀t u,news[t]? =some u->w.drew.cell? (A.add t)=some u):=by
  by_cases hc:cap=I1
  ·refine⟨⟨g,0,none⟩,by simp[hc],fun t u hu=>?_⟩;have h0:news.length=0:=by rw[hlen];omega
   rw[List.length_eq_zero_iff.1 h0] at hu;simp at hu
  ·refine⟨⟨g,I1*2,none⟩,by simp[hc],fun t u hu=>?_⟩;have ht:t<news.length:=(List.getElem?_eq_some_iff.1 hu).1;obtain⟨u',hu',hc'⟩:=Gf (I1*2+t) (by omega);have:u=u':=by
    have h1:aF l=aF (l.take I1)++aF (l.drop I1):=by rw[<- iF,List.take_append_drop]
    rw[h1,List.getElem?_append_right (by rw[gJ,List.length_take];omega),gJ,List.length_take,Nat.min_eq_left (by omega),Nat.add_sub_cancel_left,<- hnews,hu] at hu';exact Option.some.inj hu'
   subst this;have hadd:(⟨g,I1*2,none⟩:Addr).add t=⟨g,I1*2+t,none⟩:=by unfold Addr.add;split<;>simp_all
   rw[hadd];exact hc'
 have s1:Hid (news.length=(l.length-I1)*2):=hlen;have s2:Hid (∀u∈news,u.oneCell'=true):=(by rw[hnews];exact Au _:∀u∈news,u.oneCell'=true);have s3:Hid (∀t,t<news.length->(w.drew.cell? (ag g (0+i*2+t))).isSome=true/\w.drew.frozen? ⟨g,0+i*2+t,none⟩=false):=fun t ht=>by
  rw[Nat.zero_add];obtain⟨u, -,hc⟩:=Gf (i*2+t) (by omega);exact⟨by show(w.cell? _).isSome=true;rw[hc];rfl,hfz _⟩
 obtain⟨W1,hW1⟩:∃W1,W1=w.drew.setCells g (0+i*2) news:=⟨_,rfl⟩;have hW:Hid (W1=w.drew.setCells g (0+i*2) news):=hW1;have hd:w.drew.ownsRow B 65 2 (.slice (some ⟨g,0,none⟩) l.length cap) l.length (aF l):=h;have Rh:W1.ownsRow B 65 2 (.slice (some ⟨g,0,none⟩) l.length cap) l.length ((aF l).take (i*2)++news++(aF l).drop (i*2+news.length)):=by
  rw[hW1,Nat.zero_add];exact ED news (i*2) w.drew (aF l) hd (by omega)
 have hl1:=Rh.1;have cl1:∀ty,(Builtin.clear_ #[22] ty #[.slice (some ⟨g,(i+(l.length-I1))*2,none⟩) (l.length-(i+(l.length-I1))) (cap-(i+(l.length-I1)))]).run prog W1=.ok (.tuple #[]) (W1.setCells g ((i+(l.length-I1))*2) [.string ⟨#[]⟩,.string ⟨#[]⟩]):=fun ty=>by
  rw[show l.length-(i+(l.length-I1))=1 from by omega];refine Dc W1 ty g _ _ (fun j hj=>?_) (fun j _=>xq Rh _);obtain⟨u,hu⟩:∃u,((aF l).take (i*2)++news++(aF l).drop (i*2+news.length))[(i+(l.length-I1))*2+j]? =some u:=⟨_,List.getElem?_eq_getElem (by omega)⟩;obtain⟨g',hg',hc⟩:=bJ Rh _ u hu;cases hg';rw[hc];rfl
 have FIN:Hid ((W1.setCells g ((i+(l.length-I1))*2) [.string ⟨#[]⟩,.string ⟨#[]⟩]).ownsRow B 65 2 (.slice (some ⟨g,0,none⟩) (l.length-1) cap) (l.length-1) (aF (l.take i++l.drop (i+1)))/\W1.heap.size=w.heap.size/\∀x,x≠g->W1.heap[x]? =w.heap[x]?):=by
  subst hI;refine⟨JL ?_ _ _ (by omega),by rw[hW1,setCells_size];rfl,fun x hx=>by rw[hW1,lg g _ _ _ x hx];rfl⟩;have h1:=a09 Rh (m:=l.length-1) (by omega);rw[hnews,Ri l i hi] at h1;exact h1
 have hwo:Hid (W1.os=w.os/\W1.tape=w.tape/\W1.output=w.output):=by
  have h1:=eP (B:=0) (b:=g) (a:=w) (Nat.zero_le _) news (0+i*2) w.drew ((Below.refl 0 w).drew);rw[hW1];exact⟨h1.os,h1.tape,h1.output⟩
 have hic:(i:Int)<=(I1:Int):=by omega
 have hjl:(I1:Int)<=(l.length:Int):=by omega
 have hlc:(l.length:Int)<=(cap:Int):=by omega
 have hne:((i:Int)==(I1:Int))=false:=beq_eq_false_iff_ne.2 (by omega);have hjc:I1<=cap:=by omega
 have afj:(i:Int)<=(cap:Int):=by omega
 have abB:i<=cap:=by omega
 have hne2:¬cap=i+(l.length-I1):=by omega
 have HL1:Hid (i+(l.length-I1)=l.length-1):=(by omega:i+(l.length-I1)=l.length-1);have hcm:(cap:Int)<=9223372036854775807:=by simp only[maxLen] at hm;omega
 clear hW1 Rh hd Gf hnews hlen h hl1 hfz hI;go_enter func112,ntmps112;go_wp2_with fail
 go_region_law (refine step_append_room rfl (.tmp 22) (.tmp 25) 22 rfl 65 i0 2 underlying22 hi0 hz1 g 0 i cap (by simp[Act.eval,Act.put]) A (l.length-I1) (cap-I1) news (by simp[Act.eval,Act.put]) s1.out hsrc.out s2.out (by omega) s3.out ?_;rw[<- hW.out])
 go_wp2_with fail;go_ret;obtain⟨k1,k2,k3⟩:=FIN.out;obtain⟨k4,k5,k6⟩:=hwo.out;have b1:=eP (B:=0) (b:=g) (a:=W1) (Nat.zero_le _) [.string ⟨#[]⟩,.string ⟨#[]⟩] ((i+(l.length-I1))*2) W1 (Below.refl 0 W1);exact⟨by have h1:=HL1.out;simp only[h1];rfl,k1,b1.os.trans k4,b1.tape.trans k5,b1.output.trans k6,by rw[setCells_size];exact k2,fun x hx=>(lg g _ _ _ x hx).trans (k3 x hx)⟩
end
section
open Go.RowKit
set_option maxHeartbeats 4000000
set_option maxRecDepth 20000
def jZ (M:Dm)(n:Int)(nm:Bs):Except Nat Dm:=match M n with
 |none=>.error 5
 |some e=>if(iK e.ats nm).isSome=false then .error 5 else .ok (jN M n e (uR e.ats nm))
theorem Rj {E:Nat->Addr}{B:Nat}{tg:kE}{W:World}{DB MB:Nat}{p:Int->Option Nat}{M:Dm}{nx c:Nat}(hE:DE E W)(h:bG B tg W DB MB p M nx c)(n:Int)(hn:dH n)(nm:Bs):
  ak 61 #[aj DB,aa n,.string ⟨nm.toArray⟩] W fun e w'=>xm E B tg W DB MB p nx c (jZ M n nm) e w':=by
 have d0:=h.d0;have k5:=hE.c5;unfold jZ;cases hm:M n with
 |none=>
  have hp:=h.non n hm;simp only;go_enter func61,ntmps61;go_wp2_with(at_lookup;refine lY _ rfl _ _ 83 rfl underlying3 underlying83 (eG _) rfl h.map n rfl hn hp ?_);go_ret;exact⟨rfl,Below.refl _ _⟩
 |some e=>
  obtain⟨EB,va,vk,hp,he⟩:=h.els n e hm;have PO:=qO he nm;simp only;have hlen:e.ats.length<=maxLen:=by
   obtain⟨o,cap, -,h2,h3, -⟩:=bA he.ats;omega
  rcases vI e.ats nm 0 with⟨hf,hat⟩|⟨i,x,hf,hix,hat⟩
  ·rw[hf] at PO;rw[hat,if_pos (by decide)];have C1:∀w1,Below W.heap.size W w1->w1.cell? (ag 6 0)=some (.iface 390 (.pointer (some (E 5)))):=fun w1 b1=>(b1.cell (ax hE.c5)).trans hE.c5;go_enter func61,ntmps61;go_wp2_with(first|(at_lookup;refine eY _ rfl _ _ 83 rfl underlying3 underlying83 (eG _) rfl h.map n rfl hn EB hp ?_)|(go_at_call 35;refine PO.mono ?_;rintro e1 w1 ⟨rfl,b1⟩;have q7:=C1 w1 b1));go_ret;exact⟨rfl,b1⟩
  ·rw[Nat.zero_add] at hf;rw[hf] at PO;rw[hat,if_neg (fun hh=>by simp at hh)];obtain⟨-,hoff, -⟩:=FU e.ats nm [] 0 i (by rw[hf,Nat.zero_add]);obtain⟨hil, -⟩:=List.getElem?_eq_some_iff.1 hix;obtain⟨g,hg, -⟩:=bJ he.ats _ _ (iU hix).2;obtain⟨ov,kv,Js,hkv,hkm, -,h5⟩:=bA he.ats;have hov:=h5 g hg;subst Js hov;have neG:g≠EB:=fun e1=>by have h1:=he.lI g hg;rw[e1,he.tag] at h1;cases h1
   obtain⟨I1,hI1⟩:∃I1,i+1=I1:=⟨_,rfl⟩;have ai9:(i:Int)+1=(I1:Int):=by omega
   have aia:(I1:Int)<=9223372036854775807:=by rw[aQ] at hlen;omega
   have C1:∀w1,Below W.heap.size W w1->w1.cell? (ag EB 1)=some (.slice (some ⟨g,0,none⟩) e.ats.length kv):=fun w1 b1=>(b1.cell (ax he.c1)).trans he.c1;have DL:∀w1,Below W.heap.size W w1->ak 112 #[.slice (some ⟨g,0,none⟩) e.ats.length kv,aa i,aa I1] w1 fun e2 w2=>e2=.returned (.slice (some ⟨g,0,none⟩) (e.ats.length-1) kv)/\w2.cell? (ag EB 1)=some (.slice (some ⟨g,0,none⟩) e.ats.length kv)/\w2.frozen? ⟨EB,1,none⟩=false/\Hid (xm E B tg W DB MB p nx c (.ok (jN M n e (uR e.ats nm))) (.returned .nilIface) (w2.setCell ⟨EB,1,none⟩ (.slice (some ⟨g,0,none⟩) (e.ats.length-1) kv))):=fun w1 b1=>(a0a w1 g kv i I1 e.ats (aK he.ats b1) hil hI1).mono fun e2 w2 ⟨r1,r2,r3,r4,r5,r6,r7⟩=>by
    have hE1:=(b1.block EB (aD he.cells)).trans he.cells;have hE2:=(r7 EB (fun e1=>neG e1.symm)).trans hE1;refine⟨r1,aA hE2 1 _ rfl,dF hE2 1,?_⟩;have hl8:e.ats.length-1=(uR e.ats nm).length:=by rw[hoff,List.length_append,List.length_take,List.length_drop];omega
    rw[<- hoff] at r2;have hsz:=World.size_setCell w2 ⟨EB,1,none⟩ (.slice (some ⟨g,0,none⟩) (e.ats.length-1) kv);have hst:=(Below.refl EB w2).setCell (p:=⟨EB,1,none⟩) eU (.slice (some ⟨g,0,none⟩) (e.ats.length-1) kv);have r:=h.a3d hm hp he (w8:=w2.setCell ⟨EB,1,none⟩ (.slice (some ⟨g,0,none⟩) (e.ats.length-1) kv)) (v7:=.slice (some ⟨g,0,none⟩) (e.ats.length-1) kv) (L:=uR e.ats nm) (by rw[heap_setCell_same w2 EB 1 _ _ _ hE2];rfl) (by rw[<- hl8];exact bS r2 fun j hj=>Below.heap_setCell _ _ _ j (fun e1=>neG (by cases hj;exact e1))) (.inl rfl) (hst.os.trans (r3.trans b1.os)) (hst.tape.trans (r4.trans b1.tape)) (hst.output.trans (r5.trans b1.output)) (by rw[hsz,r6];exact b1.size) (fun y hy h1 h2=>by rw[Below.heap_setCell _ _ _ y h1,r7 y (fun e1=>h2 (by rw[e1];rfl)),b1.block y hy]);exact⟨rfl,r.2.2,_,r.2.1,r.1⟩
   have HII:Hid (i+1=I1):=hI1;clear hI1 hoff hix hat hf;go_enter func61,ntmps61;go_upto_region 7 with(first|(at_lookup;refine eY _ rfl _ _ 83 rfl underlying3 underlying83 (eG _) rfl h.map n rfl hn EB hp ?_)|(go_at_call 35;refine PO.mono ?_;rintro e1 w1 ⟨rfl,b1⟩));have q1:=C1 w1 b1;have D1:=DL w1 b1;clear PO DL C1;go_wp2_with(go_at_call 112;refine D1.mono ?_;rintro e2 w2 ⟨rfl,q2,q3,H2⟩);go_ret;exact H2.out
end
section
open Go.RowKit
set_option maxHeartbeats 4000000
set_option maxRecDepth 20000
section
variable {E:Nat->Addr}{W:World}{LB B:Nat}{tg:kE}{DB MB:Nat}{p:Int->Option Nat}{M:Dm}{nx c:Nat}{r:Int->Nat}{rl:List Rl}{rv:Value}{qs:List bZ}{pv:Value}{w h:Nat}{cv:Value}
abbrev a0F (qs:List bZ)(w h:Nat):List ByteArray:=iZ aC ((qs.map bZ.pc).map dY) w h
theorem Kn (hl:Yu W LB B tg DB MB p M nx c r rl rv qs pv w h cv)(hw1:1<=w)(hw:w<=40)(AZ:1<=h)(hh:h<=40):
  ak 10 #[aj LB] W fun e w'=>∃g cp,e=.returned (.agg #[aa w,aa h,.slice (some ⟨g,0,none⟩) (w*h) cp])/\w'.ownsRow W.heap.size 9 1 (.slice (some ⟨g,0,none⟩) (w*h) cp) (w*h) ((a0F qs w h).map .string)/\Below W.heap.size W w':=by
 obtain⟨Xj,Xk,hcv⟩:=aI hl.Xe;subst hcv;have l3:=aA hl.lb 3 _ rfl;have l4:=aA hl.lb 4 _ rfl;have l5:=aA hl.lb 5 _ rfl;have hLW:=aD hl.lb;have b0:=aW W (.cells #[aa 0,aa 0,.slice none 0 0] 40);have k0:=dh W #[aa 0,aa 0,.slice none 0 0] 40;have b1:=aW (W.alloc (.cells #[aa 0,aa 0,.slice none 0 0] 40)) (.cells #[aa w,aa h,.slice Xj (w*h) Xk] 40);have k1:=dh (W.alloc (.cells #[aa 0,aa 0,.slice none 0 0] 40)) #[aa w,aa h,.slice Xj (w*h) Xk] 40;rw[World.size_alloc] at k1;have l3':=(b0.cell (ax l3)).trans l3;have l4':=(b0.cell (ax l4)).trans l4;have l5':=(b0.cell (ax l5)).trans l5;have hpl:(a0F qs w h).length=w*h:=gF _ _ _ _;have hwh:w*h<=1600:=Nat.mul_le_mul hw hh;go_enter func10,ntmps10;go_upto_region 2 with fail;have k0':=(b1.block _ (aD k0)).trans k0;have bU:=az b0 b1;obtain⟨U,hU⟩:∃U,(W.alloc (.cells #[aa 0,aa 0,.slice none 0 0] 40)).alloc (.cells #[aa w,aa h,.slice Xj (w*h) Xk] 40)=U:=⟨_,rfl⟩;rw[hU] at k1 k0' bU⊢;clear hU;have CT:=Wi U _ (a0F qs w h) (by rw[hpl];exact aK hl.Xe bU) (by rw[hpl];omega);rw[hpl] at CT;have CT:=CT.mono (R':=fun e w2=>∃g cp,e=.returned (.slice (some ⟨g,0,none⟩) (w*h) cp)/\jY w2 (W.heap.size+1) (aa w) (aa h) (.slice Xj (w*h) Xk)/\jY w2 W.heap.size (aa 0) (aa 0) (.slice none 0 0)/\Hid (w2.ownsRow U.heap.size 9 1 (.slice (some ⟨g,0,none⟩) (w*h) cp) (w*h) ((a0F qs w h).map .string)/\Below U.heap.size U w2/\w2.heap[W.heap.size]? =some (.cells #[aa 0,aa 0,.slice none 0 0] 40))) fun e w2 ⟨o,k,h1,h2,h3⟩=>by
   obtain⟨g,cp,hg, -, -⟩:=h2.form (Nat.mul_pos hw1 AZ);rw[hg] at h1 h2;have p1:=(h3.block _ (aD k1)).trans k1;have p0:=(h3.block _ (aD k0')).trans k0';exact⟨g,cp,h1,jY.of p1,jY.of p0,h2,h3,p0⟩
 obtain⟨c0,c1,c2,f0,f1,f2⟩:=jY.of k1;have hsU:W.heap.size+1<U.heap.size:=aD k1;clear l3 l4 l5 l3' l4' l5' k1 k0' k0 b0 b1;go_wp2_with(go_at_call 27;refine CT.mono ?_;rintro e w2 ⟨g,cp,rfl,⟨c0',c1',c2',f0',f1',f2'⟩,⟨z0,z1,z2,y0,y1,y2⟩,H2⟩);obtain⟨ow,b2,p0⟩:=H2.out;have r4:=Gb (w:=w2.setCell ⟨W.heap.size+1,2,none⟩ (.slice (some ⟨g,0,none⟩) (w*h) cp)) ((Below.heap_setCell _ _ _ W.heap.size (by simp)).trans p0) (aa w) (aa h) (.slice (some ⟨g,0,none⟩) (w*h) cp);obtain⟨e0,e1,e2, -, -, -⟩:=jY.of r4;refine bodyPost_ret (v:=.agg #[aa w,aa h,.slice (some ⟨g,0,none⟩) (w*h) cp]) (by simp[results,results10,go_sem,e0,e1,e2]) rfl ?_;refine⟨g,cp,rfl,?_,((((az bU b2).setCell (by simp) _).setCell (by simp) _).setCell (by simp) _).setCell (by simp) _⟩;exact eu (fJ (fJ (fJ (fJ ow (by simp;omega) _) (by simp;omega) _) (by simp;omega) _) (by simp;omega) _) bU.size
end
def yP:Bs:=[115,101,116]
def mO:Bs:=[117,110,115,101,116]
section
variable {E:Nat->Addr}{N:Nat}{tg:kE}{V:World}{DB MB:Nat}{p:Int->Option Nat}{M:Dm}{nx c:Nat}{r:Int->Nat}
theorem xm.act {x:Except Nat Dm}{e:Ending}{w':World}(h:gN N tg V DB MB p M nx c r)(hr:xm E N tg V DB MB p nx c x e w')(hM:∀M2,x=.ok M2->dP M2/\∃i y l,M i=some y/\M2=jN M i y l):
  Below N V w'/\(((∃k,x=.error k)/\∃t u,e=.returned (.iface t u))\/(e=.returned .nilIface/\∃vz p2 M2 lN c2 r2,(x=.ok M2/\lN=nx/\c2=c/\r2=r)/\dP M2/\gN N vz w' DB MB p2 M2 lN c2 r2)):=by
 cases x with
 |error k=>exact⟨hr.2.mono h.low,.inl ⟨⟨k,rfl⟩,_,_,hr.1⟩⟩
 |ok M2=>
  obtain⟨h1,h2,uF,h3,h4⟩:=hr;obtain⟨h5,i,y,l,h6,h7⟩:=hM M2 rfl;refine⟨h2.below (fun b t ht=>(h.w.low b t ht).1) h.low,.inr ⟨h1,uF,p,M2,nx,c,r,⟨rfl,rfl,rfl,rfl⟩,h5,h4,?_,?_,h.le,Nat.le_trans h.low h2.size⟩⟩
  ·rw[h7];exact h.d.ats h6 l
  ·rw[h7];exact h.n.ats h6 l
theorem a4z {n:Int}{nm v:Bs}(hM:dP M):∀M2,nO M n nm v=.ok M2->dP M2/\∃i y l,M i=some y/\M2=jN M i y l:=fun M2 h=>by
 unfold nO at h;cases hm:M n with
 |none=>rw[hm] at h;cases h
 |some e=>
  rw[hm] at h;simp only at h;split at h
  ·cases h
  ·next h1=>
   split at h
   ·cases h
   ·next h2=>
    split at h
    ·cases h
    ·next h3=>
     cases h;refine⟨hM.set hm (by simpa using h1) (by simpa using h2) ?_,n,e,_,hm,rfl⟩;by_cases h4:(iK e.ats nm).isSome=true
     ·exact .inl h4
     ·exact .inr (by
       rcases Nat.lt_or_ge e.ats.length 12 with h5|h5
       ·exact h5
       ·exact absurd ⟨by simpa using h4,h5⟩ h3)
theorem Xo {n:Int}{nm:Bs}(hM:dP M):∀M2,jZ M n nm=.ok M2->dP M2/\∃i y l,M i=some y/\M2=jN M i y l:=fun M2 h=>by
 unfold jZ at h;cases hm:M n with
 |none=>rw[hm] at h;cases h
 |some e=>
  rw[hm] at h;simp only at h;split at h
  ·cases h
  ·cases h;exact⟨hM.off hm,n,e,_,hm,rfl⟩
theorem xD (hE:LE E V)(h:gN N tg V DB MB p M nx c r)(hM:dP M)(n m ea:Int)(hn:dH n)(nm v:Bs)(hnl:nm.length<=1000000)(hvl:v.length<=1000000):
  ak 29 #[aj DB,.agg (zg ⟨yP,n,m,ea,nm,v⟩)] V fun e w'=>Below N V w'/\(((∃k,nO M n nm v=.error k)/\∃t u,e=.returned (.iface t u))\/(e=.returned .nilIface/\∃vz p2 M2 lN c2 r2,(nO M n nm v=.ok M2/\lN=nx/\c2=c/\r2=r)/\dP M2/\gN N vz w' DB MB p2 M2 lN c2 r2)):=by
 have b0:=aW V (.cells (zg ⟨yP,n,m,ea,nm,v⟩) 45);obtain⟨c0,c1,c2,c3,c4,c5⟩:=Yv.of (dh V (zg ⟨yP,n,m,ea,nm,v⟩) 45);have ST:=(a06 (hE.below b0).de (h.below b0).w (h.below b0).low n hn nm v hnl hvl).mono (R':=fun e w'=>(∃u,e=.returned u)/\Hid (xm E N tg (V.alloc (.cells (zg ⟨yP,n,m,ea,nm,v⟩) 45)) DB MB p nx c (nO M n nm v) e w')) fun e w' hr=>⟨by
  revert hr;unfold xm;split
  ·exact fun hr=>⟨_,hr.1⟩
  ·exact fun hr=>⟨_,hr.1⟩,hr⟩
 have HA:Hid (∀e w',xm E N tg (V.alloc (.cells (zg ⟨yP,n,m,ea,nm,v⟩) 45)) DB MB p nx c (nO M n nm v) e w'->Below N V w'/\(((∃k,nO M n nm v=.error k)/\∃t u,e=.returned (.iface t u))\/(e=.returned .nilIface/\∃vz p2 M2 lN c2 r2,(nO M n nm v=.ok M2/\lN=nx/\c2=c/\r2=r)/\dP M2/\gN N vz w' DB MB p2 M2 lN c2 r2))):=fun e w' hr=>by
  obtain⟨h1,h2⟩:=xm.act (h.below b0) hr (a4z hM);exact⟨(b0.mono h.low).trans h1,h2⟩
 clear h hM hE b0;unfold yP at*;go_enter func29,ntmps29;go_wp2_with(go_at_call 60;refine ST.mono ?_;rintro e w1 ⟨⟨u,rfl⟩,hr⟩);go_ret;exact HA.out _ _ hr.out
theorem Ko (hE:LE E V)(h:gN N tg V DB MB p M nx c r)(hM:dP M)(n m ea:Int)(hn:dH n)(nm v:Bs):
  ak 29 #[aj DB,.agg (zg ⟨mO,n,m,ea,nm,v⟩)] V fun e w'=>Below N V w'/\(((∃k,jZ M n nm=.error k)/\∃t u,e=.returned (.iface t u))\/(e=.returned .nilIface/\∃vz p2 M2 lN c2 r2,(jZ M n nm=.ok M2/\lN=nx/\c2=c/\r2=r)/\dP M2/\gN N vz w' DB MB p2 M2 lN c2 r2)):=by
 have b0:=aW V (.cells (zg ⟨mO,n,m,ea,nm,v⟩) 45);obtain⟨c0,c1,c2,c3,c4,c5⟩:=Yv.of (dh V (zg ⟨mO,n,m,ea,nm,v⟩) 45);have ST:=(Rj (hE.below b0).de (h.below b0).w n hn nm).mono (R':=fun e w'=>(∃u,e=.returned u)/\Hid (xm E N tg (V.alloc (.cells (zg ⟨mO,n,m,ea,nm,v⟩) 45)) DB MB p nx c (jZ M n nm) e w')) fun e w' hr=>⟨by
  revert hr;unfold xm;split
  ·exact fun hr=>⟨_,hr.1⟩
  ·exact fun hr=>⟨_,hr.1⟩,hr⟩
 have HA:Hid (∀e w',xm E N tg (V.alloc (.cells (zg ⟨mO,n,m,ea,nm,v⟩) 45)) DB MB p nx c (jZ M n nm) e w'->Below N V w'/\(((∃k,jZ M n nm=.error k)/\∃t u,e=.returned (.iface t u))\/(e=.returned .nilIface/\∃vz p2 M2 lN c2 r2,(jZ M n nm=.ok M2/\lN=nx/\c2=c/\r2=r)/\dP M2/\gN N vz w' DB MB p2 M2 lN c2 r2))):=fun e w' hr=>by
  obtain⟨h1,h2⟩:=xm.act (h.below b0) hr (Xo hM);exact⟨(b0.mono h.low).trans h1,h2⟩
 clear h hM hE b0;unfold mO at*;go_enter func29,ntmps29;go_wp2_with(go_at_call 61;refine ST.mono ?_;rintro e w1 ⟨⟨u,rfl⟩,hr⟩);go_ret;exact HA.out _ _ hr.out
end
end
section
open Go.RowKit
set_option maxHeartbeats 4000000
set_option maxRecDepth 20000
theorem dP.put {M:Dm}(h:dP M){i:Int}{e:iy}(he:a4a e):dP (gH M i e):=fun j x hx=>by
 unfold gH at hx;split at hx
 ·cases hx;exact he
 ·exact h j x hx
theorem dP.cut {M:Dm}(h:dP M)(l:List Int):dP (K9 M l):=fun j x hx=>by
 unfold K9 at hx;split at hx
 ·cases hx
 ·exact h j x hx
theorem dP.out {M:Dm}(h:dP M){n:Int}{e o:iy}(ho:M e.parent=some o):dP (IA M n e o):=h.put (h _ o ho)
theorem dP.mov {M:Dm}(h:dP M){n par:Int}{k:Nat}{e o q:iy}(he:M n=some e)(ho:M e.parent=some o)(hq:IA M n e o par=some q):dP (a5F M n par k e o q):=((h.out (n:=n) ho).put (i:=n) (e:=⟨e.name,e.ats,par,e.kids⟩) (h n e he)).put (i:=par) (e:=⟨q.name,q.ats,q.parent,CU q.kids k n⟩) (h.out ho par q hq)
def ApR (N DB MB nx:Nat)(u:Value)(w':World):Prop:=(∃t y,u=.iface t y)\/(u=.nilIface/\∃vz p2 M2 lN c2 r2,lN<=nx+1/\dP M2/\gN N vz w' DB MB p2 M2 lN c2 r2)
section
variable {E:Nat->Addr}{N:Nat}{tg:kE}{W:World}{DB MB:Nat}{p:Int->Option Nat}{M:Dm}{nx c:Nat}{r:Int->Nat}
theorem a6h (hE:DE E W)(hd:bG N tg W DB MB p M nx c)(par a:Int)(name:Bs)(hwp:dH par)(q:iy)(hq:M par=some q)(hkl:q.kids.length<=1000000)(ha:¬a<0)(hal:¬(q.kids.length:Int)<a)(hnm:fo name=false)(hnl:name.length<=1000000):
  ak 57 #[aj DB,aa par,aa a,.string ⟨name.toArray⟩] W fun r w'=>r=.returned (.tuple #[aa 0,eV (E 4)])/\Below W.heap.size W w':=by
 have d0:=hd.d0;have ck:=hE.c4;unfold eV;obtain⟨QB,qa,qk,hpq,hq1⟩:=hd.els par q hq;obtain⟨oq,kq,rfl⟩:=aI hq1.kids;have y3:=hq1.c3;have hkl':(q.kids.length:Int)<=1000000:=by omega
 have IN:=fun w=>kZ ⟨name.toArray⟩ (by rw[fD];omega) w;have hin:fo (⟨name.toArray⟩:ByteArray).data.toList=false:=by simpa using hnm
 rw[hin] at IN;go_enter func57,ntmps57;go_upto_region 7 with(first|(at_lookup;refine eY _ rfl _ _ 83 rfl underlying3 underlying83 (eG _) rfl hd.map par rfl hwp QB hpq ?_)|(go_at_call 102;refine(IN _).mono ?_;rintro r w0 ⟨rfl,rfl⟩));go_region;go_wp2_with fail
 go_ret2
 exact⟨rfl,rfl,rfl,rfl,Nat.le_refl _,fun _ _=>rfl⟩
theorem acg (hE:DE E W)(h:gN N tg W DB MB p M nx c r)(hM:dP M)(par a:Int)(name:Bs)(hwp:dH par)(hnl:name.length<=1000000)(hnx:nx<1000000):
  ak 57 #[aj DB,aa par,aa a,.string ⟨name.toArray⟩] W fun e w'=>∃v u,e=.returned (.tuple #[v,u])/\ApR N DB MB nx u w'/\Below N W w':=by
 have er:∀{k:Nat} {e:Ending} {w':World},e=.returned (.tuple #[aa 0,eV (E k)])/\Below W.heap.size W w'->∃v u,e=.returned (.tuple #[v,u])/\ApR N DB MB nx u w'/\Below N W w':=fun hr=>⟨_,_,hr.1,.inl ⟨_,_,rfl⟩,hr.2.mono h.low⟩;cases hq:M par with
 |none=>exact(a9B hE h.w par a name hwp hq).mono fun e w' hr=>er hr
 |some q=>
  have hkl:=h.few hq;by_cases ha:a<0
  ·exact(a7c hE h.w par a name hwp q hq (by omega) ha).mono fun e w' hr=>er hr
  by_cases hal:(q.kids.length:Int)<a
  ·exact(a5I hE h.w par a name hwp q hq (by omega) ha hal).mono fun e w' hr=>er hr
  cases hnm:fo name with
  |false=>exact(a6h hE h.w par a name hwp q hq (by omega) ha hal hnm hnl).mono fun e w' hr=>er hr
  |true=>
   have hu:=h.d.deep _ par q rfl hq;have hb:=h.d.rb par q hq;by_cases hdl:10<=r par
   ·exact(a6a hE h.w par a name hwp q hq (by omega) ha hal hnm (r par) hu (by omega) hdl).mono fun e w' hr=>er hr
   by_cases hc:100<=c
   ·exact(a6b hE h.w par a name hwp q hq (by omega) ha hal hnm (r par) hu (by omega) (by omega) hc).mono fun e w' hr=>er hr
   obtain⟨k,rfl⟩:∃k:Nat,a=k:=⟨a.toNat,by omega⟩;refine(a6Z h.w par k name q hq (by omega) hnm (r par) hu (by omega) (by omega) hnx (by omega) h.low).mono ?_;rintro e w' ⟨rfl,hk,uF,p',ht,hd⟩;have hv:=h.d.aff h.new (by omega) hq name k;have hM2:=(hM.put (i:=(nx:Int)) (e:=⟨name,[],par,[]⟩) ⟨hnm,by simp,by simp,by simp⟩).put (i:=par) (e:=⟨q.name,q.ats,q.parent,CU q.kids k nx⟩) (hM par q hq);exact⟨_,_,rfl,.inr ⟨rfl,uF,p',_,_,_,_,Nat.le_refl _,hM2,⟨hd,h.d.add hv hq (by omega),hv.count h.n,by omega,Nat.le_trans h.low hk.size⟩⟩,hk.below (fun b t hb=>(h.w.low b t hb).1) h.low⟩
theorem a6i (hE:DE E W)(h:gN N tg W DB MB p M nx c r)(hM:dP M)(n:Int)(hwn:dH n):
  ak 58 #[aj DB,aa n] W fun e w'=>∃u,e=.returned u/\ApR N DB MB nx u w'/\Below N W w':=by
 cases hn:M n with
 |none=>exact(a1U hE h.w n hwn hn).mono fun e w' hr=>⟨_,hr.1,.inl ⟨_,_,rfl⟩,by rw[hr.2];exact Below.refl _ _⟩
 |some e=>
  by_cases h0:n=0
  ·subst h0;exact(a1j hE h.w e hn).mono fun e w' hr=>⟨_,hr.1,.inl ⟨_,_,rfl⟩,by rw[hr.2];exact Below.refl _ _⟩
  obtain⟨o,ho,hno,_⟩:=h.d.up n e hn h0;have hdp:=h.d.dp 11 n e hn (by omega);have hpre:=h.d.a2U (o:=o) (d:=1) hn h0 hdp;have hfl:jm (IA M n e o) 11 n=jm M 11 n:=by unfold jm;rw[hpre]
  have hL:∀x,x∈jm M 11 n↔Bl M n x:=fun x=>h.d.mem hdp;have hnd:(jm M 11 n).Nodup:=h.d.DT 11 n 1;have hv:=h.d.cutV hn ho hL;have hct:=hv.count h.n hnd hL;have hle:=h.le;refine(a1B h.w n e o hn h0 ho (List.ne_nil_of_mem hno) 11 (by omega) (jm M 11 n) (h.d.a4t hn ho hdp) hfl (fun k hk=>?_) hnd (by omega)).mono ?_
  ·obtain⟨x,hx⟩:=((hL k).1 hk).in_;obtain⟨x',h1,_⟩:=h.d.a0P hn ho hx;have h1:gH M e.parent ⟨o.name,o.ats,o.parent,woL o.kids n⟩ k=some x':=h1;rw[h1];simp
  ·rintro e1 w' ⟨rfl,hk,uF,p',ht,hd⟩;exact⟨_,rfl,.inr ⟨rfl,uF,p',_,_,_,r,Nat.le_succ _,(hM.out ho).cut _,⟨hd,h.d.cut hv (h.d.top h0),hct.1,by omega,Nat.le_trans h.low hk.size⟩⟩,hk.below (fun b t hb=>(h.w.low b t hb).1) h.low⟩
theorem a9P (hE:DE E W)(h:gN N tg W DB MB p M nx c r)(hM:dP M)(n par a:Int)(hwn:dH n)(hwp:dH par):
  ak 59 #[aj DB,aa n,aa par,aa a] W fun e w'=>∃u,e=.returned u/\ApR N DB MB nx u w'/\Below N W w':=(a6e hE h n par a hwn hwp).mono fun e w' hr=>by
 rcases hr with⟨k, -, -,h1,h2⟩|⟨h1,k,x,o,q0,q, -,hm⟩
 ·exact⟨_,h1,.inl ⟨_,_,rfl⟩,h2.mono h.low⟩
 ·obtain⟨uF,r', -,hd⟩:=hm.doc;exact⟨_,h1,.inr ⟨rfl,uF,p,_,nx,c,r',Nat.le_succ _,hM.mov hm.hn hm.ho hm.hq,hd⟩,hm.kt.below (fun b t hb=>(h.w.low b t hb).1) h.low⟩
end
def a3y:Bs:=[97,100,100]
def TL:Bs:=[114,101,109,111,118,101]
section
variable {E:Nat->Addr}{N:Nat}{tg:kE}{V:World}{DB MB:Nat}{p:Int->Option Nat}{M:Dm}{nx c:Nat}{r:Int->Nat}
theorem a5J (hE:LE E V)(h:gN N tg V DB MB p M nx c r)(hM:dP M)(n m ea:Int)(hn:dH n)(nm v:Bs)(hnl:nm.length<=1000000)(hnx:nx<1000000):
  ak 29 #[aj DB,.agg (zg ⟨a3y,n,m,ea,nm,v⟩)] V fun e w'=>∃u,e=.returned u/\ApR N DB MB nx u w'/\Below N V w':=by
 have b0:=aW V (.cells (zg ⟨a3y,n,m,ea,nm,v⟩) 45);obtain⟨c0,c1,c2,c3,c4,c5⟩:=Yv.of (dh V (zg ⟨a3y,n,m,ea,nm,v⟩) 45);have ST:=acg (hE.below b0).de (h.below b0) hM n ea nm hn hnl hnx;have HB:=b0.mono h.low;clear h hM hE b0;unfold a3y at*;go_enter func29,ntmps29;go_wp2_with(go_at_call 57;refine ST.mono ?_;rintro e w1 ⟨y,u,rfl,hr⟩);go_ret;exact⟨u,rfl,hr.1,HB.trans hr.2⟩
theorem a2k (hE:LE E V)(h:gN N tg V DB MB p M nx c r)(hM:dP M)(n m ea:Int)(hn:dH n)(nm v:Bs):
  ak 29 #[aj DB,.agg (zg ⟨TL,n,m,ea,nm,v⟩)] V fun e w'=>∃u,e=.returned u/\ApR N DB MB nx u w'/\Below N V w':=by
 have b0:=aW V (.cells (zg ⟨TL,n,m,ea,nm,v⟩) 45);obtain⟨c0,c1,c2,c3,c4,c5⟩:=Yv.of (dh V (zg ⟨TL,n,m,ea,nm,v⟩) 45);have ST:=a6i (hE.below b0).de (h.below b0) hM n hn;have HB:=b0.mono h.low;clear h hM hE b0;unfold TL at*;go_enter func29,ntmps29;go_wp2_with(go_at_call 58;refine ST.mono ?_;rintro e w1 ⟨u,rfl,hr⟩);go_ret;exact⟨u,rfl,hr.1,HB.trans hr.2⟩
theorem a3z (hE:LE E V)(h:gN N tg V DB MB p M nx c r)(hM:dP M)(n m ea:Int)(hn:dH n)(hm:dH m)(nm v:Bs):
  ak 29 #[aj DB,.agg (zg ⟨yg,n,m,ea,nm,v⟩)] V fun e w'=>∃u,e=.returned u/\ApR N DB MB nx u w'/\Below N V w':=by
 have b0:=aW V (.cells (zg ⟨yg,n,m,ea,nm,v⟩) 45);obtain⟨c0,c1,c2,c3,c4,c5⟩:=Yv.of (dh V (zg ⟨yg,n,m,ea,nm,v⟩) 45);have ST:=a9P (hE.below b0).de (h.below b0) hM n m ea hn hm;have HB:=b0.mono h.low;clear h hM hE b0;unfold yg at*;go_enter func29,ntmps29;go_wp2_with(go_at_call 59;refine ST.mono ?_;rintro e w1 ⟨u,rfl,hr⟩);go_ret;exact⟨u,rfl,hr.1,HB.trans hr.2⟩
theorem a3F (hE:LE E V)(h:gN N tg V DB MB p M nx c r)(x:Ed)(h1:x.kd≠a3y)(h2:x.kd≠TL)(h3:x.kd≠yg)(h4:x.kd≠yP)(h5:x.kd≠mO)(h6:x.kd≠uC):
  ak 29 #[aj DB,.agg (zg x)] V fun e w'=>∃u,e=.returned u/\ApR N DB MB nx u w'/\Below N V w':=by
 have b0:=aW V (.cells (zg x) 45);have x0:=(Yv.of (dh V (zg x) 45)).c0;have ck:=(hE.below b0).de.c4;have n1:=a4v h1;have n2:=a4v h2;have n3:=a4v h3;have n4:=a4v h4;have n5:=a4v h5;have n6:=a4v h6;have HB:=b0.mono h.low;unfold a3y at n1;unfold TL at n2;unfold yg at n3;unfold yP at n4;unfold mO at n5;unfold uC at n6;clear h hE h1 h2 h3 h4 h5 h6 b0;go_enter func29,ntmps29;go_wp2_with fail;go_ret;exact⟨_,rfl,.inl ⟨_,_,rfl⟩,HB⟩
theorem a5K (hE:LE E V)(h:gN N tg V DB MB p M nx c r)(hM:dP M)(x:Ed)(hx:x.kd≠uC)(hn:dH x.n)(hm:dH x.m)(hnl:x.nm.length<=1000000)(hvl:x.vl.length<=1000000)(hnx:nx<1000000):
  ak 29 #[aj DB,.agg (zg x)] V fun e w'=>∃u,e=.returned u/\ApR N DB MB nx u w'/\Below N V w':=by
 obtain⟨kd,n,m,ea,nm,v⟩:=x;by_cases h1:kd=a3y
 ·subst h1;exact a5J hE h hM n m ea hn nm v hnl hnx
 by_cases h2:kd=TL
 ·subst h2;exact a2k hE h hM n m ea hn nm v
 by_cases h3:kd=yg
 ·subst h3;exact a3z hE h hM n m ea hn hm nm v
 by_cases h4:kd=yP
 ·subst h4;exact(xD hE h hM n m ea hn nm v hnl hvl).mono fun e w' ⟨k1,k2⟩=>by
   rcases k2 with⟨-,t,u,k2⟩|⟨k2,vz,p2,M2,lN,c2,r2,⟨-,k3, -⟩,k4,k5⟩
   ·exact⟨_,k2,.inl ⟨_,_,rfl⟩,k1⟩
   ·exact⟨_,k2,.inr ⟨rfl,vz,p2,M2,lN,c2,r2,by omega,k4,k5⟩,k1⟩
 by_cases h5:kd=mO
 ·subst h5;exact(Ko hE h hM n m ea hn nm v).mono fun e w' ⟨k1,k2⟩=>by
   rcases k2 with⟨-,t,u,k2⟩|⟨k2,vz,p2,M2,lN,c2,r2,⟨-,k3, -⟩,k4,k5⟩
   ·exact⟨_,k2,.inl ⟨_,_,rfl⟩,k1⟩
   ·exact⟨_,k2,.inr ⟨rfl,vz,p2,M2,lN,c2,r2,by omega,k4,k5⟩,k1⟩
 exact a3F hE h ⟨kd,n,m,ea,nm,v⟩ h1 h2 h3 h4 h5 hx
end
end
end Go.Proofs.YtjfiehbcamfdfaaGreatDoor

/- Parts of the proof. -/
import Derived.Test.YtecneflbncjhpaaGreatDoorQp35
namespace Go.Proofs.YtecneflbncjhpaaGreatDoor
open Go.Proofs.Tryz
set_option maxHeartbeats 4000000
section
open Go.RowKit
set_option maxRecDepth 20000
def UZ (M:Dm)(n:Int)(nm v:Bs):Except Nat Dm:=match M n with
 |none=>.error 5
 |some e=>if gG nm=false then .error 4 else if isVal v=false then .error 10 else if(kQ e.ats nm).isSome=false/\12<=e.ats.length then .error 7 else .ok (xJ M n e (nC e.ats nm v))
def a2M (E:Nat->Addr)(B:Nat)(tg:bP)(W:ag)(DB MB:Nat)(p:Int->Option Nat)(nx c:Nat)(x:Except Nat Dm)(e:Ending)(w':ag):Prop:=match x with
 | .error k=>e=.returned (.iface 401 (.pointer (some (E k))))/\Below W.heap.size W w'
 | .ok M'=>e=.returned .nilIface/\KT tg W w'/\∃kR,(∀x,x<W.heap.size->kR x=tg x)/\aX B kR w' DB MB p M' nx c
theorem Zf {w:ag}{B k n g cap:Nat}{e:TypeId}{xs:List ah}(h:w.ownsRow B e k (.slice (some ⟨g,0,none⟩) n cap) n xs)(j:Nat)(v:ah):(w.setCell ⟨g,j,none⟩ v).ownsRow B e k (.slice (some ⟨g,0,none⟩) n cap) n (xs.set j v):=by
 obtain⟨h1,h2⟩:=h;refine⟨by rw[List.length_set];exact h1,?_⟩;rcases h2 with⟨h2,_⟩|⟨g',cap',cur,h3,h4,h5,h6,h7,h8,h9⟩
 ·cases h2
 ·cases h3;refine .inr ⟨g,cap,cur.setIfInBounds j v,rfl,h4,heap_setCell_same w g j cur e v h5,h6,h7,by simpa using h8,?_⟩;rw[<- h9,Array.toList_setIfInBounds,List.take_set]
theorem V5 {w:ag}{B k n g cap:Nat}{e:TypeId}{xs:List ah}(h:w.ownsRow B e k (.slice (some ⟨g,0,none⟩) n cap) n xs)(j:Nat):w.frozen? ⟨g,j,none⟩=false:=by
 rcases h.2 with⟨h2,_⟩|⟨g',cap',cur,h3,h4,h5, -⟩
 ·cases h2
 ·cases h3;exact aR h5 j
section
variable {E:Nat->Addr}{B:Nat}{tg:bP}{W:ag}{DB MB:Nat}{p:Int->Option Nat}{M:Dm}{nx c:Nat}
theorem Rw (hE:DE E W)(h:aX B tg W DB MB p M nx c)(hB:B<=W.heap.size)(n:Int)(hn:dR n)(nm v:Bs)(hnl:nm.length<=1000000)(hvl:v.length<=1000000):
  au 158 #[ay DB,aa n,.string ⟨nm.toArray⟩,.string ⟨v.toArray⟩] W fun e w'=>a2M E B tg W DB MB p nx c (UZ M n nm v) e w':=by
 have d0:=h.d0;have k4:=hE.c4;have k5:=hE.c5;have k10:=hE.c10;unfold UZ;cases hm:M n with
 |none=>
  have hp:=h.non n hm;simp only;go_enter func158,ntmps158;go_wp2_with(at_lookup;refine lC _ rfl _ _ 93 rfl underlying3 underlying93 (eD _) rfl h.map n rfl hn hp ?_);go_ret;exact⟨rfl,aG _ _⟩
 |some e=>
  obtain⟨EB,va,vk,hp,he⟩:=h.els n e hm;have IN:=iN ⟨nm.toArray⟩ (by show nm.length<=_;omega) W;have IV:=zm ⟨v.toArray⟩ (by show v.length<=_;omega) W;simp only at IN IV;simp only;cases hnm:gG nm with
  |false=>
   rw[hnm] at IN;rw[if_pos rfl];go_enter func158,ntmps158;go_wp2_with(first|(at_lookup;refine fq _ rfl _ _ 93 rfl underlying3 underlying93 (eD _) rfl h.map n rfl hn EB hp ?_)|(go_at_call 69;refine IN.mono ?_;rintro e1 w1 ⟨rfl,rfl⟩));go_ret;exact⟨rfl,aG _ _⟩
  |true=>
   rw[hnm] at IN;rw[if_neg (by simp)];cases hvv:isVal v with
   |false=>
    rw[hvv] at IV;rw[if_pos rfl];go_enter func158,ntmps158;go_wp2_with(first|(at_lookup;refine fq _ rfl _ _ 93 rfl underlying3 underlying93 (eD _) rfl h.map n rfl hn EB hp ?_)|(go_at_call 69;refine IN.mono ?_;rintro e1 w1 ⟨rfl,rfl⟩)|(go_at_call 123;refine IV.mono ?_;rintro e1 w1 ⟨rfl,rfl⟩));go_ret;exact⟨rfl,aG _ _⟩
   |true=>
    rw[hvv] at IV;rw[if_neg (by simp)];have PO:=zy he nm;have hlen:e.ats.length<=maxLen:=by
     obtain⟨o,cap, -,h2,h3, -⟩:=dL he.ats;omega
    rcases wQ e.ats nm 0 with⟨hf,hat⟩|⟨i,x,hf,hix,hat⟩
    ·rw[hf] at PO;rw[hat];obtain⟨ov,kv,Ou⟩:=aM he.ats;subst Ou;by_cases h12:12<=e.ats.length
     ·rw[if_pos ⟨rfl,h12⟩];have h12z:(12:Int)<=(e.ats.length:Int):=by omega
      have C1:∀w1,Below W.heap.size W w1->w1.cell? (ak EB 1)=some (.slice ov e.ats.length kv)/\w1.cell? (ak 2 0)=some (.iface 401 (.pointer (some (E 7)))):=fun w1 b1=>⟨(b1.cell (az he.c1)).trans he.c1,(b1.cell (az hE.c7)).trans hE.c7⟩;go_enter func158,ntmps158;go_wp2_with(first|(at_lookup;refine fq _ rfl _ _ 93 rfl underlying3 underlying93 (eD _) rfl h.map n rfl hn EB hp ?_)|(go_at_call 69;refine IN.mono ?_;rintro e1 w1 ⟨rfl,rfl⟩)|(go_at_call 123;refine IV.mono ?_;rintro e1 w1 ⟨rfl,rfl⟩)|(go_at_call 184;refine PO.mono ?_;rintro e1 w1 ⟨rfl,b1⟩;obtain⟨q1,q7⟩:=C1 w1 b1));go_ret;exact⟨rfl,b1⟩
     ·rw[if_neg (fun hh=>h12 hh.2)];have h12z:(e.ats.length:Int)<12:=by omega
      obtain⟨i0,hi,hz0,hz1,hz2⟩:=info_parts Cg;have C1:∀w1,Below W.heap.size W w1->w1.cell? (ak EB 1)=some (.slice ov e.ats.length kv):=fun w1 b1=>(b1.cell (az he.c1)).trans he.c1;have OW:∀w1,Below W.heap.size W w1->(w1.alloc (.cells #[.string ⟨nm.toArray⟩,.string ⟨v.toArray⟩] 100)).ownsRow B 100 2 (.slice ov e.ats.length kv) e.ats.length (bJ e.ats):=fun w1 b1=>World.ownsRow.alloc (aQ he.ats b1) _;have neE:some EB≠(Value.slice ov e.ats.length kv).ownBlock:=fun e1=>by have h1:=he.kZ EB e1.symm;rw[he.tag] at h1;cases h1
      have E7:∀w1,Below W.heap.size W w1->∀w7,(w1.alloc (.cells #[.string ⟨nm.toArray⟩,.string ⟨v.toArray⟩] 100)).grownBy w7 (Value.slice ov e.ats.length kv).ownBlock->w7.heap[EB]? =some (.cells #[.string ⟨e.name.toArray⟩,.slice ov e.ats.length kv,aa e.parent,vk] 102):=fun w1 b1 w7 gr=>by
       have b2:=aH b1 (bT w1 (.cells #[.string ⟨nm.toArray⟩,.string ⟨v.toArray⟩] 100));exact(gr.block EB (bI (aI he.cells) b2.size) neE).trans ((b2.block EB (aI he.cells)).trans he.cells)
      go_enter func158,ntmps158;go_upto_region 14 with(first|(at_lookup;refine fq _ rfl _ _ 93 rfl underlying3 underlying93 (eD _) rfl h.map n rfl hn EB hp ?_)|(go_at_call 69;refine IN.mono ?_;rintro e1 w1 ⟨rfl,rfl⟩)|(go_at_call 123;refine IV.mono ?_;rintro e1 w1 ⟨rfl,rfl⟩)|(go_at_call 184;refine PO.mono ?_;rintro e1 w1 ⟨rfl,b1⟩;have q1:=C1 w1 b1;have ow1:=OW w1 b1;have H0:=dw w1 #[.string ⟨nm.toArray⟩,.string ⟨v.toArray⟩] 100;have hs1:=b1.size));go_wp2_with(at_builtin;(refine wpList_append_own_at _ rfl _ _ 33 rfl B 100 i0 (.agg #[.string ⟨#[]⟩,.string ⟨#[]⟩]) 2 32 underlying33 hi hz0 hz1 hz2 rfl (by decide) _ _ _ rfl ow1 ⟨w1.heap.size,0,none⟩ 1 1 [.string ⟨nm.toArray⟩,.string ⟨v.toArray⟩] rfl rfl (World.news_of_block H0) (fun u hu=>by simp at hu;rcases hu with rfl|rfl<;>rfl) (by simp only[maxLen];omega) (by omega) (by simp;omega) ?_;intro v7 w7 kN gr8 _ at8;obtain⟨o7,c7,rfl⟩:=aM kN;have gr8:(w1.alloc (.cells #[.string ⟨nm.toArray⟩,.string ⟨v.toArray⟩] 100)).grownBy w7 (Value.slice ov e.ats.length kv).ownBlock:=gr8;have at8:(Value.slice o7 (e.ats.length+1) c7).ownBlock=(Value.slice ov e.ats.length kv).ownBlock\/(Value.slice o7 (e.ats.length+1) c7).ownBlock=some (w1.alloc (.cells #[.string ⟨nm.toArray⟩,.string ⟨v.toArray⟩] 100)).heap.size:=at8;clear gr8 at8;have e7:=E7 w1 b1 w7 gr8;have e70:=aD e7 1 _ rfl;have e7f:=aR e7));go_ret;have b2:=aH b1 (bT w1 (.cells #[.string ⟨nm.toArray⟩,.string ⟨v.toArray⟩] 100));have ow8:w7.ownsRow B 100 2 (.slice o7 (e.ats.length+1) c7) (nC e.ats nm v).length (bJ (nC e.ats nm v)):=by
       rw[Rc e.ats nm v hat,zw,List.length_append];exact kN
      have ne7:(Value.slice o7 (e.ats.length+1) c7).ownBlock≠some EB:=fun e1=>by
       rcases at8 with h1|h1
       ·exact neE (e1.symm.trans h1)
       ·rw[h1] at e1;have:=aI he.cells;have:=b2.size;cases e1;omega
      have r1:=h.a9S hm hp he (w8:=w7.setCell ⟨EB,1,none⟩ (.slice o7 (e.ats.length+1) c7)) (v7:=.slice o7 (e.ats.length+1) c7) (L:=nC e.ats nm v) (by rw[heap_setCell_same w7 EB 1 _ _ _ e7];rfl) (bS ow8 fun g hg=>aY _ _ _ g (fun e1=>ne7 (by rw[hg,e1]))) (at8.imp id fun h1 g hg=>by rw[h1] at hg;cases hg;exact b2.size) (gr8.os.trans b2.os) (gr8.tape.trans b2.tape) (gr8.output.trans b2.output) (by rw[World.size_setCell];exact aJ b2.size gr8.size) (fun x hx h1 h2=>by rw[aY _ _ _ x h1,gr8.block x (bI hx b2.size) (fun e1=>h2 e1.symm),b2.block x hx]);exact⟨rfl,r1.2.2,_,r1.2.1,r1.1⟩
    ·rw[Nat.zero_add] at hf;rw[hf] at PO;rw[hat,if_neg (fun hh=>by simp at hh)];obtain⟨hset, -,hx1⟩:=Re e.ats nm v 0 i (by rw[hf,Nat.zero_add]);obtain⟨hil, -⟩:=jc.1 hix;obtain⟨g,hg, -⟩:=dF he.ats _ _ (kC hix).2;obtain⟨ov,kv,Ou,hkv,hkm, -,h5⟩:=dL he.ats;have hov:=h5 g hg;subst Ou hov;have hiz:(i:Int)<(e.ats.length:Int):=by omega
     have hkz:(e.ats.length:Int)<=(kv:Int):=by omega
     have neG:g≠EB:=fun e1=>by have h1:=he.kZ g hg;rw[e1,he.tag] at h1;cases h1
     have C1:∀w1,Below W.heap.size W w1->w1.cell? (ak EB 1)=some (.slice (some ⟨g,0,none⟩) e.ats.length kv)/\w1.cell? (ak g (i*2+1))=some (.string ⟨x.2.toArray⟩)/\w1.frozen? ⟨g,i*2+1,none⟩=false:=fun w1 b1=>by
      obtain⟨g',hg',hc⟩:=dF (aQ he.ats b1) _ _ (kC hix).2;rw[hg] at hg';cases hg';exact⟨(b1.cell (az he.c1)).trans he.c1,hc,V5 (aQ he.ats b1) _⟩
     go_enter func158,ntmps158;go_wp2_with(first|(at_lookup;refine fq _ rfl _ _ 93 rfl underlying3 underlying93 (eD _) rfl h.map n rfl hn EB hp ?_)|(go_at_call 69;refine IN.mono ?_;rintro e1 w1 ⟨rfl,rfl⟩)|(go_at_call 123;refine IV.mono ?_;rintro e1 w1 ⟨rfl,rfl⟩)|(go_at_call 184;refine PO.mono ?_;rintro e1 w1 ⟨rfl,b1⟩;obtain⟨q1,q2,q3⟩:=C1 w1 b1));go_ret;have ow8:=Zf (aQ he.ats b1) (i*2+1) (.string ⟨v.toArray⟩);rw[CV e.ats i nm v hx1,<- hset] at ow8;have hl8:e.ats.length=(nC e.ats nm v).length:=by rw[hset,List.length_set]
     have hE8:(w1.setCell ⟨g,i*2+1,none⟩ (.string ⟨v.toArray⟩)).heap[EB]? =some (.cells #[.string ⟨e.name.toArray⟩,.slice (some ⟨g,0,none⟩) e.ats.length kv,aa e.parent,vk] 102):=(aY _ _ _ EB (fun e1=>neG e1.symm)).trans ((b1.block EB (aI he.cells)).trans he.cells);have hsz:=World.size_setCell w1 ⟨g,i*2+1,none⟩ (.string ⟨v.toArray⟩);have hst:=(aG g w1).setCell (p:=⟨g,i*2+1,none⟩) ai (.string ⟨v.toArray⟩);have r1:=h.a9S hm hp he (L:=nC e.ats nm v) hE8 (by rw[<- hl8];exact ow8) (.inl rfl) (hst.os.trans b1.os) (hst.tape.trans b1.tape) (hst.output.trans b1.output) (by rw[hsz];exact b1.size) (fun y hy h1 h2=>by rw[aY _ _ _ y (fun e1=>h2 (by rw[hg,e1])),b1.block y hy]);exact⟨rfl,r1.2.2,_,r1.2.1,r1.1⟩
end
end
section
open Go.RowKit
section
variable {E:Nat->Addr}{W:ag}{LB B:Nat}{tg:bP}{DB MB:Nat}{p:Int->Option Nat}{M:Dm}{nx c:Nat}{r:Int->Nat}{rl:List Rl}{rv:ah}{qs:List dI}{pv:ah}{w h:Nat}{cv:ah}
abbrev a2P (qs:List dI)(w h:Nat):List aC:=lW aN ((qs.map dI.pc).map fK) w h
theorem MI (hl:LvS W LB B tg DB MB p M nx c r rl rv qs pv w h cv)(hw1:1<=w)(hw:w<=40)(ug:1<=h)(hh:h<=40):
  au 15 #[ay LB] W fun e w'=>∃g cp,e=.returned (.agg #[aa w,aa h,.slice (some ⟨g,0,none⟩) (w*h) cp])/\w'.ownsRow W.heap.size 9 1 (.slice (some ⟨g,0,none⟩) (w*h) cp) (w*h) ((a2P qs w h).map .string)/\Below W.heap.size W w':=by
 obtain⟨ocv,ccv,hcv⟩:=aM hl.pic;subst hcv;have l3:=aD hl.lb 3 _ rfl;have l4:=aD hl.lb 4 _ rfl;have l5:=aD hl.lb 5 _ rfl;have b0:=bT W (.cells #[aa 0,aa 0,.slice none 0 0] 47);have k0:=dw W #[aa 0,aa 0,.slice none 0 0] 47;have b1:=bT (W.alloc (.cells #[aa 0,aa 0,.slice none 0 0] 47)) (.cells #[aa w,aa h,.slice ocv (w*h) ccv] 47);have k1:=dw (W.alloc (.cells #[aa 0,aa 0,.slice none 0 0] 47)) #[aa w,aa h,.slice ocv (w*h) ccv] 47;rw[dB] at k1;have l3':=(b0.cell (az l3)).trans l3;have l4':=(b0.cell (az l4)).trans l4;have l5':=(b0.cell (az l5)).trans l5;have hpl:(a2P qs w h).length=w*h:=jJ _ _ _ _;have hwh:w*h<=1600:=Nat.mul_le_mul hw hh;go_enter func15,ntmps15;go_upto_region 2 with fail;have k0':=(b1.block _ (aI k0)).trans k0;have bU:=aH b0 b1;obtain⟨U,hU⟩:∃U,(W.alloc (.cells #[aa 0,aa 0,.slice none 0 0] 47)).alloc (.cells #[aa w,aa h,.slice ocv (w*h) ccv] 47)=U:=⟨_,rfl⟩;rw[hU] at k1 k0' bU⊢;clear hU;have CT:=YO U _ (a2P qs w h) (by rw[hpl];exact aQ hl.pic bU) (by rw[hpl];omega);rw[hpl] at CT;have CT:=CT.mono (R':=fun e w2=>∃g cp,e=.returned (.slice (some ⟨g,0,none⟩) (w*h) cp)/\kU w2 (W.heap.size+1) (aa w) (aa h) (.slice ocv (w*h) ccv)/\kU w2 W.heap.size (aa 0) (aa 0) (.slice none 0 0)/\Hid (w2.ownsRow U.heap.size 9 1 (.slice (some ⟨g,0,none⟩) (w*h) cp) (w*h) ((a2P qs w h).map .string)/\Below U.heap.size U w2/\w2.heap[W.heap.size]? =some (.cells #[aa 0,aa 0,.slice none 0 0] 47))) fun e w2 ⟨o,k,h1,h2,h3⟩=>by
   obtain⟨g,cp,hg, -, -⟩:=h2.form (Nat.mul_pos hw1 ug);rw[hg] at h1 h2;have p1:=(h3.block _ (aI k1)).trans k1;have p0:=(h3.block _ (aI k0')).trans k0';exact⟨g,cp,h1,kU.of p1,kU.of p0,h2,h3,p0⟩
 obtain⟨c0,c1,c2,f0,f1,f2⟩:=kU.of k1;have hsU:W.heap.size+1<U.heap.size:=aI k1;clear l3 l4 l5 l3' l4' l5' k1 k0' k0 b0 b1;go_wp2_with(go_at_call 30;refine CT.mono ?_;rintro e w2 ⟨g,cp,rfl,⟨c0',c1',c2',f0',f1',f2'⟩,⟨z0,z1,z2,y0,y1,y2⟩,H2⟩);obtain⟨ow,b2,p0⟩:=H2.out;have r4:=GJ (w:=w2.setCell ⟨W.heap.size+1,2,none⟩ (.slice (some ⟨g,0,none⟩) (w*h) cp)) ((aY _ _ _ W.heap.size (by simp)).trans p0) (aa w) (aa h) (.slice (some ⟨g,0,none⟩) (w*h) cp);obtain⟨e0,e1,e2, -, -, -⟩:=kU.of r4;refine bodyPost_ret (v:=.agg #[aa w,aa h,.slice (some ⟨g,0,none⟩) (w*h) cp]) (by simp[results,results15,go_sem,e0,e1,e2]) rfl ?_;refine⟨g,cp,rfl,?_,((((aH bU b2).setCell (by simp) _).setCell (by simp) _).setCell (by simp) _).setCell (by simp) _⟩;exact eZ (gX (gX (gX (gX ow (by simp;omega) _) (by simp;omega) _) (by simp;omega) _) (by simp;omega) _) bU.size
end
def MJ:Bs:=[115,101,116]
section
variable {E:Nat->Addr}{N:Nat}{tg:bP}{V:ag}{DB MB:Nat}{p:Int->Option Nat}{M:Dm}{nx c:Nat}{r:Int->Nat}
theorem a2M.act {x:Except Nat Dm}{e:Ending}{w':ag}(h:jm N tg V DB MB p M nx c r)(hr:a2M E N tg V DB MB p nx c x e w')(hM:∀M2,x=.ok M2->eG M2/\∃i y l,M i=some y/\M2=xJ M i y l):
  Below N V w'/\(((∃k,x=.error k)/\∃t u,e=.returned (.iface t u))\/(e=.returned .nilIface/\∃vR p2 M2 l7 c2 r2,(x=.ok M2/\l7=nx/\c2=c/\r2=r)/\eG M2/\jm N vR w' DB MB p2 M2 l7 c2 r2)):=by
 cases x with
 |error k=>exact⟨hr.2.mono h.low,.inl ⟨⟨k,rfl⟩,_,_,hr.1⟩⟩
 |ok M2=>
  obtain⟨h1,h2,kR,h3,h4⟩:=hr;obtain⟨h5,i,y,l,h6,h7⟩:=hM M2 rfl;refine⟨h2.below (fun b t ht=>(h.w.low b t ht).1) h.low,.inr ⟨h1,kR,p,M2,nx,c,r,⟨rfl,rfl,rfl,rfl⟩,h5,h4,?_,?_,h.le,aJ h.low h2.size⟩⟩
  ·rw[h7];exact h.d.ats h6 l
  ·rw[h7];exact h.n.ats h6 l
theorem Zg {n:Int}{nm v:Bs}(hM:eG M):∀M2,UZ M n nm v=.ok M2->eG M2/\∃i y l,M i=some y/\M2=xJ M i y l:=fun M2 h=>by
 unfold UZ at h;cases hm:M n with
 |none=>rw[hm] at h;cases h
 |some e=>
  rw[hm] at h;simp only at h;split at h
  ·cases h
  ·next h1=>
   split at h
   ·cases h
   ·next h2=>
    split at h
    ·cases h
    ·next h3=>
     cases h;refine⟨hM.set hm (by simpa using h1) (by simpa using h2) ?_,n,e,_,hm,rfl⟩;by_cases h4:(kQ e.ats nm).isSome=true
     ·exact .inl h4
     ·exact .inr (by
       rcases Nat.lt_or_ge e.ats.length 12 with h5|h5
       ·exact h5
       ·exact absurd ⟨by simpa using h4,h5⟩ h3)
end
end
end Go.Proofs.YtecneflbncjhpaaGreatDoor

/- Parts of the proof. -/
import Derived.Test.YtecneflbncjhpaaGreatDoorQp15
namespace Go.Proofs.YtecneflbncjhpaaGreatDoor
open Go.Proofs.Tryz
set_option maxHeartbeats 4000000
section
open Go.RowKit Go.Maps
set_option maxRecDepth 20000
theorem gq.run_get {P:Program}{K T E:TypeId}{w:ag}{B n c:Nat}{p:Int->Option Nat}(h:gq P K w B p n c)(hK:P.underlying K=some (.int .i64))(hT:P.underlying T=some (.map K E))(hz:(zeroValue E).run P w=.ok (.pointer none) w){k:Int}{b:Nat}(hk:(Lit.int .i64 k).wf=true)(hb:p k=some b):
  (Instr.lookup T (.map (some B)) (.int .i64 k) false).run P w=.ok (ay b) w:=by
 obtain⟨D,h1, -,h3⟩:=h;obtain⟨v,ps,hrun,hv⟩:=h1.lookup (zd:=.lit (.int .i64 (-1))) (int_keyed hK) hT hz (zp:=[]) rfl (keyOf_int_mk hK hk);rw[(h3 k).2 b hb] at hv;rw[hrun,wK hv]
theorem gq.a1T {P:Program}{K T E:TypeId}{w:ag}{B n c:Nat}{p:Int->Option Nat}(h:gq P K w B p n c)(hK:P.underlying K=some (.int .i64))(hT:P.underlying T=some (.map K E))(hz:(zeroValue E).run P w=.ok (.pointer none) w){k:Int}(hk:(Lit.int .i64 k).wf=true)(hb:p k=none):
  (Instr.lookup T (.map (some B)) (.int .i64 k) false).run P w=.ok (.pointer none) w:=by
 obtain⟨D,h1, -,h3⟩:=h;obtain⟨v,ps,hrun,hv⟩:=h1.lookup (zd:=.lit (.int .i64 (-1))) (int_keyed hK) hT hz (zp:=[]) rfl (keyOf_int_mk hK hk);have hh:Maps.has D (.int .i64 k)=false:=by rw[(h3 k).1,hb];rfl
 rw[atKey_of_not_has hh] at hv;rw[hrun,xV hv]
abbrev woL (L:List Int)(n:Int):List Int:=L.filter (fun x=> !decide (x=n))
theorem aX.kids {B:Nat}{tg:bP}{w w7:ag}{DB MB:Nat}{p:Int->Option Nat}{M:Dm}{nx c EB:Nat}{i:Int}{e:gH}{va vk v7:ah}{L:List Int}(h:aX B tg w DB MB p M nx c)(hi:M i=some e)(hp:p i=some EB)(he:xX B tg w i EB e va vk)(hL:∀k∈L,dR k)
  (kN:w7.ownsRow B 3 1 v7 L.length (aU L)) (jS:w.grownBy w7 vk.ownBlock) (Es:v7.ownBlock=vk.ownBlock\/∀g,v7.ownBlock=some g->w.heap.size<=g):
  aX B (vw tg i v7) (w7.setCell ⟨EB,3,none⟩ v7) DB MB p (dZ M i ⟨e.name,e.ats,e.parent,L⟩) nx c/\(∀x,x<w.heap.size->vw tg i v7 x=tg x)/\KT tg w (w7.setCell ⟨EB,3,none⟩ v7):=by
 have VB:=aI he.cells;have hz:=jS.size;have hset:=(aG EB w7).setCell (p:=⟨EB,3,none⟩) ai v7;have neE:vk.ownBlock≠some EB:=fun e1=>by have h1:=he.iO EB e1;rw[he.tag] at h1;cases h1
 have ne7:v7.ownBlock≠some EB:=fun e1=>by
  rcases Es with h1|h1
  ·exact neE (h1.symm.trans e1)
  ·have:=h1 EB e1;omega
 have old:∀x,x<w.heap.size->vk.ownBlock≠some x->w7.heap[x]? =w.heap[x]? :=fun x hx hne=>jS.block x hx (fun e1=>hne e1.symm);have tk:∀x,x<w.heap.size->vw tg i v7 x=tg x:=fun x hx=>by
  unfold vw;split
  ·rename_i h1;rcases Es with h2|h2
   ·exact(he.iO x (h2.symm.trans h1)).symm
   ·have:=h2 x h1;omega
  ·rfl
 have blk:∀x,x<w.heap.size->x≠EB->vk.ownBlock≠some x->(w7.setCell ⟨EB,3,none⟩ v7).heap[x]? =w.heap[x]? :=fun x hx h1 h2=>(aY _ _ _ x h1).trans (old x hx h2);have hz8:w.heap.size<=(w7.setCell ⟨EB,3,none⟩ v7).heap.size:=by have:=hset.size;omega
 refine⟨h.put hi hp (va:=va) (vk:=v7) ⟨?_,?_,?_,?_,?_,?_⟩ hz8 ⟨(h.wf i e hi).1,hL⟩ tk ?_ ?_ ?_,tk,⟨hset.os.trans jS.os,hset.tape.trans jS.tape,hset.output.trans jS.output,hz8,fun x hx hn=>?_⟩⟩
 ·have h1:=(old EB VB neE).trans he.cells;rw[heap_setCell_same w7 EB 3 _ _ _ h1];rfl
 ·rw[tk EB VB];exact he.tag
 ·exact bS he.ats fun g hg=>blk g (he.ats.lt g hg).2 (fun e1=>by have h1:=he.kZ g hg;rw[e1,he.tag] at h1;cases h1) (fun e1=>by have h1:=he.kZ g hg;rw[he.iO g e1] at h1;cases h1)
 ·intro g hg;rw[tk g (he.ats.lt g hg).2];exact he.kZ g hg
 ·exact bS (w':=w7.setCell ⟨EB,3,none⟩ v7) kN fun g hg=>aY _ _ _ g (fun e1=>ne7 (by rw[hg,e1]))
 ·intro g hg;unfold vw;rw[if_pos hg]
 ·intro x t ht;unfold vw at ht;split at ht
  ·rename_i h1;have h2:=kN.lt x h1;have:=hset.size;omega
  ·have:=h.low x t ht;omega
 ·intro x hx;unfold vw;split
  ·exact .inr (.inr (.inr rfl))
  ·exact .inl (h.new hx)
 ·intro x t ht h1 h2 h3;exact blk x (h.low x t ht).2 (fun e1=>by rw[e1,he.tag] at ht;cases ht;exact h1 rfl) (fun e1=>by rw[he.iO x e1] at ht;cases ht;exact h3 rfl)
 ·exact blk x hx (fun e1=>by rw[e1,he.tag] at hn;cases hn) (fun e1=>by rw[he.iO x e1] at hn;cases hn)
theorem LM {B:Nat}{tg:bP}{W:ag}{DB MB:Nat}{p:Int->Option Nat}{M:Dm}{nx c:Nat}(hd:aX B tg W DB MB p M nx c)(n:Int)(e q:gH)(hn:M n=some e)(hq:M e.parent=some q)(hk:q.kids≠[]):
  au 208 #[ay DB,.int .i64 n] W fun r w'=>r=.returned (.tuple #[])/\KT tg W w'/\∃kR,(∀x,x<W.heap.size->kR x=tg x)/\aX B kR w' DB MB p (dZ M e.parent ⟨q.name,q.ats,q.parent,woL q.kids n⟩) nx c:=by
 have hwn:=hd.i64 hn;have hwp:=(hd.wf n e hn).1;obtain⟨EB,va,vk,hpn,he⟩:=hd.els n e hn;obtain⟨QB,qa,qk,hpq,heq⟩:=hd.els e.parent q hq;obtain⟨oq,kq,rfl⟩:=aM heq.kids;have b0:=bT W (.cells #[.int .i64 n] 3);have c0:=iJ W #[.int .i64 n] 3 0 _ rfl;have tN:tg W.heap.size=none:=hd.new ai;obtain⟨V,hV⟩:∃V,W.alloc (.cells #[.int .i64 n] 3)=V:=⟨_,rfl⟩;rw[hV] at b0 c0;have d1:=hd.below b0;have he1:=he.turn (kR:=tg) (w':=V) fun g t ht _=>⟨ht,b0.block g (hd.low g t ht).2⟩;have Yb:=heq.turn (kR:=tg) (w':=V) fun g t ht _=>⟨ht,b0.block g (hd.low g t ht).2⟩;have x0:=d1.d0;have x2:=he1.c2;have y3:=Yb.c3;have g1:=gq.run_get (w:=V.drew) (T:=93) (d1.map.same rfl) underlying3 underlying93 (eD _) hwn hpn;have g2:=gq.run_get (w:=V.drew) (T:=93) (d1.map.same rfl) underlying3 underlying93 (eD _) hwp hpq;obtain⟨PN,hPN⟩:∃PN,W.heap.size=PN:=⟨_,rfl⟩;rw[hPN] at c0 tN;have hne:(Value.slice oq q.kids.length kq).ownBlock≠some PN:=fun e1=>by have:=heq.iO PN e1;rw[tN] at this;cases this
 have hQN:QB≠PN:=fun e1=>by have:=heq.tag;rw[e1,tN] at this;cases this
 have DF:=ady (W:=V.drew) (n:=n) (PN:=PN) (bS Yb.kids (fun _ _=>rfl)) hk c0 hne;go_enter func208,ntmps208;go_upto_region 1 with fail
 try rw[hV]
 try rw[hPN]
 clear hV hPN;have HQ1:Hid (xX B tg V.drew e.parent QB q qa (.slice oq q.kids.length kq)):=(Yb.turn fun g t ht _=>⟨ht,rfl⟩:xX B tg V.drew e.parent QB q qa (.slice oq q.kids.length kq));have HD1:Hid (aX B tg V.drew DB MB p M nx c):=(d1.turn (fun _ _ _=>rfl) ai:aX B tg V.drew DB MB p M nx c);have neQ:some QB≠(Value.slice oq q.kids.length kq).ownBlock:=fun e1=>by have h1:=heq.iO QB e1.symm;rw[heq.tag] at h1;cases h1
 have lQ:QB<V.heap.size:=aI Yb.cells;have cQ:V.drew.heap[QB]? =some (.cells #[.string ⟨q.name.toArray⟩,qa,.int .i64 q.parent,.slice oq q.kids.length kq] 102):=Yb.cells;go_region;go_wp2_with(go_at_call 252;refine DF.mono ?_;rintro r w5 ⟨o5,k5,rfl,oQ,lb5,Yc⟩;have e5:=(Yc.block QB lQ neQ).trans cQ;have c5:=aD e5 3 _ rfl;have f5:=aR e5);obtain⟨r1,r2,r3⟩:=HD1.out.kids hq hpq HQ1.out (fun k hk=>(hd.wf e.parent q hq).2 k (List.mem_filter.1 hk).1) oQ Yc (.inl lb5);refine bodyPost_end (results_none rfl _ _ _) rfl ⟨rfl,?_,_,fun x hx=>?_,r1⟩
 ·exact KT.trans (KT.of_below b0) (kR:=tg) (⟨r3.os,r3.tape,r3.output,r3.size,r3.block⟩) (fun _ _=>rfl)
 ·exact r2 x (bI hx b0.size)
def nJ (M:Dm)(l:List Int):Dm:=fun i=>if i∈l then none else M i
theorem Ul (M:Dm)(l:List Int)(k:Int):nJ M (l++[k])=JE (nJ M l) k:=by
 funext i;unfold nJ JE;by_cases h1:i=k
 ·subst h1;simp
 ·by_cases h2:i∈l<;>simp[h1,h2]
theorem aX.cut {B:Nat}{tg:bP}{w w':ag}{DB MB:Nat}{p:Int->Option Nat}{M:Dm}{nx c:Nat}{k:Int}(h:aX B tg w DB MB p M nx c)(hm:gq prog 3 w' MB (fun i=>if i=k then none else p i) nx (c-1))(ht:w.mapTurned w' MB):aX B tg w' DB MB (fun i=>if i=k then none else p i) (JE M k) nx (c-1) where
 doc:=(ht.grown.block DB (aI h.doc) (fun e=>h.ne (dP e).symm)).trans h.doc
 ji:=h.ji
 map:=hm
 jk:=h.jk
 els:=fun i e he=>by
  unfold JE at he;by_cases hi:i=k
  ·rw[if_pos hi] at he;cases he
  ·rw[if_neg hi] at he;obtain⟨b,va,vk,h1,h2⟩:=h.els i e he;refine⟨b,va,vk,by simp only[if_neg hi];exact h1,h2.turn fun g t hg hk=>⟨hg,ht.grown.block g (h.low g t hg).2 (fun e1=>?_)⟩⟩;have e2:=dP e1;rw[e2,h.jk] at hg;cases hg;rcases hk with hk|hk|hk<;>cases hk
 non:=fun i hi=>by
  unfold JE at hi;by_cases hj:i=k
  ·simp only[if_pos hj]
  ·rw[if_neg hj] at hi;simp only[if_neg hj];exact h.non i hi
 low:=fun b t hb=>⟨(h.low b t hb).1,bI (h.low b t hb).2 ht.grown.size⟩
 dom:=fun i e he=>by
  unfold JE at he;split at he
  ·cases he
  ·exact h.dom i e he
 wf:=fun i e he=>by
  unfold JE at he;split at he
  ·cases he
  ·exact h.wf i e he
 few:=h.few
 Nh:=h.Nh
end
section
open Go.RowKit
theorem Um (l:List Int):∀u∈aU l,u.oneCell'=true:=fun u hu=>by
 unfold aU at hu;obtain⟨k,_,rfl⟩:=List.mem_map.1 hu;rfl
theorem Ye {B:Nat}(w:ag)(v:ah)(L:List Int)(h:w.ownsRow B 3 1 v L.length (aU L))(hl:L.length<=1000000):
  au 154 #[v] w fun e w'=>∃o k,e=.returned (.slice o L.length k)/\w'.ownsRow w.heap.size 3 1 (.slice o L.length k) L.length (aU L)/\Below w.heap.size w w':=by
 have q22:∀(w:ag) (a:Option Addr) (n c n' c':Nat),(binOp .eql 22 (.slice a n c) (.slice none n' c')).run prog w=.ok (.bool a.isNone) w:=fun w a n c n' c'=>Lib.run_eql_slice_nil w _ _ a n c n' c' underlying22;obtain⟨i0,hi,hz0,hz1,hz2⟩:=info_parts sI;have HN0:∀g cap,v=.slice (some ⟨g,0,none⟩) L.length cap->∀j u,(aU L)[j]? =some u->w.cell? ((⟨g,0,none⟩:Addr).add j)=some u:=fun g cap hv j u hu=>by
  obtain⟨g',hg,hc⟩:=dF h j u hu;rw[hv] at hg;have hadd:(⟨g,0,none⟩:Addr).add j=⟨g,0+j,none⟩:=by unfold Addr.add;split<;>simp_all
  cases hg;rw[hadd,Nat.zero_add];exact hc
 rcases h.2 with⟨rfl,hn⟩|⟨g,cap,cur,rfl,_,_,h1,h2,_,_⟩
 ·have hz:L=[]:=iC.1 hn;subst hz;go_enter func154,ntmps154;go_wp2_with fail;go_ret;exact⟨none,0,rfl,eH _ _ _ _,aG _ _⟩
 ·have HN:Hid (∀j u,(aU L)[j]? =some u->w.cell? ((⟨g,0,none⟩:Addr).add j)=some u):=HN0 g cap rfl;have HO:Hid (∀u∈aU L,u.oneCell'=true):=Um L;clear HN0;go_enter func154,ntmps154;go_wp2_with(at_builtin;refine wpList_append_own _ rfl _ _ 22 rfl w.heap.size 3 i0 (aa 0) 1 8 underlying22 hi hz0 hz1 hz2 rfl (by decide) _ _ _ rfl (World.ownsRow_made w #[] 0 ai (aP _) (by simp)) ⟨g,0,none⟩ L.length cap (aU L) rfl (by rw[o8,Nat.mul_one]) (fun j u hj=>bK _ (HN.out j u hj)) HO.out (by rw[bq];omega) (by omega) (by simp) ?_;intro v7 w7 kN jS _;obtain⟨o7,tK,rfl⟩:=aM kN);go_ret;rw[Nat.zero_add,List.nil_append] at kN;exact⟨o7,tK,rfl,kN,((aG _ w).alloc ai _).grown jS (by simp) (fun k hk=>by have hk':some w.heap.size=some k:=hk;cases hk';exact Nat.le_refl _)⟩
def rJ (M:Dm)(n:Int):List Int:=match M n with|none=>[]|some e=>e.kids
theorem Yf {B:Nat}{tg:bP}{w:ag}{DB MB:Nat}{p:Int->Option Nat}{M:Dm}{nx c:Nat}(h:aX B tg w DB MB p M nx c)(n:Int)(hn:dR n)(hl:(rJ M n).length<=1000000):
  au 196 #[ay DB,aa n] w fun r w'=>∃o k,r=.returned (.slice o (rJ M n).length k)/\w'.ownsRow w.heap.size 3 1 (.slice o (rJ M n).length k) (rJ M n).length (aU (rJ M n))/\Below w.heap.size w w':=by
 have d0:=h.d0;unfold rJ at hl⊢;cases hm:M n with
 |none=>
  have hp:=h.non n hm;go_enter func196,ntmps196;go_wp2_with(at_lookup;refine lC _ rfl _ _ 93 rfl underlying3 underlying93 (eD _) rfl h.map n rfl hn hp ?_);go_ret;exact⟨none,0,rfl,eH _ _ _ _,aG _ _⟩
 |some e=>
  rw[hm] at hl;obtain⟨b,va,vk,hp,he⟩:=h.els n e hm;have x0:=he.c3;obtain⟨ok,kk,rfl⟩:=aM he.kids;have CL:=Ye w _ e.kids he.kids hl;go_enter func196,ntmps196;go_wp2_with(first|(at_lookup;refine fq _ rfl _ _ 93 rfl underlying3 underlying93 (eD _) rfl h.map n rfl hn b hp ?_)|(go_at_call 154;refine CL.mono ?_;rintro e1 w1 ⟨o1,k1,rfl,ho1,hb1⟩));go_ret;exact⟨o1,k1,rfl,ho1,hb1⟩
theorem Ra {B:Nat}{tg:bP}{W:ag}{DB MB:Nat}{p:Int->Option Nat}{M:Dm}{nx c:Nat}(hd:aX B tg W DB MB p M nx c)(f:Nat)(hf:f<=900000)(hp:Dp M f 0)(hl:(dG M f 0).length<=1000000):
  au 57 #[ay DB] W fun e w'=>∃o k,e=.returned (.slice o (dG M f 0).length k)/\Below W.heap.size W w'/\w'.ownsRow (W.heap.size+1) 3 1 (.slice o (dG M f 0).length k) (dG M f 0).length (aU (dG M f 0)):=by
 have FD:=Lp hd f 0 hf hp (by decide) hl;go_enter func57,ntmps57;go_wp2_with(go_at_call 102;refine FD.mono ?_;rintro e1 w1 ⟨o1,k1,rfl,hb1,ho1⟩);go_ret;exact⟨o1,k1,rfl,hb1,ho1⟩
end
end Go.Proofs.YtecneflbncjhpaaGreatDoor

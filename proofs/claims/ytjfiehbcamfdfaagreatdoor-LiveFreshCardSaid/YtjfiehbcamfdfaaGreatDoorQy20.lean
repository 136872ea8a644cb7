/-
  Parts of the proof.
-/
import Derived.Test.YtjfiehbcamfdfaaGreatDoorQy14
namespace Go.Proofs.YtjfiehbcamfdfaaGreatDoor
open Go.Proofs.Tryz
section
open Go.RowKit Go.Maps
set_option maxHeartbeats 4000000
set_option maxRecDepth 20000
theorem iA.run_get {P:Program}{K T E:TypeId}{w:World}{B n c:Nat}{p:Int->Option Nat}(h:iA P K w B p n c)(hK:P.underlying K=some (.int .i64))(hT:P.underlying T=some (.map K E))(hz:(zeroValue E).run P w=.ok (.pointer none) w){k:Int}{b:Nat}(hk:(Lit.int .i64 k).wf=true)(hb:p k=some b):
  (Instr.lookup T (.map (some B)) (.int .i64 k) false).run P w=.ok (aj b) w:=by
 obtain⟨D,h1, -,h3⟩:=h;obtain⟨v,ps,hrun,hv⟩:=h1.lookup (zd:=.lit (.int .i64 (-1))) (int_keyed hK) hT hz (zp:=[]) rfl (keyOf_int_mk hK hk);rw[(h3 k).2 b hb] at hv;rw[hrun,Jh hv]
theorem iA.a6X {P:Program}{K T E:TypeId}{w:World}{B n c:Nat}{p:Int->Option Nat}(h:iA P K w B p n c)(hK:P.underlying K=some (.int .i64))(hT:P.underlying T=some (.map K E))(hz:(zeroValue E).run P w=.ok (.pointer none) w){k:Int}(hk:(Lit.int .i64 k).wf=true)(hb:p k=none):
  (Instr.lookup T (.map (some B)) (.int .i64 k) false).run P w=.ok (.pointer none) w:=by
 obtain⟨D,h1, -,h3⟩:=h;obtain⟨v,ps,hrun,hv⟩:=h1.lookup (zd:=.lit (.int .i64 (-1))) (int_keyed hK) hT hz (zp:=[]) rfl (keyOf_int_mk hK hk);have hh:Maps.has D (.int .i64 k)=false:=by rw[(h3 k).1,hb];rfl
 rw[atKey_of_not_has hh] at hv;rw[hrun,QL hv]
abbrev woL (L:List Int)(n:Int):List Int:=L.filter (fun x=> !decide (x=n))
theorem bG.kids {B:Nat}{tg:kE}{w w7:World}{DB MB:Nat}{p:Int->Option Nat}{M:Dm}{nx c EB:Nat}{i:Int}{e:iy}{va vk v7:Value}{L:List Int}(h:bG B tg w DB MB p M nx c)(hi:M i=some e)(hp:p i=some EB)(he:yf B tg w i EB e va vk)(hL:∀k∈L,dH k)
  (jQ:w7.ownsRow B 3 1 v7 L.length (bY L)) (lU:w.grownBy w7 vk.ownBlock) (Ml:v7.ownBlock=vk.ownBlock\/∀g,v7.ownBlock=some g->w.heap.size<=g):
  bG B (Jm tg i v7) (w7.setCell ⟨EB,3,none⟩ v7) DB MB p (gH M i ⟨e.name,e.ats,e.parent,L⟩) nx c/\(∀x,x<w.heap.size->Jm tg i v7 x=tg x)/\KT tg w (w7.setCell ⟨EB,3,none⟩ v7):=by
 have ZE:=aD he.cells;have hz:=lU.size;have hset:=(Below.refl EB w7).setCell (p:=⟨EB,3,none⟩) eU v7;have neE:vk.ownBlock≠some EB:=fun e1=>by have h1:=he.jX EB e1;rw[he.tag] at h1;cases h1
 have ne7:v7.ownBlock≠some EB:=fun e1=>by
  rcases Ml with h1|h1
  ·exact neE (h1.symm.trans e1)
  ·have:=h1 EB e1;omega
 have old:∀x,x<w.heap.size->vk.ownBlock≠some x->w7.heap[x]? =w.heap[x]? :=fun x hx hne=>lU.block x hx (fun e1=>hne e1.symm);have tk:∀x,x<w.heap.size->Jm tg i v7 x=tg x:=fun x hx=>by
  unfold Jm;split
  ·rename_i h1;rcases Ml with h2|h2
   ·exact(he.jX x (h2.symm.trans h1)).symm
   ·have:=h2 x h1;omega
  ·rfl
 have blk:∀x,x<w.heap.size->x≠EB->vk.ownBlock≠some x->(w7.setCell ⟨EB,3,none⟩ v7).heap[x]? =w.heap[x]? :=fun x hx h1 h2=>(Below.heap_setCell _ _ _ x h1).trans (old x hx h2);have hz8:w.heap.size<=(w7.setCell ⟨EB,3,none⟩ v7).heap.size:=by have:=hset.size;omega
 refine⟨h.put hi hp (va:=va) (vk:=v7) ⟨?_,?_,?_,?_,?_,?_⟩ hz8 ⟨(h.wf i e hi).1,hL⟩ tk ?_ ?_ ?_,tk,⟨hset.os.trans lU.os,hset.tape.trans lU.tape,hset.output.trans lU.output,hz8,fun x hx hn=>?_⟩⟩
 ·have h1:=(old EB ZE neE).trans he.cells;rw[heap_setCell_same w7 EB 3 _ _ _ h1];rfl
 ·rw[tk EB ZE];exact he.tag
 ·exact bS he.ats fun g hg=>blk g (he.ats.lt g hg).2 (fun e1=>by have h1:=he.lI g hg;rw[e1,he.tag] at h1;cases h1) (fun e1=>by have h1:=he.lI g hg;rw[he.jX g e1] at h1;cases h1)
 ·intro g hg;rw[tk g (he.ats.lt g hg).2];exact he.lI g hg
 ·exact bS (w':=w7.setCell ⟨EB,3,none⟩ v7) jQ fun g hg=>Below.heap_setCell _ _ _ g (fun e1=>ne7 (by rw[hg,e1]))
 ·intro g hg;unfold Jm;rw[if_pos hg]
 ·intro x t ht;unfold Jm at ht;split at ht
  ·rename_i h1;have h2:=jQ.lt x h1;have:=hset.size;omega
  ·have:=h.low x t ht;omega
 ·intro x hx;unfold Jm;split
  ·exact .inr (.inr (.inr rfl))
  ·exact .inl (h.new hx)
 ·intro x t ht h1 h2 h3;exact blk x (h.low x t ht).2 (fun e1=>by rw[e1,he.tag] at ht;cases ht;exact h1 rfl) (fun e1=>by rw[he.jX x e1] at ht;cases ht;exact h3 rfl)
 ·exact blk x hx (fun e1=>by rw[e1,he.tag] at hn;cases hn) (fun e1=>by rw[he.jX x e1] at hn;cases hn)
theorem a19 {B:Nat}{tg:kE}{W:World}{DB MB:Nat}{p:Int->Option Nat}{M:Dm}{nx c:Nat}(hd:bG B tg W DB MB p M nx c)(n:Int)(e q:iy)(hn:M n=some e)(hq:M e.parent=some q)(hk:q.kids≠[]):
  ak 106 #[aj DB,.int .i64 n] W fun r w'=>r=.returned (.tuple #[])/\KT tg W w'/\∃uF,(∀x,x<W.heap.size->uF x=tg x)/\bG B uF w' DB MB p (gH M e.parent ⟨q.name,q.ats,q.parent,woL q.kids n⟩) nx c:=by
 have hwn:=hd.i64 hn;have hwp:=(hd.wf n e hn).1;obtain⟨EB,va,vk,hpn,he⟩:=hd.els n e hn;obtain⟨QB,qa,qk,hpq,heq⟩:=hd.els e.parent q hq;obtain⟨oq,kq,rfl⟩:=aI heq.kids;have b0:=aW W (.cells #[.int .i64 n] 3);have c0:=gp W #[.int .i64 n] 3 0 _ rfl;have tN:tg W.heap.size=none:=hd.new eU;obtain⟨V,hV⟩:∃V,W.alloc (.cells #[.int .i64 n] 3)=V:=⟨_,rfl⟩;rw[hV] at b0 c0;have d1:=hd.below b0;have he1:=he.turn (uF:=tg) (w':=V) fun g t ht _=>⟨ht,b0.block g (hd.low g t ht).2⟩;have a5S:=heq.turn (uF:=tg) (w':=V) fun g t ht _=>⟨ht,b0.block g (hd.low g t ht).2⟩;have x0:=d1.d0;have x2:=he1.c2;have y3:=a5S.c3;have g1:=iA.run_get (w:=V.drew) (T:=83) (d1.map.same rfl) underlying3 underlying83 (eG _) hwn hpn;have g2:=iA.run_get (w:=V.drew) (T:=83) (d1.map.same rfl) underlying3 underlying83 (eG _) hwp hpq;obtain⟨PN,hPN⟩:∃PN,W.heap.size=PN:=⟨_,rfl⟩;rw[hPN] at c0 tN;have hne:(Value.slice oq q.kids.length kq).ownBlock≠some PN:=fun e1=>by have:=heq.jX PN e1;rw[tN] at this;cases this
 have hQN:QB≠PN:=fun e1=>by have:=heq.tag;rw[e1,tN] at this;cases this
 have DF:=aeK (W:=V.drew) (n:=n) (PN:=PN) (bS a5S.kids (fun _ _=>rfl)) hk c0 hne;go_enter func106,ntmps106;go_upto_region 1 with fail
 try rw[hV]
 try rw[hPN]
 clear hV hPN;have HQ1:Hid (yf B tg V.drew e.parent QB q qa (.slice oq q.kids.length kq)):=(a5S.turn fun g t ht _=>⟨ht,rfl⟩:yf B tg V.drew e.parent QB q qa (.slice oq q.kids.length kq));have HD1:Hid (bG B tg V.drew DB MB p M nx c):=(d1.turn (fun _ _ _=>rfl) eU:bG B tg V.drew DB MB p M nx c);have neQ:some QB≠(Value.slice oq q.kids.length kq).ownBlock:=fun e1=>by have h1:=heq.jX QB e1.symm;rw[heq.tag] at h1;cases h1
 have lQ:QB<V.heap.size:=aD a5S.cells;have cQ:V.drew.heap[QB]? =some (.cells #[.string ⟨q.name.toArray⟩,qa,.int .i64 q.parent,.slice oq q.kids.length kq] 90):=a5S.cells;go_region;go_wp2_with(go_at_call 153;refine DF.mono ?_;rintro r w5 ⟨o5,k5,rfl,pQ,lb5,gr5⟩;have e5:=(gr5.block QB lQ neQ).trans cQ;have c5:=aA e5 3 _ rfl;have f5:=dF e5);obtain⟨r1,r2,r3⟩:=HD1.out.kids hq hpq HQ1.out (fun k hk=>(hd.wf e.parent q hq).2 k (List.mem_filter.1 hk).1) pQ gr5 (.inl lb5);refine bodyPost_end (results_none rfl _ _ _) rfl ⟨rfl,?_,_,fun x hx=>?_,r1⟩
 ·exact KT.trans (KT.of_below b0) (uF:=tg) (⟨r3.os,r3.tape,r3.output,r3.size,r3.block⟩) (fun _ _=>rfl)
 ·exact r2 x (Nat.lt_of_lt_of_le hx b0.size)
def K9 (M:Dm)(l:List Int):Dm:=fun i=>if i∈l then none else M i
theorem a5C (M:Dm)(l:List Int)(k:Int):K9 M (l++[k])=a2b (K9 M l) k:=by
 funext i;unfold K9 a2b;by_cases h1:i=k
 ·subst h1;simp
 ·by_cases h2:i∈l<;>simp[h1,h2]
theorem bG.cut {B:Nat}{tg:kE}{w w':World}{DB MB:Nat}{p:Int->Option Nat}{M:Dm}{nx c:Nat}{k:Int}(h:bG B tg w DB MB p M nx c)(hm:iA prog 3 w' MB (fun i=>if i=k then none else p i) nx (c-1))(ht:w.mapTurned w' MB):bG B tg w' DB MB (fun i=>if i=k then none else p i) (a2b M k) nx (c-1) where
 doc:=(ht.grown.block DB (aD h.doc) (fun e=>h.ne (Option.some.inj e).symm)).trans h.doc
 jP:=h.jP
 map:=hm
 kF:=h.kF
 els:=fun i e he=>by
  unfold a2b at he;by_cases hi:i=k
  ·rw[if_pos hi] at he;cases he
  ·rw[if_neg hi] at he;obtain⟨b,va,vk,h1,h2⟩:=h.els i e he;refine⟨b,va,vk,by simp only[if_neg hi];exact h1,h2.turn fun g t hg hk=>⟨hg,ht.grown.block g (h.low g t hg).2 (fun e1=>?_)⟩⟩;have e2:=Option.some.inj e1;rw[e2,h.kF] at hg;cases hg;rcases hk with hk|hk|hk<;>cases hk
 non:=fun i hi=>by
  unfold a2b at hi;by_cases hj:i=k
  ·simp only[if_pos hj]
  ·rw[if_neg hj] at hi;simp only[if_neg hj];exact h.non i hi
 low:=fun b t hb=>⟨(h.low b t hb).1,Nat.lt_of_lt_of_le (h.low b t hb).2 ht.grown.size⟩
 dom:=fun i e he=>by
  unfold a2b at he;split at he
  ·cases he
  ·exact h.dom i e he
 wf:=fun i e he=>by
  unfold a2b at he;split at he
  ·cases he
  ·exact h.wf i e he
 few:=h.few
 Tu:=h.Tu
end
section
open Go.RowKit
set_option maxHeartbeats 2000000
theorem Rb (l:List Int):∀u∈bY l,u.oneCell'=true:=fun u hu=>by
 unfold bY at hu;obtain⟨k,_,rfl⟩:=List.mem_map.1 hu;rfl
theorem VW {B:Nat}(w:World)(v:Value)(L:List Int)(h:w.ownsRow B 3 1 v L.length (bY L))(hl:L.length<=1000000):
  ak 56 #[v] w fun e w'=>∃o k,e=.returned (.slice o L.length k)/\w'.ownsRow w.heap.size 3 1 (.slice o L.length k) L.length (bY L)/\Below w.heap.size w w':=by
 have q22:∀(w:World) (a:Option Addr) (n c n' c':Nat),(binOp .eql 42 (.slice a n c) (.slice none n' c')).run prog w=.ok (.bool a.isNone) w:=fun w a n c n' c'=>Lib.run_eql_slice_nil w _ _ a n c n' c' underlying42;obtain⟨i0,hi,hz0,hz1,hz2⟩:=info_parts yX;have HN0:∀g cap,v=.slice (some ⟨g,0,none⟩) L.length cap->∀j u,(bY L)[j]? =some u->w.cell? ((⟨g,0,none⟩:Addr).add j)=some u:=fun g cap hv j u hu=>by
  obtain⟨g',hg,hc⟩:=bJ h j u hu;rw[hv] at hg;have hadd:(⟨g,0,none⟩:Addr).add j=⟨g,0+j,none⟩:=by unfold Addr.add;split<;>simp_all
  cases hg;rw[hadd,Nat.zero_add];exact hc
 rcases h.2 with⟨rfl,hn⟩|⟨g,cap,cur,rfl,_,_,h1,h2,_,_⟩
 ·have hz:L=[]:=List.length_eq_zero_iff.1 hn;subst hz;go_enter func56,ntmps56;go_wp2_with fail;go_ret;exact⟨none,0,rfl,World.ownsRow_nil _ _ _ _,Below.refl _ _⟩
 ·have HN:Hid (∀j u,(bY L)[j]? =some u->w.cell? ((⟨g,0,none⟩:Addr).add j)=some u):=HN0 g cap rfl;have HO:Hid (∀u∈bY L,u.oneCell'=true):=Rb L;clear HN0;go_enter func56,ntmps56;go_wp2_with(at_builtin;refine wpList_append_own _ rfl _ _ 42 rfl w.heap.size 3 i0 (aa 0) 1 8 underlying42 hi hz0 hz1 hz2 rfl (by decide) _ _ _ rfl (World.ownsRow_made w #[] 0 eU (Nat.zero_le _) (by simp)) ⟨g,0,none⟩ L.length cap (bY L) rfl (by rw[QN,Nat.mul_one]) (fun j u hj=>bO _ (HN.out j u hj)) HO.out (by rw[aQ];omega) (by omega) (by simp) ?_;intro v7 w7 jQ lU _;obtain⟨o7,nH,rfl⟩:=aI jQ);go_ret;rw[Nat.zero_add,List.nil_append] at jQ;exact⟨o7,nH,rfl,jQ,((Below.refl _ w).alloc eU _).grown lU (by simp) (fun k hk=>by have hk':some w.heap.size=some k:=hk;cases hk';exact Nat.le_refl _)⟩
def pO (M:Dm)(n:Int):List Int:=match M n with|none=>[]|some e=>e.kids
theorem VX {B:Nat}{tg:kE}{w:World}{DB MB:Nat}{p:Int->Option Nat}{M:Dm}{nx c:Nat}(h:bG B tg w DB MB p M nx c)(n:Int)(hn:dH n)(hl:(pO M n).length<=1000000):
  ak 196 #[aj DB,aa n] w fun r w'=>∃o k,r=.returned (.slice o (pO M n).length k)/\w'.ownsRow w.heap.size 3 1 (.slice o (pO M n).length k) (pO M n).length (bY (pO M n))/\Below w.heap.size w w':=by
 have d0:=h.d0;unfold pO at hl⊢;cases hm:M n with
 |none=>
  have hp:=h.non n hm;go_enter func196,ntmps196;go_wp2_with(at_lookup;refine lY _ rfl _ _ 83 rfl underlying3 underlying83 (eG _) rfl h.map n rfl hn hp ?_);go_ret;exact⟨none,0,rfl,World.ownsRow_nil _ _ _ _,Below.refl _ _⟩
 |some e=>
  rw[hm] at hl;obtain⟨b,va,vk,hp,he⟩:=h.els n e hm;have x0:=he.c3;obtain⟨ok,kk,rfl⟩:=aI he.kids;have CL:=VW w _ e.kids he.kids hl;go_enter func196,ntmps196;go_wp2_with(first|(at_lookup;refine eY _ rfl _ _ 83 rfl underlying3 underlying83 (eG _) rfl h.map n rfl hn b hp ?_)|(go_at_call 56;refine CL.mono ?_;rintro e1 w1 ⟨o1,k1,rfl,ho1,hb1⟩));go_ret;exact⟨o1,k1,rfl,ho1,hb1⟩
theorem a02 {B:Nat}{tg:kE}{W:World}{DB MB:Nat}{p:Int->Option Nat}{M:Dm}{nx c:Nat}(hd:bG B tg W DB MB p M nx c)(f:Nat)(hf:f<=900000)(hp:Dp M f 0)(hl:(jm M f 0).length<=1000000):
  ak 237 #[aj DB] W fun e w'=>∃o k,e=.returned (.slice o (jm M f 0).length k)/\Below W.heap.size W w'/\w'.ownsRow (W.heap.size+1) 3 1 (.slice o (jm M f 0).length k) (jm M f 0).length (bY (jm M f 0)):=by
 have FD:=Vn hd f 0 hf hp (by decide) hl;go_enter func237,ntmps237;go_wp2_with(go_at_call 107;refine FD.mono ?_;rintro e1 w1 ⟨o1,k1,rfl,hb1,ho1⟩);go_ret;exact⟨o1,k1,rfl,hb1,ho1⟩
end
end Go.Proofs.YtjfiehbcamfdfaaGreatDoor

/- Parts of the proof. -/
import Derived.Test.YtjfiehbcamfdfaaGreatDoorQz12
import Derived.Test.YtjfiehbcamfdfaaGreatDoorQz13
namespace Go.Proofs.YtjfiehbcamfdfaaGreatDoor
open Go.Proofs.Tryz
set_option maxHeartbeats 4000000
section
open Go.RowKit Go.Maps
set_option maxRecDepth 20000
theorem eZ.run_get {P:Program}{K T E:TypeId}{w:ag}{B n c:Nat}{p:Int->Option Nat}(h:eZ P K w B p n c)(hK:P.underlying K=some (.int .i64))(hT:P.underlying T=some (.map K E))(hz:(zeroValue E).run P w=.ok (.pointer none) w){k:Int}{b:Nat}(hk:(Lit.int .i64 k).wf=true)(hb:p k=some b):
  (Instr.lookup T (.map (some B)) (.int .i64 k) false).run P w=.ok (ay b) w:=by
 obtain⟨D,h1, -,h3⟩:=h;obtain⟨v,ps,hrun,hv⟩:=h1.lookup (zd:=.lit (.int .i64 (-1))) (int_keyed hK) hT hz (zp:=[]) rfl (keyOf_int_mk hK hk);rw[(h3 k).2 b hb] at hv;rw[hrun,vo hv]
theorem eZ.a0i {P:Program}{K T E:TypeId}{w:ag}{B n c:Nat}{p:Int->Option Nat}(h:eZ P K w B p n c)(hK:P.underlying K=some (.int .i64))(hT:P.underlying T=some (.map K E))(hz:(zeroValue E).run P w=.ok (.pointer none) w){k:Int}(hk:(Lit.int .i64 k).wf=true)(hb:p k=none):
  (Instr.lookup T (.map (some B)) (.int .i64 k) false).run P w=.ok (.pointer none) w:=by
 obtain⟨D,h1, -,h3⟩:=h;obtain⟨v,ps,hrun,hv⟩:=h1.lookup (zd:=.lit (.int .i64 (-1))) (int_keyed hK) hT hz (zp:=[]) rfl (keyOf_int_mk hK hk);have hh:Maps.has D (.int .i64 k)=false:=by rw[(h3 k).1,hb];rfl
 rw[atKey_of_not_has hh] at hv;rw[hrun,wW hv]
abbrev um (L:List Int)(n:Int):List Int:=L.filter (fun x=> !decide (x=n))
theorem aO.kids {B:Nat}{tg:bf}{w w7:ag}{DB MB:Nat}{p:Int->Option Nat}{M:Dm}{nx c EB:Nat}{i:Int}{e:dO}{va vk v7:ah}{L:List Int}(h:aO B tg w DB MB p M nx c)(hi:M i=some e)(hp:p i=some EB)(he:wu B tg w i EB e va vk)(hL:∀k∈L,bA k)
  (kF:w7.ownsRow B 3 1 v7 L.length (bD L)) (lH:w.grownBy w7 vk.ownBlock) (Dc:v7.ownBlock=vk.ownBlock\/∀g,v7.ownBlock=some g->w.heap.size<=g):
  aO B (ug tg i v7) (w7.setCell ⟨EB,3,none⟩ v7) DB MB p (bJ M i ⟨e.name,e.ats,e.parent,L⟩) nx c/\(∀x,x<w.heap.size->ug tg i v7 x=tg x)/\KT tg w (w7.setCell ⟨EB,3,none⟩ v7):=by
 have Uj:=aM he.cells;have hz:=lH.size;have hset:=(Below.refl EB w7).setCell (p:=⟨EB,3,none⟩) ai v7;have ZT:vk.ownBlock≠some EB:=fun e1=>by have h1:=he.gD EB e1;rw[he.tag] at h1;cases h1
 have ne7:v7.ownBlock≠some EB:=fun e1=>by
  rcases Dc with h1|h1
  ·exact ZT (h1.symm.trans e1)
  ·have:=h1 EB e1;omega
 have old:∀x,x<w.heap.size->vk.ownBlock≠some x->w7.heap[x]? =w.heap[x]? :=fun x hx hne=>lH.block x hx (fun e1=>hne e1.symm);have tk:∀x,x<w.heap.size->ug tg i v7 x=tg x:=fun x hx=>by
  unfold ug;split
  ·rename_i h1;rcases Dc with h2|h2
   ·exact(he.gD x (h2.symm.trans h1)).symm
   ·have:=h2 x h1;omega
  ·rfl
 have blk:∀x,x<w.heap.size->x≠EB->vk.ownBlock≠some x->(w7.setCell ⟨EB,3,none⟩ v7).heap[x]? =w.heap[x]? :=fun x hx h1 h2=>(Below.heap_setCell _ _ _ x h1).trans (old x hx h2);have YC:w.heap.size<=(w7.setCell ⟨EB,3,none⟩ v7).heap.size:=by have:=hset.size;omega
 refine⟨h.put hi hp (va:=va) (vk:=v7) ⟨?_,?_,?_,?_,?_,?_⟩ YC ⟨(h.wf i e hi).1,hL⟩ tk ?_ ?_ ?_,tk,⟨hset.os.trans lH.os,hset.tape.trans lH.tape,hset.output.trans lH.output,YC,fun x hx hn=>?_⟩⟩
 ·have h1:=(old EB Uj ZT).trans he.cells;rw[heap_setCell_same w7 EB 3 _ _ _ h1];rfl
 ·rw[tk EB Uj];exact he.tag
 ·exact bT he.ats fun g hg=>blk g (he.ats.lt g hg).2 (fun e1=>by have h1:=he.jH g hg;rw[e1,he.tag] at h1;cases h1) (fun e1=>by have h1:=he.jH g hg;rw[he.gD g e1] at h1;cases h1)
 ·intro g hg;rw[tk g (he.ats.lt g hg).2];exact he.jH g hg
 ·exact bT (w':=w7.setCell ⟨EB,3,none⟩ v7) kF fun g hg=>Below.heap_setCell _ _ _ g (fun e1=>ne7 (by rw[hg,e1]))
 ·intro g hg;unfold ug;rw[if_pos hg]
 ·intro x t ht;unfold ug at ht;split at ht
  ·rename_i h1;have h2:=kF.lt x h1;have:=hset.size;omega
  ·have:=h.low x t ht;omega
 ·intro x hx;unfold ug;split
  ·exact .inr (.inr (.inr rfl))
  ·exact .inl (h.new hx)
 ·intro x t ht h1 h2 h3;exact blk x (h.low x t ht).2 (fun e1=>by rw[e1,he.tag] at ht;cases ht;exact h1 rfl) (fun e1=>by rw[he.gD x e1] at ht;cases ht;exact h3 rfl)
 ·exact blk x hx (fun e1=>by rw[e1,he.tag] at hn;cases hn) (fun e1=>by rw[he.gD x e1] at hn;cases hn)
theorem yJ {B:Nat}{tg:bf}{W:ag}{DB MB:Nat}{p:Int->Option Nat}{M:Dm}{nx c:Nat}(hd:aO B tg W DB MB p M nx c)(n:Int)(e q:dO)(hn:M n=some e)(hq:M e.parent=some q)(hk:q.kids≠[]):
  ax 106 #[ay DB,.int .i64 n] W fun r w'=>r=.returned (.tuple #[])/\KT tg W w'/\∃gF,(∀x,x<W.heap.size->gF x=tg x)/\aO B gF w' DB MB p (bJ M e.parent ⟨q.name,q.ats,q.parent,um q.kids n⟩) nx c:=by
 have hwn:=hd.i64 hn;have hwp:=(hd.wf n e hn).1;obtain⟨EB,va,vk,hpn,he⟩:=hd.els n e hn;obtain⟨QB,qa,qk,hpq,heq⟩:=hd.els e.parent q hq;obtain⟨oq,kq,rfl⟩:=aH heq.kids;have b0:=di W (.cells #[.int .i64 n] 3);have c0:=gP W #[.int .i64 n] 3 0 _ rfl;have tN:tg W.heap.size=none:=hd.new ai;obtain⟨V,hV⟩:∃V,W.alloc (.cells #[.int .i64 n] 3)=V:=⟨_,rfl⟩;rw[hV] at b0 c0;have d1:=hd.below b0;have he1:=he.turn (gF:=tg) (w':=V) fun g t ht _=>⟨ht,b0.block g (hd.low g t ht).2⟩;have WS:=heq.turn (gF:=tg) (w':=V) fun g t ht _=>⟨ht,b0.block g (hd.low g t ht).2⟩;have x0:=d1.d0;have x2:=he1.c2;have y3:=WS.c3;have g1:=eZ.run_get (w:=V.drew) (T:=83) (d1.map.same rfl) underlying3 underlying83 (aW _) hwn hpn;have g2:=eZ.run_get (w:=V.drew) (T:=83) (d1.map.same rfl) underlying3 underlying83 (aW _) hwp hpq;obtain⟨PN,hPN⟩:∃PN,W.heap.size=PN:=⟨_,rfl⟩;rw[hPN] at c0 tN;have hne:(Value.slice oq q.kids.length kq).ownBlock≠some PN:=fun e1=>by have:=heq.gD PN e1;rw[tN] at this;cases this
 have hQN:QB≠PN:=fun e1=>by have:=heq.tag;rw[e1,tN] at this;cases this
 have DF:=ab3 (W:=V.drew) (n:=n) (PN:=PN) (bT WS.kids (fun _ _=>rfl)) hk c0 hne;go_enter func106,ntmps106;go_upto_region 1 with fail
 try rw[hV]
 try rw[hPN]
 clear hV hPN;have HQ1:Hid (wu B tg V.drew e.parent QB q qa (.slice oq q.kids.length kq)):=(WS.turn fun g t ht _=>⟨ht,rfl⟩:wu B tg V.drew e.parent QB q qa (.slice oq q.kids.length kq));have HD1:Hid (aO B tg V.drew DB MB p M nx c):=(d1.turn (fun _ _ _=>rfl) ai:aO B tg V.drew DB MB p M nx c);have neQ:some QB≠(Value.slice oq q.kids.length kq).ownBlock:=fun e1=>by have h1:=heq.gD QB e1.symm;rw[heq.tag] at h1;cases h1
 have lQ:QB<V.heap.size:=aM WS.cells;have cQ:V.drew.heap[QB]? =some (.cells #[.string ⟨q.name.toArray⟩,qa,.int .i64 q.parent,.slice oq q.kids.length kq] 90):=WS.cells;go_region;go_wp2_with(go_at_call 153;refine DF.mono ?_;rintro r w5 ⟨o5,k5,rfl,GZ,lb5,gr5⟩;have e5:=(gr5.block QB lQ neQ).trans cQ;have c5:=aF e5 3 _ rfl;have f5:=aR e5);obtain⟨r1,r2,r3⟩:=HD1.out.kids hq hpq HQ1.out (fun k hk=>(hd.wf e.parent q hq).2 k (List.mem_filter.1 hk).1) GZ gr5 (.inl lb5);refine bodyPost_end (results_none rfl _ _ _) rfl ⟨rfl,?_,_,fun x hx=>?_,r1⟩
 ·exact KT.trans (KT.of_below b0) (gF:=tg) (⟨r3.os,r3.tape,r3.output,r3.size,r3.block⟩) (fun _ _=>rfl)
 ·exact r2 x (Nat.lt_of_lt_of_le hx b0.size)
def o6 (M:Dm)(l:List Int):Dm:=fun i=>if i∈l then none else M i
theorem Sk (M:Dm)(l:List Int)(k:Int):o6 M (l++[k])=Ic (o6 M l) k:=by
 funext i;unfold o6 Ic;by_cases h1:i=k
 ·subst h1;simp
 ·by_cases h2:i∈l<;>simp[h1,h2]
theorem aO.cut {B:Nat}{tg:bf}{w w':ag}{DB MB:Nat}{p:Int->Option Nat}{M:Dm}{nx c:Nat}{k:Int}(h:aO B tg w DB MB p M nx c)(hm:eZ prog 3 w' MB (fun i=>if i=k then none else p i) nx (c-1))(ht:w.mapTurned w' MB):aO B tg w' DB MB (fun i=>if i=k then none else p i) (Ic M k) nx (c-1) where
 doc:=(ht.grown.block DB (aM h.doc) (fun e=>h.ne (Option.some.inj e).symm)).trans h.doc
 jr:=h.jr
 map:=hm
 jg:=h.jg
 els:=fun i e he=>by
  unfold Ic at he;by_cases hi:i=k
  ·rw[if_pos hi] at he;cases he
  ·rw[if_neg hi] at he;obtain⟨b,va,vk,h1,h2⟩:=h.els i e he;refine⟨b,va,vk,by simp only[if_neg hi];exact h1,h2.turn fun g t hg hk=>⟨hg,ht.grown.block g (h.low g t hg).2 (fun e1=>?_)⟩⟩;have e2:=Option.some.inj e1;rw[e2,h.jg] at hg;cases hg;rcases hk with hk|hk|hk<;>cases hk
 non:=fun i hi=>by
  unfold Ic at hi;by_cases hj:i=k
  ·simp only[if_pos hj]
  ·rw[if_neg hj] at hi;simp only[if_neg hj];exact h.non i hi
 low:=fun b t hb=>⟨(h.low b t hb).1,Nat.lt_of_lt_of_le (h.low b t hb).2 ht.grown.size⟩
 dom:=fun i e he=>by
  unfold Ic at he;split at he
  ·cases he
  ·exact h.dom i e he
 wf:=fun i e he=>by
  unfold Ic at he;split at he
  ·cases he
  ·exact h.wf i e he
 few:=h.few
 Pf:=h.Pf
end
section
open Go.RowKit
theorem Sl (l:List Int):∀u∈bD l,u.oneCell'=true:=fun u hu=>by
 unfold bD at hu;obtain⟨k,_,rfl⟩:=List.mem_map.1 hu;rfl
theorem WU {B:Nat}(w:ag)(v:ah)(L:List Int)(h:w.ownsRow B 3 1 v L.length (bD L))(hl:L.length<=1000000):
  ax 56 #[v] w fun e w'=>∃o k,e=.returned (.slice o L.length k)/\w'.ownsRow w.heap.size 3 1 (.slice o L.length k) L.length (bD L)/\Below w.heap.size w w':=by
 have q22:∀(w:ag) (a:Option Addr) (n c n' c':Nat),(binOp .eql 42 (.slice a n c) (.slice none n' c')).run prog w=.ok (.bool a.isNone) w:=fun w a n c n' c'=>Lib.run_eql_slice_nil w _ _ a n c n' c' underlying42;obtain⟨i0,hi,hz0,hz1,hz2⟩:=info_parts zi;have HN0:∀g cap,v=.slice (some ⟨g,0,none⟩) L.length cap->∀j u,(bD L)[j]? =some u->w.cell? ((⟨g,0,none⟩:Addr).add j)=some u:=fun g cap hv j u hu=>by
  obtain⟨g',hg,hc⟩:=bO h j u hu;rw[hv] at hg;have hadd:(⟨g,0,none⟩:Addr).add j=⟨g,0+j,none⟩:=by unfold Addr.add;split<;>simp_all
  cases hg;rw[hadd,Nat.zero_add];exact hc
 rcases h.2 with⟨rfl,hn⟩|⟨g,cap,cur,rfl,_,_,h1,h2,_,_⟩
 ·have hz:L=[]:=List.length_eq_zero_iff.1 hn;subst hz;go_enter func56,ntmps56;go_wp2_with fail;go_ret;exact⟨none,0,rfl,World.ownsRow_nil _ _ _ _,Below.refl _ _⟩
 ·have HN:Hid (∀j u,(bD L)[j]? =some u->w.cell? ((⟨g,0,none⟩:Addr).add j)=some u):=HN0 g cap rfl;have HO:Hid (∀u∈bD L,u.oneCell'=true):=Sl L;clear HN0;go_enter func56,ntmps56;go_wp2_with(at_builtin;refine wpList_append_own _ rfl _ _ 42 rfl w.heap.size 3 i0 (aa 0) 1 8 underlying42 hi hz0 hz1 hz2 rfl (by decide) _ _ _ rfl (World.ownsRow_made w #[] 0 ai (Nat.zero_le _) (by simp)) ⟨g,0,none⟩ L.length cap (bD L) rfl (by rw[qZ,Nat.mul_one]) (fun j u hj=>dQ _ (HN.out j u hj)) HO.out (by rw[bq];omega) (by omega) (by simp) ?_;intro v7 w7 kF lH _;obtain⟨o7,tK,rfl⟩:=aH kF);go_ret;rw[Nat.zero_add,List.nil_append] at kF;exact⟨o7,tK,rfl,kF,((Below.refl _ w).alloc ai _).grown lH (by simp) (fun k hk=>by have hk':some w.heap.size=some k:=hk;cases hk';exact Nat.le_refl _)⟩
def qH (M:Dm)(n:Int):List Int:=match M n with|none=>[]|some e=>e.kids
theorem WV {B:Nat}{tg:bf}{w:ag}{DB MB:Nat}{p:Int->Option Nat}{M:Dm}{nx c:Nat}(h:aO B tg w DB MB p M nx c)(n:Int)(hn:bA n)(hl:(qH M n).length<=1000000):
  ax 196 #[ay DB,aa n] w fun r w'=>∃o k,r=.returned (.slice o (qH M n).length k)/\w'.ownsRow w.heap.size 3 1 (.slice o (qH M n).length k) (qH M n).length (bD (qH M n))/\Below w.heap.size w w':=by
 have d0:=h.d0;unfold qH at hl⊢;cases hm:M n with
 |none=>
  have hp:=h.non n hm;go_enter func196,ntmps196;go_wp2_with(at_lookup;refine iB _ rfl _ _ 83 rfl underlying3 underlying83 (aW _) rfl h.map n rfl hn hp ?_);go_ret;exact⟨none,0,rfl,World.ownsRow_nil _ _ _ _,Below.refl _ _⟩
 |some e=>
  rw[hm] at hl;obtain⟨b,va,vk,hp,he⟩:=h.els n e hm;have x0:=he.c3;obtain⟨ok,kk,rfl⟩:=aH he.kids;have CL:=WU w _ e.kids he.kids hl;go_enter func196,ntmps196;go_wp2_with(first|(at_lookup;refine bu _ rfl _ _ 83 rfl underlying3 underlying83 (aW _) rfl h.map n rfl hn b hp ?_)|(go_at_call 56;refine CL.mono ?_;rintro e1 w1 ⟨o1,k1,rfl,ho1,hb1⟩));go_ret;exact⟨o1,k1,rfl,ho1,hb1⟩
theorem a0j {B:Nat}{tg:bf}{W:ag}{DB MB:Nat}{p:Int->Option Nat}{M:Dm}{nx c:Nat}(hd:aO B tg W DB MB p M nx c)(f:Nat)(hf:f<=900000)(hp:Dp M f 0)(hl:(dw M f 0).length<=1000000):
  ax 237 #[ay DB] W fun e w'=>∃o k,e=.returned (.slice o (dw M f 0).length k)/\Below W.heap.size W w'/\w'.ownsRow (W.heap.size+1) 3 1 (.slice o (dw M f 0).length k) (dw M f 0).length (bD (dw M f 0)):=by
 have FD:=l8 hd f 0 hf hp (by decide) hl;go_enter func237,ntmps237;go_wp2_with(go_at_call 107;refine FD.mono ?_;rintro e1 w1 ⟨o1,k1,rfl,hb1,ho1⟩);go_ret;exact⟨o1,k1,rfl,hb1,ho1⟩
structure DE (E:Nat->Addr)(w:ag):Prop where
 c2:w.cell? (ak 0 0)=some (.iface 390 (.pointer (some (E 2))))
 c3:w.cell? (ak 3 0)=some (.iface 390 (.pointer (some (E 3))))
 c4:w.cell? (ak 4 0)=some (.iface 390 (.pointer (some (E 4))))
 c5:w.cell? (ak 6 0)=some (.iface 390 (.pointer (some (E 5))))
 c6:w.cell? (ak 9 0)=some (.iface 390 (.pointer (some (E 6))))
 c7:w.cell? (ak 2 0)=some (.iface 390 (.pointer (some (E 7))))
 c8:w.cell? (ak 7 0)=some (.iface 390 (.pointer (some (E 8))))
 c9:w.cell? (ak 5 0)=some (.iface 390 (.pointer (some (E 9))))
 c10:w.cell? (ak 8 0)=some (.iface 390 (.pointer (some (E 10))))
theorem DE.below {E:Nat->Addr}{w w':ag}{B:Nat}(h:DE E w)(hb:Below B w w')(hB:w.heap.size<=B):DE E w' where
 c2:=(hb.cell (Nat.lt_of_lt_of_le (az h.c2) hB)).trans h.c2
 c3:=(hb.cell (Nat.lt_of_lt_of_le (az h.c3) hB)).trans h.c3
 c4:=(hb.cell (Nat.lt_of_lt_of_le (az h.c4) hB)).trans h.c4
 c5:=(hb.cell (Nat.lt_of_lt_of_le (az h.c5) hB)).trans h.c5
 c6:=(hb.cell (Nat.lt_of_lt_of_le (az h.c6) hB)).trans h.c6
 c7:=(hb.cell (Nat.lt_of_lt_of_le (az h.c7) hB)).trans h.c7
 c8:=(hb.cell (Nat.lt_of_lt_of_le (az h.c8) hB)).trans h.c8
 c9:=(hb.cell (Nat.lt_of_lt_of_le (az h.c9) hB)).trans h.c9
 c10:=(hb.cell (Nat.lt_of_lt_of_le (az h.c10) hB)).trans h.c10
end
end Go.Proofs.YtjfiehbcamfdfaaGreatDoor

/-
  Parts of the proof.
-/
import Derived.Test.YtgphclgmmocdhaaGreatDoorQh14
namespace Go.Proofs.YtgphclgmmocdhaaGreatDoor
section
open Go.RowKit Go.Maps
set_option maxHeartbeats 4000000
set_option maxRecDepth 20000
theorem PMap.run_get {P:Program} {K T E:TypeId} {w:World} {B n c:Nat} {p:Int->Option Nat} (h:PMap P K w B p n c) (hK:P.underlying K=some (.int .i64)) (hT:P.underlying T=some (.map K E)) (hz:(zeroValue E).run P w=.ok (.pointer none) w) {k:Int} {b:Nat} (hk:(Lit.int .i64 k).wf=true) (hb:p k=some b) :
  (Instr.lookup T (.map (some B)) (.int .i64 k) false).run P w=.ok (.pointer (some ⟨b,0,none⟩)) w:=by
 obtain ⟨D,h1, -,h3⟩:=h
 obtain ⟨v,ps,hrun,hv⟩:=h1.lookup (zd:=.lit (.int .i64 (-1))) (int_keyed hK) hT hz (zp:=[]) rfl (keyOf_int_mk hK hk)
 rw [(h3 k).2 b hb] at hv
 rw [hrun,ptrE_inv hv]
abbrev woL (L:List Int) (n:Int):List Int:=L.filter (fun x => !decide (x=n))
theorem DocW.kids {B:Nat} {tg:Tags} {w w7:World} {DB MB:Nat} {p:Int->Option Nat} {M:Dm} {nx c EB:Nat} {i:Int} {e:Elm} {va vk v7:Value} {L:List Int} (h:DocW B tg w DB MB p M nx c) (hi:M i=some e) (hp:p i=some EB) (he:ElW B tg w i EB e va vk) (hL:∀ k ∈ L,Wf64 k)
  (ow7:w7.ownsRow B 3 1 v7 L.length (intsV L)) (gr7:w.grownBy w7 vk.ownBlock) (loc7:v7.ownBlock=vk.ownBlock\/∀ g,v7.ownBlock=some g->w.heap.size<=g) :
  DocW B (tagK tg i v7) (w7.setCell ⟨EB,3,none⟩ v7) DB MB p (putE M i ⟨e.name,e.ats,e.parent,L⟩) nx c/\(∀ x,x<w.heap.size->tagK tg i v7 x=tg x)/\KT tg w (w7.setCell ⟨EB,3,none⟩ v7):=by
 have hEB:=heap_lt he.cells
 have hz:=gr7.size
 have hset:=(Below.refl EB w7).setCell (p:=⟨EB,3,none⟩) Nat.le.refl v7
 have neE:vk.ownBlock≠some EB:=fun e1=>by have h1:=he.ktag EB e1;rw [he.tag] at h1;cases h1
 have ne7:v7.ownBlock≠some EB:=fun e1=>by
  rcases loc7 with h1 | h1
  ·exact neE (h1.symm.trans e1)
  ·have:=h1 EB e1;omega
 have old:∀ x,x<w.heap.size->vk.ownBlock≠some x->w7.heap[x]? = w.heap[x]? := fun x hx hne=>gr7.block x hx (fun e1=>hne e1.symm)
 have tk:∀ x,x<w.heap.size->tagK tg i v7 x=tg x:=fun x hx=>by
  unfold tagK
  split
  ·rename_i h1
   rcases loc7 with h2 | h2
   ·exact (he.ktag x (h2.symm.trans h1)).symm
   ·have:=h2 x h1;omega
  ·rfl
 have blk:∀ x,x<w.heap.size->x≠EB->vk.ownBlock≠some x->(w7.setCell ⟨EB,3,none⟩ v7).heap[x]? = w.heap[x]? := fun x hx h1 h2=>(Below.heap_setCell _ _ _ x h1).trans (old x hx h2)
 have hz8:w.heap.size<=(w7.setCell ⟨EB,3,none⟩ v7).heap.size:=by have:=hset.size;omega
 refine ⟨h.put hi hp (va:=va) (vk:=v7) ⟨?_,?_,?_,?_,?_,?_⟩ hz8 ⟨(h.wf i e hi).1,hL⟩ tk ?_ ?_ ?_,tk,⟨hset.os.trans gr7.os,hset.tape.trans gr7.tape,hset.output.trans gr7.output,hz8,fun x hx hn=>?_⟩⟩
 ·have h1:=(old EB hEB neE).trans he.cells
  rw [heap_setCell_same w7 EB 3 _ _ _ h1]
  rfl
 ·rw [tk EB hEB];exact he.tag
 ·exact own_same he.ats fun g hg=>blk g (he.ats.lt g hg).2 (fun e1=>by have h1:=he.atag g hg;rw [e1,he.tag] at h1;cases h1) (fun e1=>by have h1:=he.atag g hg;rw [he.ktag g e1] at h1;cases h1)
 ·intro g hg
  rw [tk g (he.ats.lt g hg).2];exact he.atag g hg
 ·exact own_same (w':=w7.setCell ⟨EB,3,none⟩ v7) ow7 fun g hg=>Below.heap_setCell _ _ _ g (fun e1=>ne7 (by rw [hg,e1]))
 ·intro g hg
  unfold tagK
  rw [if_pos hg]
 ·intro x t ht
  unfold tagK at ht
  split at ht
  ·rename_i h1
   have h2:=ow7.lt x h1
   have:=hset.size
   omega
  ·have:=h.low x t ht
   omega
 ·intro x hx
  unfold tagK
  split
  ·exact .inr (.inr (.inr rfl))
  ·exact .inl (h.new hx)
 ·intro x t ht h1 h2 h3
  exact blk x (h.low x t ht).2 (fun e1=>by rw [e1,he.tag] at ht;cases ht;exact h1 rfl) (fun e1=>by rw [he.ktag x e1] at ht;cases ht;exact h3 rfl)
 ·exact blk x hx (fun e1=>by rw [e1,he.tag] at hn;cases hn) (fun e1=>by rw [he.ktag x e1] at hn;cases hn)
theorem takeOut_doc {B:Nat} {tg:Tags} {W:World} {DB MB:Nat} {p:Int->Option Nat} {M:Dm} {nx c:Nat} (hd:DocW B tg W DB MB p M nx c) (n:Int) (e q:Elm) (hn:M n=some e) (hq:M e.parent=some q) (hk:q.kids≠[]) :
  Calls Tryz.prog 40 #[.pointer (some ⟨DB,0,none⟩),.int .i64 n] W fun r w'=>r=.returned (.tuple #[])/\KT tg W w'/\∃ tg',(∀ x,x<W.heap.size->tg' x=tg x)/\DocW B tg' w' DB MB p (putE M e.parent ⟨q.name,q.ats,q.parent,woL q.kids n⟩) nx c:=by
 have hwn:=hd.i64 hn
 have hwp:=(hd.wf n e hn).1
 obtain ⟨EB,va,vk,hpn,he⟩:=hd.els n e hn
 obtain ⟨QB,qa,qk,hpq,heq⟩:=hd.els e.parent q hq
 obtain ⟨oq,kq,rfl⟩:=own_slice heq.kids
 have b0:=mal W (.cells #[.int .i64 n] 3)
 have c0:=mnew W #[.int .i64 n] 3 0 _ rfl
 have tN:tg W.heap.size=none:=hd.new Nat.le.refl
 obtain ⟨V,hV⟩:∃ V,W.alloc (.cells #[.int .i64 n] 3)=V:=⟨_,rfl⟩
 rw [hV] at b0 c0
 have d1:=hd.below b0
 have he1:=he.turn (tg':=tg) (w':=V) fun g t ht _=>⟨ht,b0.block g (hd.low g t ht).2⟩
 have heq1:=heq.turn (tg':=tg) (w':=V) fun g t ht _=>⟨ht,b0.block g (hd.low g t ht).2⟩
 have x0:=d1.d0
 have x2:=he1.c2
 have y3:=heq1.c3
 have g1:=PMap.run_get (w:=V.drew) (T:=90) (d1.map.same rfl) Tryz.underlying3 Tryz.underlying90 (zeroEl _) hwn hpn
 have g2:=PMap.run_get (w:=V.drew) (T:=90) (d1.map.same rfl) Tryz.underlying3 Tryz.underlying90 (zeroEl _) hwp hpq
 obtain ⟨PN,hPN⟩:∃ PN,W.heap.size=PN:=⟨_,rfl⟩
 rw [hPN] at c0 tN
 have hne:(Value.slice oq q.kids.length kq).ownBlock≠some PN:=fun e1=>by have:=heq.ktag PN e1;rw [tN] at this;cases this
 have hQN:QB≠PN:=fun e1=>by have:=heq.tag;rw [e1,tN] at this;cases this
 have DF:=DelF (W:=V.drew) (n:=n) (PN:=PN) (own_same heq1.kids (fun _ _=>rfl)) hk c0 hne
 go_enter Tryz.func40,Tryz.ntmps40
 go_upto_region 1 with fail
 try rw [hV]
 try rw [hPN]
 clear hV hPN
 have HQ1:Hid (ElW B tg V.drew e.parent QB q qa (.slice oq q.kids.length kq)):=(heq1.turn fun g t ht _=>⟨ht,rfl⟩:ElW B tg V.drew e.parent QB q qa (.slice oq q.kids.length kq))
 have HD1:Hid (DocW B tg V.drew DB MB p M nx c):=(d1.turn (fun _ _ _=>rfl) Nat.le.refl:DocW B tg V.drew DB MB p M nx c)
 have neQ:some QB≠(Value.slice oq q.kids.length kq).ownBlock:=fun e1=>by have h1:=heq.ktag QB e1.symm;rw [heq.tag] at h1;cases h1
 have lQ:QB<V.heap.size:=heap_lt heq1.cells
 have cQ:V.drew.heap[QB]? = some (.cells #[.string ⟨q.name.toArray⟩,qa,.int .i64 q.parent,.slice oq q.kids.length kq] 97):=heq1.cells
 go_region
 go_wp2_with (go_at_call 72;refine DF.mono ?_;rintro r w5 ⟨o5,k5,rfl,ow5,lb5,gr5⟩;have e5:=(gr5.block QB lQ neQ).trans cQ;have c5:=bcell e5 3 _ rfl;have f5:=froz_at e5)
 obtain ⟨r1,r2,r3⟩:=HD1.out.kids hq hpq HQ1.out (fun k hk=>(hd.wf e.parent q hq).2 k (List.mem_filter.1 hk).1) ow5 gr5 (.inl lb5)
 refine bodyPost_end (results_none rfl _ _ _) rfl ⟨rfl,?_,_,fun x hx=>?_,r1⟩
 ·exact KT.trans (KT.of_below b0) (tg':=tg) (⟨r3.os,r3.tape,r3.output,r3.size,r3.block⟩) (fun _ _=>rfl)
 ·exact r2 x (Nat.lt_of_lt_of_le hx b0.size)
def cutE (M:Dm) (l:List Int):Dm:=fun i=>if i ∈ l then none else M i
theorem cutE_snoc (M:Dm) (l:List Int) (k:Int):cutE M (l++[k])=delE (cutE M l) k:=by
 funext i
 unfold cutE delE
 by_cases h1:i=k
 ·subst h1;simp
 ·by_cases h2:i ∈ l <;> simp [h1,h2]
theorem DocW.cut {B:Nat} {tg:Tags} {w w':World} {DB MB:Nat} {p:Int->Option Nat} {M:Dm} {nx c:Nat} {k:Int} (h:DocW B tg w DB MB p M nx c) (hm:PMap Tryz.prog 3 w' MB (fun i=>if i=k then none else p i) nx (c - 1)) (ht:w.mapTurned w' MB):DocW B tg w' DB MB (fun i=>if i=k then none else p i) (delE M k) nx (c - 1) where
 doc:=(ht.grown.block DB (heap_lt h.doc) (fun e=>h.ne (Option.some.inj e).symm)).trans h.doc
 dtag:=h.dtag
 map:=hm
 mtag:=h.mtag
 els:=fun i e he=>by
  unfold delE at he
  by_cases hi:i=k
  ·rw [if_pos hi] at he;cases he
  ·rw [if_neg hi] at he
   obtain ⟨b,va,vk,h1,h2⟩:=h.els i e he
   refine ⟨b,va,vk,by simp only [if_neg hi];exact h1,h2.turn fun g t hg hk=>⟨hg,ht.grown.block g (h.low g t hg).2 (fun e1=>?_)⟩⟩
   have e2:=Option.some.inj e1
   rw [e2,h.mtag] at hg
   cases hg
   rcases hk with hk | hk | hk <;> cases hk
 non:=fun i hi=>by
  unfold delE at hi
  by_cases hj:i=k
  ·simp only [if_pos hj]
  ·rw [if_neg hj] at hi
   simp only [if_neg hj]
   exact h.non i hi
 low:=fun b t hb=>⟨(h.low b t hb).1,Nat.lt_of_lt_of_le (h.low b t hb).2 ht.grown.size⟩
 dom:=fun i e he=>by
  unfold delE at he
  split at he
  ·cases he
  ·exact h.dom i e he
 wf:=fun i e he=>by
  unfold delE at he
  split at he
  ·cases he
  ·exact h.wf i e he
 few:=h.few
 tnx:=h.tnx
end
section
open Go.RowKit
set_option maxHeartbeats 2000000
theorem intsV_one (l:List Int):∀ u ∈ intsV l,u.oneCell'=true:=fun u hu=>by
  unfold intsV at hu
  obtain ⟨k,_,rfl⟩:=List.mem_map.1 hu
  rfl
theorem CloneI {B:Nat} (w:World) (v:Value) (L:List Int) (h:w.ownsRow B 3 1 v L.length (intsV L)) (hl:L.length<=1000000) :
    Calls Tryz.prog 102 #[v] w fun e w'=>∃ o k,e=.returned (.slice o L.length k)/\w'.ownsRow w.heap.size 3 1 (.slice o L.length k) L.length (intsV L)/\Below w.heap.size w w':=by
  have q22:∀ (w:World) (a:Option Addr) (n c n' c':Nat),(binOp .eql 72 (.slice a n c) (.slice none n' c')).run Tryz.prog w=.ok (.bool a.isNone) w:=fun w a n c n' c'=>Lib.run_eql_slice_nil w _ _ a n c n' c' Tryz.underlying72
  obtain ⟨i0,hi,hz0,hz1,hz2⟩:=info_parts intInfo
  have HN0:∀ g cap,v=.slice (some ⟨g,0,none⟩) L.length cap->∀ j u,(intsV L)[j]? = some u->w.cell? ((⟨g,0,none⟩:Addr).add j)=some u:=fun g cap hv j u hu=>by
    obtain ⟨g',hg,hc⟩:=row_get h j u hu
    rw [hv] at hg
    have hadd:(⟨g,0,none⟩:Addr).add j=⟨g,0+j,none⟩:=by unfold Addr.add;split <;> simp_all
    cases hg
    rw [hadd,Nat.zero_add]
    exact hc
  rcases h.2 with ⟨rfl,hn⟩ | ⟨g,cap,cur,rfl,_,_,h1,h2,_,_⟩
  · have hz:L=[]:=List.length_eq_zero_iff.1 hn
    subst hz
    go_enter Tryz.func102,Tryz.ntmps102
    go_wp2_with fail
    go_ret
    exact ⟨none,0,rfl,World.ownsRow_nil _ _ _ _,Below.refl _ _⟩
  · have HN:Hid (∀ j u,(intsV L)[j]? = some u->w.cell? ((⟨g,0,none⟩:Addr).add j)=some u):=HN0 g cap rfl
    have HO:Hid (∀ u ∈ intsV L,u.oneCell'=true):=intsV_one L
    clear HN0
    go_enter Tryz.func102,Tryz.ntmps102
    go_wp2_with (at_builtin;refine wpList_append_own _ rfl _ _ 72 rfl w.heap.size 3 i0 (.int .i64 0) 1 8 Tryz.underlying72 hi hz0 hz1 hz2 rfl (by decide) _ _ _ rfl (World.ownsRow_made w #[] 0 Nat.le.refl (Nat.zero_le _) (by simp)) ⟨g,0,none⟩ L.length cap (intsV L) rfl (by rw [intsV_len,Nat.mul_one]) (fun j u hj=>mcell_al _ (HN.out j u hj)) HO.out (by rw [maxLen_eq];omega) (by omega) (by simp) ?_;intro v7 w7 ow7 gr7 _;obtain ⟨o7,cap7,rfl⟩:=own_slice ow7)
    go_ret
    rw [Nat.zero_add,List.nil_append] at ow7
    exact ⟨o7,cap7,rfl,ow7,((Below.refl _ w).alloc Nat.le.refl _).grown gr7 (by simp) (fun k hk=>by have hk':some w.heap.size=some k:=hk;cases hk';exact Nat.le_refl _)⟩
def kidsD (M:Dm) (n:Int):List Int:=match M n with | none=>[] | some e=>e.kids
theorem Kids_doc {B:Nat} {tg:Tags} {w:World} {DB MB:Nat} {p:Int->Option Nat} {M:Dm} {nx c:Nat} (h:DocW B tg w DB MB p M nx c) (n:Int) (hn:Wf64 n) (hl:(kidsD M n).length<=1000000) :
    Calls Tryz.prog 170 #[.pointer (some ⟨DB,0,none⟩),.int .i64 n] w fun r w'=>∃ o k,r=.returned (.slice o (kidsD M n).length k)/\w'.ownsRow w.heap.size 3 1 (.slice o (kidsD M n).length k) (kidsD M n).length (intsV (kidsD M n))/\Below w.heap.size w w':=by
  have d0:=h.d0
  unfold kidsD at hl ⊢
  cases hm:M n with
  | none=>
    have hp:=h.non n hm
    go_enter Tryz.func170,Tryz.ntmps170
    go_wp2_with (at_lookup;refine look_no _ rfl _ _ 90 rfl Tryz.underlying3 Tryz.underlying90 (zeroEl _) rfl h.map n rfl hn hp ?_)
    go_ret
    exact ⟨none,0,rfl,World.ownsRow_nil _ _ _ _,Below.refl _ _⟩
  | some e=>
    rw [hm] at hl
    obtain ⟨b,va,vk,hp,he⟩:=h.els n e hm
    have x0:=he.c3
    obtain ⟨ok,kk,rfl⟩:=own_slice he.kids
    have CL:=CloneI w _ e.kids he.kids hl
    go_enter Tryz.func170,Tryz.ntmps170
    go_wp2_with (first | (at_lookup;refine look_yes _ rfl _ _ 90 rfl Tryz.underlying3 Tryz.underlying90 (zeroEl _) rfl h.map n rfl hn b hp ?_) | (go_at_call 102;refine CL.mono ?_;rintro e1 w1 ⟨o1,k1,rfl,ho1,hb1⟩))
    go_ret
    exact ⟨o1,k1,rfl,ho1,hb1⟩
theorem All_doc {B:Nat} {tg:Tags} {W:World} {DB MB:Nat} {p:Int->Option Nat} {M:Dm} {nx c:Nat} (hd:DocW B tg W DB MB p M nx c) (f:Nat) (hf:f<=900000) (hp:Dp M f 0) (hl:(fromL M f 0).length<=1000000) :
    Calls Tryz.prog 219 #[.pointer (some ⟨DB,0,none⟩)] W fun e w'=>∃ o k,e=.returned (.slice o (fromL M f 0).length k)/\Below W.heap.size W w'/\w'.ownsRow (W.heap.size+1) 3 1 (.slice o (fromL M f 0).length k) (fromL M f 0).length (intsV (fromL M f 0)):=by
  have FD:=from_doc hd f 0 hf hp (by decide) hl
  go_enter Tryz.func219,Tryz.ntmps219
  go_wp2_with (go_at_call 41;refine FD.mono ?_;rintro e1 w1 ⟨o1,k1,rfl,hb1,ho1⟩)
  go_ret
  exact ⟨o1,k1,rfl,hb1,ho1⟩
end
end Go.Proofs.YtgphclgmmocdhaaGreatDoor

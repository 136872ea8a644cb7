/-
  Parts of the proof.
-/
import Derived.Test.YtjfiehbcamfdfaaGreatDoorQy6
import Derived.Test.YtjfiehbcamfdfaaGreatDoorQy12
namespace Go.Proofs.YtjfiehbcamfdfaaGreatDoor
open Go.Proofs.Tryz
section
open Go.RowKit Go.Maps
def rZ:Value->Option (DataW Unit×List MemPlace)
 | .pointer none=>some (.lit (.int .i64 (-1)),[])
 | .pointer (some a)=>if a=⟨a.block,0,none⟩ then some (.lit (.int .i64 (a.block:Int)),[]) else none
 |_=>none
theorem Ee (b:Nat):rZ (aj b)=some (.lit (.int .i64 b),[]):=by simp[rZ]
theorem a3V (a:Addr):rZ (.pointer (some a))=if a=⟨a.block,0,none⟩ then some (.lit (.int .i64 (a.block:Int)),[]) else none:=rfl
theorem Jh {v:Value}{b:Nat}{ps:List MemPlace}(h:rZ v=some (.lit (.int .i64 b),ps)):v=aj b:=by
 cases v<;>try cases h
 rename_i o;cases o with
 |none=>simp[rZ] at h
 |some a=>
  rw[a3V] at h;by_cases e:a=⟨a.block,0,none⟩
  ·rw[if_pos e] at h;simp at h;rw[e,show a.block=b from by omega]
  ·rw[if_neg e] at h;cases h
theorem QL {v:Value}{ps:List MemPlace}(h:rZ v=some (.lit (.int .i64 (-1)),ps)):v=.pointer none:=by
 cases v<;>try cases h
 rename_i o;cases o with
 |none=>rfl
 |some a=>
  rw[a3V] at h;by_cases e:a=⟨a.block,0,none⟩
  ·rw[if_pos e] at h;simp at h
  ·rw[if_neg e] at h;cases h
theorem yY (i:Int):WideAt.IsKeyLit (.int .i64 i):=by simp[WideAt.IsKeyLit]
def iA (P:Program)(K:TypeId)(w:World)(B:Nat)(p:Int->Option Nat)(n c:Nat):Prop:=
 ∃D:DataW Unit,w.ownsMap P K rZ B n D/\Maps.size D=c/\∀k:Int,Maps.has D (.int .i64 k)=(p k).isSome/\∀b,p k=some b->∀zd,D.atKey (.int .i64 k) zd=.lit (.int .i64 b)
section
variable {P:Program}{K T E:TypeId}{w:World}{B n c:Nat}{p:Int->Option Nat}
theorem iA.made (w:World)(P:Program)(K:TypeId):iA P K (w.alloc (.map #[] 0)) w.heap.size (fun _=>none) 0 0:=
 ⟨.map [],World.ownsMap_made w P K rZ,rfl,fun _=>⟨rfl,fun _ h=>by cases h⟩⟩
theorem iA.kept {w':World}{row:Option Nat}(h:iA P K w B p n c)(hg:w.grownBy w' row)(hne:some B≠row):iA P K w' B p n c:=by
 obtain⟨D,h1,h2⟩:=h;exact⟨D,h1.kept hg hne,h2⟩
theorem iA.lt (h:iA P K w B p n c):B<w.heap.size:=by
 obtain⟨D,h1, -⟩:=h;exact h1.lt
theorem iA.same {w':World}(h:iA P K w B p n c)(hb:w'.heap[B]? =w.heap[B]?):iA P K w' B p n c:=by
 obtain⟨D,⟨es,cl,h1,h2⟩,h3⟩:=h;exact⟨D,⟨es,cl,hb.trans h1,h2⟩,h3⟩
theorem iA.size_le (h:iA P K w B p n c):c<=n:=by
 obtain⟨D,h1,rfl, -⟩:=h;exact h1.size_le
theorem iA.mono (h:iA P K w B p n c){n':Nat}(hn:n<=n'):iA P K w B p n' c:=by
 obtain⟨D,h1,h2⟩:=h;exact⟨D,h1.mono hn,h2⟩
variable (w){ops:Array Oper}{rest:List Oper}{o:Oper}{a:Act}{Q:Exit->Act->World->Prop}
theorem eY (hg:o.guard=none)(m x:Operand)(t:TypeId)(hop:o.op=Op.lookup t m x true)(hK:P.underlying K=some (.int .i64))(hT:P.underlying t=some (.map K E))(hz:(zeroValue E).run P w=.ok (.pointer none) w)
  (hm:a.eval m=.map (some B)) (h:iA P K w B p n c) (k:Int) (hx:a.eval x=.int .i64 k) (hk:(Lit.int .i64 k).wf=true) (b:Nat) (hb:p k=some b)
  (hQ:wpList P ops Q rest (a.put o.dst (.tuple #[aj b,.bool true])) w):wpList P ops Q (o::rest) a w:=by
 obtain⟨D,h1, -,h3⟩:=h;refine wpList_lookup_own_ok w hg m x t hop K E (int_keyed hK) hT rZ hz (.lit (.int .i64 (-1))) [] rfl B n D hm h1 _ (.int .i64 k) hx (keyOf_int_mk hK hk) fun v ps hv=>?_;rw[(h3 k).2 b hb] at hv;rw[Jh hv,(h3 k).1,hb];exact hQ
theorem lY (hg:o.guard=none)(m x:Operand)(t:TypeId)(hop:o.op=Op.lookup t m x true)(hK:P.underlying K=some (.int .i64))(hT:P.underlying t=some (.map K E))(hz:(zeroValue E).run P w=.ok (.pointer none) w)
  (hm:a.eval m=.map (some B)) (h:iA P K w B p n c) (k:Int) (hx:a.eval x=.int .i64 k) (hk:(Lit.int .i64 k).wf=true) (hb:p k=none)
  (hQ:wpList P ops Q rest (a.put o.dst (.tuple #[.pointer none,.bool false])) w):wpList P ops Q (o::rest) a w:=by
 obtain⟨D,h1, -,h3⟩:=h;refine wpList_lookup_own_ok w hg m x t hop K E (int_keyed hK) hT rZ hz (.lit (.int .i64 (-1))) [] rfl B n D hm h1 _ (.int .i64 k) hx (keyOf_int_mk hK hk) fun v ps hv=>?_;have hh:Maps.has D (.int .i64 k)=false:=by rw[(h3 k).1,hb];rfl
 rw[atKey_of_not_has hh] at hv;rw[QL hv,hh];exact hQ
theorem a2R (hg:o.guard=none)(m x:Operand)(t:TypeId)(hop:o.op=Op.lookup t m x false)(hK:P.underlying K=some (.int .i64))(hT:P.underlying t=some (.map K E))(hz:(zeroValue E).run P w=.ok (.pointer none) w)
  (hm:a.eval m=.map (some B)) (h:iA P K w B p n c) (k:Int) (hx:a.eval x=.int .i64 k) (hk:(Lit.int .i64 k).wf=true)
  (hQ:wpList P ops Q rest (a.put o.dst (.pointer ((p k).map fun b=>⟨b,0,none⟩))) w):wpList P ops Q (o::rest) a w:=by
 obtain⟨D,h1, -,h3⟩:=h;refine wpList_plain hg fun K' hK'=>?_;obtain⟨v,ps,hrun,hv⟩:=h1.lookup (zd:=.lit (.int .i64 (-1))) (int_keyed hK) hT hz (zp:=[]) rfl (keyOf_int_mk hK hk);unfold Oper.wp;simp[execOp,hop,hm,hx,hrun,Result.andThen];have e:v=.pointer ((p k).map fun b=>⟨b,0,none⟩):=by
  cases hb:p k with
  |none=>
   have hh:Maps.has D (.int .i64 k)=false:=by rw[(h3 k).1,hb];rfl
   rw[atKey_of_not_has hh] at hv;exact QL hv
  |some b=>
   rw[(h3 k).2 b hb] at hv;exact Jh hv
 rw[e];exact hK' _ _ hQ
theorem a1A (hg:o.guard=none)(m x:Operand)(t:TypeId)(hop:o.op=Op.lookup t m x false)(hK:P.underlying K=some (.int .i64))(hT:P.underlying t=some (.map K E))(hz:(zeroValue E).run P w=.ok (.pointer none) w)
  (hm:a.eval m=.map (some B)) (h:iA P K w B p n c) (k:Int) (hx:a.eval x=.int .i64 k) (hk:(Lit.int .i64 k).wf=true) (b:Nat) (hb:p k=some b)
  (hQ:wpList P ops Q rest (a.put o.dst (aj b)) w):wpList P ops Q (o::rest) a w:=
 a2R w hg m x t hop hK hT hz hm h k hx hk (by rw[hb];exact hQ)
theorem QM (hg:o.guard=none)(m x v:Operand)(t:TypeId)(hop:o.op=Op.mapUpdate t m x v)(hK:P.underlying K=some (.int .i64))(hT:P.underlying t=some (.map K E))
  (hm:a.eval m=.map (some B)) (h:iA P K w B p n c) (hn:n<maxLen) (k:Int) (hx:a.eval x=.int .i64 k) (hk:(Lit.int .i64 k).wf=true) (b:Nat) (hv:a.eval v=aj b) (hb:p k=none)
  (hQ:∀w',iA P K w' B (fun i=>if i=k then some b else p i) (n+1) (c+1)->w.mapTurned w' B->wpList P ops Q rest (a.put o.dst undef) w'):wpList P ops Q (o::rest) a w:=by
 obtain⟨D,h1,h2,h3⟩:=h;refine wpList_mapUpdate_in w hg m x v t hop K E (int_keyed hK) hT rZ B n D hm h1 hn _ _ (.int .i64 k) hx hv (keyOf_int_mk hK hk) (.lit (.int .i64 b)) [] (Ee b) fun w' hw ht=>hQ w' ⟨_,hw,?_,fun i=>?_⟩ ht
 ·have hh:Maps.has D (.int .i64 k)=false:=by rw[(h3 k).1,hb];rfl
  rw[size_put (h1.tidy (int_keyed hK)),hh,h2];rfl
 ·by_cases hi:i=k
  ·subst hi;simp only[if_pos];exact⟨has_put_same h1.isMap (yY i) _,fun b' hb' zd=>by cases hb';exact atKey_put_same h1.isMap (yY i) _ _⟩
  ·simp only[if_neg hi];have hne:(Lit.int .i64 i)≠(Lit.int .i64 k):=fun e=>hi (by cases e;rfl);exact⟨(has_put_other hne _).trans (h3 i).1,fun b' hb' zd=>(atKey_put_other hne _ _).trans ((h3 i).2 b' hb' zd)⟩
theorem a5a (hg:o.guard=none)(m x:Operand)(t k':TypeId)(hop:o.op=Op.call {callee:=Callee.builtin Builtin.delete,args:=#[m,x],argTypes:=#[t,k']})(hK:P.underlying k'=some (.int .i64))(hT:P.underlying t=some (.map k' E))
  (hm:a.eval m=.map (some B)) (h:iA P k' w B p n c) (k:Int) (hx:a.eval x=.int .i64 k) (hk:(Lit.int .i64 k).wf=true) (b:Nat) (hb:p k=some b)
  (hQ:∀w',iA P k' w' B (fun i=>if i=k then none else p i) n (c-1)->w.mapTurned w' B->wpList P ops Q rest (a.put o.dst (.tuple #[])) w'):wpList P ops Q (o::rest) a w:=by
 obtain⟨D,h1,h2,h3⟩:=h;refine wpList_delete_own w hg m x t k' hop E (int_keyed hK) hT rZ B n D hm h1 _ (.int .i64 k) hx (keyOf_int_mk hK hk) fun w' hw ht=>hQ w' ⟨_,hw,?_,fun i=>?_⟩ ht
 ·have hh:Maps.has D (.int .i64 k)=true:=by rw[(h3 k).1,hb];rfl
  have:=size_del (k:=.int .i64 k) (h1.tidy (int_keyed hK));rw[hh,h2] at this;simp at this;omega
 ·by_cases hi:i=k
  ·subst hi;simp only[if_pos];exact⟨has_del_same,fun b' hb'=>by cases hb'⟩
  ·simp only[if_neg hi];have hne:(Lit.int .i64 i)≠(Lit.int .i64 k):=fun e=>hi (by cases e;rfl);exact⟨(has_del_other hne).trans (h3 i).1,fun b' hb' zd=>(atKey_del_other hne _).trans ((h3 i).2 b' hb' zd)⟩
theorem a5Q (hg:o.guard=none)(m:Operand)(t:TypeId)(hop:o.op=Op.call {callee:=Callee.builtin Builtin.len,args:=#[m],argTypes:=#[t]})(hT:P.underlying t=some (.map K E))
  (hm:a.eval m=.map (some B)) (h:iA P K w B p n c) (hQ:wpList P ops Q rest (a.put o.dst (.int .i64 c)) w):wpList P ops Q (o::rest) a w:=by
 obtain⟨D,h1,rfl, -⟩:=h;exact wpList_len_own w hg m t hop K E hT rZ B n D hm h1 hQ
end
end
section
open Go.RowKit
inductive Tg where
 |doc
 |map
 |el (i:Int)
 |ats (i:Int)
 |kids (i:Int)
abbrev kE:=Nat->Option Tg
def bY (l:List Int):List Value:=l.map (Value.int .i64)
theorem Ef (a b:List Int):bY (a++b)=bY a++bY b:=List.map_append
theorem QN (l:List Int):(bY l).length=l.length:=List.length_map ..
theorem wW {l:List Int}{j:Nat}{k:Int}(h:l[j]? =some k):(bY l)[j]? =some (aa k):=by
 unfold bY;rw[List.getElem?_map,h];rfl
abbrev dH (k:Int):Prop:=(Lit.int .i64 k).wf=true
structure yf (B:Nat)(tg:kE)(w:World)(i:Int)(b:Nat)(e:iy)(va vk:Value):Prop where
 cells:w.heap[b]? =some (.cells #[.string ⟨e.name.toArray⟩,va,aa e.parent,vk] 90)
 tag:tg b=some (.el i)
 ats:w.ownsRow B 65 2 va e.ats.length (aF e.ats)
 lI:∀g,va.ownBlock=some g->tg g=some (.ats i)
 kids:w.ownsRow B 3 1 vk e.kids.length (bY e.kids)
 jX:∀g,vk.ownBlock=some g->tg g=some (.kids i)
theorem yf.turn {B:Nat}{tg uF:kE}{w w':World}{i:Int}{b:Nat}{e:iy}{va vk:Value}(h:yf B tg w i b e va vk)(hs:∀g t,tg g=some t->(t=.el i\/t=.ats i\/t=.kids i)->uF g=some t/\w'.heap[g]? =w.heap[g]?):yf B uF w' i b e va vk where
 cells:=((hs b _ h.tag (.inl rfl)).2).trans h.cells
 tag:=(hs b _ h.tag (.inl rfl)).1
 ats:=bS h.ats fun g hg=>(hs g _ (h.lI g hg) (.inr (.inl rfl))).2
 lI:=fun g hg=>(hs g _ (h.lI g hg) (.inr (.inl rfl))).1
 kids:=bS h.kids fun g hg=>(hs g _ (h.jX g hg) (.inr (.inr rfl))).2
 jX:=fun g hg=>(hs g _ (h.jX g hg) (.inr (.inr rfl))).1
theorem yf.c0 {B:Nat}{tg:kE}{w:World}{i:Int}{b:Nat}{e:iy}{va vk:Value}(h:yf B tg w i b e va vk):w.cell? (ag b 0)=some (.string ⟨e.name.toArray⟩):=aA h.cells 0 _ rfl
theorem yf.c1 {B:Nat}{tg:kE}{w:World}{i:Int}{b:Nat}{e:iy}{va vk:Value}(h:yf B tg w i b e va vk):w.cell? (ag b 1)=some va:=aA h.cells 1 _ rfl
theorem yf.c2 {B:Nat}{tg:kE}{w:World}{i:Int}{b:Nat}{e:iy}{va vk:Value}(h:yf B tg w i b e va vk):w.cell? (ag b 2)=some (aa e.parent):=aA h.cells 2 _ rfl
theorem yf.c3 {B:Nat}{tg:kE}{w:World}{i:Int}{b:Nat}{e:iy}{va vk:Value}(h:yf B tg w i b e va vk):w.cell? (ag b 3)=some vk:=aA h.cells 3 _ rfl
theorem dF {w:World}{b:Nat}{cs:Array Value}{t:TypeId}(h:w.heap[b]? =some (.cells cs t))(i:Nat):w.frozen? ⟨b,i,none⟩=false:=by
 unfold World.frozen?;rw[h];simp
structure bG (B:Nat)(tg:kE)(w:World)(DB MB:Nat)(p:Int->Option Nat)(M:Dm)(nx c:Nat):Prop where
 doc:w.heap[DB]? =some (.cells #[.map (some MB),aa nx] 85)
 jP:tg DB=some .doc
 map:iA prog 3 w MB p nx c
 kF:tg MB=some .map
 els:∀i e,M i=some e->∃b va vk,p i=some b/\yf B tg w i b e va vk
 non:∀i,M i=none->p i=none
 low:∀b t,tg b=some t->B<=b/\b<w.heap.size
 dom:∀i e,M i=some e->0<=i/\i<nx
 wf:∀i e,M i=some e->dH e.parent/\∀k∈e.kids,dH k
 few:nx<=1000000
 Tu:∀b i,tg b=some (.el i)\/tg b=some (.ats i)\/tg b=some (.kids i)->i<nx
structure K2 (r n:Nat)(W w:World):Prop where
 os:w.os=W.os
 tape:w.tape=W.tape
 output:w.output=W.output
 size:W.heap.size<=w.heap.size
 block:∀k,k<W.heap.size->k≠r->k≠n->w.heap[k]? =W.heap[k]?
theorem K2.trans {r n:Nat}{A B C:World}(h:K2 r n A B)(k:K2 r n B C):K2 r n A C:=
 ⟨k.os.trans h.os,k.tape.trans h.tape,k.output.trans h.output,Nat.le_trans h.size k.size,fun i hi h1 h2=>(k.block i (Nat.lt_of_lt_of_le hi h.size) h1 h2).trans (h.block i hi h1 h2)⟩
theorem K2.of_below {r n:Nat}{A B:World}(h:Below A.heap.size A B):K2 r n A B:=⟨h.os,h.tape,h.output,h.size,fun i hi _ _=>h.block i hi⟩
theorem K2.below {r n m:Nat}{A B:World}(h:K2 r n A B)(h1:m<=r)(h2:m<=n)(hm:m<=A.heap.size):Below m A B:=⟨h.os,h.tape,h.output,h.size,fun i hi=>h.block i (by omega) (by omega) (by omega)⟩
theorem K2.cell {r n:Nat}{A B:World}(h:K2 r n A B){b i:Nat}{v:Value}(hc:A.cell? (ag b i)=some v)(h1:b≠r)(h2:b≠n):B.cell? (ag b i)=some v:=by
 rw[World.cell?_of_block (h.block b (ax hc) h1 h2)];exact hc
structure KT (tg:kE)(w w':World):Prop where
 os:w'.os=w.os
 tape:w'.tape=w.tape
 output:w'.output=w.output
 size:w.heap.size<=w'.heap.size
 block:∀b,b<w.heap.size->tg b=none->w'.heap[b]? =w.heap[b]?
theorem KT.of_below {tg:kE}{w w':World}(h:Below w.heap.size w w'):KT tg w w':=⟨h.os,h.tape,h.output,h.size,fun b hb _=>h.block b hb⟩
theorem KT.trans {tg uF:kE}{w w' w'':World}(h:KT tg w w')(k:KT uF w' w'')(hg:∀b,b<w.heap.size->uF b=tg b):KT tg w w'':=
 ⟨k.os.trans h.os,k.tape.trans h.tape,k.output.trans h.output,Nat.le_trans h.size k.size,fun b hb hn=>(k.block b (Nat.lt_of_lt_of_le hb h.size) ((hg b hb).trans hn)).trans (h.block b hb hn)⟩
theorem KT.below {B:Nat}{tg:kE}{w w':World}(h:KT tg w w')(hl:∀b t,tg b=some t->B<=b)(hB:B<=w.heap.size):Below B w w':=
 ⟨h.os,h.tape,h.output,h.size,fun b hb=>h.block b (Nat.lt_of_lt_of_le hb hB) (by
  cases ht:tg b with
  |none=>rfl
  |some t=>have:=hl b t ht;omega)⟩
section
variable {B:Nat}{tg uF:kE}{w w':World}{DB MB:Nat}{p:Int->Option Nat}{M:Dm}{nx c:Nat}
theorem bG.turn (h:bG B tg w DB MB p M nx c)(hs:∀g t,tg g=some t->w'.heap[g]? =w.heap[g]?)(hz:w.heap.size<=w'.heap.size):bG B tg w' DB MB p M nx c where
 doc:=(hs DB _ h.jP).trans h.doc
 jP:=h.jP
 map:=h.map.same (hs MB _ h.kF)
 kF:=h.kF
 els:=fun i e he=>by
  obtain⟨b,va,vk,h1,h2⟩:=h.els i e he;exact⟨b,va,vk,h1,h2.turn fun g t ht _=>⟨ht,hs g t ht⟩⟩
 non:=h.non
 low:=fun b t ht=>⟨(h.low b t ht).1,Nat.lt_of_lt_of_le (h.low b t ht).2 hz⟩
 dom:=h.dom
 wf:=h.wf
 few:=h.few
 Tu:=h.Tu
theorem bG.below (h:bG B tg w DB MB p M nx c)(hb:Below w.heap.size w w'):bG B tg w' DB MB p M nx c:=
 h.turn (fun g t ht=>hb.block g (h.low g t ht).2) hb.size
theorem bG.d0 (h:bG B tg w DB MB p M nx c):w.cell? (ag DB 0)=some (.map (some MB)):=aA h.doc 0 _ rfl
theorem bG.d1 (h:bG B tg w DB MB p M nx c):w.cell? (ag DB 1)=some (aa nx):=aA h.doc 1 _ rfl
theorem bG.i64 (h:bG B tg w DB MB p M nx c){i:Int}{e:iy}(he:M i=some e):dH i:=by
 have:=h.dom i e he;have:=h.few;exact WalkArith.wf_i64 (by omega)
theorem bG.new (h:bG B tg w DB MB p M nx c){b:Nat}(hb:w.heap.size<=b):tg b=none:=by
 cases ht:tg b with
 |none=>rfl
 |some t=>have:=(h.low b t ht).2;omega
theorem bG.put (h:bG B tg w DB MB p M nx c){i:Int}{e e':iy}{b:Nat}{va vk:Value}(hi:M i=some e)(hb:p i=some b)(he:yf B uF w' i b e' va vk)(_hz:w.heap.size<=w'.heap.size)(hw:dH e'.parent/\∀k∈e'.kids,dH k)
  (hg:∀x,x<w.heap.size->uF x=tg x) (hl:∀x t,uF x=some t->B<=x/\x<w'.heap.size) (ht:∀x,w.heap.size<=x->uF x=none\/uF x=some (.el i)\/uF x=some (.ats i)\/uF x=some (.kids i)) (hs:∀x t,tg x=some t->t≠.el i->t≠.ats i->t≠.kids i->w'.heap[x]? =w.heap[x]?):bG B uF w' DB MB p (gH M i e') nx c where
 doc:=(hs DB _ h.jP (by simp) (by simp) (by simp)).trans h.doc
 jP:=(hg DB (h.low _ _ h.jP).2).trans h.jP
 map:=h.map.same (hs MB _ h.kF (by simp) (by simp) (by simp))
 kF:=(hg MB (h.low _ _ h.kF).2).trans h.kF
 els:=fun j f hf=>by
  unfold gH at hf;split at hf
  ·rename_i hj;subst hj;cases hf;exact⟨b,va,vk,hb,he⟩
  ·rename_i hj;obtain⟨b',va',vk',h1,h2⟩:=h.els j f hf;refine⟨b',va',vk',h1,h2.turn fun g t ht hk=>⟨(hg g (h.low g t ht).2).trans ht,hs g t ht ?_ ?_ ?_⟩⟩
   all_goals rcases hk with rfl|rfl|rfl<;>simp[hj]
 non:=fun j hj=>by
  unfold gH at hj;split at hj
  ·cases hj
  ·exact h.non j hj
 low:=hl
 dom:=fun j f hf=>by
  unfold gH at hf;split at hf
  ·rename_i hj;subst hj;exact h.dom _ e hi
  ·exact h.dom j f hf
 wf:=fun j f hf=>by
  unfold gH at hf;split at hf
  ·cases hf;exact hw
  ·exact h.wf j f hf
 few:=h.few
 Tu:=fun x j hj=>by
  by_cases hx:x<w.heap.size
  ·rw[hg x hx] at hj;exact h.Tu x j hj
  ·have hij:j=i:=by
    rcases ht x (by omega) with h1|h1|h1|h1<;>rw[h1] at hj<;>simp at hj<;>exact hj.symm
   rw[hij];exact(h.dom i e hi).2
theorem KT.aaI (h:bG B tg w DB MB p M nx c)(k:K2 DB MB w w'):KT tg w w':=
 ⟨k.os,k.tape,k.output,k.size,fun b hb hn=>k.block b hb (fun e=>by rw[e,h.jP] at hn;cases hn) (fun e=>by rw[e,h.kF] at hn;cases hn)⟩
end
end
section
open Go.RowKit
set_option maxHeartbeats 2000000
theorem eG (w:World):(zeroValue 86).run prog w=.ok (.pointer none) w:=by kernel_rfl
structure Vd (B:Nat)(tg:kE)(w:World)(b:Nat)(e:iy)(va vk:Value):Prop where
 cells:w.heap[b]? =some (.cells #[.string ⟨e.name.toArray⟩,va,aa e.parent,vk] 90)
 low:B<=b
 tag:tg b=none
 ats:w.ownsRow B 65 2 va e.ats.length (aF e.ats)
 lI:∀g,va.ownBlock=some g->tg g=none/\g≠b
 kids:w.ownsRow B 3 1 vk e.kids.length (bY e.kids)
 jX:∀g,vk.ownBlock=some g->tg g=none/\g≠b/\va.ownBlock≠some g
def lJ (tg:kE)(i:Int)(b:Nat)(va vk:Value):kE:=fun x=>if x=b then some (.el i) else if va.ownBlock=some x then some (.ats i) else if vk.ownBlock=some x then some (.kids i) else tg x
theorem Ji {tg:kE}{i:Int}{b:Nat}{va vk:Value}{x:Nat}{t:Tg}(h:tg x=some t)(hb:tg b=none)(ha:∀g,va.ownBlock=some g->tg g=none)(hk:∀g,vk.ownBlock=some g->tg g=none):lJ tg i b va vk x=some t:=by
 unfold lJ;rw[if_neg (fun e=>by rw[e,hb] at h;cases h),if_neg (fun e=>by rw[ha x e] at h;cases h),if_neg (fun e=>by rw[hk x e] at h;cases h)];exact h
theorem Eh {tg:kE}{i:Int}{b:Nat}{va vk:Value}{x:Nat}(h1:x≠b)(h2:va.ownBlock≠some x)(h3:vk.ownBlock≠some x):lJ tg i b va vk x=tg x:=by
 unfold lJ;rw[if_neg h1,if_neg h2,if_neg h3]
section
variable {B:Nat}{tg:kE}{w w':World}{DB MB:Nat}{p:Int->Option Nat}{M:Dm}{nx c:Nat}
theorem bG.add (h:bG B tg w DB MB p M nx c){b:Nat}{e:iy}{va vk:Value}(hn:Vd B tg w b e va vk)(hw:dH e.parent/\∀k∈e.kids,dH k)(hnx:nx<1000000)
  (hm:iA prog 3 w' MB (fun i=>if i=(nx:Int) then some b else p i) (nx+1) (c+1)) (hd:w'.heap[DB]? =some (.cells #[.map (some MB),aa ((nx+1:Nat):Int)] 85))
  (hs:∀x,x≠DB->x≠MB->w'.heap[x]? =w.heap[x]?) (hz:w.heap.size<=w'.heap.size):bG B (lJ tg nx b va vk) w' DB MB (fun i=>if i=(nx:Int) then some b else p i) (gH M nx e) (nx+1) (c+1):=by
 have old:∀x t,tg x=some t->lJ tg nx b va vk x=some t:=fun x t ht=>Ji ht hn.tag (fun g hg=>(hn.lI g hg).1) (fun g hg=>(hn.jX g hg).1);have ne:∀x t,tg x=some t->t≠.doc->t≠.map->x≠DB/\x≠MB:=fun x t ht h1 h2=>⟨fun e=>h1 (Option.some.inj (ht.symm.trans (e▸h.jP))),fun e=>h2 (Option.some.inj (ht.symm.trans (e▸h.kF)))⟩;have nne:∀x,tg x=none->x≠DB/\x≠MB:=fun x hx=>⟨fun e=>(by rw[e,h.jP] at hx;exact absurd hx (by simp)),fun e=>(by rw[e,h.kF] at hx;exact absurd hx (by simp))⟩;have hbn:=nne b hn.tag;refine⟨hd,old _ _ h.jP,hm,old _ _ h.kF,fun i f hf=>?_,fun i hi=>?_,fun x t ht=>?_,fun i f hf=>?_,fun i f hf=>?_,by omega,fun x j hj=>?_⟩
 ·unfold gH at hf;by_cases hi:i=nx
  ·rw[if_pos hi] at hf;cases hf;subst hi;refine⟨b,va,vk,by simp,⟨(hs b hbn.1 hbn.2).trans hn.cells,by unfold lJ;rw[if_pos rfl],bS hn.ats fun g hg=>?_,fun g hg=>?_,bS hn.kids fun g hg=>?_,fun g hg=>?_⟩⟩
   ·have:=nne g (hn.lI g hg).1;exact hs g this.1 this.2
   ·unfold lJ;rw[if_neg (hn.lI g hg).2,if_pos hg]
   ·have:=nne g (hn.jX g hg).1;exact hs g this.1 this.2
   ·unfold lJ;rw[if_neg (hn.jX g hg).2.1,if_neg (hn.jX g hg).2.2,if_pos hg]
  ·rw[if_neg hi] at hf;obtain⟨b',va',vk',h1,h2⟩:=h.els i f hf;refine⟨b',va',vk',by simp only[if_neg hi];exact h1,h2.turn fun g t ht hk=>⟨old g t ht,?_⟩⟩;have:=ne g t ht (by rcases hk with rfl|rfl|rfl<;>simp) (by rcases hk with rfl|rfl|rfl<;>simp);exact hs g this.1 this.2
 ·unfold gH at hi;by_cases hj:i=nx
  ·rw[if_pos hj] at hi;cases hi
  ·rw[if_neg hj] at hi;simp only[if_neg hj];exact h.non i hi
 ·unfold lJ at ht;split at ht
  ·rename_i e;subst e;exact⟨hn.low,Nat.lt_of_lt_of_le (aD hn.cells) hz⟩
  ·split at ht
   ·rename_i e;have:=hn.ats.lt x e;omega
   ·split at ht
    ·rename_i e;have:=hn.kids.lt x e;omega
    ·have:=h.low x t ht;omega
 ·unfold gH at hf;by_cases hi:i=nx
  ·omega
  ·rw[if_neg hi] at hf;have:=h.dom i f hf;omega
 ·unfold gH at hf;by_cases hi:i=nx
  ·rw[if_pos hi] at hf;cases hf;exact hw
  ·rw[if_neg hi] at hf;exact h.wf i f hf
 ·unfold lJ at hj;split at hj
  ·have:(nx:Int)=j:=by simpa using hj
   omega
  ·split at hj
   ·have:(nx:Int)=j:=by simpa using hj
    omega
   ·split at hj
    ·have:(nx:Int)=j:=by simpa using hj
     omega
    ·have:=h.Tu x j hj;omega
theorem bG.fresh (h:bG B tg w DB MB p M nx c):M nx=none/\p nx=none:=by
 have:M nx=none:=by
  cases hm:M nx with
  |none=>rfl
  |some e=>have:=h.dom nx e hm;omega
 exact⟨this,h.non nx this⟩
theorem bG.ne (h:bG B tg w DB MB p M nx c):MB≠DB:=fun e=>by have h1:=h.jP;rw[<- e,h.kF] at h1;cases h1
end
theorem Ve (B:Nat)(tg:kE)(w:World)(DB MB:Nat)(p:Int->Option Nat)(M:Dm)(nx c b:Nat)(e:iy)(va vk:Value)(h:bG B tg w DB MB p M nx c)(hn:Vd B tg w b e va vk)(hw:dH e.parent/\∀k∈e.kids,dH k)(hnx:nx<1000000):
  ak 43 #[aj DB,aj b] w fun r w'=>r=.returned (aa nx)/\K2 DB MB w w'/\bG B (lJ tg nx b va vk) w' DB MB (fun i=>if i=(nx:Int) then some b else p i) (gH M nx e) (nx+1) (c+1):=by
 have d0:=h.d0;have d1:=h.d1;have hfr:=h.fresh;have ahi:(nx:Int)<=1000000:=by omega
 have hmx:nx<maxLen:=by rw[aQ];omega
 have hne:=h.ne;go_enter func43,ntmps43;go_wp2_with(at_mapUpdate;refine QM _ rfl _ _ _ 83 rfl underlying3 underlying83 rfl h.map hmx (nx:Int) rfl (WalkArith.wf_i64 (by omega)) b rfl hfr.2 ?_;intro w1 pm1 ht1;have e0:=(ht1.grown.block DB (aD h.doc) (fun e=>hne (Option.some.inj e).symm)).trans h.doc;have c0:=aA e0 0 _ rfl;have c1:=aA e0 1 _ rfl;have cf:=dF e0);go_ret;have hs1:=heap_setCell_same w1 DB 1 _ _ (aa ((nx:Int)+1)) e0;have hb:∀x,x≠DB->x≠MB->(w1.setCell ⟨DB,1,none⟩ (aa ((nx:Int)+1))).heap[x]? =w.heap[x]? :=fun x h1 h2=>by
  rw[Below.heap_setCell _ _ _ x h1];by_cases hx:x<w.heap.size
  ·exact ht1.grown.block x hx (fun e=>h2 (Option.some.inj e))
  ·have:w1.heap.size=w.heap.size:=by obtain⟨es,cl,es',cl', -,rfl⟩:=ht1;simp[Go.ChangeMaps.setBlock]
   rw[Array.getElem?_eq_none (by omega),Array.getElem?_eq_none (by omega)]
 have hz:w.heap.size<=(w1.setCell ⟨DB,1,none⟩ (aa ((nx:Int)+1))).heap.size:=by
  have:=ht1.grown.size;have:=((Below.refl DB w1).setCell (p:=⟨DB,1,none⟩) eU (aa ((nx:Int)+1))).size;omega
 have hset:=(Below.refl DB w1).setCell (p:=⟨DB,1,none⟩) eU (aa ((nx:Int)+1));refine⟨rfl,⟨hset.os.trans ht1.grown.os,hset.tape.trans ht1.grown.tape,hset.output.trans ht1.grown.output,hz,fun x _ h1 h2=>hb x h1 h2⟩,h.add hn hw hnx (pm1.same (Below.heap_setCell _ _ _ MB hne)) ?_ hb hz⟩;rw[hs1];rfl
theorem nG {B:Nat}{tg:kE}{w:World}{DB MB:Nat}{p:Int->Option Nat}{M:Dm}{nx c:Nat}(h:bG B tg w DB MB p M nx c)(n:Int)(hn:dH n):
  ak 90 #[aj DB,aa n] w fun r w'=>r=.returned (.string ⟨(match M n with|none=>[]|some e=>e.name).toArray⟩)/\w'=w:=by
 have d0:=h.d0;cases hm:M n with
 |none=>
  have hp:=h.non n hm;go_enter func90,ntmps90;go_wp2_with(at_lookup;refine lY _ rfl _ _ 83 rfl underlying3 underlying83 (eG _) rfl h.map n rfl hn hp ?_);go_ret;exact⟨rfl,rfl⟩
 |some e=>
  obtain⟨b,va,vk,hp,he⟩:=h.els n e hm;have x0:=he.c0;go_enter func90,ntmps90;go_wp2_with(at_lookup;refine eY _ rfl _ _ 83 rfl underlying3 underlying83 (eG _) rfl h.map n rfl hn b hp ?_);go_ret;exact⟨rfl,rfl⟩
theorem Mj {B:Nat}{tg:kE}{w:World}{DB MB:Nat}{p:Int->Option Nat}{M:Dm}{nx c:Nat}(h:bG B tg w DB MB p M nx c)(n:Int)(hn:dH n):
  ak 91 #[aj DB,aa n] w fun r w'=>r=.returned (aa (match M n with|none=> -1|some e=>e.parent))/\w'=w:=by
 have d0:=h.d0;cases hm:M n with
 |none=>
  have hp:=h.non n hm;go_enter func91,ntmps91;go_wp2_with(at_lookup;refine lY _ rfl _ _ 83 rfl underlying3 underlying83 (eG _) rfl h.map n rfl hn hp ?_);go_ret;exact⟨rfl,rfl⟩
 |some e=>
  obtain⟨b,va,vk,hp,he⟩:=h.els n e hm;have x0:=he.c2;go_enter func91,ntmps91;go_wp2_with(at_lookup;refine eY _ rfl _ _ 83 rfl underlying3 underlying83 (eG _) rfl h.map n rfl hn b hp ?_);go_ret;exact⟨rfl,rfl⟩
theorem a13 {B:Nat}{tg:kE}{w:World}{DB MB:Nat}{p:Int->Option Nat}{M:Dm}{nx c:Nat}(h:bG B tg w DB MB p M nx c):
  ak 104 #[aj DB] w fun r w'=>r=.returned (aa c)/\w'=w:=by
 have d0:=h.d0;go_enter func104,ntmps104;go_wp2_with(at_len;refine a5Q _ rfl _ 83 rfl underlying83 rfl h.map ?_);go_ret;exact⟨rfl,rfl⟩
end
section
open Go.RowKit
set_option maxHeartbeats 2000000
theorem gJ:∀l:List (Bs×Bs),(aF l).length=l.length*2
 |[]=>rfl
 |x::r=>by simp[aF,gJ r];omega
theorem uw:∀(l:List (Bs×Bs)) (j:Nat) (u:Value),(aF l)[j]? =some u->∃i x,l[i]? =some x/\((j=i*2/\u=.string ⟨x.1.toArray⟩)\/(j=i*2+1/\u=.string ⟨x.2.toArray⟩))
 |[],j,u,h=>by simp[aF] at h
 |x::r,0,u,h=>by
  simp[aF] at h;exact⟨0,x,rfl,.inl ⟨rfl,h.symm⟩⟩
 |x::r,1,u,h=>by
  simp[aF] at h;exact⟨0,x,rfl,.inr ⟨rfl,h.symm⟩⟩
 |x::r,j+2,u,h=>by
  have h':(aF r)[j]? =some u:=by simpa[aF] using h
  obtain⟨i,y,h1,h2⟩:=uw r j u h';exact⟨i+1,y,by simpa using h1,h2.imp (fun h=>⟨by omega,h.2⟩) (fun h=>⟨by omega,h.2⟩)⟩
theorem Au (l:List (Bs×Bs)):∀u∈aF l,u.oneCell'=true:=fun u hu=>by
 obtain⟨j,hj⟩:=List.getElem?_of_mem hu;obtain⟨i,x, -,⟨-,rfl⟩|⟨-,rfl⟩⟩:=uw l j u hj<;>rfl
theorem Vf {w:World}{a:Addr}{ats:List (Bs×Bs)}(h:pK w (some a) ats):∀j u,(aF ats)[j]? =some u->w.cell? (a.add j)=some u:=fun j u hu=>by
 obtain⟨i,x,hx,h2⟩:=uw ats j u hu;obtain⟨b,off,h3,h4,h5, -⟩:=h i x hx;cases h3;have hadd:∀k,(⟨b,off,none⟩:Addr).add k=⟨b,off+k,none⟩:=fun k=>by unfold Addr.add;split<;>simp_all
 rw[hadd];rcases h2 with⟨rfl,rfl⟩|⟨rfl,rfl⟩
 ·exact h4
 ·rw[<- Nat.add_assoc];exact h5
theorem Mk (w:World)(v:Value)(ats:List (Bs×Bs))(h:kg w v ats)(hl:ats.length<=1000000):
  ak 42 #[v] w fun e w'=>∃o n k,e=.returned (.slice o n k)/\w'.ownsRow w.heap.size 65 2 (.slice o n k) ats.length (aF ats)/\Below w.heap.size w w':=by
 obtain⟨o,cap,rfl,h1,h2,h3,h4⟩:=h;have q22:∀(w:World) (a:Option Addr) (n c n' c':Nat),(binOp .eql 22 (.slice a n c) (.slice none n' c')).run prog w=.ok (.bool a.isNone) w:=fun w a n c n' c'=>Lib.run_eql_slice_nil w _ _ a n c n' c' underlying22;obtain⟨i0,hi,hz0,hz1,hz2⟩:=info_parts vw;cases o with
 |none=>
  have hc:=h3 rfl;have hz:ats=[]:=List.length_eq_zero_iff.1 (by omega);subst hz;go_enter func42,ntmps42;go_wp2_with fail;go_ret;exact⟨none,0,0,rfl,World.ownsRow_nil _ _ _ _,Below.refl _ _⟩
 |some a=>
  have HN:Hid (∀j u,(aF ats)[j]? =some u->w.cell? (a.add j)=some u):=Vf h4;have HO:Hid (∀u∈aF ats,u.oneCell'=true):=Au ats;clear h4;go_enter func42,ntmps42;go_wp2_with(at_builtin;refine wpList_append_own _ rfl _ _ 22 rfl w.heap.size 65 i0 (.agg #[.string ⟨#[]⟩,.string ⟨#[]⟩]) 2 32 underlying22 hi hz0 hz1 hz2 rfl (by decide) _ _ _ rfl (World.ownsRow_made w #[] 0 eU (Nat.zero_le _) (by simp)) a ats.length cap (aF ats) rfl (gJ ats) (fun j u hj=>bO _ (HN.out j u hj)) HO.out (by rw[aQ];omega) (by omega) (by simp) ?_;intro v7 w7 jQ lU _;obtain⟨o7,nH,rfl⟩:=aI jQ);go_ret;exact⟨o7,_,nH,rfl,by simpa using jQ,((Below.refl _ w).alloc eU _).grown lU (by simp) (fun k hk=>by have hk':some w.heap.size=some k:=hk;cases hk';exact Nat.le_refl _)⟩
mutual
def QO:Nd->Prop
 | .mk _ ats ks=>ats.length<=12/\Jj ks
def Jj:List Nd->Prop
 |[]=>True
 |k::l=>QO k/\Jj l
end
theorem Jk:∀{l:List Nd} {k:Nd},Jj l->k∈l->QO k
 |[],_,_,h=>by simp at h
 |a::l,k,h,hk=>by
  unfold Jj at h;rcases List.mem_cons.1 hk with rfl|hk
  ·exact h.1
  ·exact Jk h.2 hk
mutual
theorem OE:∀(n:Nd) (deep ahead:Nat),(fT n deep ahead).1=0->QO n
 | .mk nm ats ks,deep,ahead,h=>by
  unfold fT at h;split at h
  ·rename_i h1;unfold QO;exact⟨(V8 h1).2.1,OG ks _ _ h⟩
  ·rename_i h1;exact(h1 h).elim
theorem OG:∀(l:List Nd) (deep ahead:Nat),(uD l deep ahead).1=0->Jj l
 |[],_,_,_=>by unfold Jj;trivial
 |k::l,deep,ahead,h=>by
  by_cases h1:(fT k deep ahead).1=0
  ·rw[qM h1] at h;unfold Jj;exact⟨OE k deep ahead h1,OG l _ _ h⟩
  ·rw[vv h1] at h;exact(h1 h).elim
end
theorem Jl (ks:List Nd)(i:Nat):iO (ks.take i)<=iO ks:=by
 have:=yU (ks.take i) (ks.drop i);rw[List.take_append_drop] at this;omega
theorem Ei {ks:List Nd}{i:Nat}{k:Nd}(h:ks[i]? =some k):ks.take (i+1)=ks.take i++[k]:=by
 rw[List.take_add_one,h];rfl
end
section
open Go.RowKit
set_option maxHeartbeats 8000000
set_option maxRecDepth 20000
theorem Vg {w:World}{B B' k n:Nat}{e:TypeId}{v:Value}{xs:List Value}(h:w.ownsRow B e k v n xs)(hb:B'<=B):w.ownsRow B' e k v n xs:=by
 obtain⟨h1,h2⟩:=h;refine⟨h1,?_⟩;rcases h2 with h2|⟨g,cap,cur,h3,h4,h5⟩
 ·exact .inl h2
 ·exact .inr ⟨g,cap,cur,h3,Nat.le_trans hb h4,h5⟩
def Jm (tg:kE)(i:Int)(v:Value):kE:=fun x=>if v.ownBlock=some x then some (.kids i) else tg x
theorem fE.at {w:World}{o:Option Addr}{ks:List Nd}{i:Nat}{kid:Nd}(h:fE w o 0 ks)(hx:ks[i]? =some kid):∃b off c0 c1 c2,o=some ⟨b,off,none⟩/\w.cell? (ag b (off+i*3))=some c0/\w.cell? (ag b (off+i*3+1))=some c1/\w.cell? (ag b (off+i*3+2))=some c2/\jR w c0 c1 c2 kid:=by
 obtain⟨b,off,c0,c1,c2,h1,h2,h3,h4,h5⟩:=h.get hx;rw[Nat.zero_add] at h2 h3 h4;exact⟨b,off,c0,c1,c2,h1,h2,h3,h4,h5⟩
theorem bG.kid {B:Nat}{tg:kE}{w w7:World}{DB MB:Nat}{p:Int->Option Nat}{M:Dm}{nx c EB:Nat}{i:Int}{e:iy}{va vk v7:Value}{k:Int}{o:Obj}(h:bG B tg w DB MB p M nx c)(hi:M i=some e)(hp:p i=some EB)(he:yf B tg w i EB e va vk)(hk:dH k)
  (jQ:w7.ownsRow B 3 1 v7 (e.kids.length+1) (bY e.kids++[aa k])) (lU:(w.alloc o).grownBy w7 vk.ownBlock) (Ml:v7.ownBlock=vk.ownBlock\/v7.ownBlock=some (w.alloc o).heap.size):
  bG B (Jm tg i v7) (w7.setCell ⟨EB,3,none⟩ v7) DB MB p (gH M i ⟨e.name,e.ats,e.parent,e.kids++[k]⟩) nx c/\(∀x,x<w.heap.size->Jm tg i v7 x=tg x)/\(∀x,x<w.heap.size->x≠EB->vk.ownBlock≠some x->(w7.setCell ⟨EB,3,none⟩ v7).heap[x]? =w.heap[x]?)/\w.heap.size<=(w7.setCell ⟨EB,3,none⟩ v7).heap.size/\(w7.setCell ⟨EB,3,none⟩ v7).os=w.os/\(w7.setCell ⟨EB,3,none⟩ v7).tape=w.tape/\(w7.setCell ⟨EB,3,none⟩ v7).output=w.output:=by
 have ZE:=aD he.cells;have hsz:(w.alloc o).heap.size=w.heap.size+1:=by simp
 have hz:w.heap.size+1<=w7.heap.size:=by have:=lU.size;rw[<- hsz];exact this
 have hset:=(Below.refl EB w7).setCell (p:=⟨EB,3,none⟩) eU v7;have neE:vk.ownBlock≠some EB:=fun e1=>by have h1:=he.jX EB e1;rw[he.tag] at h1;cases h1
 have ne7:v7.ownBlock≠some EB:=fun e1=>by
  rcases Ml with h1|h1
  ·exact neE (h1.symm.trans e1)
  ·rw[h1] at e1;cases e1;omega
 have old:∀x,x<w.heap.size->vk.ownBlock≠some x->w7.heap[x]? =w.heap[x]? :=fun x hx hne=>by
  have h1:=lU.block x (by show x<(w.alloc o).heap.size;omega) (fun e1=>hne e1.symm);exact h1.trans ((aW w o).block x hx)
 have tk:∀x,x<w.heap.size->Jm tg i v7 x=tg x:=fun x hx=>by
  unfold Jm;split
  ·rename_i h1;rcases Ml with h2|h2
   ·exact(he.jX x (h2.symm.trans h1)).symm
   ·rw[h2] at h1;cases h1;omega
  ·rfl
 have blk:∀x,x<w.heap.size->x≠EB->vk.ownBlock≠some x->(w7.setCell ⟨EB,3,none⟩ v7).heap[x]? =w.heap[x]? :=fun x hx h1 h2=>(Below.heap_setCell _ _ _ x h1).trans (old x hx h2);have hz8:w.heap.size<=(w7.setCell ⟨EB,3,none⟩ v7).heap.size:=by have:=hset.size;omega
 refine⟨h.put hi hp (va:=va) (vk:=v7) ⟨?_,?_,?_,?_,?_,?_⟩ hz8 ⟨(h.wf i e hi).1,fun j hj=>?_⟩ tk ?_ ?_ ?_,tk,blk,hz8,hset.os.trans lU.os,hset.tape.trans lU.tape,hset.output.trans lU.output⟩
 ·have h1:=(old EB ZE neE).trans he.cells;rw[heap_setCell_same w7 EB 3 _ _ _ h1];rfl
 ·rw[tk EB ZE];exact he.tag
 ·exact bS he.ats fun g hg=>blk g (he.ats.lt g hg).2 (fun e1=>by have h1:=he.lI g hg;rw[e1,he.tag] at h1;cases h1) (fun e1=>by have h1:=he.lI g hg;rw[he.jX g e1] at h1;cases h1)
 ·intro g hg;rw[tk g (he.ats.lt g hg).2];exact he.lI g hg
 ·have:=bS (w':=w7.setCell ⟨EB,3,none⟩ v7) jQ fun g hg=>Below.heap_setCell _ _ _ g (fun e1=>ne7 (by rw[hg,e1]));rw[Ef,List.length_append];exact this
 ·intro g hg;unfold Jm;rw[if_pos hg]
 ·rcases List.mem_append.1 hj with hj|hj
  ·exact(h.wf i e hi).2 j hj
  ·rw[List.mem_singleton.1 hj];exact hk
 ·intro x t ht;unfold Jm at ht;split at ht
  ·rename_i h1;have h2:=jQ.lt x h1;have:=hset.size;omega
  ·have:=h.low x t ht;omega
 ·intro x hx;unfold Jm;split
  ·exact .inr (.inr (.inr rfl))
  ·exact .inl (h.new hx)
 ·intro x t ht h1 h2 h3;exact blk x (h.low x t ht).2 (fun e1=>by rw[e1,he.tag] at ht;cases ht;exact h1 rfl) (fun e1=>by rw[he.jX x e1] at ht;cases ht;exact h3 rfl)
theorem OH:∀(l:List Nd) (k:Nat),(oh k l).length=l.length
 |[],_=>rfl
 |n::l,k=>by rw[oh,List.length_cons,List.length_cons,OH l]
theorem OI:∀l:List Nd,l.length<=iO l
 |[]=>Nat.le_refl _
 |n::l=>by have h1:=OI l;have h2:=O7 n;rw[iO,List.length_cons];omega
theorem K2.FI {r n k:Nat}{A B:World}(h:K2 r n (A.drewN k) B):K2 r n A B:=⟨h.os,h.tape,h.output,h.size,h.block⟩
theorem QS {B:Nat}{tg:kE}{wr U1 w4 w7:World}{DB MB EB:Nat}{i:Int}{e:iy}{va vk:Value}{o:Obj}(he:yf B tg wr i EB e va vk)(bU:Below wr.heap.size wr U1)(k4:K2 DB MB U1 w4)(hd:EB≠DB/\EB≠MB)(lU:(w4.alloc o).grownBy w7 vk.ownBlock):w7.heap[EB]? =some (.cells #[.string ⟨e.name.toArray⟩,va,aa e.parent,vk] 90):=by
 have h1:=aD he.cells;have h2:=bU.size;have h3:=k4.size;have h4:(w4.alloc o).heap.size=w4.heap.size+1:=by simp
 have h5:=lU.block EB (by show EB<(w4.alloc o).heap.size;omega) (fun e1=>by have h6:=he.jX EB e1.symm;rw[he.tag] at h6;cases h6);exact h5.trans (((aW w4 o).block EB (by omega)).trans ((k4.block EB (by omega) hd.1 hd.2).trans ((bU.block EB h1).trans he.cells)))
def a1y (W0:World)(PD PP DB MB:Nat)(n:Nd):Prop:=∀(c0 c1 c2:Value) (parent:Int) (tg:kE) (W:World) (p:Int->Option Nat) (M:Dm) (nx c:Nat),jR W0 c0 c1 c2 n->QO n->Below W0.heap.size W0 W->W.cell? (ag PD 0)=some (aj DB)->W.cell? (ag PP 0)=some (.func (.func 41) #[] #[aj PD,aj PP])->
 bG W0.heap.size tg W DB MB p M nx c->tg PD=none->tg PP=none->dH parent->nx+dQ n<=1000000->
 ak 41 #[.agg #[c0,c1,c2],aa parent,aj PD,aj PP] W fun e w'=>e=.returned (aa nx)/\K2 DB MB W w'/\∃uF p',(∀x,x<W.heap.size->uF x=tg x)/\(∀i,i<(nx:Int)->p' i=p i)/\bG W0.heap.size uF w' DB MB p' (zU M nx (mP nx parent n)) (nx+dQ n) (c+dQ n)
def QT (W0 W:World)(tg:kE)(p:Int->Option Nat)(M:Dm)(DB MB N EB nx c:Nat)(cs:Array Value)(nm:Bs)(ats:List (Bs×Bs))(parent:Int)(ks:List Nd)(wr:World):Prop:=
 ∃qi p1,K2 DB MB W wr/\wr.heap[N]? =some (.cells cs 25)/\qi N=none/\(∀x,x<W.heap.size->qi x=tg x)/\(∀j,j<(nx:Int)->p1 j=p j)/\p1 nx=some EB/\bG W0.heap.size qi wr DB MB p1 (zU M nx (⟨nm,ats,parent,oh (nx+1) ks⟩::NF (nx+1) nx ks)) (nx+1+iO ks) (c+1+iO ks)
theorem Vh {W0 W wr U1 w4 w7:World}{tg qi vz:kE}{p p1 p2:Int->Option Nat}{M:Dm}{DB MB N EB nx c:Nat}{cs:Array Value}{nm:Bs}{ats:List (Bs×Bs)}{parent:Int}{ks:List Nd}{kid:Nd}{i:Nat}{va vk v7:Value}{o:Obj}
  (hx:ks[i]? =some kid) (k1:K2 DB MB W wr) (hN:wr.heap[N]? =some (.cells cs 25)) (tN:qi N=none) (ht1:∀x,x<W.heap.size->qi x=tg x) (hp1:∀j,j<(nx:Int)->p1 j=p j) (hpE:p1 nx=some EB)
  (hd1:bG W0.heap.size qi wr DB MB p1 (zU M nx (⟨nm,ats,parent,oh (nx+1) (ks.take i)⟩::NF (nx+1) nx (ks.take i))) (nx+1+iO (ks.take i)) (c+1+iO (ks.take i))) (he:yf W0.heap.size qi wr nx EB ⟨nm,ats,parent,oh (nx+1) (ks.take i)⟩ va vk)
  (bU:Below wr.heap.size wr U1) (k4:K2 DB MB U1 w4) (ht2:∀x,x<U1.heap.size->vz x=qi x) (hp2:∀j,j<((nx+1+iO (ks.take i):Nat):Int)->p2 j=p1 j) (hd0:bG W0.heap.size tg W DB MB p M nx c)
  (hd2:bG W0.heap.size vz w4 DB MB p2 (zU (zU M nx (⟨nm,ats,parent,oh (nx+1) (ks.take i)⟩::NF (nx+1) nx (ks.take i))) (nx+1+iO (ks.take i)) (mP (nx+1+iO (ks.take i)) nx kid)) (nx+1+iO (ks.take i)+dQ kid) (c+1+iO (ks.take i)+dQ kid))
  (jQ:w7.ownsRow W0.heap.size 3 1 v7 ((oh (nx+1) (ks.take i)).length+1) (bY (oh (nx+1) (ks.take i))++[aa ((nx+1+iO (ks.take i):Nat):Int)])) (lU:(w4.alloc o).grownBy w7 vk.ownBlock) (Ml:v7.ownBlock=vk.ownBlock\/v7.ownBlock=some (w4.alloc o).heap.size):
  QT W0 W tg p M DB MB N EB nx c cs nm ats parent (ks.take (i+1)) (w7.setCell ⟨EB,3,none⟩ v7):=by
 have hs1:=bU.size;have aaU:=aD he.cells;have hnew:W.heap.size<=EB:=by
  rcases Nat.lt_or_ge EB W.heap.size with h|h
  ·have h1:=he.tag;rw[ht1 EB h] at h1;have:=hd0.Tu EB nx (.inl h1);omega
  ·exact h
 have a6T:∀g,vk.ownBlock=some g->W.heap.size<=g:=fun g hg=>by
  rcases Nat.lt_or_ge g W.heap.size with h|h
  ·have h1:=he.jX g hg;rw[ht1 g h] at h1;have:=hd0.Tu g nx (.inr (.inr h1));omega
  ·exact h
 have ne:∀x t,qi x=some t->t≠.doc->t≠.map->x≠DB/\x≠MB:=fun x t hxt h1 h2=>⟨fun e=>h1 (Option.some.inj (hxt.symm.trans (e▸hd1.jP))),fun e=>h2 (Option.some.inj (hxt.symm.trans (e▸hd1.kF)))⟩;have Vi:∀x,x<wr.heap.size->x≠DB->x≠MB->w4.heap[x]? =wr.heap[x]? :=fun x h h1 h2=>(k4.block x (by omega) h1 h2).trans (bU.block x h);have he2:yf W0.heap.size vz w4 nx EB ⟨nm,ats,parent,oh (nx+1) (ks.take i)⟩ va vk:=he.turn fun g t ht hk=>by
  have hg:=(hd1.low g t ht).2;have hn:=ne g t ht (by rcases hk with rfl|rfl|rfl<;>simp) (by rcases hk with rfl|rfl|rfl<;>simp);exact⟨(ht2 g (by omega)).trans ht,Vi g hg hn.1 hn.2⟩
 have hM:zU (zU M nx (⟨nm,ats,parent,oh (nx+1) (ks.take i)⟩::NF (nx+1) nx (ks.take i))) (nx+1+iO (ks.take i)) (mP (nx+1+iO (ks.take i)) nx kid)=zU M nx (⟨nm,ats,parent,oh (nx+1) (ks.take i)⟩::(NF (nx+1) nx (ks.take i)++mP (nx+1+iO (ks.take i)) nx kid)):=by
  have h1:=U9 M nx (⟨nm,ats,parent,oh (nx+1) (ks.take i)⟩::NF (nx+1) nx (ks.take i)) (mP (nx+1+iO (ks.take i)) nx kid);rw[List.length_cons,F4,show nx+(iO (ks.take i)+1)=nx+1+iO (ks.take i) from by omega] at h1;rw[h1,List.cons_append]
 rw[hM] at hd2;have a6U:p2 nx=some EB:=(hp2 nx (by omega)).trans hpE;obtain⟨r1,r2,r3,r4,r5,r6,r7⟩:=hd2.kid (k:=((nx+1+iO (ks.take i):Nat):Int)) (O6 M nx _ _) a6U he2 (WalkArith.wf_i64 (by have:=hd2.few;omega)) jQ lU Ml;rw[Qd] at r1;have hN4:N<wr.heap.size:=aD hN;have nN:=ne;have hNd:N≠DB/\N≠MB:=⟨fun e=>(by rw[e,hd1.jP] at tN;exact absurd tN (by simp)),fun e=>(by rw[e,hd1.kF] at tN;exact absurd tN (by simp))⟩;have hNE:N≠EB:=fun e=>by rw[e,he.tag] at tN;cases tN
 have hNk:vk.ownBlock≠some N:=fun e=>by rw[he.jX N e] at tN;cases tN
 have s4:=k4.size;refine⟨Jm vz nx v7,p2,?_,?_,?_,fun x h=>?_,fun j hj=>?_,a6U,?_⟩
 ·have s1:=k1.size;refine⟨r5.trans (k4.os.trans (bU.os.trans k1.os)),r6.trans (k4.tape.trans (bU.tape.trans k1.tape)),r7.trans (k4.output.trans (bU.output.trans k1.output)),by omega,fun x h h1 h2=>?_⟩;exact(r3 x (by omega) (by omega) (fun e=>by have:=a6T x e;omega)).trans ((Vi x (by omega) h1 h2).trans (k1.block x h h1 h2))
 ·exact(r3 N (by omega) hNE hNk).trans ((Vi N hN4 hNd.1 hNd.2).trans hN)
 ·rw[r2 N (by omega),ht2 N (by omega)];exact tN
 ·have:=k1.size;rw[r2 x (by omega),ht2 x (by omega)];exact ht1 x h
 ·rw[hp2 j (by omega)];exact hp1 j hj
 ·rw[Ei hx,I8,I9,yU,iO,iO];have e1:nx+1+(iO (ks.take i)+(dQ kid+0))=nx+1+iO (ks.take i)+dQ kid:=by omega
  have e2:c+1+(iO (ks.take i)+(dQ kid+0))=c+1+iO (ks.take i)+dQ kid:=by omega
  rw[e1,e2];exact r1
theorem bG.tell {B:Nat}{tg:kE}{w:World}{DB MB:Nat}{p:Int->Option Nat}{M:Dm}{nx c EB:Nat}{i:Int}{e:iy}(h:bG B tg w DB MB p M nx c)(hi:M i=some e)(hp:p i=some EB):∃va o k,yf B tg w i EB e va (.slice o e.kids.length k):=by
 obtain⟨b,va,vk,h1,h2⟩:=h.els i e hi;obtain rfl:EB=b:=Option.some.inj (hp.symm.trans h1);obtain⟨o,cap,rfl⟩:=aI h2.kids;exact⟨va,o,cap,h2⟩
theorem ZF (W0:World)(PD PP DB MB:Nat):∀n,a1y W0 PD PP DB MB n:=by
 refine Nd.ind fun nm ats ks ih=>?_;intro c0 c1 c2 parent tg W p M nx c hn hlow hb cD cP hd tD tP hwp hnx;have hn':=hn;unfold jR at hn';obtain⟨rfl,hl,Jn,ok,dB,rfl,hkc,hkm,hk0,hks⟩:=hn';have a6V:=Jn;obtain⟨o1,dz,rfl, -⟩:=a6V;unfold QO at hlow;obtain⟨hla,hlk⟩:=hlow;unfold eD at*;have A0:NB W.heap.size (.string ⟨nm.toArray⟩) (.slice o1 ats.length dz) (.slice ok ks.length dB) (W.alloc (.cells #[.string ⟨nm.toArray⟩,.slice o1 ats.length dz,.slice ok ks.length dB] 25)):=dh W #[.string ⟨nm.toArray⟩,.slice o1 ats.length dz,.slice ok ks.length dB] 25;have b0:=aW W (.cells #[.string ⟨nm.toArray⟩,.slice o1 ats.length dz,.slice ok ks.length dB] 25);have HKS:Hid (fE W0 ok 0 ks):=hks;have IH:Hid (∀k∈ks,a1y W0 PD PP DB MB k):=ih;have HD:Hid (bG W0.heap.size tg W DB MB p M nx c):=hd;have HLK:Hid (Jj ks):=hlk;have hqD:PD≠DB/\PD≠MB:=⟨fun e=>(by rw[e,hd.jP] at tD;exact absurd tD (by simp)),fun e=>(by rw[e,hd.kF] at tD;exact absurd tD (by simp))⟩;have hqP:PP≠DB/\PP≠MB:=⟨fun e=>(by rw[e,hd.jP] at tP;exact absurd tP (by simp)),fun e=>(by rw[e,hd.kF] at tP;exact absurd tP (by simp))⟩;have lD:=hd.low _ _ hd.jP;have lM:=hd.low _ _ hd.kF;have lPD:=ax cD;have lPP:=ax cP;simp only at lPD lPP;clear hks ih hd hlk hn;have hsz:dQ (.mk nm ats ks)=iO ks+1:=by rw[dQ]
 rw[hsz] at hnx;go_enter func41,ntmps41;go_upto_region 1 with fail;obtain⟨V,hV⟩:∃V,W.alloc (.cells #[.string ⟨nm.toArray⟩,.slice o1 ats.length dz,.slice ok ks.length dB] 25)=V:=⟨_,rfl⟩;have sV:V.heap.size=W.heap.size+1:=by rw[<- hV];simp
 obtain⟨N,hN⟩:∃N,W.heap.size=N:=⟨_,rfl⟩;rw[hV] at A0 b0⊢;rw[hN] at A0⊢;have HN:Hid (W.heap.size=N):=hN;have HV:Hid (V.heap.size=N+1):=(by rw[sV,hN]:V.heap.size=N+1);clear hV hN sV;have x0:=A0.c0;have x1:=A0.c1;have bV:=hb.trans (b0.mono hb.size);have CL:=fun V' (hv:Below V.heap.size V V')=>Mk V' _ ats (Jn.below (bV.trans (hv.mono bV.size))) (by omega)
 go_region_held3 (fun w'=>w'.cell? (ag N 0)=some (.string ⟨nm.toArray⟩)/\w'.cell? (ag N 1)=some (.slice o1 ats.length dz)) (refine⟨?_,?_⟩<;>first|assumption|exact bO _ (by assumption)) (first|(go_at_call 42;refine(CL _ (lX 1 (Below.refl _ _))).mono ?_;rintro e w2 ⟨o2,n2,k2,rfl,Cs,b2⟩;have x0:=(b2.cell (ax x0)).trans x0;have x1:=(b2.cell (ax x1)).trans x1))
 have b2':Below V.heap.size V w2:=⟨b2.os,b2.tape,b2.output,b2.size,b2.block⟩;have Vj:w2.ownsRow V.heap.size 65 2 (.slice o2 n2 k2) ats.length (aF ats):=Cs;have E0:=dh w2 #[.string ⟨nm.toArray⟩,.slice o2 n2 k2,aa parent,.slice none 0 0] 90;have bE:=aW w2 (.cells #[.string ⟨nm.toArray⟩,.slice o2 n2 k2,aa parent,.slice none 0 0] 90);have yK:=World.ownsRow.alloc Vj (.cells #[.string ⟨nm.toArray⟩,.slice o2 n2 k2,aa parent,.slice none 0 0] 90);have lt2:=Vj.lt;obtain⟨U,hU⟩:∃U,w2.alloc (.cells #[.string ⟨nm.toArray⟩,.slice o2 n2 k2,aa parent,.slice none 0 0] 90)=U:=⟨_,rfl⟩;obtain⟨EB,ZE⟩:∃EB,w2.heap.size=EB:=⟨_,rfl⟩;rw[hU] at E0 bE yK⊢;rw[ZE] at E0⊢;have hVE:V.heap.size<=EB:=by rw[<- ZE];exact b2'.size
 have HB2:Hid (∀g,(Value.slice o2 n2 k2).ownBlock=some g->V.heap.size<=g/\g<EB):=(fun g hg=>by rw[<- ZE];exact lt2 g hg:∀g,(Value.slice o2 n2 k2).ownBlock=some g->V.heap.size<=g/\g<EB);clear hU ZE x0 x1 CL b2 Cs Vj lt2;have bU:Below V.heap.size V U:=az b2' bE;clear b2' bE;have bWU:Below W.heap.size W U:=az b0 bU;have HDU:Hid (bG W0.heap.size tg U DB MB p M nx c):=HD.out.below bWU;have hNE:N+1<=EB:=by have:=HV.out;omega
 have NE:Vd W0.heap.size tg U EB ⟨nm,ats,parent,[]⟩ (.slice o2 n2 k2) (.slice none 0 0):=⟨E0,by have:=HN.out;have:=hb.size;omega,HD.out.new (by have:=HN.out;omega),Vg yK (Nat.le_trans hb.size b0.size),fun g hg=>by
   have:=HB2.out g hg;have h2:=HN.out;have h3:=HV.out;exact⟨HD.out.new (by omega),by omega⟩,World.ownsRow_nil _ _ _ _,fun g hg=>by cases hg⟩
 have KE:=Ve W0.heap.size tg U DB MB p M nx c EB ⟨nm,ats,parent,[]⟩ (.slice o2 n2 k2) (.slice none 0 0) HDU.out NE ⟨hwp,by simp⟩ (by omega);have AU:=(bU.block N (aD A0)).trans A0;have cDU:=(bWU.cell (ax cD)).trans cD;have cPU:=(bWU.cell (ax cP)).trans cP;have hND:N≠DB/\N≠MB:=by have:=HN.out;omega
 go_upto_region 3 with(go_at_call 43;refine KE.mono ?_;rintro e w3 ⟨rfl,k3,d3⟩);have A3:=(k3.block N (aD AU) hND.1 hND.2).trans AU;have y2:=NB.c2 A3;have a6P:(ks.length:Int)<=9223372036854775807:=by rw[aQ] at hkm;omega
 have K3:K2 DB MB W w3:=(K2.of_below bWU).trans k3;have R0:QT W0 W tg p M DB MB N EB nx c #[.string ⟨nm.toArray⟩,.slice o1 ats.length dz,.slice ok ks.length dB] nm ats parent (ks.take 0) w3:=by
  refine⟨lJ tg nx EB (.slice o2 n2 k2) (.slice none 0 0),fun i=>if i=(nx:Int) then some EB else p i,K3,A3,?_,fun x hx=>?_,fun j hj=>?_,?_,?_⟩
  rotate_left 4
  ·rw[List.take_zero,oh,NF,Ua];exact d3
  ·have h2:=HN.out;rw[Eh (by omega) (fun e=>by have:=HB2.out N e;have:=HV.out;omega) (by simp[Value.ownBlock])];exact HD.out.new (by omega)
  ·have h2:=HN.out;exact Eh (by omega) (fun e=>by have:=HB2.out x e;have:=HV.out;omega) (by simp[Value.ownBlock])
  ·simp only[if_neg (show¬j=(nx:Int) by omega)]
  ·simp
 have HR0:Hid (QT W0 W tg p M DB MB N EB nx c #[.string ⟨nm.toArray⟩,.slice o1 ats.length dz,.slice ok ks.length dB] nm ats parent (ks.take 0) w3):=R0;clear R0 d3 KE NE k3 cDU cPU;go_wp2_with fail
 go_loopw [25] (fun y wr=>∃i:Nat,i<=ks.length/\y=aa i/\QT W0 W tg p M DB MB N EB nx c #[.string ⟨nm.toArray⟩,.slice o1 ats.length dz,.slice ok ks.length dB] nm ats parent (ks.take i) wr) (fun y _=>ks.length-(intOf y).toNat)
 case atStart=>exact⟨0,Nat.zero_le _,rfl,HR0.out⟩
 case round=>
  obtain⟨i,hi,rfl,qi,p1,k1,hN1,tN1,ht1,hp1,hpE,hd1⟩:=hrel;by_cases hlt:i<ks.length
  ·have hlt':(i:Int)<(ks.length:Int):=by omega
   obtain⟨kid,hx, -⟩:=drop_at hlt;obtain⟨b',off',d0,d1,d2,rfl,e0,e1,e2,qh⟩:=HKS.out.at hx;have hmem:kid∈ks:=List.mem_of_getElem? hx;have HI:=IH.out kid hmem;have Vk:=Jk HLK.out hmem;have Ja:=qh;obtain⟨xZ,jO,ks'⟩:=kid;unfold jR at Ja;obtain⟨rfl, -,⟨o',cap',rfl, -⟩,ok',gI,rfl, -⟩:=Ja;have bR:Below W0.heap.size W0 wr:=hb.trans (k1.below lD.1 lM.1 hb.size);have f0:=(bR.cell (ax e0)).trans e0;have f1:=(bR.cell (ax e1)).trans e1;have f2:=(bR.cell (ax e2)).trans e2;unfold eD at f0 f1 f2 qh;clear e0 e1 e2 hmem;have hsl:=Jl ks (i+1);rw[Ei hx,yU,iO,iO] at hsl;generalize aho:Nd.mk xZ jO ks'=kid at hx HI Vk qh hsl;obtain⟨KL,hKL⟩:∃KL,oh (nx+1) (ks.take i)=KL:=⟨_,rfl⟩;have ahp:KL.length<=1000000:=by
    rw[<- hKL,OH];have:=OI (ks.take i);omega
   obtain⟨NX,hNX⟩:∃NX,nx+1+iO (ks.take i)=NX:=⟨_,rfl⟩;rw[hNX] at hd1;have a2V:=hd1;rw[hKL] at a2V;obtain⟨va,ov,kv,he⟩:=a2V.tell (O6 M nx _ _) hpE;simp only at he;have c3:=he.c3;have cD1:=k1.cell cD hqD.1 hqD.2;have cP1:=k1.cell cP hqP.1 hqP.2;have s1:=k1.size;have hEd:EB≠DB/\EB≠MB:=by have:=HN.out;omega
   have hEP:PP≠EB:=by have:=HN.out;omega
   have bU:=aW wr (.cells #[.string ⟨xZ.toArray⟩,.slice o' jO.length cap',.slice ok' ks'.length gI] 25);have u0:=gp wr #[.string ⟨xZ.toArray⟩,.slice o' jO.length cap',.slice ok' ks'.length gI] 25 0 (.string ⟨xZ.toArray⟩) rfl;have u1:=gp wr #[.string ⟨xZ.toArray⟩,.slice o' jO.length cap',.slice ok' ks'.length gI] 25 1 (.slice o' jO.length cap') rfl;have u2:=gp wr #[.string ⟨xZ.toArray⟩,.slice o' jO.length cap',.slice ok' ks'.length gI] 25 2 (.slice ok' ks'.length gI) rfl;have cPU:=bO (.cells #[.string ⟨xZ.toArray⟩,.slice o' jO.length cap',.slice ok' ks'.length gI] 25) cP1;have cDU:=bO (.cells #[.string ⟨xZ.toArray⟩,.slice o' jO.length cap',.slice ok' ks'.length gI] 25) cD1;have c3U:=bO (.cells #[.string ⟨xZ.toArray⟩,.slice o' jO.length cap',.slice ok' ks'.length gI] 25) c3;have aaU:=aD he.cells;have aaX:wr.heap.size≠EB:=by omega
   have aaY:wr.heap.size≠DB/\wr.heap.size≠MB:=by omega
   have HC:=fun V' (hv:Below (wr.alloc (.cells #[.string ⟨xZ.toArray⟩,.slice o' jO.length cap',.slice ok' ks'.length gI] 25)).heap.size (wr.alloc (.cells #[.string ⟨xZ.toArray⟩,.slice o' jO.length cap',.slice ok' ks'.length gI] 25)) V')=>HI _ _ _ nx qi V' p1 _ NX (c+1+iO (ks.take i)) qh Vk (bR.trans ((az bU hv).mono bR.size)) ((hv.cell (ax cDU)).trans cDU) ((hv.cell (ax cPU)).trans cPU) (hd1.below (az bU hv)) ((ht1 PD lPD).trans tD) ((ht1 PP lPP).trans tP) (WalkArith.wf_i64 (by omega)) (by omega);have HST:Hid (K2 DB MB W wr/\qi N=none/\(∀x,x<W.heap.size->qi x=tg x)/\(∀j,j<(nx:Int)->p1 j=p j)/\p1 nx=some EB/\ks[i]? =some kid/\nx+1+iO (ks.take i)=NX/\oh (nx+1) (ks.take i)=KL):=⟨k1,tN1,ht1,hp1,hpE,hx,hNX,hKL⟩;have HD1:Hid (bG W0.heap.size qi wr DB MB p1 (zU M nx (⟨nm,ats,parent,oh (nx+1) (ks.take i)⟩::NF (nx+1) nx (ks.take i))) NX (c+1+iO (ks.take i))):=hd1;have HEL:Hid (yf W0.heap.size qi wr nx EB ⟨nm,ats,parent,KL⟩ va (.slice ov KL.length kv)):=he;have HOW:∀w4,K2 DB MB (wr.alloc (.cells #[.string ⟨xZ.toArray⟩,.slice o' jO.length cap',.slice ok' ks'.length gI] 25)) w4->w4.ownsRow W0.heap.size 3 1 (.slice ov KL.length kv) KL.length (bY KL):=fun w4 k4=>bS he.kids fun g hg=>by
    have h1:=he.jX g hg;have h2:=(he.kids.lt g hg).2;exact(k4.block g (by have:=bU.size;omega) (fun e=>by rw[e,hd1.jP] at h1;cases h1) (fun e=>by rw[e,hd1.kF] at h1;cases h1)).trans (bU.block g h2)
   clear hd1 a2V he k1 tN1 ht1 hp1 hpE hx hNX hKL HI qh Vk c3 cP1 cD1 cDU;obtain⟨i0,hi0,hz0,hz1,hz2⟩:=info_parts yX;go_upto_region 6 with fail;obtain⟨U1,hU1⟩:∃U,wr.alloc (.cells #[.string ⟨xZ.toArray⟩,.slice o' jO.length cap',.slice ok' ks'.length gI] 25)=U:=⟨_,rfl⟩;obtain⟨KB,hKB⟩:∃KB,wr.heap.size=KB:=⟨_,rfl⟩;rw[hU1] at bU u0 u1 u2 cPU c3U HC HOW⊢;rw[hKB] at u0 u1 u2 aaX aaY⊢;have hBU:W0.heap.size<=U1.heap.size:=by have:=bU.size;have:=bR.size;omega
   clear hU1
   go_region_law (first|(refine step_append_lies _ rfl (.tmp 33) (.tmp 38) 42 rfl W0.heap.size 3 i0 (aa 0) 1 8 underlying42 hi0 hz0 hz1 hz2 rfl (by decide) (.slice ov KL.length kv) KL.length (bY KL) rfl (World.ownsRow.alloc Vl _) ⟨w4.heap.size,0,none⟩ 1 1 [aa NX] rfl rfl (World.news_of_block H04) (fun u hu=>by simp at hu;rcases hu with rfl;rfl) (by decide) (by rw[aQ];omega) (by omega) (by simp;omega) _ rfl ?_;intro g7 nH w7 jQ lU Mm a2W;have e7:=E7 lU;have e0:=aA e7 3 _ rfl;have ef:=dF e7)|(go_simp;go_wp2_with(first|(go_at_call 41;refine(HC _ (lX 1 (Below.refl _ _))).mono ?_;rintro e w4 ⟨rfl,k4,vz,p2,ht2,hp2,hd2⟩;have c34:=K2.cell k4 (by exact c3U) hEd.1 hEd.2;have ahs:=fun o=>bO o c34;have Vl:=HOW _ (by exact K2.FI k4);have H04:=dh w4 #[aa NX] 3;have l4:W0.heap.size<=w4.heap.size:=(Nat.le_trans hBU k4.size);have E7:=fun{o:Obj} {w7:World}=>QS (o:=o) (w7:=w7) HEL.out bU (K2.FI k4) hEd))))
   all_goals(
    have FIN:QT W0 W tg p M DB MB N EB nx c #[.string ⟨nm.toArray⟩,.slice o1 ats.length dz,.slice (some ⟨b',off',none⟩) ks.length dB] nm ats parent (ks.take (i+1)) (w7.setCell ⟨EB,3,none⟩ (.slice (some ⟨g7,0,none⟩) (KL.length+1) nH)):=by
     obtain⟨k1,tN1,ht1,hp1,hpE,hx,hNX,hKL⟩:=HST.out;have hd1:=HD1.out;have he:=HEL.out;clear HC HOW;subst hNX;subst hKL;exact Vh hx k1 hN1 tN1 ht1 hp1 hpE hd1 he bU (K2.FI k4) ht2 hp2 HD.out hd2 jQ lU (Mm.imp (fun h=>by rw[h];rfl) (fun h=>by rw[h];rfl))
    have a2X:Hid (QT W0 W tg p M DB MB N EB nx c #[.string ⟨nm.toArray⟩,.slice o1 ats.length dz,.slice (some ⟨b',off',none⟩) ks.length dB] nm ats parent (ks.take (i+1)) (w7.setCell ⟨EB,3,none⟩ (.slice (some ⟨g7,0,none⟩) (KL.length+1) nH))):=FIN;clear FIN jQ lU hd2 ht2 hp2 k4 HC HOW;go_wp2_with fail
    go_roundw
    case rel=>exact⟨i+1,by omega,by go_num,a2X.out⟩
    case measure=>simp[intOf];omega)
  ·obtain rfl:i=ks.length:=by omega
   have hge:¬(ks.length:Int)<(ks.length:Int):=by omega
   rw[List.take_length] at hd1;have HD1:Hid (bG W0.heap.size qi wr DB MB p1 (zU M nx (mP nx parent (.mk nm ats ks))) (nx+dQ (.mk nm ats ks)) (c+dQ (.mk nm ats ks))):=(by
    rw[mP,hsz,show nx+(iO ks+1)=nx+1+iO ks from by omega,show c+(iO ks+1)=c+1+iO ks from by omega];exact hd1:bG W0.heap.size qi wr DB MB p1 (zU M nx (mP nx parent (.mk nm ats ks))) (nx+dQ (.mk nm ats ks)) (c+dQ (.mk nm ats ks)))
   clear hd1;go_wp2_with fail;go_ret;exact⟨rfl,k1,qi,ht1,p1,hp1,HD1.out⟩
end
section
open Go.RowKit
set_option maxHeartbeats 4000000
set_option maxRecDepth 20000
def Mo (DB MB:Nat):kE:=fun x=>if x=DB then some .doc else if x=MB then some .map else none
theorem bG.made {B:Nat}{w:World}{DB MB:Nat}(hd:w.heap[DB]? =some (.cells #[.map (some MB),aa 0] 85))(hm:iA prog 3 w MB (fun _=>none) 0 0)(hne:MB≠DB)(h1:B<=DB)(h2:B<=MB):bG B (Mo DB MB) w DB MB (fun _=>none) (fun _=>none) 0 0 where
 doc:=hd
 jP:=by unfold Mo;rw[if_pos rfl]
 map:=hm
 kF:=by unfold Mo;rw[if_neg hne,if_pos rfl]
 els:=fun _ _ h=>by cases h
 non:=fun _ _=>rfl
 low:=fun b t ht=>by
  unfold Mo at ht;split at ht
  ·rename_i e;subst e;exact⟨h1,aD hd⟩
  ·split at ht
   ·rename_i e;subst e;exact⟨h2,hm.lt⟩
   ·cases ht
 dom:=fun _ _ h=>by cases h
 wf:=fun _ _ h=>by cases h
 few:=by omega
 Tu:=fun b i h=>by
  unfold Mo at h;split at h
  ·simp at h
  ·split at h<;>simp at h
def aaZ (E:Nat->Addr)(B:Nat)(n:Nd)(e:Ending)(w:World):Prop:=
 ((fT n 1 0).1≠0/\∃pb,e=.returned (.tuple #[.pointer none,.iface 113 (aj pb)])/\w.cell? (ag pb 0)=some (aa (fT n 1 0).2)/\w.cell? (ag pb 1)=some (.iface 390 (.pointer (some (E (fT n 1 0).1)))))\/
 ((fT n 1 0).1=0/\∃DB MB tg p,e=.returned (.tuple #[aj DB,.nilIface])/\bG B tg w DB MB p (zU (fun _=>none) 0 (mP 0 (-1) n)) (dQ n) (dQ n))
attribute [local go_sem] pM
theorem OJ (E:Nat->Addr)(n:Nd)(c0 c1 c2:Value)(W:World)(hE:CE E W)(hn:jR W c0 c1 c2 n)(hs:dQ n<=1000000):
  ak 23 #[.agg #[c0,c1,c2]] W fun e w'=>Below W.heap.size W w'/\aaZ E W.heap.size n e w':=by
 obtain⟨sa,oa,na,ka,wX,na',ka',rfl,rfl,rfl⟩:∃(sa:ByteArray) (oa:Option Addr) (na ka:Nat) (wX:Option Addr) (na' ka':Nat),c0=.string sa/\c1=.slice oa na ka/\c2=.slice wX na' ka':=by
  obtain⟨nm,ats,ks⟩:=n;unfold jR at hn;obtain⟨rfl, -,⟨o,cap,rfl, -⟩,ok,dB,rfl, -⟩:=hn;exact⟨_,_,_,_,_,_,_,rfl,rfl,rfl⟩
 have A0:NB W.heap.size (.string sa) (.slice oa na ka) (.slice wX na' ka') (W.alloc (.cells #[.string sa,.slice oa na ka,.slice wX na' ka'] 25)):=dh W #[.string sa,.slice oa na ka,.slice wX na' ka'] 25;have b0:=aW W (.cells #[.string sa,.slice oa na ka,.slice wX na' ka'] 25);go_enter func23,ntmps23;go_upto_region 1 with fail;obtain⟨V,hV⟩:∃V,W.alloc (.cells #[.string sa,.slice oa na ka,.slice wX na' ka'] 25)=V:=⟨_,rfl⟩;obtain⟨N,hN⟩:∃N,W.heap.size=N:=⟨_,rfl⟩;rw[hV] at A0 b0⊢;rw[hN] at A0⊢;have HN:Hid (W.heap.size=N):=hN;clear hV hN;have x0:=A0.c0;have x1:=A0.c1;have x2:=A0.c2;have CK:=Jb E n _ _ _ V (hE.below b0) (jR.below b0 n hn);by_cases hc:(fT n 1 0).1=0
 ·have CK1:=CK.mono (R':=fun e w'=>e=.returned .nilIface/\Below V.heap.size V w') (fun e w' h=>by
   refine⟨?_,h.1⟩;rcases h.2 with h2|h2
   ·exact h2.2
   ·exact absurd hc h2.1)
  have HC:Hid ((fT n 1 0).1=0):=hc;clear CK hc;go_upto_region 4 with(go_at_call 37;refine CK1.mono ?_;rintro e w1 ⟨rfl,b1⟩);have B1:=az b0 b1;have hsz1:=B1.size;have hmm:=@run_makeMap prog;go_upto_region 5 with fail;have U0:∃U MB,((w1.alloc (.map #[] 0)).alloc (.cells #[.map (some w1.heap.size),aa 0] 85)).alloc (.cells #[.pointer (some ⟨w1.heap.size+1,0,none⟩)] 52)=U/\w1.heap.size=MB/\U.heap[MB+1]? =some (.cells #[.map (some MB),aa 0] 85)/\iA prog 3 U MB (fun _=>none) 0 0/\U.cell? (ag (MB+1+1) 0)=some (.pointer (some ⟨MB+1,0,none⟩))/\U.heap.size=MB+1+1+1/\Below w1.heap.size w1 U:=by
   refine⟨_,_,rfl,rfl,?_,?_,?_,by simp,?_⟩
   ·have h1:=dh (w1.alloc (.map #[] 0)) #[.map (some w1.heap.size),aa 0] 85;have h2:=(aW ((w1.alloc (.map #[] 0)).alloc (.cells #[.map (some w1.heap.size),aa 0] 85)) (.cells #[.pointer (some ⟨w1.heap.size+1,0,none⟩)] 52)).block _ (aD h1);simp only[World.size_alloc] at h1 h2;exact h2.trans h1
   ·exact((iA.made w1 prog 3).kept (World.grownBy_alloc _ _ none) (by simp)).kept (World.grownBy_alloc _ _ none) (by simp)
   ·have h1:=gp ((w1.alloc (.map #[] 0)).alloc (.cells #[.map (some w1.heap.size),aa 0] 85)) #[.pointer (some ⟨w1.heap.size+1,0,none⟩)] 52 0 _ rfl;simp only[World.size_alloc] at h1;exact h1
   ·exact az (az (aW _ _) (aW _ _)) (aW _ _)
  obtain⟨U,MB,hU,hMB,dU,pU,cDU,sU,bU⟩:=U0;rw[hU,hMB];have hMN:N<MB:=by have:=HN.out;have h2:=aD A0;have:=b1.size;omega
  clear hU;have BU:=az B1 bU;have F0:=gp U #[.func (.func 41) #[] #[.pointer (some ⟨MB+1+1,0,none⟩),aj U.heap.size]] 102 0 (.func (.func 41) #[] #[.pointer (some ⟨MB+1+1,0,none⟩),aj U.heap.size]) rfl;have bF:=aW U (.cells #[.func (.func 41) #[] #[.pointer (some ⟨MB+1+1,0,none⟩),aj U.heap.size]] 102);have AU:=((az b1 bU).block N (aD A0)).trans A0;have D0:=bG.made (B:=W.heap.size) dU pU (by omega) (by have:=HN.out;omega) (by have:=HN.out;omega);go_upto_region 7 with fail;obtain⟨X,hX⟩:∃X,U.alloc (.cells #[.func (.func 41) #[] #[.pointer (some ⟨MB+1+1,0,none⟩),aj U.heap.size]] 102)=X:=⟨_,rfl⟩;obtain⟨PP,hPQ⟩:∃PP,MB+1+1+1=PP:=⟨_,rfl⟩;have EX:U.heap.size=PP:=sU.trans hPQ;rw[EX] at hX F0 bF;rw[hPQ,hX];rw[hX] at F0 bF;have D1:=D0.turn (w':=X) (fun g t ht=>bF.block g (by rw[<- EX];exact(D0.low g t ht).2)) bF.size;have bX:Below U.heap.size U X:=by rw[EX];exact bF
  have BX:=az BU bX;have AX:=(bX.block N (aD AU)).trans AU;have cDX:=(bX.cell (ax cDU)).trans cDU;have HP:=ZF W (MB+1+1) PP (MB+1) MB n _ _ _ (-1) _ X _ _ 0 0 hn (OE n 1 0 HC.out) BX cDX F0 D1 (by unfold Mo;rw[if_neg (by omega),if_neg (by omega)]) (by unfold Mo;rw[if_neg (by omega),if_neg (by omega)]) (by decide) (by omega);rw[Nat.zero_add] at HP;have x0:=NB.c0 AX;have x1:=NB.c1 AX;have x2:=NB.c2 AX;have ab0:W.heap.size<=MB:=by have:=HN.out;omega
  clear hX D0 D1 AU;go_wp2_with(go_at_call 41;refine HP.mono ?_;rintro e w5 ⟨rfl,k5,tg5,p5, -, -,d5⟩;have cD5:=k5.cell cDX (by omega) (by omega))
  go_ret2
  exact⟨BX.trans ((k5.below (m:=W.heap.size) (by omega) ab0 BX.size)),.inr ⟨HC.out,MB+1,MB,tg5,p5,rfl,d5⟩⟩
 ·have CK1:=CK.mono (R':=fun e w'=>(∃pb,e=.returned (.iface 113 (aj pb))/\w'.cell? (ag pb 0)=some (aa (fT n 1 0).2)/\w'.cell? (ag pb 1)=some (.iface 390 (.pointer (some (E (fT n 1 0).1)))))/\Below V.heap.size V w') (fun e w' h=>by
   refine⟨?_,h.1⟩;rcases h.2 with h2|⟨-,pb, -,h3⟩
   ·exact absurd h2.1 hc
   ·exact⟨pb,h3⟩)
  clear CK;go_wp2_with(go_at_call 37;refine CK1.mono ?_;rintro e w1 ⟨⟨pb,rfl,h3,h4⟩,b1⟩)
  go_ret2
  exact⟨az b0 b1,.inl ⟨hc,pb,rfl,h3,h4⟩⟩
end
section
open Go.RowKit
set_option maxHeartbeats 4000000
set_option maxRecDepth 20000
theorem ZG {w:World}{B k n:Nat}{e:TypeId}{v:Value}{xs:List Value}(h:w.ownsRow B e k v n xs):n<=9223372036854775807:=by
 obtain⟨o,cap, -,h1,h2, -⟩:=bA h;rw[aQ] at h2;omega
theorem FJ {α β:Type}(g:α->List β)(l:List α)(k:Nat):((l.take k).flatMap g).length<=(l.flatMap g).length:=by
 have h:=congrArg (fun x=>(List.flatMap g x).length) (List.take_append_drop k l);simp only[List.flatMap_append,List.length_append] at h;omega
theorem Ej {B:Nat}{tg:kE}{Wd:World}{DB MB:Nat}{p:Int->Option Nat}{M:Dm}{nx c:Nat}(hd:bG B tg Wd DB MB p M nx c)(lb:Array Value)(I:List (Int×Int)->World->Prop)(hI:∀done W,I done W->(∀b t,tg b=some t->W.heap[b]? =Wd.heap[b]?)/\Wd.heap.size<=W.heap.size)
  (hcall:∀done W i d,I done W->done.length<1000000->ak 156 (#[aa i,aa d]++lb) W fun e w'=>e=.returned (.tuple #[])/\I (done++[(i,d)]) w'):
  ∀(f:Nat) (n d:Int) (done:List (Int×Int)) (W:World),Dp M f n->dH n->0<=d->d+f<=1000000->done.length+(pre M f n d).length<=1000000->I done W->
  ak 155 #[aj DB,aa n,aa d,.func (.func 156) #[] lb] W fun e w'=>e=.returned (.tuple #[])/\I (done++pre M f n d) w'
 |0,_,_,_,_,hp,_,_,_,_,_=>hp.elim
 |f+1,n,d,done,W,hp,hn,hd0,hdf,hlen,hi=>by
  have IH:=Ej hd lb I hI hcall f;have hs:=hI done W hi;have hw:=hd.turn hs.1 hs.2;have d0:=hw.d0;cases hm:M n with
  |none=>
   have hpn:=hd.non n hm;have hpre:pre M (f+1) n d=[]:=by rw[pre,hm]
   rw[hpre,List.append_nil];go_enter func155,ntmps155;go_wp2_with(at_lookup;refine lY _ rfl _ _ 83 rfl underlying3 underlying83 (eG _) rfl hw.map n rfl hn hpn ?_);refine bodyPost_ret (v:=.tuple #[]) (by simp[results,results155]) rfl ⟨rfl,hi⟩
  |some e=>
   have hpre:pre M (f+1) n d=(n,d)::e.kids.flatMap (fun k=>pre M f k (d+1)):=by rw[pre,hm]
   rw[hpre] at hlen⊢;rw[List.length_cons] at hlen;obtain⟨b,va,vk,hpn,he⟩:=hd.els n e hm;have he1:=he.turn (uF:=tg) (w':=W) fun g t ht _=>⟨ht,hs.1 g t ht⟩;have HCL:=hcall done W n d hi (by omega);obtain⟨ov,kv,hvk⟩:=aI he.kids;have HKD:Hid (∀k∈e.kids,Dp M f k/\dH k):=(fun k hk=>⟨hp e hm k hk,(hd.wf n e hm).2 k hk⟩:∀k∈e.kids,Dp M f k/\dH k);have HHI:Hid (∀done W,I done W->(∀b t,tg b=some t->W.heap[b]? =Wd.heap[b]?)/\Wd.heap.size<=W.heap.size):=hI;have HIH:Hid (∀(n d:Int) (done:List (Int×Int)) (W:World),Dp M f n->dH n->0<=d->d+f<=1000000->done.length+(pre M f n d).length<=1000000->I done W->ak 155 #[aj DB,aa n,aa d,.func (.func 156) #[] lb] W fun e w'=>e=.returned (.tuple #[])/\I (done++pre M f n d) w'):=IH;have hkl:e.kids.length<=9223372036854775807:=ZG he.kids;clear hI IH hcall hi hp;go_enter func155,ntmps155;go_upto_region 3 with(first|(at_lookup;refine eY _ rfl _ _ 83 rfl underlying3 underlying83 (eG _) rfl hw.map n rfl hn b hpn ?_)|(go_at_call 156;refine HCL.mono ?_;rintro r w1 ⟨rfl,hi1⟩));subst hvk;have x3:=World.cell?_of_block ((HHI.out _ _ hi1).1 b _ he.tag)|>.trans he.c3
   have hd1:d<=999999:=by omega
   have HHE:Hid (yf B tg Wd n b e va (.slice ov e.kids.length kv)):=he;have HI1:Hid (I (done++[(n,d)]) w1):=hi1;clear he he1 hi1 hw d0 hs HCL;go_wp2_with fail
   go_loopw [32] (fun y wr=>∃k:Nat,k<=e.kids.length/\y=aa k/\I (done++((n,d)::(e.kids.take k).flatMap (fun i=>pre M f i (d+1)))) wr) (fun y _=>e.kids.length-(intOf y).toNat)
   case atStart=>exact⟨0,Nat.zero_le _,rfl,HI1.out⟩
   case round=>
    obtain⟨k,hk,rfl,hi2⟩:=hrel;by_cases hlt:k<e.kids.length
    ·have hlt':(k:Int)<(e.kids.length:Int):=by omega
     obtain⟨kid,hx, -⟩:=drop_at hlt;obtain⟨g,hg,hc⟩:=bJ HHE.out.kids k _ (wW hx);have hov:ov=some ⟨g,0,none⟩:=by
      obtain⟨o',cap',h1, -, -, -,h2⟩:=bA HHE.out.kids;cases h1;exact h2 g hg
     subst hov;have hcw:=World.cell?_of_block ((HHI.out _ _ hi2).1 g _ (HHE.out.jX g hg))|>.trans hc
     have hkd:=HKD.out kid (List.mem_of_getElem? hx);have htk:(e.kids.take (k+1)).flatMap (fun i=>pre M f i (d+1))=(e.kids.take k).flatMap (fun i=>pre M f i (d+1))++pre M f kid (d+1):=by
      rw[List.take_add_one,hx];simp
     have hle:=FJ (fun i=>pre M f i (d+1)) e.kids (k+1);rw[htk,List.length_append] at hle;have HC:=HIH.out kid (d+1) _ wr hkd.1 hkd.2 (by omega) (by omega) (by rw[List.length_append,List.length_cons];omega) hi2;rw[List.append_assoc,List.cons_append,<- htk] at HC;clear hi2 hc hg hx htk hle;go_wp2_with(go_at_call 155;refine HC.mono ?_;rintro r w2 ⟨rfl,hi3⟩)
     go_roundw
     case rel=>exact⟨k+1,by omega,by go_num,hi3⟩
     case measure=>simp[intOf];omega
    ·obtain rfl:k=e.kids.length:=by omega
     have hge:¬(e.kids.length:Int)<(e.kids.length:Int):=by omega
     rw[List.take_length] at hi2;go_wp2_with fail;refine bodyPost_end (results_none rfl _ _ _) rfl ⟨rfl,hi2⟩
end
end Go.Proofs.YtjfiehbcamfdfaaGreatDoor

/- Parts of the proof. -/
import Derived.Maps.OwnSet
import Derived.WalkKit
import Derived.Test.YtecneflbncjhpaaGreatDoorQpb
namespace Go.Proofs.YtecneflbncjhpaaGreatDoor
open Go.RowKit Go.Maps
def qH:ah->Option (DataW Unit×List MemPlace)
 | .pointer none=>some (.lit (.int .i64 (-1)),[])
 | .pointer (some a)=>if a=⟨a.block,0,none⟩ then some (.lit (.int .i64 (a.block:Int)),[]) else none
 |_=>none
theorem FQ (b:Nat):qH (ay b)=some (.lit (.int .i64 b),[]):=by simp[qH]
theorem QF (a:Addr):qH (.pointer (some a))=if a=⟨a.block,0,none⟩ then some (.lit (.int .i64 (a.block:Int)),[]) else none:=rfl
theorem wK {v:ah}{b:Nat}{ps:List MemPlace}(h:qH v=some (.lit (.int .i64 b),ps)):v=ay b:=by
 cases v<;>try cases h
 rename_i o;cases o with
 |none=>simp[qH] at h
 |some a=>
  rw[QF] at h;by_cases e:a=⟨a.block,0,none⟩
  ·rw[if_pos e] at h;simp at h;rw[e,show a.block=b from by omega]
  ·rw[if_neg e] at h;cases h
theorem xV {v:ah}{ps:List MemPlace}(h:qH v=some (.lit (.int .i64 (-1)),ps)):v=.pointer none:=by
 cases v<;>try cases h
 rename_i o;cases o with
 |none=>rfl
 |some a=>
  rw[QF] at h;by_cases e:a=⟨a.block,0,none⟩
  ·rw[if_pos e] at h;simp at h
  ·rw[if_neg e] at h;cases h
theorem A9 (i:Int):WideAt.IsKeyLit (.int .i64 i):=by simp[WideAt.IsKeyLit]
def gq (P:Program)(K:TypeId)(w:ag)(B:Nat)(p:Int->Option Nat)(n c:Nat):Prop:=
 ∃D:DataW Unit,w.ownsMap P K qH B n D/\Maps.size D=c/\∀k:Int,Maps.has D (.int .i64 k)=(p k).isSome/\∀b,p k=some b->∀zd,D.atKey (.int .i64 k) zd=.lit (.int .i64 b)
section
variable {P:Program}{K T E:TypeId}{w:ag}{B n c:Nat}{p:Int->Option Nat}
theorem gq.made (w:ag)(P:Program)(K:TypeId):gq P K (w.alloc (.map #[] 0)) w.heap.size (fun _=>none) 0 0:=
 ⟨.map [],World.ownsMap_made w P K qH,rfl,fun _=>⟨rfl,fun _ h=>by cases h⟩⟩
theorem gq.kept {w':ag}{row:Option Nat}(h:gq P K w B p n c)(hg:w.grownBy w' row)(hne:some B≠row):gq P K w' B p n c:=by
 obtain⟨D,h1,h2⟩:=h;exact⟨D,h1.kept hg hne,h2⟩
theorem gq.lt (h:gq P K w B p n c):B<w.heap.size:=by
 obtain⟨D,h1, -⟩:=h;exact h1.lt
theorem gq.same {w':ag}(h:gq P K w B p n c)(hb:w'.heap[B]? =w.heap[B]?):gq P K w' B p n c:=by
 obtain⟨D,⟨es,cl,h1,h2⟩,h3⟩:=h;exact⟨D,⟨es,cl,hb.trans h1,h2⟩,h3⟩
theorem gq.size_le (h:gq P K w B p n c):c<=n:=by
 obtain⟨D,h1,rfl, -⟩:=h;exact h1.size_le
theorem gq.mono (h:gq P K w B p n c){n':Nat}(hn:n<=n'):gq P K w B p n' c:=by
 obtain⟨D,h1,h2⟩:=h;exact⟨D,h1.mono hn,h2⟩
variable (w){ops:Array Oper}{rest:List Oper}{o:Oper}{a:Act}{Q:Exit->Act->ag->Prop}
theorem fq (hg:o.guard=none)(m x:Operand)(t:TypeId)(hop:o.op=Op.lookup t m x true)(hK:P.underlying K=some (.int .i64))(hT:P.underlying t=some (.map K E))(hz:(zeroValue E).run P w=.ok (.pointer none) w)
  (hm:a.eval m=.map (some B)) (h:gq P K w B p n c) (k:Int) (hx:a.eval x=.int .i64 k) (hk:(Lit.int .i64 k).wf=true) (b:Nat) (hb:p k=some b)
  (hQ:wpList P ops Q rest (a.put o.dst (.tuple #[ay b,.bool true])) w):wpList P ops Q (o::rest) a w:=by
 obtain⟨D,h1, -,h3⟩:=h;refine wpList_lookup_own_ok w hg m x t hop K E (int_keyed hK) hT qH hz (.lit (.int .i64 (-1))) [] rfl B n D hm h1 _ (.int .i64 k) hx (keyOf_int_mk hK hk) fun v ps hv=>?_;rw[(h3 k).2 b hb] at hv;rw[wK hv,(h3 k).1,hb];exact hQ
theorem lC (hg:o.guard=none)(m x:Operand)(t:TypeId)(hop:o.op=Op.lookup t m x true)(hK:P.underlying K=some (.int .i64))(hT:P.underlying t=some (.map K E))(hz:(zeroValue E).run P w=.ok (.pointer none) w)
  (hm:a.eval m=.map (some B)) (h:gq P K w B p n c) (k:Int) (hx:a.eval x=.int .i64 k) (hk:(Lit.int .i64 k).wf=true) (hb:p k=none)
  (hQ:wpList P ops Q rest (a.put o.dst (.tuple #[.pointer none,.bool false])) w):wpList P ops Q (o::rest) a w:=by
 obtain⟨D,h1, -,h3⟩:=h;refine wpList_lookup_own_ok w hg m x t hop K E (int_keyed hK) hT qH hz (.lit (.int .i64 (-1))) [] rfl B n D hm h1 _ (.int .i64 k) hx (keyOf_int_mk hK hk) fun v ps hv=>?_;have hh:Maps.has D (.int .i64 k)=false:=by rw[(h3 k).1,hb];rfl
 rw[atKey_of_not_has hh] at hv;rw[xV hv,hh];exact hQ
theorem Xu (hg:o.guard=none)(m x:Operand)(t:TypeId)(hop:o.op=Op.lookup t m x false)(hK:P.underlying K=some (.int .i64))(hT:P.underlying t=some (.map K E))(hz:(zeroValue E).run P w=.ok (.pointer none) w)
  (hm:a.eval m=.map (some B)) (h:gq P K w B p n c) (k:Int) (hx:a.eval x=.int .i64 k) (hk:(Lit.int .i64 k).wf=true)
  (hQ:wpList P ops Q rest (a.put o.dst (.pointer ((p k).map fun b=>⟨b,0,none⟩))) w):wpList P ops Q (o::rest) a w:=by
 obtain⟨D,h1, -,h3⟩:=h;refine wpList_plain hg fun K' hK'=>?_;obtain⟨v,ps,hrun,hv⟩:=h1.lookup (zd:=.lit (.int .i64 (-1))) (int_keyed hK) hT hz (zp:=[]) rfl (keyOf_int_mk hK hk);unfold Oper.wp;simp[execOp,hop,hm,hx,hrun,Result.andThen];have e:v=.pointer ((p k).map fun b=>⟨b,0,none⟩):=by
  cases hb:p k with
  |none=>
   have hh:Maps.has D (.int .i64 k)=false:=by rw[(h3 k).1,hb];rfl
   rw[atKey_of_not_has hh] at hv;exact xV hv
  |some b=>
   rw[(h3 k).2 b hb] at hv;exact wK hv
 rw[e];exact hK' _ _ hQ
theorem TM (hg:o.guard=none)(m x v:Operand)(t:TypeId)(hop:o.op=Op.mapUpdate t m x v)(hK:P.underlying K=some (.int .i64))(hT:P.underlying t=some (.map K E))
  (hm:a.eval m=.map (some B)) (h:gq P K w B p n c) (hn:n<maxLen) (k:Int) (hx:a.eval x=.int .i64 k) (hk:(Lit.int .i64 k).wf=true) (b:Nat) (hv:a.eval v=ay b) (hb:p k=none)
  (hQ:∀w',gq P K w' B (fun i=>if i=k then some b else p i) (n+1) (c+1)->w.mapTurned w' B->wpList P ops Q rest (a.put o.dst undef) w'):wpList P ops Q (o::rest) a w:=by
 obtain⟨D,h1,h2,h3⟩:=h;refine wpList_mapUpdate_in w hg m x v t hop K E (int_keyed hK) hT qH B n D hm h1 hn _ _ (.int .i64 k) hx hv (keyOf_int_mk hK hk) (.lit (.int .i64 b)) [] (FQ b) fun w' hw ht=>hQ w' ⟨_,hw,?_,fun i=>?_⟩ ht
 ·have hh:Maps.has D (.int .i64 k)=false:=by rw[(h3 k).1,hb];rfl
  rw[size_put (h1.tidy (int_keyed hK)),hh,h2];rfl
 ·by_cases hi:i=k
  ·subst hi;simp only[if_pos];exact⟨has_put_same h1.isMap (A9 i) _,fun b' hb' zd=>by cases hb';exact atKey_put_same h1.isMap (A9 i) _ _⟩
  ·simp only[if_neg hi];have hne:(Lit.int .i64 i)≠(Lit.int .i64 k):=fun e=>hi (by cases e;rfl);exact⟨(has_put_other hne _).trans (h3 i).1,fun b' hb' zd=>(atKey_put_other hne _ _).trans ((h3 i).2 b' hb' zd)⟩
theorem TN (hg:o.guard=none)(m x:Operand)(t k':TypeId)(hop:o.op=Op.call {callee:=Callee.builtin Builtin.delete,args:=#[m,x],argTypes:=#[t,k']})(hK:P.underlying k'=some (.int .i64))(hT:P.underlying t=some (.map k' E))
  (hm:a.eval m=.map (some B)) (h:gq P k' w B p n c) (k:Int) (hx:a.eval x=.int .i64 k) (hk:(Lit.int .i64 k).wf=true) (b:Nat) (hb:p k=some b)
  (hQ:∀w',gq P k' w' B (fun i=>if i=k then none else p i) n (c-1)->w.mapTurned w' B->wpList P ops Q rest (a.put o.dst (.tuple #[])) w'):wpList P ops Q (o::rest) a w:=by
 obtain⟨D,h1,h2,h3⟩:=h;refine wpList_delete_own w hg m x t k' hop E (int_keyed hK) hT qH B n D hm h1 _ (.int .i64 k) hx (keyOf_int_mk hK hk) fun w' hw ht=>hQ w' ⟨_,hw,?_,fun i=>?_⟩ ht
 ·have hh:Maps.has D (.int .i64 k)=true:=by rw[(h3 k).1,hb];rfl
  have:=size_del (k:=.int .i64 k) (h1.tidy (int_keyed hK));rw[hh,h2] at this;simp at this;omega
 ·by_cases hi:i=k
  ·subst hi;simp only[if_pos];exact⟨has_del_same,fun b' hb'=>by cases hb'⟩
  ·simp only[if_neg hi];have hne:(Lit.int .i64 i)≠(Lit.int .i64 k):=fun e=>hi (by cases e;rfl);exact⟨(has_del_other hne).trans (h3 i).1,fun b' hb' zd=>(atKey_del_other hne _).trans ((h3 i).2 b' hb' zd)⟩
theorem Xv (hg:o.guard=none)(m:Operand)(t:TypeId)(hop:o.op=Op.call {callee:=Callee.builtin Builtin.len,args:=#[m],argTypes:=#[t]})(hT:P.underlying t=some (.map K E))
  (hm:a.eval m=.map (some B)) (h:gq P K w B p n c) (hQ:wpList P ops Q rest (a.put o.dst (.int .i64 c)) w):wpList P ops Q (o::rest) a w:=by
 obtain⟨D,h1,rfl, -⟩:=h;exact wpList_len_own w hg m t hop K E hT qH B n D hm h1 hQ
end
end Go.Proofs.YtecneflbncjhpaaGreatDoor

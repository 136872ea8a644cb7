/-
  Parts of the proof.
-/
import Derived.Maps.OwnSet
import Derived.WalkKit
namespace Go.Proofs.YtgphclgmmocdhaaGreatDoor
open Go.RowKit Go.Maps
def ptrE:Value->Option (DataW Unit × List MemPlace)
 | .pointer none=>some (.lit (.int .i64 (-1)),[])
 | .pointer (some a)=>if a=⟨a.block,0,none⟩ then some (.lit (.int .i64 (a.block:Int)),[]) else none
 | _=>none
theorem ptrE_some (b:Nat):ptrE (.pointer (some ⟨b,0,none⟩))=some (.lit (.int .i64 b),[]):=by simp [ptrE]
theorem ptrE_at (a:Addr):ptrE (.pointer (some a))=if a=⟨a.block,0,none⟩ then some (.lit (.int .i64 (a.block:Int)),[]) else none:=rfl
theorem ptrE_inv {v:Value} {b:Nat} {ps:List MemPlace} (h:ptrE v=some (.lit (.int .i64 b),ps)):v=.pointer (some ⟨b,0,none⟩):=by
 cases v <;> try cases h
 rename_i o
 cases o with
 | none=>simp [ptrE] at h
 | some a=>
  rw [ptrE_at] at h
  by_cases e:a=⟨a.block,0,none⟩
  ·rw [if_pos e] at h
   simp at h
   rw [e,show a.block=b from by omega]
  ·rw [if_neg e] at h
   cases h
theorem ptrE_inv0 {v:Value} {ps:List MemPlace} (h:ptrE v=some (.lit (.int .i64 (-1)),ps)):v=.pointer none:=by
 cases v <;> try cases h
 rename_i o
 cases o with
 | none=>rfl
 | some a=>
  rw [ptrE_at] at h
  by_cases e:a=⟨a.block,0,none⟩
  ·rw [if_pos e] at h
   simp at h
  ·rw [if_neg e] at h
   cases h
theorem key_int (i:Int):WideAt.IsKeyLit (.int .i64 i):=by simp [WideAt.IsKeyLit]
def PMap (P:Program) (K:TypeId) (w:World) (B:Nat) (p:Int->Option Nat) (n c:Nat):Prop:=
 ∃ D:DataW Unit,w.ownsMap P K ptrE B n D/\Maps.size D=c/\∀ k:Int,Maps.has D (.int .i64 k)=(p k).isSome/\∀ b,p k=some b->∀ zd,D.atKey (.int .i64 k) zd=.lit (.int .i64 b)
section
variable {P:Program} {K T E:TypeId} {w:World} {B n c:Nat} {p:Int->Option Nat}
theorem PMap.made (w:World) (P:Program) (K:TypeId):PMap P K (w.alloc (.map #[] 0)) w.heap.size (fun _=>none) 0 0:=
 ⟨.map [],World.ownsMap_made w P K ptrE,rfl,fun _=>⟨rfl,fun _ h=>by cases h⟩⟩
theorem PMap.kept {w':World} {row:Option Nat} (h:PMap P K w B p n c) (hg:w.grownBy w' row) (hne:some B≠row):PMap P K w' B p n c:=by
 obtain ⟨D,h1,h2⟩:=h
 exact ⟨D,h1.kept hg hne,h2⟩
theorem PMap.lt (h:PMap P K w B p n c):B<w.heap.size:=by
 obtain ⟨D,h1, -⟩:=h
 exact h1.lt
theorem PMap.same {w':World} (h:PMap P K w B p n c) (hb:w'.heap[B]? = w.heap[B]?):PMap P K w' B p n c:=by
 obtain ⟨D,⟨es,cl,h1,h2⟩,h3⟩:=h
 exact ⟨D,⟨es,cl,hb.trans h1,h2⟩,h3⟩
variable (w) {ops:Array Oper} {rest:List Oper} {o:Oper} {a:Act} {Q:Exit->Act->World->Prop}
theorem look_yes (hg:o.guard=none) (m x:Operand) (t:TypeId) (hop:o.op=Op.lookup t m x true) (hK:P.underlying K=some (.int .i64)) (hT:P.underlying t=some (.map K E)) (hz:(zeroValue E).run P w=.ok (.pointer none) w)
  (hm:a.eval m=.map (some B)) (h:PMap P K w B p n c) (k:Int) (hx:a.eval x=.int .i64 k) (hk:(Lit.int .i64 k).wf=true) (b:Nat) (hb:p k=some b)
  (hQ:wpList P ops Q rest (a.put o.dst (.tuple #[.pointer (some ⟨b,0,none⟩),.bool true])) w):wpList P ops Q (o :: rest) a w:=by
 obtain ⟨D,h1, -,h3⟩:=h
 refine wpList_lookup_own_ok w hg m x t hop K E (int_keyed hK) hT ptrE hz (.lit (.int .i64 (-1))) [] rfl B n D hm h1 _ (.int .i64 k) hx (keyOf_int_mk hK hk) fun v ps hv=>?_
 rw [(h3 k).2 b hb] at hv
 rw [ptrE_inv hv,(h3 k).1,hb]
 exact hQ
theorem look_no (hg:o.guard=none) (m x:Operand) (t:TypeId) (hop:o.op=Op.lookup t m x true) (hK:P.underlying K=some (.int .i64)) (hT:P.underlying t=some (.map K E)) (hz:(zeroValue E).run P w=.ok (.pointer none) w)
  (hm:a.eval m=.map (some B)) (h:PMap P K w B p n c) (k:Int) (hx:a.eval x=.int .i64 k) (hk:(Lit.int .i64 k).wf=true) (hb:p k=none)
  (hQ:wpList P ops Q rest (a.put o.dst (.tuple #[.pointer none,.bool false])) w):wpList P ops Q (o :: rest) a w:=by
 obtain ⟨D,h1, -,h3⟩:=h
 refine wpList_lookup_own_ok w hg m x t hop K E (int_keyed hK) hT ptrE hz (.lit (.int .i64 (-1))) [] rfl B n D hm h1 _ (.int .i64 k) hx (keyOf_int_mk hK hk) fun v ps hv=>?_
 have hh:Maps.has D (.int .i64 k)=false:=by rw [(h3 k).1,hb];rfl
 rw [atKey_of_not_has hh] at hv
 rw [ptrE_inv0 hv,hh]
 exact hQ
theorem store_new (hg:o.guard=none) (m x v:Operand) (t:TypeId) (hop:o.op=Op.mapUpdate t m x v) (hK:P.underlying K=some (.int .i64)) (hT:P.underlying t=some (.map K E))
  (hm:a.eval m=.map (some B)) (h:PMap P K w B p n c) (hn:n<maxLen) (k:Int) (hx:a.eval x=.int .i64 k) (hk:(Lit.int .i64 k).wf=true) (b:Nat) (hv:a.eval v=.pointer (some ⟨b,0,none⟩)) (hb:p k=none)
  (hQ:∀ w',PMap P K w' B (fun i=>if i=k then some b else p i) (n+1) (c+1)->w.mapTurned w' B->wpList P ops Q rest (a.put o.dst undef) w'):wpList P ops Q (o :: rest) a w:=by
 obtain ⟨D,h1,h2,h3⟩:=h
 refine wpList_mapUpdate_in w hg m x v t hop K E (int_keyed hK) hT ptrE B n D hm h1 hn _ _ (.int .i64 k) hx hv (keyOf_int_mk hK hk) (.lit (.int .i64 b)) [] (ptrE_some b) fun w' hw ht=>hQ w' ⟨_,hw,?_,fun i=>?_⟩ ht
 ·have hh:Maps.has D (.int .i64 k)=false:=by rw [(h3 k).1,hb];rfl
  rw [size_put (h1.tidy (int_keyed hK)),hh,h2]
  rfl
 ·by_cases hi:i=k
  ·subst hi
   simp only [if_pos]
   exact ⟨has_put_same h1.isMap (key_int i) _,fun b' hb' zd=>by cases hb';exact atKey_put_same h1.isMap (key_int i) _ _⟩
  ·simp only [if_neg hi]
   have hne:(Lit.int .i64 i)≠(Lit.int .i64 k):=fun e=>hi (by cases e;rfl)
   exact ⟨(has_put_other hne _).trans (h3 i).1,fun b' hb' zd=>(atKey_put_other hne _ _).trans ((h3 i).2 b' hb' zd)⟩
end
end Go.Proofs.YtgphclgmmocdhaaGreatDoor

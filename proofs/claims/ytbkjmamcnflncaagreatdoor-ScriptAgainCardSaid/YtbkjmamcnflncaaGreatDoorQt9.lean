import Derived.Maps.OwnSet
import Derived.WalkKit
import Derived.Test.YtbkjmamcnflncaaGreatDoorQtb
namespace Go.Proofs.YtbkjmamcnflncaaGreatDoor
open Go.RowKit Go.Maps
def vV:ax->Option (DataW Unit×List MemPlace)
 | .pointer none=>some (.lit (.int .i64 (-1)),[])
 | .pointer (some a)=>if a=⟨a.block,0,none⟩ then some (.lit (.int .i64 (a.block:Int)),[]) else none
 |_=>none
theorem Le (b:Nat):vV (aK b)=some (.lit (.int .i64 b),[]):=by simp[vV]
theorem X3 (a:Addr):vV (.pointer (some a))=if a=⟨a.block,0,none⟩ then some (.lit (.int .i64 (a.block:Int)),[]) else none:=rfl
theorem Ay {v:ax}{b:Nat}{c:List MemPlace}(h:vV v=some (.lit (.int .i64 b),c)):v=aK b:=by
 cases v<;>try cases h
 rename_i o;cases o with
 |none=>simp[vV] at h
 |some a=>
  rw[X3] at h;grind
theorem Ck {v:ax}{b:List MemPlace}(h:vV v=some (.lit (.int .i64 (-1)),b)):v=.pointer none:=by
 cases v<;>try cases h
 rename_i o;cases o with
 |none=>rfl
 |some a=>
  rw[X3] at h;grind
theorem Fh (i:Int):WideAt.IsKeyLit (.int .i64 i):=by simp[WideAt.IsKeyLit]
def iZ (P:Program)(K:TypeId)(w:ai)(B:Nat)(p:Int->Option Nat)(n c:Nat):Prop:=
 ∃D:DataW Unit,w.ownsMap P K vV B n D/\Maps.size D=c/\∀k:Int,Maps.has D (.int .i64 k)=(p k).isSome/\∀b,p k=some b->∀a,D.atKey (.int .i64 k) a=.lit (.int .i64 b)
variable {P:Program}{K T E:TypeId}{w:ai}{B n c:Nat}{p:Int->Option Nat}
theorem iZ.made (w:ai)(P:Program)(K:TypeId):iZ P K (w.alloc (.map #[] 0)) w.heap.size (λ_=>none) 0 0:=
 ⟨.map [],World.ownsMap_made w P K vV,rfl,λ_=>⟨rfl,λ_ h=>by cases h⟩⟩
theorem iZ.kept {w':ai}{a:Option Nat}(h:iZ P K w B p n c)(b:w.grownBy w' a)(hne:some B≠a):iZ P K w' B p n c:=by
 obtain⟨D,d,e⟩:=h;exact⟨D,d.kept b hne,e⟩
theorem iZ.lt (h:iZ P K w B p n c):B<w.heap.size:=by
 obtain⟨D,a, -⟩:=h;exact a.lt
theorem iZ.same {w':ai}(h:iZ P K w B p n c)(a:w'.heap[B]? =w.heap[B]?):iZ P K w' B p n c:=by
 obtain⟨D,⟨b,d,e,f⟩,g⟩:=h;exact⟨D,⟨b,d,a.trans e,f⟩,g⟩
theorem iZ.size_le (h:iZ P K w B p n c):c<=n:=by
 obtain⟨D,a,rfl, -⟩:=h;exact a.size_le
theorem iZ.mono (h:iZ P K w B p n c){a:Nat}(b:n<=a):iZ P K w B p a c:=by
 obtain⟨D,d,e⟩:=h;exact⟨D,d.mono b,e⟩
variable (w){d:Array Oper}{rest:List Oper}{o:Oper}{a:Act}{Q:Exit->Act->ai->Prop}
theorem dJ (l:o.guard=none)(m x:Operand)(t:TypeId)(e:o.op=Op.lookup t m x true)(f:P.underlying K=some (.int .i64))(q:P.underlying t=some (.map K E))(r:(zeroValue E).run P w=.ok (.pointer none) w)
  (s:a.eval m=.map (some B)) (h:iZ P K w B p n c) (k:Int) (u:a.eval x=.int .i64 k) (y:(Lit.int .i64 k).wf=true) (b:Nat) (g:p k=some b)
  (z:wpList P d Q rest (a.put o.dst (.tuple #[aK b,.bool true])) w):wpList P d Q (o::rest) a w:=by
 obtain⟨D,A, -,i⟩:=h;refine wpList_lookup_own_ok w l m x t e K E (int_keyed f) q vV r (.lit (.int .i64 (-1))) [] rfl B n D s A _ (.int .i64 k) u (keyOf_int_mk f y) λv C j=>?_;rw[(i k).2 b g] at j;rw[Ay j,(i k).1,g];exact z
theorem kG (i:o.guard=none)(m x:Operand)(t:TypeId)(b:o.op=Op.lookup t m x true)(e:P.underlying K=some (.int .i64))(j:P.underlying t=some (.map K E))(l:(zeroValue E).run P w=.ok (.pointer none) w)
  (q:a.eval m=.map (some B)) (h:iZ P K w B p n c) (k:Int) (r:a.eval x=.int .i64 k) (s:(Lit.int .i64 k).wf=true) (z:p k=none)
  (u:wpList P d Q rest (a.put o.dst (.tuple #[.pointer none,.bool false])) w):wpList P d Q (o::rest) a w:=by
 obtain⟨D,y, -,A⟩:=h;refine wpList_lookup_own_ok w i m x t b K E (int_keyed e) j vV l (.lit (.int .i64 (-1))) [] rfl B n D q y _ (.int .i64 k) r (keyOf_int_mk e s) λv C f=>?_;have g:Maps.has D (.int .i64 k)=false:=by grind
 rw[atKey_of_not_has g] at f;rw[Ck f,g];exact u
theorem Qi (q:o.guard=none)(m x:Operand)(t:TypeId)(i:o.op=Op.lookup t m x false)(l:P.underlying K=some (.int .i64))(r:P.underlying t=some (.map K E))(s:(zeroValue E).run P w=.ok (.pointer none) w)
  (u:a.eval m=.map (some B)) (h:iZ P K w B p n c) (k:Int) (y:a.eval x=.int .i64 k) (z:(Lit.int .i64 k).wf=true)
  (A:wpList P d Q rest (a.put o.dst (.pointer ((p k).map λb=>⟨b,0,none⟩))) w):wpList P d Q (o::rest) a w:=by
 obtain⟨D,C, -,F⟩:=h;refine wpList_plain q λJ j=>?_;obtain⟨v,L,f,g⟩:=C.lookup (zd:=.lit (.int .i64 (-1))) (int_keyed l) r s (zp:=[]) rfl (keyOf_int_mk l z);unfold Oper.wp;simp[execOp,i,u,y,f,Result.andThen];have e:v=.pointer ((p k).map λb=>⟨b,0,none⟩):=by
  cases H:p k with
  |none=>
   have I:Maps.has D (.int .i64 k)=false:=by grind
   rw[atKey_of_not_has I] at g;exact Ck g
  |some b=>
   rw[(F k).2 b H] at g;exact Ay g
 rw[e];exact j _ _ A
theorem Fj (f:o.guard=none)(m x:Operand)(t:TypeId)(e:o.op=Op.lookup t m x false)(g:P.underlying K=some (.int .i64))(i:P.underlying t=some (.map K E))(j:(zeroValue E).run P w=.ok (.pointer none) w)
  (l:a.eval m=.map (some B)) (h:iZ P K w B p n c) (k:Int) (q:a.eval x=.int .i64 k) (r:(Lit.int .i64 k).wf=true) (b:Nat) (s:p k=some b)
  (u:wpList P d Q rest (a.put o.dst (aK b)) w):wpList P d Q (o::rest) a w:=
 Qi w f m x t e g i j l h k q r (by rw[s];exact u)
theorem YS (y:o.guard=none)(m x v:Operand)(t:TypeId)(j:o.op=Op.mapUpdate t m x v)(l:P.underlying K=some (.int .i64))(z:P.underlying t=some (.map K E))
  (A:a.eval m=.map (some B)) (h:iZ P K w B p n c) (C:n<maxLen) (k:Int) (F:a.eval x=.int .i64 k) (H:(Lit.int .i64 k).wf=true) (b:Nat) (I:a.eval v=aK b) (R:p k=none)
  (J:∀w',iZ P K w' B (λi=>if i=k then some b else p i) (n+1) (c+1)->w.mapTurned w' B->wpList P d Q rest (a.put o.dst undef) w'):wpList P d Q (o::rest) a w:=by
 obtain⟨D,g,L,q⟩:=h;refine wpList_mapUpdate_in w y m x v t j K E (int_keyed l) z vV B n D A g C _ _ (.int .i64 k) F I (keyOf_int_mk l H) (.lit (.int .i64 b)) [] (Le b) λw' M N=>J w' ⟨_,M,?_,λi=>?_⟩ N
 .have O:Maps.has D (.int .i64 k)=false:=by grind
  rw[size_put (g.tidy (int_keyed l)),O,L];rfl
 .by_cases r:i=k
  .subst r;simp only[aR];exact⟨has_put_same g.isMap (Fh i) _,λs e u=>by cases e;exact atKey_put_same g.isMap (Fh i) _ _⟩
  .simp only[aG r];have f:(Lit.int .i64 i)≠(Lit.int .i64 k):=by grind
   exact⟨(has_put_other f _).trans (q i).1,λs e u=>(atKey_put_other f _ _).trans ((q i).2 s e u)⟩
theorem YT (v:o.guard=none)(m x:Operand)(t f:TypeId)(j:o.op=Op.call {callee:=Callee.builtin Builtin.delete,args:=#[m,x],argTypes:=#[t,f]})(l:P.underlying f=some (.int .i64))(y:P.underlying t=some (.map f E))
  (z:a.eval m=.map (some B)) (h:iZ P f w B p n c) (k:Int) (A:a.eval x=.int .i64 k) (C:(Lit.int .i64 k).wf=true) (b:Nat) (K:p k=some b)
  (F:∀w',iZ P f w' B (λi=>if i=k then none else p i) n (c-1)->w.mapTurned w' B->wpList P d Q rest (a.put o.dst (.tuple #[])) w'):wpList P d Q (o::rest) a w:=by
 obtain⟨D,q,L,r⟩:=h;refine wpList_delete_own w v m x t f j E (int_keyed l) y vV B n D z q _ (.int .i64 k) A (keyOf_int_mk l C) λw' H I=>F w' ⟨_,H,?_,λi=>?_⟩ I
 .have M:Maps.has D (.int .i64 k)=true:=by grind
  have:=size_del (k:=.int .i64 k) (q.tidy (int_keyed l));grind
 .by_cases s:i=k
  .subst s;simp only[aR];exact⟨has_del_same,λu e=>by cases e⟩
  .simp only[aG s];have g:(Lit.int .i64 i)≠(Lit.int .i64 k):=by grind
   exact⟨(has_del_other g).trans (r i).1,λu e J=>(atKey_del_other g _).trans ((r i).2 u e J)⟩
theorem a2e (e:o.guard=none)(m:Operand)(t:TypeId)(b:o.op=Op.call {callee:=Callee.builtin Builtin.len,args:=#[m],argTypes:=#[t]})(f:P.underlying t=some (.map K E))
  (g:a.eval m=.map (some B)) (h:iZ P K w B p n c) (i:wpList P d Q rest (a.put o.dst (.int .i64 c)) w):wpList P d Q (o::rest) a w:=by
 obtain⟨D,j,rfl, -⟩:=h;exact wpList_len_own w e m t b K E f vV B n D g j i

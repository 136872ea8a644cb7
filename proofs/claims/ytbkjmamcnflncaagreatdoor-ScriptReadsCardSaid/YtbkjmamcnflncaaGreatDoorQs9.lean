import Derived.WalkKit
import Derived.Test.YtbkjmamcnflncaaGreatDoorQsb
namespace Go.Proofs.YtbkjmamcnflncaaGreatDoor
open Go.RowKit Go.Maps
def uY:au->Option (DataW Unit×List MemPlace)
 | .pointer none=>some (.lit (.int .i64 (-1)),[])
 | .pointer (some a)=>if a=⟨a.block,0,none⟩ then some (.lit (.int .i64 (a.block:Int)),[]) else none
 |_=>none
theorem Kc (b:Nat):uY (aI b)=some (.lit (.int .i64 b),[]):=by simp[uY]
theorem VV (a:Addr):uY (.pointer (some a))=if a=⟨a.block,0,none⟩ then some (.lit (.int .i64 (a.block:Int)),[]) else none:=rfl
theorem zV {v:au}{b:Nat}{c:List MemPlace}(h:uY v=some (.lit (.int .i64 b),c)):v=aI b:=by
 cases v<;>try cases h
 rename_i o;cases o with
 |none=>simp[uY] at h
 |some a=>
  rw[VV] at h;grind
theorem Bp {v:au}{b:List MemPlace}(h:uY v=some (.lit (.int .i64 (-1)),b)):v=.pointer none:=by
 cases v<;>try cases h
 rename_i o;cases o with
 |none=>rfl
 |some a=>
  rw[VV] at h;grind
theorem Es (i:Int):WideAt.IsKeyLit (.int .i64 i):=by simp[WideAt.IsKeyLit]
def iK (P:Program)(K:TypeId)(w:ah)(B:Nat)(p:Int->Option Nat)(n c:Nat):Prop:=
 ∃D:DataW Unit,w.ownsMap P K uY B n D/\Maps.size D=c/\∀k:Int,Maps.has D (.int .i64 k)=(p k).isSome/\∀b,p k=some b->∀a,D.atKey (.int .i64 k) a=.lit (.int .i64 b)
variable {P:Program}{K T E:TypeId}{w:ah}{B n c:Nat}{p:Int->Option Nat}
theorem iK.made (w:ah)(P:Program)(K:TypeId):iK P K (w.alloc (.map #[] 0)) w.heap.size (λ_=>none) 0 0:=
 ⟨.map [],World.ownsMap_made w P K uY,rfl,λ_=>⟨rfl,λ_ h=>by cases h⟩⟩
theorem iK.kept {w':ah}{a:Option Nat}(h:iK P K w B p n c)(b:w.grownBy w' a)(hne:some B≠a):iK P K w' B p n c:=by
 obtain⟨D,d,e⟩:=h;exact⟨D,d.kept b hne,e⟩
theorem iK.lt (h:iK P K w B p n c):B<w.heap.size:=by
 obtain⟨D,a, -⟩:=h;exact a.lt
theorem iK.same {w':ah}(h:iK P K w B p n c)(a:w'.heap[B]? =w.heap[B]?):iK P K w' B p n c:=by
 obtain⟨D,⟨b,d,e,f⟩,g⟩:=h;exact⟨D,⟨b,d,a.trans e,f⟩,g⟩
theorem iK.size_le (h:iK P K w B p n c):c<=n:=by
 obtain⟨D,a,rfl, -⟩:=h;exact a.size_le
theorem iK.mono (h:iK P K w B p n c){a:Nat}(b:n<=a):iK P K w B p a c:=by
 obtain⟨D,d,e⟩:=h;exact⟨D,d.mono b,e⟩
variable (w){d:Array Oper}{rest:List Oper}{o:Oper}{a:Act}{Q:Exit->Act->ah->Prop}
theorem dA (l:o.guard=none)(m x:Operand)(t:TypeId)(e:o.op=Op.lookup t m x true)(f:P.underlying K=some (.int .i64))(q:P.underlying t=some (.map K E))(r:(zeroValue E).run P w=.ok (.pointer none) w)
  (s:a.eval m=.map (some B)) (h:iK P K w B p n c) (k:Int) (u:a.eval x=.int .i64 k) (y:(Lit.int .i64 k).wf=true) (b:Nat) (g:p k=some b)
  (z:wpList P d Q rest (a.put o.dst (.tuple #[aI b,.bool true])) w):wpList P d Q (o::rest) a w:=by
 obtain⟨D,A, -,i⟩:=h;refine wpList_lookup_own_ok w l m x t e K E (int_keyed f) q uY r (.lit (.int .i64 (-1))) [] rfl B n D s A _ (.int .i64 k) u (keyOf_int_mk f y) λv C j=>?_;rw[(i k).2 b g] at j;rw[zV j,(i k).1,g];exact z
theorem jW (i:o.guard=none)(m x:Operand)(t:TypeId)(b:o.op=Op.lookup t m x true)(e:P.underlying K=some (.int .i64))(j:P.underlying t=some (.map K E))(l:(zeroValue E).run P w=.ok (.pointer none) w)
  (q:a.eval m=.map (some B)) (h:iK P K w B p n c) (k:Int) (r:a.eval x=.int .i64 k) (s:(Lit.int .i64 k).wf=true) (z:p k=none)
  (u:wpList P d Q rest (a.put o.dst (.tuple #[.pointer none,.bool false])) w):wpList P d Q (o::rest) a w:=by
 obtain⟨D,y, -,A⟩:=h;refine wpList_lookup_own_ok w i m x t b K E (int_keyed e) j uY l (.lit (.int .i64 (-1))) [] rfl B n D q y _ (.int .i64 k) r (keyOf_int_mk e s) λv C f=>?_;have g:Maps.has D (.int .i64 k)=false:=by grind
 rw[atKey_of_not_has g] at f;rw[Bp f,g];exact u
theorem Pg (q:o.guard=none)(m x:Operand)(t:TypeId)(i:o.op=Op.lookup t m x false)(l:P.underlying K=some (.int .i64))(r:P.underlying t=some (.map K E))(s:(zeroValue E).run P w=.ok (.pointer none) w)
  (u:a.eval m=.map (some B)) (h:iK P K w B p n c) (k:Int) (y:a.eval x=.int .i64 k) (z:(Lit.int .i64 k).wf=true)
  (A:wpList P d Q rest (a.put o.dst (.pointer ((p k).map λb=>⟨b,0,none⟩))) w):wpList P d Q (o::rest) a w:=by
 obtain⟨D,C, -,F⟩:=h;refine wpList_plain q λJ j=>?_;obtain⟨v,L,f,g⟩:=C.lookup (zd:=.lit (.int .i64 (-1))) (int_keyed l) r s (zp:=[]) rfl (keyOf_int_mk l z);unfold Oper.wp;simp[execOp,i,u,y,f,Result.andThen];have e:v=.pointer ((p k).map λb=>⟨b,0,none⟩):=by
  cases H:p k with
  |none=>
   have I:Maps.has D (.int .i64 k)=false:=by grind
   rw[atKey_of_not_has I] at g;exact Bp g
  |some b=>
   rw[(F k).2 b H] at g;exact zV g
 rw[e];exact j _ _ A
theorem Et (f:o.guard=none)(m x:Operand)(t:TypeId)(e:o.op=Op.lookup t m x false)(g:P.underlying K=some (.int .i64))(i:P.underlying t=some (.map K E))(j:(zeroValue E).run P w=.ok (.pointer none) w)
  (l:a.eval m=.map (some B)) (h:iK P K w B p n c) (k:Int) (q:a.eval x=.int .i64 k) (r:(Lit.int .i64 k).wf=true) (b:Nat) (s:p k=some b)
  (u:wpList P d Q rest (a.put o.dst (aI b)) w):wpList P d Q (o::rest) a w:=
 Pg w f m x t e g i j l h k q r (by rw[s];exact u)
theorem Yf (y:o.guard=none)(m x v:Operand)(t:TypeId)(j:o.op=Op.mapUpdate t m x v)(l:P.underlying K=some (.int .i64))(z:P.underlying t=some (.map K E))
  (A:a.eval m=.map (some B)) (h:iK P K w B p n c) (C:n<maxLen) (k:Int) (F:a.eval x=.int .i64 k) (H:(Lit.int .i64 k).wf=true) (b:Nat) (I:a.eval v=aI b) (R:p k=none)
  (J:∀w',iK P K w' B (λi=>if i=k then some b else p i) (n+1) (c+1)->w.mapTurned w' B->wpList P d Q rest (a.put o.dst undef) w'):wpList P d Q (o::rest) a w:=by
 obtain⟨D,g,L,q⟩:=h;refine wpList_mapUpdate_in w y m x v t j K E (int_keyed l) z uY B n D A g C _ _ (.int .i64 k) F I (keyOf_int_mk l H) (.lit (.int .i64 b)) [] (Kc b) λw' M N=>J w' ⟨_,M,?_,λi=>?_⟩ N
 .have O:Maps.has D (.int .i64 k)=false:=by grind
  rw[size_put (g.tidy (int_keyed l)),O,L];rfl
 .by_cases r:i=k
  .subst r;simp only[if_pos];exact⟨has_put_same g.isMap (Es i) _,λs e u=>by cases e;exact atKey_put_same g.isMap (Es i) _ _⟩
  .simp only[if_neg r];have f:(Lit.int .i64 i)≠(Lit.int .i64 k):=by grind
   exact⟨(has_put_other f _).trans (q i).1,λs e u=>(atKey_put_other f _ _).trans ((q i).2 s e u)⟩
theorem Yg (v:o.guard=none)(m x:Operand)(t f:TypeId)(j:o.op=Op.call {callee:=Callee.builtin Builtin.delete,args:=#[m,x],argTypes:=#[t,f]})(l:P.underlying f=some (.int .i64))(y:P.underlying t=some (.map f E))
  (z:a.eval m=.map (some B)) (h:iK P f w B p n c) (k:Int) (A:a.eval x=.int .i64 k) (C:(Lit.int .i64 k).wf=true) (b:Nat) (K:p k=some b)
  (F:∀w',iK P f w' B (λi=>if i=k then none else p i) n (c-1)->w.mapTurned w' B->wpList P d Q rest (a.put o.dst (.tuple #[])) w'):wpList P d Q (o::rest) a w:=by
 obtain⟨D,q,L,r⟩:=h;refine wpList_delete_own w v m x t f j E (int_keyed l) y uY B n D z q _ (.int .i64 k) A (keyOf_int_mk l C) λw' H I=>F w' ⟨_,H,?_,λi=>?_⟩ I
 .have M:Maps.has D (.int .i64 k)=true:=by grind
  have:=size_del (k:=.int .i64 k) (q.tidy (int_keyed l));grind
 .by_cases s:i=k
  .subst s;simp only[if_pos];exact⟨has_del_same,λu e=>by cases e⟩
  .simp only[if_neg s];have g:(Lit.int .i64 i)≠(Lit.int .i64 k):=by grind
   exact⟨(has_del_other g).trans (r i).1,λu e J=>(atKey_del_other g _).trans ((r i).2 u e J)⟩
theorem a1q (e:o.guard=none)(m:Operand)(t:TypeId)(b:o.op=Op.call {callee:=Callee.builtin Builtin.len,args:=#[m],argTypes:=#[t]})(f:P.underlying t=some (.map K E))
  (g:a.eval m=.map (some B)) (h:iK P K w B p n c) (i:wpList P d Q rest (a.put o.dst (.int .i64 c)) w):wpList P d Q (o::rest) a w:=by
 obtain⟨D,j,rfl, -⟩:=h;exact wpList_len_own w e m t b K E f uY B n D g j i

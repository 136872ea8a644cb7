import Derived.Stop.Asserts
import Derived.RowKitTokens
import Derived.Test.YtbkjmamcnflncaaGreatDoorQt18
namespace Go.Proofs.YtbkjmamcnflncaaGreatDoor
open Go.Proofs.Tryz
set_option maxHeartbeats 4000000
variable{w W:ai}{E:Nat->Addr}{B DB A nx c:Nat}{s:dG}{p:Int->Option Nat}{M:Dm}
section
open Go.RowKit Go.Extern.Stop Go.Stop Go.Extern
abbrev Na:ax:=.pointer (some ⟨25,69,none⟩)
abbrev hP:ax:=.pointer (some ⟨25,67,none⟩)
abbrev hE:ax:=.pointer (some ⟨25,25,none⟩)
abbrev hS:ax:=.pointer (some ⟨25,453,none⟩)
theorem Lx (t:Addr)(w:ai):(ReflectliteValue.unpack (aU 69 (.pointer (some t)))).run prog w
  = .ok (.agg #[Na,aK w.heap.size,.int .u64 150]) (w.alloc (ak #[.pointer (some t)] 69)):=aA
theorem a2Q (a:Addr)(w:ai):(ReflectliteValue.methodAny (ReflectliteValue.valueError "reflectlite.Value.Type" 0) (λt _ _ _=>ReflectliteType.toType t) #[.agg #[Na,.pointer (some a),.int .u64 150]]).run prog w
  = .ok (aU 208 (.agg #[Na])) w:=aA
theorem a2R (w:ai):((ReflectliteType.abiMethod λt=>(λa:Nat=>Value.int IntKind.u8 (a:Int))<$>Rtype.kind t) #[Na]).run prog w=.ok (.int .u8 22) w:=aA
theorem aa4 (w:ai):((ReflectliteType.abiMethod λt=>(λa:Nat=>Value.int IntKind.u8 (a:Int))<$>Rtype.kind t) #[hP]).run prog w=.ok (.int .u8 22) w:=aA
theorem Xu (a:Addr)(w:ai):(ReflectliteValue.parts (.agg #[Na,.pointer (some a),.int .u64 150])).run prog w=.ok (some (69,a,150)) w:=aA
theorem Xv (a p:Addr)(W:ai)(b:W.cell? a=some (.pointer (some p))):
  (ReflectliteValue.method (ReflectliteValue.valueError "reflectlite.Value.IsNil" 0) ReflectliteValue.isNil #[.agg #[Na,.pointer (some a),.int .u64 150]]).run prog W=.ok (.bool false) W:=by
 obtain⟨k,c,d⟩:∃k,ReflectliteValue.method (ReflectliteValue.valueError "reflectlite.Value.IsNil" 0) ReflectliteValue.isNil #[.agg #[Na,.pointer (some a),.int .u64 150]]=(ReflectliteValue.parts (.agg #[Na,.pointer (some a),.int .u64 150])>>=k)/\(k (some (69,a,150))).run prog W=.ok (.bool false) W:=
  ⟨_,rfl,by simp[ReflectliteValue.isNil,loadVar,isAgg,underlying,underlying69,b,Result.andThen]⟩
 rw[c];simp only[Sem.run_bind,Xu,Result.andThen];exact d
theorem Xw (w:ai):(ReflectliteType.method ReflectliteType.elem #[.agg #[Na]]).run prog w=.ok (aU 208 (.agg #[hP])) w:=aA
theorem Em (w:ai):(ReflectliteType.relation "Implements" ReflectliteType.implements_ #[.agg #[hP],aU 208 (.agg #[hE])]).run prog w=.ok (.bool true) w:=aA
theorem a7x (v:ax)(w:ai):(ReflectliteType.typeOf #[aU 67 v]).run prog w=.ok (aU 208 (.agg #[hP])) w:=aA
theorem Bh (v:ax)(w:ai):(ReflectliteType.typeOf #[aU 453 v]).run prog w=.ok (aU 208 (.agg #[hS])) w:=aA
theorem QN (w:ai):(ReflectliteType.relation "AssignableTo" ReflectliteType.assignableTo #[.agg #[hP],aU 208 (.agg #[hP])]).run prog w=.ok (.bool true) w:=aA
theorem QO (w:ai):(ReflectliteType.relation "AssignableTo" ReflectliteType.assignableTo #[.agg #[hS],aU 208 (.agg #[hP])]).run prog w=.ok (.bool false) w:=aA
theorem a2S (e:Addr)(w:ai):(ReflectliteValue.unpack (aU 67 (.pointer (some e)))).run prog w
  = .ok (.agg #[hP,aK w.heap.size,.int .u64 150]) (w.alloc (ak #[.pointer (some e)] 67)):=aA
theorem a2T (w:ai):(Rtype.elem? 69).run prog w=.ok (some 67) w:=aA
theorem mkP (p:Addr)(w:ai):(ReflectliteValue.mk 67 p ReflectliteValue.flagAddr).run prog w=.ok (.agg #[hP,.pointer (some p),.int .u64 406]) w:=aA
theorem a7y (a p:Addr)(W:ai)(b:W.cell? a=some (.pointer (some p))):
  (ReflectliteValue.method (ReflectliteValue.valueError "reflectlite.Value.Elem" 0) ReflectliteValue.elem #[.agg #[Na,.pointer (some a),.int .u64 150]]).run prog W
   = .ok (.agg #[hP,.pointer (some p),.int .u64 406]) W:=by
 obtain⟨k,c,d⟩:∃k,ReflectliteValue.method (ReflectliteValue.valueError "reflectlite.Value.Elem" 0) ReflectliteValue.elem #[.agg #[Na,.pointer (some a),.int .u64 150]]=(ReflectliteValue.parts (.agg #[Na,.pointer (some a),.int .u64 150])>>=k)/\(k (some (69,a,150))).run prog W=.ok (.agg #[hP,.pointer (some p),.int .u64 406]) W:=
  ⟨_,rfl,by simp[ReflectliteValue.elem,loadVar,isAgg,underlying,underlying69,b,Result.andThen,a2T,mkP]⟩
 rw[c];simp only[Sem.run_bind,Xu,Result.andThen];exact d
theorem I6 (h:ax)(w:ai):(Go.method 591 208 (.agg #[h]) "Kind").run prog w=.ok (382,h) w:=aA
theorem I7 (h:ax)(w:ai):(Go.method 591 208 (.agg #[h]) "Elem").run prog w=.ok (396,.agg #[h]) w:=aA
theorem tZ (h:ax)(w:ai):(Go.method 591 208 (.agg #[h]) "Implements").run prog w=.ok (397,.agg #[h]) w:=aA
theorem ry (h:ax)(w:ai):(Go.method 591 208 (.agg #[h]) "AssignableTo").run prog w=.ok (394,.agg #[h]) w:=aA
theorem a7z (a:Addr)(w:ai):(ReflectliteValue.parts (.agg #[hP,.pointer (some a),.int .u64 406])).run prog w=.ok (some (67,a,406)) w:=aA
theorem abK (a:Addr)(w:ai):(ReflectliteValue.parts (.agg #[hP,.pointer (some a),.int .u64 150])).run prog w=.ok (some (67,a,150)) w:=aA
theorem a7A (w:ai):(Rtype.directlyAssignable 67 67).run prog w=.ok true w:=aA
theorem akn (a b e:Addr)(c:ax)(W:ai)(d:W.cell? b=some (.pointer (some e)))(f:W.cell? a=some c)(g:W.frozen? a=false):
  (ReflectliteValue.set #[.agg #[hP,.pointer (some a),.int .u64 406],.agg #[hP,.pointer (some b),.int .u64 150]]).run prog W
   = .ok (aH #[]) (W.setCell a (.pointer (some e))):=by
 obtain⟨k,h,i⟩:∃k:Option (TypeId×Addr×Nat)->Option (TypeId×Addr×Nat)->Sem ax,ReflectliteValue.set #[.agg #[hP,.pointer (some a),.int .u64 406],.agg #[hP,.pointer (some b),.int .u64 150]]=(ReflectliteValue.parts (.agg #[hP,.pointer (some a),.int .u64 406])>>=λp=>ReflectliteValue.parts (.agg #[hP,.pointer (some b),.int .u64 150])>>=λq=>k p q)/\(k (some (67,a,406)) (some (67,b,150))).run prog W=.ok (aH #[]) (W.setCell a (.pointer (some e))):=by
  refine⟨_,rfl,?_⟩;simp[ReflectliteValue.flagAddr,loadVar,isAgg,underlying,underlying67,d,Result.andThen,a7A,storeVar,Value.cells,storeCells,Addr.add];rw[run_store prog W a _ _ (by rfl)];simp[f,g]
 rw[h];simp only[Sem.run_bind,a7z,abK,Result.andThen];exact i
theorem ag5 (v:ax)(a:TypeId)(w:ai):(Instr.typeAssert (aU 453 v) a 212 true).run prog w=.ok (aH #[aY,.bool false]) w:=run_typeAssert_lacksB underlying212 aA aA v a w
theorem Cx (v:ax)(a:TypeId)(w:ai):(Instr.typeAssert (aU 453 v) a 215 true).run prog w=.ok (aH #[aY,.bool false]) w:=run_typeAssert_lacksB underlying215 aA aA v a w
theorem zD (v:ax)(a:TypeId)(w:ai):(Instr.typeAssert (aU 453 v) a 217 true).run prog w=.ok (aH #[aY,.bool false]) w:=run_typeAssert_lacksB underlying217 aA aA v a w
theorem lt_of_cell {a:Addr}{v:ax}(h:w.cell? a=some v):a.block<w.heap.size:=by
 rcases Nat.lt_or_ge a.block w.heap.size with b|b
 .exact b
 .simp[World.cell?,qK b] at h
abbrev vPP (n:Nat):Array ax:=#[Na,aK n,.int .u64 150]
theorem Xx (e t:Addr)(w:ai)(c:w.cell? (aJ 11 0)=some (aU 208 (.agg #[hE]))):
  aL 34 #[aU 453 (.pointer (some e)),aU 69 (.pointer (some t))] w λd w'=>d=ay (.bool false)/\aD w w':=by
 have r:=@run_callFunc_extern prog 61 _ (λa=>ReflectliteValue.unpack (a.getD 0 (aH #[]))) func61 aA aA aA aA;have s:=@run_callFunc_extern prog 62 _ (ReflectliteValue.methodAny (ReflectliteValue.valueError "reflectlite.Value.Type" 0) (λt _ _ _=>ReflectliteType.toType t)) func62 aA aA aA aA;have u:=@run_callFunc_extern prog 63 _ (ReflectliteValue.method (ReflectliteValue.valueError "reflectlite.Value.IsNil" 0) ReflectliteValue.isNil) func63 aA aA aA aA;have f:=@run_callFunc_extern prog 382 _ (ReflectliteType.abiMethod λt=>do pure (.int .u8 (<- Rtype.kind t))) func382 aA aA aA aA;have g:=@run_callFunc_extern prog 396 _ (ReflectliteType.method ReflectliteType.elem) func396 aA aA aA aA;have h:=@run_callFunc_extern prog 397 _ (ReflectliteType.relation "Implements" ReflectliteType.implements_) func397 aA aA aA aA;have i:=@run_callFunc_extern prog 65 _ ReflectliteType.typeOf func65 aA aA aA aA;have j:=@run_callFunc_extern prog 394 _ (ReflectliteType.relation "AssignableTo" ReflectliteType.assignableTo) func394 aA aA aA aA;have v:=Bh;have mA:=ry;have k:=QO;have x:=Lx;have y:=a2Q;have z:=I6;have A:=I7;have B:=tZ;have l:=a2R;have m:=aa4;have n:=Xw;have o:=Em;have C:=ag5;have D:=Cx;have p:=zD;have E:=Xv ⟨w.heap.size,0,none⟩ t ((w.alloc (ak #[.pointer (some t)] 69)).alloc (ak (vPP w.heap.size) 127)) aI;have b:=lt_of_cell c;have q:((w.alloc (ak #[.pointer (some t)] 69)).alloc (ak (vPP w.heap.size) 127)).cell? (aJ 11 0)=some (aU 208 (.agg #[hE])):=by
  rw[qM _ _ ⟨11,0,none⟩ (by simp at b⊢;omega),qM _ _ ⟨11,0,none⟩ b];exact c
 simp only[Na,hP,hE,hS,vPP] at*;go_enter func34,ntmps34;go_wp2;refine wp_loop_rounds 1 ?_;rw[rounds_succ];go_wp2;go_ret;exact⟨rfl,((((aW _ _).alloc az _).alloc aI _).alloc bq _)⟩
theorem a2U (e t:Addr)(a:ax)(w:ai)(h:w.cell? (aJ 11 0)=some (aU 208 (.agg #[hE])))(b:w.cell? t=some a)(g:w.frozen? t=false):
  aL 34 #[aU 67 (.pointer (some e)),aU 69 (.pointer (some t))] w λj w'=>j=ay (.bool true)/\∃i,aD w i/\w'=i.setCell t (.pointer (some e)):=by
 have A:=@run_callFunc_extern prog 61 _ (λc=>ReflectliteValue.unpack (c.getD 0 (aH #[]))) func61 aA aA aA aA;have B:=@run_callFunc_extern prog 62 _ (ReflectliteValue.methodAny (ReflectliteValue.valueError "reflectlite.Value.Type" 0) (λt _ _ _=>ReflectliteType.toType t)) func62 aA aA aA aA;have C:=@run_callFunc_extern prog 63 _ (ReflectliteValue.method (ReflectliteValue.valueError "reflectlite.Value.IsNil" 0) ReflectliteValue.isNil) func63 aA aA aA aA;have k:=@run_callFunc_extern prog 382 _ (ReflectliteType.abiMethod λt=>do pure (.int .u8 (<- Rtype.kind t))) func382 aA aA aA aA;have l:=@run_callFunc_extern prog 396 _ (ReflectliteType.method ReflectliteType.elem) func396 aA aA aA aA;have m:=@run_callFunc_extern prog 397 _ (ReflectliteType.relation "Implements" ReflectliteType.implements_) func397 aA aA aA aA;have n:=@run_callFunc_extern prog 65 _ ReflectliteType.typeOf func65 aA aA aA aA;have o:=@run_callFunc_extern prog 394 _ (ReflectliteType.relation "AssignableTo" ReflectliteType.assignableTo) func394 aA aA aA aA;have p:=@run_callFunc_extern prog 115 _ (ReflectliteValue.method (ReflectliteValue.valueError "reflectlite.Value.Elem" 0) ReflectliteValue.elem) func115 aA aA aA aA;have q:=@run_callFunc_extern prog 116 _ ReflectliteValue.set func116 aA aA aA aA;have D:=a7x;have mA:=ry;have r:=QN;have s:=a2S;have E:=Lx;have F:=a2Q;have H:=I6;have I:=I7;have J:=tZ;have u:=a2R;have v:=aa4;have x:=Xw;have y:=Em;have K:=Xv ⟨w.heap.size,0,none⟩ t ((w.alloc (ak #[.pointer (some t)] 69)).alloc (ak (vPP w.heap.size) 127)) aI;have d:=lt_of_cell h;have f:=lt_of_cell b;have z:((w.alloc (ak #[.pointer (some t)] 69)).alloc (ak (vPP w.heap.size) 127)).cell? (aJ 11 0)=some (aU 208 (.agg #[hE])):=by
  rw[qM _ _ ⟨11,0,none⟩ (by simp at d⊢;omega),qM _ _ ⟨11,0,none⟩ d];exact h
 have el:=a7y ⟨w.heap.size,0,none⟩ t (((w.alloc (ak #[.pointer (some t)] 69)).alloc (ak (vPP w.heap.size) 127)).alloc (ak (vPP w.heap.size) 127)) (by rw[qM _ _ ⟨w.heap.size,0,none⟩ bq];simp);have st:=akn t ⟨w.heap.size+1+1+1,0,none⟩ e a ((((w.alloc (ak #[.pointer (some t)] 69)).alloc (ak (vPP w.heap.size) 127)).alloc (ak (vPP w.heap.size) 127)).alloc (ak #[.pointer (some e)] 67))
  (by rw[World.cell?_alloc_at _ _ _ _ aI];rfl)
  (by rw[qM _ _ t bq,qM _ _ t bq,qM _ _ t bq,qM _ _ t f];exact b)
  (by rw[World.frozen?_alloc_old _ _ t bq,World.frozen?_alloc_old _ _ t bq,World.frozen?_alloc_old _ _ t bq,World.frozen?_alloc_old _ _ t (Nat.ne_of_lt f)];exact g)
 simp only[Na,hP,hE,vPP] at*;go_enter func34,ntmps34;go_wp2;refine wp_loop_rounds 1 ?_;rw[rounds_succ];go_wp2;go_ret;exact⟨rfl,_,((((aW _ _).alloc az _).alloc aI _).alloc bq _).alloc bq _,rfl⟩
abbrev eV (a:Addr):ax:=aU 453 (.pointer (some a))
def QS:Array ax->Sem ax:=Extern.ReflectliteType.method λt=>do Rtype.noPackHeld "Comparable" t;pure (.bool (<- typeInfo t).comparable)
theorem qh (w:ai):(QS #[.agg #[hS]]).run prog w=.ok (.bool true) w:=aA
theorem l8 (v:ax)(w:ai):(Go.method 591 208 v "Comparable").run prog w=.ok (395,v) w:=aA
theorem Nu:(prog.info? 453).map (·.comparable)=some true:=aA
theorem Nv:(prog.info? 455).map (·.size)=some 1:=aA
theorem aa5 (v:ax)(a:TypeId)(w:ai):(Instr.typeAssert (aU 453 v) a 219 true).run prog w=.ok (aH #[aY,.bool false]) w:=run_typeAssert_lacksB underlying219 aA aA v a w
theorem aa6 (v:ax)(a:TypeId)(w:ai):(Instr.typeAssert (aU 67 v) a 219 true).run prog w=.ok (aH #[aY,.bool false]) w:=run_typeAssert_lacksB underlying219 aA aA v a w
theorem I8 (v:ax)(a:TypeId)(w:ai):(Instr.typeAssert (aU 67 v) a 215 true).run prog w=.ok (aH #[aU 67 v,.bool true]) w:=run_typeAssert_hasB underlying215 aA v a w
theorem Bi (v:ax)(w:ai):(Go.method 591 67 v "Unwrap").run prog w=.ok (386,v) w:=aA
theorem a7B (a:Addr)(w:ai):
  aL 35 #[eV a,eV a] w λe w'=>e=ay (.bool true)/\w'=w:=by
 obtain⟨i,c,b⟩:=ni.1 Nu;obtain⟨j,d,f⟩:=ni.1 Nv;have k:=@run_callFunc_extern prog 65 _ Extern.ReflectliteType.typeOf func65 aA aA aA aA;have g:=@run_callFunc_extern prog 395 _ QS func395 aA aA aA aA;have l:=Bh;have m:=qh;have n:=l8;have h:=run_eql_iface_ptr_same (P:=prog) w a underlying25 underlying453 c b d;simp only[hS] at*;go_enter func35,ntmps35;go_wp2;refine wp_loop_rounds 1 ?_;rw[rounds_succ];go_wp2;go_ret;exact⟨rfl,rfl⟩
theorem a2V (a b:Addr)(h k:Array ax)(l m:TypeId)(w:ai)(hne:a≠b)(f:w.heap[a.block]? =some (ak h l (0,0)))(g:w.heap[b.block]? =some (ak k m (0,0))):
  aL 35 #[eV a,eV b] w λe w'=>e=ay (.bool false)/\w'=w:=by
 obtain⟨i,n,c⟩:=ni.1 Nu;obtain⟨j,o,d⟩:=ni.1 Nv;have r:=@run_callFunc_extern prog 65 _ Extern.ReflectliteType.typeOf func65 aA aA aA aA;have p:=@run_callFunc_extern prog 395 _ QS func395 aA aA aA aA;have s:=Bh;have t:=qh;have u:=l8;have v:=aa5;have x:=Cx;have y:=zD;have q:=run_eql_iface_ptr_other (P:=prog) w underlying25 underlying453 n c o (by rw[d];decide) hne f g;simp only[hS] at*;clear f g hne;go_enter func35,ntmps35;go_wp2;refine wp_loop_rounds 1 ?_;rw[rounds_succ];go_wp2;go_ret;exact⟨rfl,rfl⟩
theorem JX (c d:Nat)(b:Addr)(w:ai)(n:w.cell? (aJ c (d+1))=some (eV b)):
  aL 35 #[aU 67 (.pointer (some ⟨c,d,none⟩)),eV b] w λe w'=>e=ay (.bool true)/\w'=w:=by
 obtain⟨i,f,a⟩:=ni.1 Nu;obtain⟨j,g,h⟩:=ni.1 Nv;have o:=@run_callFunc_extern prog 65 _ Extern.ReflectliteType.typeOf func65 aA aA aA aA;have k:=@run_callFunc_extern prog 395 _ QS func395 aA aA aA aA;have p:=Bh;have q:=qh;have r:=l8;have s:=aa6;have t:=I8;have u:=Bi;have l:=run_eql_iface_ptr_same (P:=prog) w b underlying25 underlying453 f a g;have m:=run_eql_iface_types (P:=prog) 67 453 (.pointer (some ⟨c,d,none⟩)) (.pointer (some b)) underlying25 aC w;simp only[hS] at*;go_enter func35,ntmps35;go_wp2;refine wp_loop_rounds 2 ?_;rw[rounds_succ];go_wp2;rw[rounds_succ];go_wp2;go_ret;exact⟨rfl,rfl⟩
theorem I9 (d f:Nat)(b a:Addr)(l m:Array ax)(n o:TypeId)(w:ai)(u:w.cell? (aJ d (f+1))=some (eV a))(hne:a≠b)(h:w.heap[a.block]? =some (ak l n (0,0)))(k:w.heap[b.block]? =some (ak m o (0,0))):
  aL 35 #[aU 67 (.pointer (some ⟨d,f,none⟩)),eV b] w λe w'=>e=ay (.bool false)/\w'=w:=by
 obtain⟨i,p,c⟩:=ni.1 Nu;obtain⟨j,q,g⟩:=ni.1 Nv;have v:=@run_callFunc_extern prog 65 _ Extern.ReflectliteType.typeOf func65 aA aA aA aA;have r:=@run_callFunc_extern prog 395 _ QS func395 aA aA aA aA;have x:=Bh;have y:=qh;have z:=l8;have A:=aa5;have B:=Cx;have C:=zD;have D:=aa6;have E:=I8;have F:=Bi;have s:=run_eql_iface_ptr_other (P:=prog) w underlying25 underlying453 p c q (by rw[g];decide) hne h k;have t:=run_eql_iface_types (P:=prog) 67 453 (.pointer (some ⟨d,f,none⟩)) (.pointer (some b)) underlying25 aC w;simp only[hS] at*;clear h k hne;go_enter func35,ntmps35;go_wp2;refine wp_loop_rounds 2 ?_;rw[rounds_succ];go_wp2;rw[rounds_succ];go_wp2;go_ret;exact⟨rfl,rfl⟩
end
section
open Go.RowKit
structure EE (E:Nat->Addr)(w:ai):Prop where
 c1:w.cell? (aJ 1 0)=some (aU 453 (.pointer (some (E 1))))
 c2:w.cell? (aJ 0 0)=some (aU 453 (.pointer (some (E 2))))
 c3:w.cell? (aJ 2 0)=some (aU 453 (.pointer (some (E 3))))
 c4:w.cell? (aJ 3 0)=some (aU 453 (.pointer (some (E 4))))
 c5:w.cell? (aJ 4 0)=some (aU 453 (.pointer (some (E 5))))
 c6:w.cell? (aJ 5 0)=some (aU 453 (.pointer (some (E 6))))
 c7:w.cell? (aJ 6 0)=some (aU 453 (.pointer (some (E 7))))
 c8:w.cell? (aJ 7 0)=some (aU 453 (.pointer (some (E 8))))
 c9:w.cell? (aJ 8 0)=some (aU 453 (.pointer (some (E 9))))
 c10:w.cell? (aJ 9 0)=some (aU 453 (.pointer (some (E 10))))
 c11:w.cell? (aJ 10 0)=some (aU 453 (.pointer (some (E 11))))
 et:w.cell? (aJ 11 0)=some (aU 208 (.agg #[hE]))
 blk:∀k,1<=k->k<=11->∃c t,w.heap[(E k).block]? =some (ak c t (0,0))
 ne:∀j k,1<=j->j<=11->1<=k->k<=11->j≠k->E j≠E k
structure DE (E:Nat->Addr)(w:ai):Prop where
 c2:w.cell? (aJ 0 0)=some (aU 453 (.pointer (some (E 2))))
 c3:w.cell? (aJ 2 0)=some (aU 453 (.pointer (some (E 3))))
 c4:w.cell? (aJ 3 0)=some (aU 453 (.pointer (some (E 4))))
 c5:w.cell? (aJ 4 0)=some (aU 453 (.pointer (some (E 5))))
 c6:w.cell? (aJ 5 0)=some (aU 453 (.pointer (some (E 6))))
 c7:w.cell? (aJ 6 0)=some (aU 453 (.pointer (some (E 7))))
 c8:w.cell? (aJ 7 0)=some (aU 453 (.pointer (some (E 8))))
 c9:w.cell? (aJ 8 0)=some (aU 453 (.pointer (some (E 9))))
 c10:w.cell? (aJ 9 0)=some (aU 453 (.pointer (some (E 10))))
theorem DE.below {w w':ai}(h:DE E w)(a:Below B w w')(b:w.heap.size<=B):DE E w' where
 c2:=(a.cell (fK (aM h.c2) b)).trans h.c2
 c3:=(a.cell (fK (aM h.c3) b)).trans h.c3
 c4:=(a.cell (fK (aM h.c4) b)).trans h.c4
 c5:=(a.cell (fK (aM h.c5) b)).trans h.c5
 c6:=(a.cell (fK (aM h.c6) b)).trans h.c6
 c7:=(a.cell (fK (aM h.c7) b)).trans h.c7
 c8:=(a.cell (fK (aM h.c8) b)).trans h.c8
 c9:=(a.cell (fK (aM h.c9) b)).trans h.c9
 c10:=(a.cell (fK (aM h.c10) b)).trans h.c10
set_option maxRecDepth 20000
theorem a2W (M:Dm):tY M []=M:=by funext i;simp[tY]
theorem QT (hE:DE E W)(a:dm B s W DB A p M nx c)(e:ig)(d:M 0=some e):
  aL 142 #[aK DB,ag 0] W λr w'=>r=ay (eV (E 3))/\w'=W:=by
 obtain⟨f,g,h,b,i⟩:=a.els 0 e d;have j:=a.d0;have k:=hE.c3;unfold eV;go_enter func142,ntmps142;go_wp2_with(at_lookup;refine dJ _ rfl _ _ 138 rfl underlying3 underlying138 (dA _) rfl a.map 0 rfl aC f b ?_);go_ret;exact⟨rfl,rfl⟩
theorem UK (z:dm B s W DB A p M nx c)(n:Int)(e q:ig)(V:M n=some e)(X:n≠0)(hq:M e.parent=some q)(hk:q.kids≠[])(f:Nat)(hf:f<=900000)(L:List Int)
  (hp:Dp (eP M e.parent ⟨q.name,q.ats,q.parent,woL q.kids n⟩) f n) (S:dZ (eP M e.parent ⟨q.name,q.ats,q.parent,woL q.kids n⟩) f n=L) (m:∀k∈L,eP M e.parent ⟨q.name,q.ats,q.parent,woL q.kids n⟩ k≠none) (C:L.Nodup) (Y:L.length<=1000000):
  aL 142 #[aK DB,ag n] W λr w'=>r=ay aY/\KT s W w'/\∃mX o,(∀x,x<W.heap.size->mX x=s x)/\dm B mX w' DB A o (tY (eP M e.parent ⟨q.name,q.ats,q.parent,woL q.kids n⟩) L) nx (c-L.length):=by
 obtain⟨EB,va,vk,Z,he⟩:=z.els n e V;have D:=z.i64 V;have d0:=z.d0;have TO:=Ej z n e q V hq hk;have Zn:(n==0)=false:=by rw[dW];exact X
 obtain⟨h,E⟩:∃h,eP M e.parent ⟨q.name,q.ats,q.parent,woL q.kids n⟩=h:=⟨_,rfl⟩;rw[E] at TO hp S m⊢;clear E;go_enter func142,ntmps142;go_upto_region 7 with(first|(at_lookup;refine dJ _ rfl _ _ 138 rfl underlying3 underlying138 (dA _) rfl z.map n rfl D EB Z ?_)|(go_at_call 206;refine TO.mono ?_;rintro r w1 ⟨rfl,F,v,H,T⟩));have FR:=qZ T f n hf hp D (by rw[S];exact Y);rw[S] at FR;have a4:=aF m;have a5:Hid L.Nodup:=C;have t:Hid (KT s W w1/\∀x,x<W.heap.size->v x=s x):=⟨F,H⟩;clear m C TO hp S;go_wp2_with(go_at_call 164;refine FR.mono ?_;rintro r w2 ⟨o2,k2,rfl,b2,U⟩);have d2:=T.below b2;have a6:=aF d2;have lM:A<w1.heap.size:=T.map.lt;have a7:=aF b2;clear T d2 b2 FR d0 F H
 go_loopw [33] (λy wr=>∃(i:Nat) (o:Int->Option Nat),i<=L.length/\y=ag i/\w2.grownBy wr (some A)/\dm B v wr DB A o (tY h (L.take i)) nx (c-i)) (λy _=>L.length-(intOf y).toNat)
 case atStart=>exact⟨0,p,bA _,rfl,⟨rfl,rfl,rfl,bJ _,λ_ _ _=>rfl⟩,by rw[List.take_zero,a2W];exact a6.out⟩
 case round=>
  obtain⟨i,o,hi,rfl,u,d⟩:=hrel;by_cases I:i<L.length
  .have b8:(i:Int)<(L.length:Int):=aa;obtain⟨k,J, -⟩:=drop_at I;obtain⟨g,l,hc⟩:=eF U i _ (qH J);have a8:o2=some ⟨g,0,none⟩:=by
    obtain⟨o',b9,h1, -, -, -,h2⟩:=eT U;cases h1;exact h2 g l
   subst a8;have a9:g≠A:=by have:=(U.lt g l).1;omega
   have c0:=(qL (a:=⟨g,i,none⟩) (u.block g (U.lt g l).2 (λe1=>a9 (fT e1)))).trans hc;have K:k∈L:=ic J;have N:k ∉ L.take i:=λhm=>by
    have:=a5.out;rw[<- jS i L] at this;exact(List.nodup_append.1 this).2.2 k hm k (by
     obtain⟨y,hy,b0⟩:=drop_at I;rw[J] at hy;cases hy;rw[b0];simp) rfl
   obtain⟨O,P⟩:∃O,tY h (L.take i) k=some O:=by
    unfold tY;rw[aG N];cases hm:h k with
    |none=>exact absurd hm (a4.out k K)
    |some O=>exact⟨O,rfl⟩
   obtain⟨kb,ka,kk,b1, -⟩:=d.els k O P;have b3:=d.i64 P;have d0:=d.d0;have Q:tY h (L.take (i+1))=Oz (tY h (L.take i)) k:=by
    rw[eX,J];exact Zl _ _ _
   have b4:=aF Q;clear Q J K N hc l;go_wp2_with(at_delete;refine YT _ rfl _ _ 138 3 rfl underlying3 underlying138 rfl d.map k rfl b3 kb b1 ?_;intro w3 b5 R);have b6:Hid (dm B v w3 DB A (λj=>if j=k then none else o j) (tY h (L.take (i+1))) nx (c-(i+1))):=(by rw[b4.out,Nat.sub_add_eq];exact d.cut b5 R:dm B v w3 DB A (λj=>if j=k then none else o j) (tY h (L.take (i+1))) nx (c-(i+1)));have b7:w2.grownBy w3 (some A):=u.trans R.grown
   go_roundw
   case rel=>exact⟨i+1,_,aa,by go_num,b7,b6.out⟩
   case measure=>simp[intOf];omega
  .obtain rfl:i=L.length:=aa;have c1:¬(L.length:Int)<(L.length:Int):=aa;rw[gJ] at d;go_wp2_with fail;go_ret;refine⟨rfl,?_,v,t.out.2,o,d⟩;have kt:=t.out.1;have w:=a7.out;refine kt.trans (mX:=v) ⟨u.os.trans w.os,u.tape.trans w.tape,u.output.trans w.output,bO w.size u.size,λb hb ht=>?_⟩ t.out.2;exact(u.block b (fK hb w.size) (λe1=>by have e2:=fT e1;rw[e2,d.mZ] at ht;cases ht)).trans (w.block b hb)
end
section
open Go.RowKit
def QU:Array ax->Nat->List ax->Array ax
 |a,_,[]=>a
 |a,o,v::r=>QU (a.setIfInBounds o v) (o+1) r
theorem mP:∀(vs:List ax) (a:Array ax) (o:Nat),(QU a o vs).size=a.size
 |[],_,_=>rfl
 |v::r,a,o=>by rw[QU,mP r];simp
theorem ug:∀(vs:List ax) (a:Array ax) (o j:Nat),o+vs.length<=a.size->(QU a o vs)[j]? =if o<=j/\j<o+vs.length then vs[j-o]? else a[j]?
 |[],a,o,j,_=>by rw[QU,aG (by simp only[iT];omega)]
 |v::r,a,o,j,h=>by
  rw[eZ] at h;rw[QU,ug r _ _ _ bq];grind
theorem setCells_at:∀(vs:List ax) (w:ai) (g o:Nat) (a:Array ax) (t:TypeId),w.heap[g]? =some (ak a t)->(w.setCells g o vs).heap[g]? =some (ak (QU a o vs) t)
 |[],_,_,_,_,_,h=>h
 |v::r,w,g,o,a,t,h=>by
  rw[World.setCells,QU];exact setCells_at r _ g (o+1) _ t (heap_setCell_same w g o a t v h)
theorem uV:∀(vs:List ax) (w:ai) (g o x:Nat),x≠g->(w.setCells g o vs).heap[x]? =w.heap[x]?
 |[],_,_,_,_,_=>rfl
 |v::r,w,g,o,x,h=>by
  rw[World.setCells,uV r _ g (o+1) x h];exact dw _ _ _ x h
theorem gF:∀(vs:List ax) (w:ai) (g o:Nat),w.grownBy (w.setCells g o vs) (some g)
 |[],w,g,o=>⟨rfl,rfl,rfl,bJ _,λ_ _ _=>rfl⟩
 |v::r,w,g,o=>by
  rw[World.setCells];have b:=gF r (w.setCell ⟨g,o,none⟩ v) g (o+1);have a:=(aW g w).setCell (p:=⟨g,o,none⟩) az v;have c:w.grownBy (w.setCell ⟨g,o,none⟩ v) (some g):=⟨a.os,a.tape,a.output,a.size,λx _ d=>dw _ _ _ x (λe=>d (by rw[e]))⟩;exact c.trans b
def iO (L:List Int)(i:Nat)(k:Int):List Int:=L.take i++k::L.drop i
theorem xV (L:List Int)(i:Nat)(k:Int)(h:i<=L.length):(iO L i k).length=L.length+1:=by
 unfold iO;simp;omega
theorem uh (L:List Int)(i j:Nat)(k:Int)(h:i<=L.length):(di (iO L i k))[j]? =if j<i then(di L)[j]? else if j=i then some (ag k) else(di L)[j-1]? :=by
 unfold iO di;grind
theorem a7C {a:Array ax}{b:List ax}{n:Nat}(c:b.length=n)(h:∀j,j<n->a[j]? =b[j]?):a.toList.take (n*1)=b:=by
 apply List.ext_getElem?;grind
theorem UL {w':ai}{r:Option Nat}{k:Nat}(h:(w.drewN k).grownBy w' r):w.grownBy w' r:=⟨h.os,h.tape,h.output,h.size,h.block⟩
theorem Bj {g a n:Nat}{b:Array ax}{c:List ax}(e:B<=g)(f:w.heap[g]? =some (ak b 3))(d:c.length=n)(h:n<=a)(i:a<=maxLen)(k:b.size=a)(l:∀j,j<n->b[j]? =c[j]?):w.ownsRow B 3 1 (aj (some ⟨g,0,none⟩) n a) n c:=
 ⟨by rw[d,Nat.mul_one],.inr ⟨g,a,b,rfl,e,f,h,i,by rw[k,Nat.mul_one],a7C d l⟩⟩
theorem Zo (w:ai)(o:Obj)(g i j:Nat)(a b:List ax):w.heap.size<=((((w.alloc o).drew.setCells g i a).drew).setCells g j b).heap.size:=by
 have c:w.heap.size<=(w.alloc o).heap.size:=(dR w o).size;have d:(w.alloc o).heap.size<=((w.alloc o).drew.setCells g i a).heap.size:=(gF a ((w.alloc o).drew) g i).size;have e:((w.alloc o).drew.setCells g i a).heap.size<=((((w.alloc o).drew.setCells g i a).drew).setCells g j b).heap.size:=(gF b (((w.alloc o).drew.setCells g i a).drew) g j).size;omega
theorem oF (n:Nat):(Builtin.zeroCells (Value.int .i64 0).cells n).size=n:=by
 simp[Builtin.zeroCells,Value.cells]
theorem ag6 {v:ax}{L:List Int}{k:Int}{i n:Nat}(ho:w.ownsRow B 3 1 v L.length (di L))(hi:i<=L.length)(hb:L.length<=1000000)(P:w.heap[n]? =some (ak #[ag k] 3))(hne:v.ownBlock≠some n)(hB:B<=w.heap.size):
  aL 205 #[v,ag i,aj (some ⟨n,0,none⟩) 1 1] w λe w'=>∃o c,e=ay (aj o (L.length+1) c)/\w'.ownsRow B 3 1 (aj o (L.length+1) c) (L.length+1) (di (iO L i k))/\w.grownBy w' v.ownBlock/\((Value.slice o (L.length+1) c).ownBlock=v.ownBlock\/∀g,(Value.slice o (L.length+1) c).ownBlock=some g->w.heap.size<=g):=by
 have f:(di L).length=L.length:=qG L;have p:(di (iO L i k)).length=L.length+1:=(qG _).trans (xV L i k hi);have q:∀j u,[Value.int .i64 k][j]? =some u->w.cell? (aJ n (0+j))=some u:=λj u s=>by
  rw[gq];exact aQ P j u (by simpa using s)
 have t:∀u∈[Value.int .i64 k],u.oneCell'=true:=λu s=>by simp at s;rw[s];rfl
 have K:∀u∈di L,u.oneCell'=true:=λu s=>by
  obtain⟨x, -,rfl⟩:=gL.1 s;rfl
 have l:∀(o:Option Addr) (c:Nat),(∀a,o=some a->∀j u,(di L)[j]? =some u->w.cell? (a.add j)=some u)->(o=none->L.length=0)->L.length<=c->c<L.length+1->i=L.length->
   aL 205 #[aj o L.length c,ag i,aj (some ⟨n,0,none⟩) 1 1] w λe w'=>∃A C,e=ay (aj A (L.length+1) C)/\w'.ownsRow B 3 1 (aj A (L.length+1) C) (L.length+1) (di (iO L i k))/\(∀r,w.grownBy w' r)/\∀g,(Value.slice A (L.length+1) C).ownBlock=some g->w.heap.size<=g:=λo c hc hz Q z R=>by
  subst R;have H:=Any2.slices_Insert_int_end_grow Tryz.AJ o L.length c n 0 1 1 (di L) [ag k] w aC Q aa aa f rfl hz hc q t;refine H.mono λe w' ⟨D,m⟩=>⟨_,_,D,?_,λr=>?_,λg hg=>by cases hg;exact bJ _⟩
  .rw[m];have E:=grownCap_ge w (L.length+1) c (Tryz.uR.t 3);refine Bj hB (dY w.drew _ _) p E (grownCap_le_maxLen _ _ _ _ (by rw[dD];omega)) ?_ λj y=>?_
   .rw[Array.size_append,oF];grind
   .rw[Array.getElem?_append_left (by simp[f];omega),List.getElem?_toArray,uh L _ j k az];grind
  .rw[m];exact⟨rfl,rfl,rfl,(dR w _).size,λx T _=>(dR w _).block x T⟩
 obtain⟨h1,M⟩:=ho;rcases M with⟨rfl,M⟩|⟨g,d,F,rfl,Q,z,R,h6,S,h8⟩
 .have H:=l none 0 (λa U=>by cases U) (λ_=>M) aa aa aa;rw[M] at H;rw[M];exact H.mono λe w' ⟨A,C,V,W,X,Y⟩=>⟨A,C,V,W,X _,.inr Y⟩
 rw[Nat.mul_one] at S h8;have Z:n≠g:=λe=>hne (by rw[e];rfl);have a4:∀j,j<L.length->F[j]? =(di L)[j]? :=λj y=>by grind
 have N:∀j u,(di L)[j]? =some u->w.cell? (aJ g (0+j))=some u:=λj u s=>by
  have y:j<L.length:=by grind
  rw[gq];exact aQ z j u ((a4 j y).trans s)
 rw[dD] at h6;have O:∀j,j<d->(w.cell? (aJ g (0+j))).isSome=true:=λj y=>by
  rw[gq,aQ z j _ (Array.getElem?_eq_getElem aa)];rfl
 by_cases b:L.length+1<=d
 .by_cases I:i<L.length
  .have H:=Any2.slices_Insert_int_shift Tryz.AJ g 0 L.length d i n 0 1 1 (di L) [ag k] w I aC b aa Z f rfl N (λj y=>O j aa) (λj _=>bG z _) q K t 3 3 1 d (by unfold World.shape?;rw[P];rfl) (by unfold World.shape?;rw[z];simp[S]) aa (bG P _) (bG P _);refine H.mono λe w' ⟨D,m⟩=>⟨_,_,D,?_,?_,.inl rfl⟩
   .rw[m,gq,gq];refine Bj Q (setCells_at _ _ g i _ _ (setCells_at _ w.drew g (i+1) F _ z)) p b (by rw[dD];omega) (by rw[mP,mP,S]) λj y=>?_;rw[ug _ _ _ _ (by rw[mP];simp;omega),ug _ _ _ _ (by rw[lC];omega),uh L i j k hi];grind
   .rw[m];exact UL (k:=1) ((gF _ w.drew g _).trans (gF _ _ g _))
  .obtain rfl:i=L.length:=aa;have H:=Any2.slices_Insert_int_end_room Tryz.AJ g 0 L.length d n 0 1 1 [ag k] w aC b aa rfl (λj y=>by rw[show 0+L.length+j=0+(L.length+j) from by omega];exact O _ aa) (λj _=>bG z _) q t;refine H.mono λe w' ⟨D,m⟩=>⟨_,_,D,?_,?_,.inl rfl⟩
   .rw[m,gq];refine Bj Q (setCells_at _ w g L.length F _ z) p b (by rw[dD];omega) (by rw[mP,S]) λj y=>?_;rw[ug _ _ _ _ bq,uh L _ j k az];grind
   .rw[m];exact gF _ w g _
 .by_cases I:i<L.length
  .have H:=Any2.slices_Insert_int_grow Tryz.AJ g 0 L.length d i n 0 1 1 (di L) [ag k] w I aC R aa aa f rfl N q K t;have E:=grownCap_ge w (L.length+1) d (Tryz.uR.t 3);refine H.mono λe w' ⟨D,m⟩=>⟨_,_,D,?_,?_,.inr λg' a5=>by cases a5;exact bJ _⟩
   .rw[m];have J:((di L).take i).toArray.size=i:=by grind
    refine Bj hB (setCells_at _ _ w.heap.size (i+1) _ _ (setCells_at _ _ w.heap.size i _ _ (dY w _ _))) p E (grownCap_le_maxLen _ _ _ _ (by rw[dD];omega)) ?_ λj y=>?_
    .rw[mP,mP,Array.size_append,Array.size_append,oF,oF,J];omega
    .rw[ug _ _ _ _ (by rw[mP,Array.size_append,Array.size_append,oF,oF,J,lC];omega),ug _ _ _ _ (by rw[Array.size_append,Array.size_append,oF,oF,J];simp;omega),uh L i j k hi];grind
   .rw[m];refine⟨?_,?_,?_,?_,λx T a6=>?_⟩
    .exact(gF _ _ _ _).os.trans (gF _ ((w.alloc _).drew) _ _).os
    .exact(gF _ _ _ _).tape.trans (gF _ ((w.alloc _).drew) _ _).tape
    .exact(gF _ _ _ _).output.trans (gF _ ((w.alloc _).drew) _ _).output
    .exact Zo w _ _ _ _ _ _
    .rw[uV _ _ _ _ x aa];refine Eq.trans (uV _ _ _ _ x aa) ((dR w _).block x T)
  .obtain rfl:i=L.length:=aa;have H:=l (some ⟨g,0,none⟩) d (λa U j u s=>by
    cases U;have a7:(⟨g,0,none⟩:Addr).add j=⟨g,j,none⟩:=by unfold Addr.add;split<;>simp_all
    grind) (λh=>by cases h) R aa rfl
   exact H.mono λe w' ⟨A,C,V,W,X,Y⟩=>⟨A,C,V,W,X _,.inr Y⟩
set_option maxRecDepth 20000
def Up (M:Dm):Int->Nat->Prop
 |i,0=>M i=none
 |i,d+1=>∃e,M i=some e/\Up M e.parent d
theorem xk (l:dm B s W DB A p M nx c)(n:Int)(d:Nat)(x:eH n)(C:Up M n d)(D:d<=1000000):
  aL 203 #[aK DB,ag n] W λr w'=>r=ay (ag d)/\aD W w':=by
 have H:=l.d0;have E:(d:Int)<=1000000:=aa;have t:=aF l;go_enter func203,ntmps203;go_wp2_with(at_lookup;refine Qi _ rfl _ _ 138 rfl underlying3 underlying138 (dA _) rfl l.map n rfl x ?_)
 go_loopw [5,6] (λy z wr=>∃(j r:Nat) (i:Int),j+r=d/\y=ag j/\z=.pointer ((p i).map λb=>⟨b,0,none⟩)/\Up M i r/\aD W wr) (λy _ _=>d-(intOf y).toNat)
 case atStart=>exact⟨0,d,n,aa,rfl,rfl,C,aW _ _⟩
 case round=>
  obtain⟨j,r,i,F,rfl,rfl,g,m⟩:=hrel;have a:=t.out.below m;cases r with
  |zero=>
   have f:=t.out.non i g;rw[f];obtain rfl:j=d:=aa;go_wp2_with fail;go_ret;exact⟨rfl,m⟩
  |succ r=>
   obtain⟨e,o,h⟩:=g;obtain⟨b,I,J,f,u⟩:=a.els i e o;have k:=(a.wf i e o).1;rw[f];have K:=a.d0;have L:=u.c2;have N:(Instr.lookup 138 (.map (some A)) (ag e.parent) false).run prog wr.drew=.ok (.pointer ((p e.parent).map λb=>⟨b,0,none⟩)) wr.drew:=by
    cases v:p e.parent with
    |none=>exact iZ.a7w (w:=wr.drew) (a.map.same rfl) underlying3 underlying138 (dA _) k v
    |some O=>exact iZ.run_get (w:=wr.drew) (a.map.same rfl) underlying3 underlying138 (dA _) k v
   have P:(j:Int)<1000000:=aa;have q:=aF h;clear h o u;go_wp2_with fail;go_region;go_wp2_with fail
   go_roundw
   case rel=>exact⟨j+1,r,e.parent,aa,by go_num,rfl,q.out,GN 1 m⟩
   case measure=>simp[intOf];omega
theorem a7D (v:dm B s W DB A p M nx c)(b:Int)(a:Nat)(e:Bs)(q:ig)(H:M b=some q)(ha:a<=q.kids.length)(J:iQ e=true)(d:Nat)(hu:Up M b d)(b2:d<10)(hc:c<100)(Y:nx<1000000)(Z:q.kids.length<=1000000)(hB:B<=W.heap.size):
  aL 141 #[aK DB,ag b,ag a,au ⟨e.toArray⟩] W λr w'=>r=ay (aH #[ag nx,aY])/\KT s W w'/\∃mX p',(∀x,x<W.heap.size->mX x=s x)/\dm B mX w' DB A p' (eP (eP M nx ⟨e,[],b,[]⟩) b ⟨q.name,q.ats,q.parent,iO q.kids a nx⟩) (nx+1) (c+1):=by
 obtain⟨K,qa,qk,L,y⟩:=v.els b q H;obtain⟨oq,kq,rfl⟩:=bD y.kids;have z:=v.i64 H;have d0:=v.d0;have y3:=y.c3;have b3:=lV J;have b5:¬(a:Int)<0:=aa;have b6:¬(q.kids.length:Int)<(a:Int):=aa;have IN:=λw=>jK ⟨e.toArray⟩ (by rw[iE];omega) w;have a4:iQ (⟨e.toArray⟩:aO).data.toList=true:=by simpa using J
 rw[a4] at IN;have DD:=xk v b d z hu aa;have N:b≠(nx:Int):=by have:=v.dom b q H;omega
 have u:=aF v;have a5:=aF y;go_enter func141,ntmps141;go_upto_region 12 with(first|(at_lookup;refine dJ _ rfl _ _ 138 rfl underlying3 underlying138 (dA _) rfl v.map b rfl z K L ?_)|(go_at_call 177;refine(IN _).mono ?_;rintro r w0 ⟨rfl,rfl⟩)|(go_at_call 203;refine DD.mono ?_;rintro r w1 ⟨rfl,O⟩;have CT:=Cq (u.out.below O))|(go_at_call 204;refine CT.mono ?_;rintro r l ⟨rfl,rfl⟩));have m:=u.out.below O;have E0:=dY l #[au ⟨e.toArray⟩,aj none 0 0,ag b,aj none 0 0] 147;have bE:=dR l (ak #[au ⟨e.toArray⟩,aj none 0 0,ag b,aj none 0 0] 147);have NE:Z4 B s (l.alloc (ak #[au ⟨e.toArray⟩,aj none 0 0,ag b,aj none 0 0] 147)) l.heap.size ⟨e,[],b,[]⟩ (aj none 0 0) (aj none 0 0):=⟨E0,bO hB O.size,m.new az,gp _ _ _ _,λg C=>absurd C (by simp[Value.ownBlock]),gp _ _ _ _,λg C=>absurd C (by simp[Value.ownBlock])⟩;have KE:=Qq B s _ DB A p M nx c l.heap.size ⟨e,[],b,[]⟩ (aj none 0 0) (aj none 0 0) (m.below bE) NE ⟨z,aI⟩ Y;go_upto_region 13 with(go_at_call 71;refine KE.mono ?_;rintro r P ⟨rfl,V,X⟩);have I:=bf O bE;have D:∀x t,s x=some t->pz s nx l.heap.size (aj none 0 0) (aj none 0 0) x=some t:=λx t n=>GQ n (m.new az) (λg C=>by cases C) (λg C=>by cases C);have E:∀x,x<w0.heap.size->pz s nx l.heap.size (aj none 0 0) (aj none 0 0) x=s x:=λx hx=>Co (by have:=O.size;omega) (by simp[Value.ownBlock]) (by simp[Value.ownBlock]);have h:BK B (pz s nx l.heap.size (aj none 0 0) (aj none 0 0)) P b K q qa (aj oq q.kids.length kq):=a5.out.turn λg t n f=>by
  have Q:g≠DB/\g≠A:=⟨λF=>(by have j:=u.out.mY;rw[<- F,n] at j;cases j;rcases f with f|f|f<;>cases f),λF=>(by have j:=u.out.mZ;rw[<- F,n] at j;cases j;rcases f with f|f|f<;>cases f)⟩;have a6:=(u.out.low g t n).2;exact⟨D g t n,(V.block g (by have:=I.size;omega) Q.1 Q.2).trans (I.block g a6)⟩
 obtain⟨T3,LG⟩:∃T,pz s nx l.heap.size (aj none 0 0) (aj none 0 0)=T:=⟨_,rfl⟩;rw[LG] at X D E h;have R:=aF E;have S:=dR P (ak #[ag nx] 3);have H4:=dY P #[ag nx] 3;have d4:=X.below S;have o:=h.turn (mX:=T3) (w':=P.alloc (ak #[ag nx] 3)) λg t n _=>⟨n,S.block g (X.low g t n).2⟩;have z3:=h.c3;have IE:=ag6 (k:=nx) (i:=a) o.kids ha Z H4 (λF=>by have j:=h.jQ _ F;rw[X.new az] at j;cases j) (by have j:=I.size;have h2:=V.size;have h3:=S.size;omega);have a7:some K≠(Value.slice oq q.kids.length kq).ownBlock:=λF=>by have j:=h.jQ K F.symm;rw[h.tag] at j;cases j
 have lQ:=bu o.cells;have cQ:=o.cells;have HF:=aF V;clear KE NE E0 m LG V D E;go_wp2_with(go_at_call 205;refine IE.mono ?_;rintro r w5 ⟨o5,k5,rfl,vN,U,a8⟩;have e5:=(U.block K lQ a7).trans cQ;have c5:=aQ e5 3 _ rfl;have f5:=bG e5);have hL:(iO q.kids a (nx:Int)).length=q.kids.length+1:=xV _ _ _ ha;rw[<- hL] at vN;have a9:eP M nx ⟨e,[],b,[]⟩ b=some q:=by unfold eP;rw[aG N];exact H
 obtain⟨r1,r2,r3⟩:=d4.kids a9 (by simp only[aG N];exact L) o (λk f=>by
  unfold iO at f;rcases iw.1 f with f|f
  .exact(u.out.wf b q H).2 k (List.mem_of_mem_take f)
  .rcases gP.1 f with rfl|f
   .exact WalkArith.wf_i64 aa
   .exact(u.out.wf b q H).2 k (List.mem_of_mem_drop f)) vN U (by rw[hL];exact a8)
 rw[hL] at r1 r2 r3
 go_ret2
 refine⟨rfl,?_,_,_,λx hx=>?_,r1⟩
 .have f:=HF.out;have b0:KT s w0 P:=KT.trans (KT.of_below I) (mX:=s) (KT.afC (u.out.below I) f) (λ_ _=>rfl);exact b0.trans (mX:=T3) (KT.trans (KT.of_below S) r3 (λ_ _=>rfl)) R.out
 .have j:=I.size;have h2:=HF.out.size;have h3:=S.size;rw[r2 x aa];exact R.out x hx
end
open Go.RowKit
theorem zF (b:dm B s W DB A p M nx c)(n a:Int)(e q:ig)(l:M n=some e)(m:M a=some q)(v:q.kids.length<=1000000):
  aL 208 #[aK DB,ag a,ag n] W λr w'=>r=ay (ag (if e.parent=a then(q.kids.length:Int)-1 else q.kids.length))/\w'=W:=by
 have d:=b.i64 l;have f:=b.i64 m;have w:=b.d0;obtain⟨o,x,y,g,u⟩:=b.els n e l;obtain⟨t,z,C,h,i⟩:=b.els a q m;obtain⟨D,E,rfl⟩:=bD i.kids;have F:=u.c2;have H:=i.c3;by_cases j:e.parent=a
 .have k:(e.parent==a)=true:=by simp[j]
  have I:IntKind.i64.wrap ((q.kids.length:Int)-1)=(q.kids.length:Int)-1:=IntWalk.i64_in _ aa;rw[aR j];go_enter func208,ntmps208;go_wp2_with(at_lookup;first|(refine Fj _ rfl _ _ 138 rfl underlying3 underlying138 (dA _) rfl b.map a rfl f t h ?_)|(refine Fj _ rfl _ _ 138 rfl underlying3 underlying138 (dA _) rfl b.map n rfl d o g ?_));go_ret;exact⟨rfl,rfl⟩
 .have k:(e.parent==a)=false:=by simp[j]
  rw[aG j];go_enter func208,ntmps208;go_wp2_with(at_lookup;first|(refine Fj _ rfl _ _ 138 rfl underlying3 underlying138 (dA _) rfl b.map a rfl f t h ?_)|(refine Fj _ rfl _ _ 138 rfl underlying3 underlying138 (dA _) rfl b.map n rfl d o g ?_));go_ret;exact⟨rfl,rfl⟩
def nR (l:List (Int×Int)):Int:=l.foldl (λm x=>max m x.2) 0
theorem UM (l:List (Int×Int))(x:Int×Int):nR (l++[x])=max (nR l) x.2:=by
 unfold nR;grind
def abM (W:ai)(a:List (Int×Int))(b:ai):Prop:=Below W.heap.size W b/\b.heap[W.heap.size]? =some (ak #[ag (nR a)] 3)
theorem deepest (W:ai)(a:List (Int×Int))(f:ai)(i d:Int)(h:abM W a f):
  aL 276 (#[ag i,ag d]++#[aK W.heap.size]) f λe w'=>e=ay (aH #[])/\abM W (a++[(i,d)]) w':=by
 obtain⟨j,c⟩:=h;have k:=aQ c 0 _ rfl;have o:=bG c 0;have p:=aF j;clear j;obtain⟨g,b⟩:∃g,W.heap.size=g:=⟨_,rfl⟩;rw[b] at k o c⊢;obtain⟨m,l⟩:∃m,nR a=m:=⟨_,rfl⟩;rw[l] at k c;show aL 276 #[ag i,ag d,aK g] f _;go_enter func276,ntmps276;go_wp2_with fail;refine bodyPost_end (results_none rfl _ _ _) rfl ⟨rfl,?_,?_⟩
 .have n:=p.out;rw[b] at n⊢;exact n.setCell az _
 .rw[b,heap_setCell_same f g 0 _ _ _ c,UM,l];simp
theorem Ia (k:dm B s W DB A p M nx c)(f:Nat)(n:Int)(u:f<=900000)(hp:Dp M f n)(o:eH n)(v:(pre M f n 1).length<=1000000):
  aL 209 #[aK DB,ag n] W λe w'=>e=ay (ag (nR (pre M f n 1)))/\Below W.heap.size W w':=by
 have l:=Cs k _ (tH _ _ func276 aA aA) #[aK W.heap.size] (abM W) (λa m h=>⟨λb t q=>h.1.block b (k.low b t q).2,h.1.size⟩) (λa m i d h _=>deepest W a m i d h) f n 1 [] (W.alloc (ak #[ag 0] 3)) hp o aC aa (by rw[iT];omega) ⟨dR W _,dY W _ _⟩;rw[gK] at l;go_enter func209,ntmps209;go_wp2_with(go_at_call 230;refine l.mono ?_;rintro e w ⟨rfl,r⟩;obtain⟨g,j⟩:=r;have x:=aQ j 0 _ rfl);go_ret;exact⟨rfl,g⟩
theorem UN (W:ai)(v:ax)(L:List Int)(x:Int)(h:W.ownsRow B 3 1 v L.length (di L))(D:L.length<=1000000):
  aL 275 #[v,ag x] W λe w'=>w'=W/\∃i:Int,e=ay (ag i)/\(0<=i↔x∈L):=by
 have q:∀k y,L[k]? =some y->∃g,v.ownBlock=some g/\W.cell? (aJ g k)=some (ag y):=λk y f=>eF h k _ (qH f);rcases h.2 with⟨rfl,s⟩|⟨g,t,u,rfl,_,_,E,F,_,_⟩
 .have w:L=[]:=lu.1 s;subst w;go_enter func275,ntmps275;go_wp2_with fail
  go_loop [5,8] (λ_ i=>i=ag 0) (λ_ _=>0)
  case atStart=>rfl
  case round=>
   subst hrel;go_wp2_with fail;go_ret;exact⟨rfl, -1,rfl,aI⟩
 .have z:Hid (∀(k:Nat) (y:Int),L[k]? =some y->W.cell? (aJ g k)=some (ag y)):=(λk y f=>by
   obtain⟨H,A,l⟩:=q k y f;cases A;exact l:∀(k:Nat) (y:Int),L[k]? =some y->W.cell? (aJ g k)=some (ag y))
  clear q h;go_enter func275,ntmps275;go_wp2_with fail
  go_loop [5,8] (λ_ i=>∃k:Nat,k<=L.length/\i=ag k/\Hid (∀j,j<k->L[j]?≠some x)) (λ_ i=>match i with| .int _ m=>L.length-m.toNat|_=>0)
  case atStart=>exact⟨0,bA _,rfl,(λj b=>absurd b (Nat.not_lt_zero _):∀j,j<0->L[j]?≠some x)⟩
  case round=>
   obtain⟨k,f,rfl,c⟩:=hrel;by_cases n:k<L.length
   .obtain⟨y,o⟩:∃y,L[k]? =some y:=⟨_,fD n⟩;have p:=z.out k y o;have d:(k:Int)<L.length:=aa;by_cases a:x=y
    .subst a;go_wp2_with fail;go_ret;exact⟨rfl,k,rfl,⟨λ_=>ic o,λ_=>aa⟩⟩
    .have r:(x==y)=false:=by simp[a]
     go_wp2_with fail;refine⟨⟨k+1,aa,rfl,(λj b=>?_:∀j,j<k+1->L[j]?≠some x)⟩,?_⟩
     .by_cases e:j=k
      .subst e;rw[o];exact λe=>a (by cases e;rfl)
      .exact c.out j aa
     .show L.length-((k:Int)+1).toNat<L.length-(k:Int).toNat;omega
   .have d:¬(k:Int)<L.length:=aa;go_wp2_with fail;go_ret;refine⟨rfl, -1,rfl,⟨λh=>aa,λC=>?_⟩⟩;obtain⟨j,b⟩:=List.getElem?_of_mem C;exact absurd b (c.out j (by have:=(lK.1 b).1;omega))
theorem lX (W:ai)(v:ax)(L:List Int)(x:Int)(h:W.ownsRow B 3 1 v L.length (di L))(a:L.length<=1000000):
  aL 207 #[v,ag x] W λe w'=>w'=W/\e=ay (.bool (decide (x∈L))):=by
 have b:=UN W v L x h a;go_enter func207,ntmps207;go_wp2_with(go_at_call 275;refine b.mono ?_;rintro e c ⟨rfl,i,rfl,d⟩);go_ret;exact⟨rfl,rfl⟩
set_option maxRecDepth 20000
theorem dm.par {d:Nat}{i:Int}{e:ig}{va vk:ax}(h:dm B s w DB A p M nx c)(hi:M i=some e)(hp:p i=some d)(he:BK B s w i d e va vk)(b:Int)(u:eH b):
  dm B s (w.setCell ⟨d,2,none⟩ (ag b)) DB A p (eP M i ⟨e.name,e.ats,b,e.kids⟩) nx c/\KT s w (w.setCell ⟨d,2,none⟩ (ag b)):=by
 have a:=(aW d w).setCell (p:=⟨d,2,none⟩) az (ag b);have f:∀x,x≠d->(w.setCell ⟨d,2,none⟩ (ag b)).heap[x]? =w.heap[x]? :=λx j=>dw _ _ _ x j;have n:∀g,va.ownBlock=some g->g≠d:=λg k l=>by have j:=he.oC g k;rw[l,he.tag] at j;cases j
 have o:∀g,vk.ownBlock=some g->g≠d:=λg k l=>by have j:=he.jQ g k;rw[l,he.tag] at j;cases j
 refine⟨h.put hi hp (va:=va) (vk:=vk) ⟨?_,he.tag,dF he.ats λg k=>f g (n g k),he.oC,dF he.kids λg k=>f g (o g k),he.jQ⟩ a.size ⟨u,(h.wf i e hi).2⟩ (λ_ _=>rfl) ?_ ?_ ?_,⟨a.os,a.tape,a.output,a.size,λx q r=>?_⟩⟩
 .rw[heap_setCell_same w d 2 _ _ _ he.cells];rfl
 .intro x t m;have:=h.low x t m;have:=a.size;omega
 .intro x q;exact .inl (h.new q)
 .intro x t m j v y;exact f x (λl=>by rw[l,he.tag] at m;cases m;exact j rfl)
 .exact f x (λl=>by rw[l,he.tag] at r;cases r)
def qi (M:Dm)(n:Int)(e o:ig):Dm:=eP M e.parent ⟨o.name,o.ats,o.parent,woL o.kids n⟩
def Zp (M:Dm)(n b:Int)(a:Nat)(e o q:ig):Dm:=eP (eP (qi M n e o) n ⟨e.name,e.ats,b,e.kids⟩) b ⟨q.name,q.ats,q.parent,iO q.kids a n⟩
theorem a2X (m:dm B s W DB A p M nx c)(n b:Int)(a:Nat)(e o y q:ig)(Q:M n=some e)(a9:n≠0)(ho:M e.parent=some o)(b0:o.kids≠[])(b2:e.parent≠n)(C:M b=some y)(hq:qi M n e o b=some q)(b3:b≠n)
  (f:Nat) (hf:f<=900000) (hp:Dp M f n) (hl:(pre M f n 1).length<=1000000) (R:b ∉ dZ M f n) (b6:y.kids.length<=1000000) (b7:(a:Int)<=if e.parent=b then(y.kids.length:Int)-1 else y.kids.length) (S:a<=q.kids.length) (b9:q.kids.length<=1000000)
  (d:Nat) (hu:Up M b d) (c0:(d:Int)+nR (pre M f n 1)<=10) (c1:0<=nR (pre M f n 1)) (hB:B<=W.heap.size):
  aL 143 #[aK DB,ag n,ag b,ag a] W λr w'=>r=ay aY/\KT s W w'/\∃mX,(∀x,x<W.heap.size->mX x=s x)/\dm B mX w' DB A p (Zp M n b a e o q) nx c:=by
 obtain⟨EB,va,vk,D,he⟩:=m.els n e Q;obtain⟨QB,qa,qk,E,d2⟩:=m.els b y C;have u:=m.i64 Q;have F:=m.i64 C;have d0:=m.d0;have Zn:(n==0)=false:=by rw[dW];exact a9
 have T:(dZ M f n).length<=1000000:=by unfold dZ;rw[dP];exact hl
 have FD:=qZ m f n hf hp u T;have d3:decide (b∈dZ M f n)=false:=iU R;have d4:¬(a:Int)<0:=aa;have HD:=aF m;obtain⟨ot,H⟩:∃ot:Int,(if e.parent=b then(y.kids.length:Int)-1 else y.kids.length)=ot:=⟨_,rfl⟩;rw[H] at b7;obtain⟨mo,I⟩:∃mo:Int,nR (pre M f n 1)=mo:=⟨_,rfl⟩;rw[I] at c0 c1;have d9:IntKind.i64.wrap ((d:Int)+mo)=(d:Int)+mo:=IntWalk.i64_in _ aa;have c2:=aF H;have c3:=aF I;clear H I;go_enter func143,ntmps143;go_upto_region 7 with(at_lookup;first|refine dJ _ rfl _ _ 138 rfl underlying3 underlying138 (dA _) rfl m.map n rfl u EB D ?_|refine dJ _ rfl _ _ 138 rfl underlying3 underlying138 (dA _) rfl m.map b rfl F QB E ?_);go_upto_region 9 with(first|(go_at_call 164;refine FD.mono ?_;rintro r w1 ⟨o1,k1,rfl,b1,ES⟩;have CI:=lX w1 _ (dZ M f n) b ES T)|(go_at_call 207;refine CI.mono ?_;rintro r w2 ⟨rfl,rfl⟩));have V:=HD.out.below b1;have OD:=zF V n b e y Q C b6;rw[c2.out] at OD;go_upto_region 11 with(go_at_call 208;refine OD.mono ?_;rintro r w3 ⟨rfl,rfl⟩);have DD:=xk V b d F hu aa;go_upto_region 13 with(first|(go_at_call 203;refine DD.mono ?_;rintro r w4 ⟨rfl,b4⟩;have LD:=Ia (HD.out.below (bf b1 b4)) f n hf hp u hl;rw[c3.out] at LD)|(go_at_call 209;refine LD.mono ?_;rintro r w5 ⟨rfl,b5⟩));have P:=bf (bf b1 b4) b5;have TO:=Ej (HD.out.below P) n e o Q ho b0;go_upto_region 14 with(go_at_call 206;refine TO.mono ?_;rintro r X ⟨rfl,k6,T6,t6,Y⟩);have Z:qi M n e o n=some e:=by unfold qi eP;rw[aG (λh=>b2 h.symm)];exact Q
 have Y:dm B T6 X DB A p (qi M n e o) nx c:=Y;obtain⟨J,e0,e2,a4,K⟩:=Y.els n e Z;have c4:J=EB:=by rw[D] at a4;cases a4;rfl
 subst c4;obtain⟨L,k7⟩:=Y.par Z D K b F;have f6:=bG K.cells 2;have x6:=K.c2;have v:eP (qi M n e o) n ⟨e.name,e.ats,b,e.kids⟩ b=some q:=by unfold eP;rw[aG b3];exact hq
 have s7:X.heap.size<=(X.setCell ⟨J,2,none⟩ (ag b)).heap.size:=k7.size;obtain⟨U,a5⟩:∃U,X.setCell ⟨J,2,none⟩ (ag b)=U:=⟨_,rfl⟩;go_upto_region 15 with fail;rw[a5] at L k7 s7;obtain⟨w,e3,e4,a6,j⟩:=L.els b q v;have c5:w=QB:=by rw[E] at a6;cases a6;rfl
 subst c5;obtain⟨oq,kq,rfl⟩:=bD j.kids;have b8:=dR U (ak #[ag n] 3);have H8:=dY U #[ag n] 3;have d8:=L.below b8;have l:=j.turn (mX:=T6) (w':=U.alloc (ak #[ag n] 3)) λg t ht _=>⟨ht,b8.block g (L.low g t ht).2⟩;have y8:=l.c3;have z7:=j.c3;have IE:=ag6 (k:=n) (i:=a) l.kids S b9 H8 (λe1=>by have N:=j.jQ _ e1;rw[L.new az] at N;cases N) (by have N:=P.size;have h2:=k6.size;have h3:=b8.size;omega);have c6:some w≠(Value.slice oq q.kids.length kq).ownBlock:=λe1=>by have N:=j.jQ w e1.symm;rw[j.tag] at N;cases N
 have lQ:=bu l.cells;have cQ:=l.cells;have c7:=aF k6;have c8:=aF k7;have O:=aF t6;clear a5 k6 k7 t6 Y TO;go_wp2_with(go_at_call 205;refine IE.mono ?_;rintro r w9 ⟨o9,k9,rfl,a7,a8,d1⟩;have e9:=(a8.block w lQ c6).trans cQ;have c9:=aQ e9 3 _ rfl;have f9:=bG e9);have hL:(iO q.kids a n).length=q.kids.length+1:=xV _ _ _ S;rw[<- hL] at a7;obtain⟨r1,r2,r3⟩:=d8.kids v E l (λk z=>by
  unfold iO at z;rcases iw.1 z with z|z
  .exact(L.wf b q v).2 k (List.mem_of_mem_take z)
  .rcases gP.1 z with rfl|z
   .exact u
   .exact(L.wf b q v).2 k (List.mem_of_mem_drop z)) a7 a8 (by rw[hL];exact d1)
 rw[hL] at r1 r2 r3;go_ret;have h6:=c7.out;have h7:=c8.out;refine⟨rfl,?_,_,λx hx=>?_,r1⟩
 .have ku:KT s W X:=KT.trans (KT.of_below P) h6 (λ_ _=>rfl);have kv:KT s W U:=ku.trans (mX:=T6) h7 (λx hx=>O.out x (by have:=P.size;omega));exact kv.trans (mX:=T6) (KT.trans (KT.of_below b8) r3 (λ_ _=>rfl)) (λx hx=>O.out x (by have:=P.size;omega))
 .have N:=P.size;have h2:=h6.size;have h3:=h7.size;have h4:=b8.size;rw[r2 x aa];exact O.out x aa
theorem a7E (hE:DE E W)(d:dm B s W DB A p M nx c)(n b a:Int)(e:eH n)(f:eH b)(i:M n=none)(j:M b=none):
  aL 143 #[aK DB,ag n,ag b,ag a] W λr w'=>r=ay (eV (E 5))/\aD W w':=by
 have k:=d.d0;have ck:=hE.c5;unfold eV;have g:=d.non n i;have h:=d.non b j;go_enter func143,ntmps143;go_wp2_with(at_lookup;first|refine kG _ rfl _ _ 138 rfl underlying3 underlying138 (dA _) rfl d.map n rfl e g ?_|refine kG _ rfl _ _ 138 rfl underlying3 underlying138 (dA _) rfl d.map b rfl f h ?_);go_ret;exact⟨rfl,aW _ _⟩
theorem a2Y (hE:DE E W)(d:dm B s W DB A p M nx c)(n b a:Int)(e:eH n)(f:eH b)(q:ig)(i:M n=none)(j:M b=some q):
  aL 143 #[aK DB,ag n,ag b,ag a] W λr w'=>r=ay (eV (E 5))/\aD W w':=by
 have m:=d.d0;have ck:=hE.c5;unfold eV;have g:=d.non n i;obtain⟨k,o,t,h,l⟩:=d.els b q j;go_enter func143,ntmps143;go_wp2_with(at_lookup;first|refine kG _ rfl _ _ 138 rfl underlying3 underlying138 (dA _) rfl d.map n rfl e g ?_|refine dJ _ rfl _ _ 138 rfl underlying3 underlying138 (dA _) rfl d.map b rfl f k h ?_);go_ret;exact⟨rfl,aW _ _⟩
theorem a2Z (hE:DE E W)(d:dm B s W DB A p M nx c)(n b a:Int)(f:eH n)(g:eH b)(e:ig)(j:M n=some e)(k:M b=none):
  aL 143 #[aK DB,ag n,ag b,ag a] W λr w'=>r=ay (eV (E 5))/\aD W w':=by
 have m:=d.d0;have ck:=hE.c5;unfold eV;obtain⟨l,o,q,h,t⟩:=d.els n e j;have i:=d.non b k;go_enter func143,ntmps143;go_wp2_with(at_lookup;first|refine dJ _ rfl _ _ 138 rfl underlying3 underlying138 (dA _) rfl d.map n rfl f l h ?_|refine kG _ rfl _ _ 138 rfl underlying3 underlying138 (dA _) rfl d.map b rfl g i ?_);go_ret;exact⟨rfl,aW _ _⟩
theorem Zq (hE:DE E W)(d:dm B s W DB A p M nx c)(n b a:Int)(g:eH n)(h:eH b)(e q:ig)(k:M n=some e)(l:M b=some q)(f:n=0):
  aL 143 #[aK DB,ag n,ag b,ag a] W λr w'=>r=ay (eV (E 3))/\aD W w':=by
 have u:=d.d0;have ck:=hE.c3;unfold eV;obtain⟨m,v,w,i,x⟩:=d.els n e k;obtain⟨o,y,z,j,t⟩:=d.els b q l;have C:(n==0)=true:=by rw[beq_iff_eq];exact f
 clear f;go_enter func143,ntmps143;go_wp2_with(at_lookup;first|refine dJ _ rfl _ _ 138 rfl underlying3 underlying138 (dA _) rfl d.map n rfl g m i ?_|refine dJ _ rfl _ _ 138 rfl underlying3 underlying138 (dA _) rfl d.map b rfl h o j ?_);go_ret;exact⟨rfl,aW _ _⟩
theorem UO (hE:DE E W)(d:dm B s W DB A p M nx c)(n b a:Int)(e q:ig)(o:M n=some e)(t:M b=some q)(i:n≠0)(g:eH n)(j:eH b)(f:Nat)(u:f<=900000)(hp:Dp M f n)(v:(pre M f n 1).length<=1000000)(w:b∈dZ M f n):
  aL 143 #[aK DB,ag n,ag b,ag a] W λr w'=>r=ay (eV (E 9))/\aD W w':=by
 have J:=d.d0;unfold eV;obtain⟨x,K,L,k,N⟩:=d.els n e o;obtain⟨y,O,P,l,z⟩:=d.els b q t;have Q:(n==0)=false:=by rw[dW];exact i
 have h:(dZ M f n).length<=1000000:=by unfold dZ;rw[dP];exact v
 have C:=qZ d f n u hp g h;have D:=aF hE;go_enter func143,ntmps143;go_upto_region 7 with(at_lookup;first|refine dJ _ rfl _ _ 138 rfl underlying3 underlying138 (dA _) rfl d.map n rfl g x k ?_|refine dJ _ rfl _ _ 138 rfl underlying3 underlying138 (dA _) rfl d.map b rfl j y l ?_);go_wp2_with(first|(go_at_call 164;refine C.mono ?_;rintro r F ⟨R,S,rfl,m,H⟩;have I:=lX F _ (dZ M f n) b H h;have ck1:=(D.out.below m az).c9)|(go_at_call 207;refine I.mono ?_;rintro r T ⟨rfl,rfl⟩));go_ret;exact⟨rfl,m⟩
theorem a3a (hE:DE E W)(d:dm B s W DB A p M nx c)(n b a:Int)(e q:ig)(t:M n=some e)(u:M b=some q)(i:n≠0)(g:eH n)(j:eH b)(f:Nat)(v:f<=900000)(hp:Dp M f n)(w:(pre M f n 1).length<=1000000)(m:b ∉ dZ M f n)(J:a<0):
  aL 143 #[aK DB,ag n,ag b,ag a] W λr w'=>r=ay (eV (E 2))/\aD W w':=by
 have K:=d.d0;unfold eV;obtain⟨x,L,N,k,O⟩:=d.els n e t;obtain⟨y,P,Q,l,z⟩:=d.els b q u;have R:(n==0)=false:=by rw[dW];exact i
 have h:(dZ M f n).length<=1000000:=by unfold dZ;rw[dP];exact w
 have C:=qZ d f n v hp g h;have D:=aF hE;go_enter func143,ntmps143;go_upto_region 7 with(at_lookup;first|refine dJ _ rfl _ _ 138 rfl underlying3 underlying138 (dA _) rfl d.map n rfl g x k ?_|refine dJ _ rfl _ _ 138 rfl underlying3 underlying138 (dA _) rfl d.map b rfl j y l ?_);go_wp2_with(first|(go_at_call 164;refine C.mono ?_;rintro r F ⟨S,T,rfl,o,H⟩;have I:=lX F _ (dZ M f n) b H h;have ck1:=(D.out.below o az).c2)|(go_at_call 207;refine I.mono ?_;rintro r U ⟨rfl,rfl⟩));go_ret;exact⟨rfl,o⟩
theorem UQ (hE:DE E W)(d:dm B s W DB A p M nx c)(n b a:Int)(e q:ig)(w:M n=some e)(x:M b=some q)(j:n≠0)(h:eH n)(k:eH b)(f:Nat)(D:f<=900000)(hp:Dp M f n)(F:(pre M f n 1).length<=1000000)(y:b ∉ dZ M f n)(R:¬a<0)(l:q.kids.length<=1000000)(m:(if e.parent=b then(q.kids.length:Int)-1 else q.kids.length)<a):
  aL 143 #[aK DB,ag n,ag b,ag a] W λr w'=>r=ay (eV (E 2))/\aD W w':=by
 have S:=d.d0;unfold eV;obtain⟨H,T,U,o,V⟩:=d.els n e w;obtain⟨I,X,Y,t,J⟩:=d.els b q x;have Z:(n==0)=false:=by rw[dW];exact j
 have i:(dZ M f n).length<=1000000:=by unfold dZ;rw[dP];exact F
 have K:=qZ d f n D hp h i;have L:=aF d;have N:=aF hE;obtain⟨z,g⟩:∃z:Int,(if e.parent=b then(q.kids.length:Int)-1 else q.kids.length)=z:=⟨_,rfl⟩;rw[g] at m;have u:=aF g;clear g;go_enter func143,ntmps143;go_upto_region 7 with(at_lookup;first|refine dJ _ rfl _ _ 138 rfl underlying3 underlying138 (dA _) rfl d.map n rfl h H o ?_|refine dJ _ rfl _ _ 138 rfl underlying3 underlying138 (dA _) rfl d.map b rfl k I t ?_);go_upto_region 9 with(first|(go_at_call 164;refine K.mono ?_;rintro r O ⟨o1,k1,rfl,v,P⟩;have Q:=lX O _ (dZ M f n) b P i;have ck1:=(N.out.below v az).c2)|(go_at_call 207;refine Q.mono ?_;rintro r w2 ⟨rfl,rfl⟩));have C:=zF (L.out.below v) n b e q w x l;rw[u.out] at C;go_wp2_with(go_at_call 208;refine C.mono ?_;rintro r w3 ⟨rfl,rfl⟩);go_ret;exact⟨rfl,v⟩
theorem Zr (hE:DE E W)(g:dm B s W DB A p M nx c)(n b a:Int)(e q:ig)(I:M n=some e)(J:M b=some q)(t:n≠0)(h:eH n)(l:eH b)(f:Nat)(K:f<=900000)(hp:Dp M f n)(L:(pre M f n 1).length<=1000000)(N:b ∉ dZ M f n)(ha:¬a<0)(u:q.kids.length<=1000000)(v:¬(if e.parent=b then(q.kids.length:Int)-1 else q.kids.length)<a)(d:Nat)(T:Up M b d)(U:d<=10)(w:10<(d:Int)+nR (pre M f n 1))(x:nR (pre M f n 1)<=1000000):
  aL 143 #[aK DB,ag n,ag b,ag a] W λr w'=>r=ay (eV (E 8))/\aD W w':=by
 have d0:=g.d0;unfold eV;obtain⟨V,va,vk,y,he⟩:=g.els n e I;obtain⟨X,qa,qk,z,Y⟩:=g.els b q J;have Zn:(n==0)=false:=by rw[dW];exact t
 have m:(dZ M f n).length<=1000000:=by unfold dZ;rw[dP];exact L
 have Z:=qZ g f n K hp h m;have C:=aF g;have O:=aF hE;obtain⟨P,i⟩:∃P:Int,(if e.parent=b then(q.kids.length:Int)-1 else q.kids.length)=P:=⟨_,rfl⟩;rw[i] at v;have D:=aF i;clear i;obtain⟨o,j⟩:∃o:Int,nR (pre M f n 1)=o:=⟨_,rfl⟩;rw[j] at w x;have a4:IntKind.i64.wrap ((d:Int)+o)=(d:Int)+o:=IntWalk.i64_in _ aa;have F:=aF j;clear j;go_enter func143,ntmps143;go_upto_region 7 with(at_lookup;first|refine dJ _ rfl _ _ 138 rfl underlying3 underlying138 (dA _) rfl g.map n rfl h V y ?_|refine dJ _ rfl _ _ 138 rfl underlying3 underlying138 (dA _) rfl g.map b rfl l X z ?_);go_upto_region 9 with(first|(go_at_call 164;refine Z.mono ?_;rintro r w1 ⟨o1,k1,rfl,k,ES⟩;have CI:=lX w1 _ (dZ M f n) b ES m;have ck1:=(O.out.below k az).c8)|(go_at_call 207;refine CI.mono ?_;rintro r w2 ⟨rfl,rfl⟩));have Q:=zF (C.out.below k) n b e q I J u;rw[D.out] at Q;go_upto_region 11 with(go_at_call 208;refine Q.mono ?_;rintro r w3 ⟨rfl,rfl⟩);have DD:=xk (C.out.below k) b d l T aa;go_wp2_with(first|(go_at_call 203;refine DD.mono ?_;rintro r w4 ⟨rfl,H⟩;have R:=Ia (C.out.below (bf k H)) f n K hp h L;rw[F.out] at R)|(go_at_call 209;refine R.mono ?_;rintro r w5 ⟨rfl,S⟩;have a5:=(O.out.below (bf (bf k H) S) az).c8));go_ret;exact⟨rfl,bf (bf k H) S⟩
theorem abO (hE:DE E W)(e:dm B s W DB A p M nx c)(b a:Int)(d:Bs)(f:eH b)(h:M b=none):
  aL 141 #[aK DB,ag b,ag a,au ⟨d.toArray⟩] W λr w'=>r=ay (aH #[ag 0,eV (E 5)])/\aD W w':=by
 have i:=e.d0;have ck:=hE.c5;have j:=aF e;have k:=aF hE;unfold eV;have g:=e.non b h;go_enter func141,ntmps141;go_upto_region 3 with(at_lookup;refine kG _ rfl _ _ 138 rfl underlying3 underlying138 (dA _) rfl e.map b rfl f g ?_);go_region;go_wp2_with fail
 go_ret2
 exact⟨rfl,rfl,rfl,rfl,bJ _,λ_ _=>rfl⟩
theorem a7F (hE:DE E W)(f:dm B s W DB A p M nx c)(b a:Int)(d:Bs)(g:eH b)(q:ig)(j:M b=some q)(k:q.kids.length<=1000000)(m:a<0):
  aL 141 #[aK DB,ag b,ag a,au ⟨d.toArray⟩] W λr w'=>r=ay (aH #[ag 0,eV (E 2)])/\aD W w':=by
 have n:=f.d0;have ck:=hE.c2;have o:=aF f;have t:=aF hE;unfold eV;obtain⟨l,u,v,h,e⟩:=f.els b q j;obtain⟨w,x,rfl⟩:=bD e.kids;have y:=e.c3;have i:(q.kids.length:Int)<=1000000:=aa;go_enter func141,ntmps141;go_upto_region 5 with(at_lookup;refine dJ _ rfl _ _ 138 rfl underlying3 underlying138 (dA _) rfl f.map b rfl g l h ?_);go_region;go_wp2_with fail
 go_ret2
 exact⟨rfl,rfl,rfl,rfl,bJ _,λ_ _=>rfl⟩
theorem Zt (hE:DE E W)(f:dm B s W DB A p M nx c)(b a:Int)(d:Bs)(g:eH b)(q:ig)(j:M b=some q)(k:q.kids.length<=1000000)(n:¬a<0)(l:(q.kids.length:Int)<a):
  aL 141 #[aK DB,ag b,ag a,au ⟨d.toArray⟩] W λr w'=>r=ay (aH #[ag 0,eV (E 2)])/\aD W w':=by
 have o:=f.d0;have ck:=hE.c2;have t:=aF f;have u:=aF hE;unfold eV;obtain⟨m,v,w,h,e⟩:=f.els b q j;obtain⟨x,y,rfl⟩:=bD e.kids;have z:=e.c3;have i:(q.kids.length:Int)<=1000000:=aa;go_enter func141,ntmps141;go_upto_region 5 with(at_lookup;refine dJ _ rfl _ _ 138 rfl underlying3 underlying138 (dA _) rfl f.map b rfl g m h ?_);go_region;go_wp2_with fail
 go_ret2
 exact⟨rfl,rfl,rfl,rfl,bJ _,λ_ _=>rfl⟩
theorem a3b (hE:DE E W)(g:dm B s W DB A p M nx c)(b a:Int)(e:Bs)(h:eH b)(q:ig)(o:M b=some q)(t:q.kids.length<=1000000)(J:¬a<0)(u:¬(q.kids.length:Int)<a)(i:iQ e=true)(d:Nat)(v:Up M b d)(x:d<=1000000)(y:10<=d):
  aL 141 #[aK DB,ag b,ag a,au ⟨e.toArray⟩] W λr w'=>r=ay (aH #[ag 0,eV (E 8)])/\aD W w':=by
 have K:=g.d0;have ck:=hE.c8;have z:=aF g;have C:=aF hE;unfold eV;obtain⟨D,L,N,k,j⟩:=g.els b q o;obtain⟨O,P,rfl⟩:=bD j.kids;have Q:=j.c3;have m:(q.kids.length:Int)<=1000000:=aa;have n:=λw=>jK ⟨e.toArray⟩ (by rw[iE];have:=lV i;omega) w;have l:iQ (⟨e.toArray⟩:aO).data.toList=true:=by simpa using i
 rw[l] at n;have F:=xk g b d h v aa;have H:(10:Int)<=(d:Int):=aa;go_enter func141,ntmps141;go_upto_region 9 with(first|(at_lookup;refine dJ _ rfl _ _ 138 rfl underlying3 underlying138 (dA _) rfl g.map b rfl h D k ?_)|(go_at_call 177;refine(n _).mono ?_;rintro r R ⟨rfl,rfl⟩)|(go_at_call 203;refine F.mono ?_;rintro r S ⟨rfl,f⟩;have I:=Cq (z.out.below f);have ck1:=(C.out.below f az).c8)|(go_at_call 204;refine I.mono ?_;rintro r T ⟨rfl,rfl⟩));go_region;go_wp2_with fail
 go_ret2
 exact⟨rfl,f.os,f.tape,f.output,f.size,f.block⟩
theorem a3c (hE:DE E W)(g:dm B s W DB A p M nx c)(b a:Int)(e:Bs)(h:eH b)(q:ig)(o:M b=some q)(t:q.kids.length<=1000000)(K:¬a<0)(u:¬(q.kids.length:Int)<a)(i:iQ e=true)(d:Nat)(v:Up M b d)(x:d<=1000000)(y:d<10)(hc:100<=c):
  aL 141 #[aK DB,ag b,ag a,au ⟨e.toArray⟩] W λr w'=>r=ay (aH #[ag 0,eV (E 7)])/\aD W w':=by
 have L:=g.d0;have ck:=hE.c7;have z:=aF g;have C:=aF hE;unfold eV;obtain⟨D,N,O,k,j⟩:=g.els b q o;obtain⟨P,Q,rfl⟩:=bD j.kids;have R:=j.c3;have m:(q.kids.length:Int)<=1000000:=aa;have n:=λw=>jK ⟨e.toArray⟩ (by rw[iE];have:=lV i;omega) w;have l:iQ (⟨e.toArray⟩:aO).data.toList=true:=by simpa using i
 rw[l] at n;have F:=xk g b d h v aa;have H:¬(10:Int)<=(d:Int):=aa;have I:(100:Int)<=(c:Int):=aa;go_enter func141,ntmps141;go_upto_region 11 with(first|(at_lookup;refine dJ _ rfl _ _ 138 rfl underlying3 underlying138 (dA _) rfl g.map b rfl h D k ?_)|(go_at_call 177;refine(n _).mono ?_;rintro r S ⟨rfl,rfl⟩)|(go_at_call 203;refine F.mono ?_;rintro r T ⟨rfl,f⟩;have J:=Cq (z.out.below f);have ck1:=(C.out.below f az).c7)|(go_at_call 204;refine J.mono ?_;rintro r U ⟨rfl,rfl⟩));go_region;go_wp2_with fail
 go_ret2
 exact⟨rfl,f.os,f.tape,f.output,f.size,f.block⟩
theorem Zu (hE:DE E W)(a:dm B s W DB A p M nx c)(n:Int)(b:eH n)(e:M n=none):
  aL 142 #[aK DB,ag n] W λr w'=>r=ay (eV (E 5))/\w'=W:=by
 have d:=a.non n e;have f:=a.d0;have g:=hE.c5;unfold eV;go_enter func142,ntmps142;go_wp2_with(at_lookup;refine kG _ rfl _ _ 138 rfl underlying3 underlying138 (dA _) rfl a.map n rfl b d ?_);go_ret;exact⟨rfl,rfl⟩

import Derived.Stop.Asserts
import Derived.RowKitTokens
import Derived.Test.YtbkjmamcnflncaaGreatDoorQs18
namespace Go.Proofs.YtbkjmamcnflncaaGreatDoor
open Go.Proofs.Tryz
set_option maxHeartbeats 4000000
variable{s:dm}{A:Nat}
section
open Go.RowKit Go.Extern.Stop Go.Stop Go.Extern
abbrev Me:au:=.pointer (some ⟨25,69,none⟩)
abbrev hP:au:=.pointer (some ⟨25,67,none⟩)
abbrev hE:au:=.pointer (some ⟨25,25,none⟩)
abbrev hS:au:=.pointer (some ⟨25,453,none⟩)
theorem Ku (t:Addr)(w:ah):(ReflectliteValue.unpack (aP 69 (.pointer (some t)))).run prog w
  = .ok (.agg #[Me,aI w.heap.size,.int .u64 150]) (w.alloc (ai #[.pointer (some t)] 69)):=az
theorem a2c (a:Addr)(w:ah):(ReflectliteValue.methodAny (ReflectliteValue.valueError "reflectlite.Value.Type" 0) (λt _ _ _=>ReflectliteType.toType t) #[.agg #[Me,.pointer (some a),.int .u64 150]]).run prog w
  = .ok (aP 208 (.agg #[Me])) w:=az
theorem a2d (w:ah):((ReflectliteType.abiMethod λt=>(λa:Nat=>Value.int IntKind.u8 (a:Int))<$>Rtype.kind t) #[Me]).run prog w=.ok (.int .u8 22) w:=az
theorem a9l (w:ah):((ReflectliteType.abiMethod λt=>(λa:Nat=>Value.int IntKind.u8 (a:Int))<$>Rtype.kind t) #[hP]).run prog w=.ok (.int .u8 22) w:=az
theorem Wz (a:Addr)(w:ah):(ReflectliteValue.parts (.agg #[Me,.pointer (some a),.int .u64 150])).run prog w=.ok (some (69,a,150)) w:=az
theorem WC (a p:Addr)(W:ah)(b:W.cell? a=some (.pointer (some p))):
  (ReflectliteValue.method (ReflectliteValue.valueError "reflectlite.Value.IsNil" 0) ReflectliteValue.isNil #[.agg #[Me,.pointer (some a),.int .u64 150]]).run prog W=.ok (.bool false) W:=by
 obtain⟨k,c,d⟩:∃k,ReflectliteValue.method (ReflectliteValue.valueError "reflectlite.Value.IsNil" 0) ReflectliteValue.isNil #[.agg #[Me,.pointer (some a),.int .u64 150]]=(ReflectliteValue.parts (.agg #[Me,.pointer (some a),.int .u64 150])>>=k)/\(k (some (69,a,150))).run prog W=.ok (.bool false) W:=
  ⟨_,rfl,by simp[ReflectliteValue.isNil,loadVar,isAgg,underlying,underlying69,b,Result.andThen]⟩
 rw[c];simp only[Sem.run_bind,Wz,Result.andThen];exact d
theorem WE (w:ah):(ReflectliteType.method ReflectliteType.elem #[.agg #[Me]]).run prog w=.ok (aP 208 (.agg #[hP])) w:=az
theorem Dn (w:ah):(ReflectliteType.relation "Implements" ReflectliteType.implements_ #[.agg #[hP],aP 208 (.agg #[hE])]).run prog w=.ok (.bool true) w:=az
theorem a6E (v:au)(w:ah):(ReflectliteType.typeOf #[aP 67 v]).run prog w=.ok (aP 208 (.agg #[hP])) w:=az
theorem Af (v:au)(w:ah):(ReflectliteType.typeOf #[aP 453 v]).run prog w=.ok (aP 208 (.agg #[hS])) w:=az
theorem Qc (w:ah):(ReflectliteType.relation "AssignableTo" ReflectliteType.assignableTo #[.agg #[hP],aP 208 (.agg #[hP])]).run prog w=.ok (.bool true) w:=az
theorem Qd (w:ah):(ReflectliteType.relation "AssignableTo" ReflectliteType.assignableTo #[.agg #[hS],aP 208 (.agg #[hP])]).run prog w=.ok (.bool false) w:=az
theorem a2e (e:Addr)(w:ah):(ReflectliteValue.unpack (aP 67 (.pointer (some e)))).run prog w
  = .ok (.agg #[hP,aI w.heap.size,.int .u64 150]) (w.alloc (ai #[.pointer (some e)] 67)):=az
theorem a2f (w:ah):(Rtype.elem? 69).run prog w=.ok (some 67) w:=az
theorem mkP (p:Addr)(w:ah):(ReflectliteValue.mk 67 p ReflectliteValue.flagAddr).run prog w=.ok (.agg #[hP,.pointer (some p),.int .u64 406]) w:=az
theorem a6F (a p:Addr)(W:ah)(b:W.cell? a=some (.pointer (some p))):
  (ReflectliteValue.method (ReflectliteValue.valueError "reflectlite.Value.Elem" 0) ReflectliteValue.elem #[.agg #[Me,.pointer (some a),.int .u64 150]]).run prog W
   = .ok (.agg #[hP,.pointer (some p),.int .u64 406]) W:=by
 obtain⟨k,c,d⟩:∃k,ReflectliteValue.method (ReflectliteValue.valueError "reflectlite.Value.Elem" 0) ReflectliteValue.elem #[.agg #[Me,.pointer (some a),.int .u64 150]]=(ReflectliteValue.parts (.agg #[Me,.pointer (some a),.int .u64 150])>>=k)/\(k (some (69,a,150))).run prog W=.ok (.agg #[hP,.pointer (some p),.int .u64 406]) W:=
  ⟨_,rfl,by simp[ReflectliteValue.elem,loadVar,isAgg,underlying,underlying69,b,Result.andThen,a2f,mkP]⟩
 rw[c];simp only[Sem.run_bind,Wz,Result.andThen];exact d
theorem Gx (h:au)(w:ah):(Go.method 591 208 (.agg #[h]) "Kind").run prog w=.ok (382,h) w:=az
theorem Gy (h:au)(w:ah):(Go.method 591 208 (.agg #[h]) "Elem").run prog w=.ok (396,.agg #[h]) w:=az
theorem sw (h:au)(w:ah):(Go.method 591 208 (.agg #[h]) "Implements").run prog w=.ok (397,.agg #[h]) w:=az
theorem qH (h:au)(w:ah):(Go.method 591 208 (.agg #[h]) "AssignableTo").run prog w=.ok (394,.agg #[h]) w:=az
theorem a6G (a:Addr)(w:ah):(ReflectliteValue.parts (.agg #[hP,.pointer (some a),.int .u64 406])).run prog w=.ok (some (67,a,406)) w:=az
theorem aaX (a:Addr)(w:ah):(ReflectliteValue.parts (.agg #[hP,.pointer (some a),.int .u64 150])).run prog w=.ok (some (67,a,150)) w:=az
theorem a6H (w:ah):(Rtype.directlyAssignable 67 67).run prog w=.ok true w:=az
theorem ajG (a b e:Addr)(c:au)(W:ah)(d:W.cell? b=some (.pointer (some e)))(f:W.cell? a=some c)(g:W.frozen? a=false):
  (ReflectliteValue.set #[.agg #[hP,.pointer (some a),.int .u64 406],.agg #[hP,.pointer (some b),.int .u64 150]]).run prog W
   = .ok (aF #[]) (W.setCell a (.pointer (some e))):=by
 obtain⟨k,h,i⟩:∃k:Option (TypeId×Addr×Nat)->Option (TypeId×Addr×Nat)->Sem au,ReflectliteValue.set #[.agg #[hP,.pointer (some a),.int .u64 406],.agg #[hP,.pointer (some b),.int .u64 150]]=(ReflectliteValue.parts (.agg #[hP,.pointer (some a),.int .u64 406])>>=λp=>ReflectliteValue.parts (.agg #[hP,.pointer (some b),.int .u64 150])>>=λq=>k p q)/\(k (some (67,a,406)) (some (67,b,150))).run prog W=.ok (aF #[]) (W.setCell a (.pointer (some e))):=by
  refine⟨_,rfl,?_⟩;simp[ReflectliteValue.flagAddr,loadVar,isAgg,underlying,underlying67,d,Result.andThen,a6H,storeVar,Value.cells,storeCells,Addr.add];rw[run_store prog W a _ _ (by rfl)];simp[f,g]
 rw[h];simp only[Sem.run_bind,a6G,aaX,Result.andThen];exact i
theorem afl (v:au)(a:TypeId)(w:ah):(Instr.typeAssert (aP 453 v) a 212 true).run prog w=.ok (aF #[aU,.bool false]) w:=run_typeAssert_lacksB underlying212 az az v a w
theorem BI (v:au)(a:TypeId)(w:ah):(Instr.typeAssert (aP 453 v) a 215 true).run prog w=.ok (aF #[aU,.bool false]) w:=run_typeAssert_lacksB underlying215 az az v a w
theorem yP (v:au)(a:TypeId)(w:ah):(Instr.typeAssert (aP 453 v) a 217 true).run prog w=.ok (aF #[aU,.bool false]) w:=run_typeAssert_lacksB underlying217 az az v a w
theorem lt_of_cell {w:ah}{a:Addr}{v:au}(h:w.cell? a=some v):a.block<w.heap.size:=by
 rcases Nat.lt_or_ge a.block w.heap.size with b|b
 .exact b
 .simp[World.cell?,qd b] at h
abbrev vPP (n:Nat):Array au:=#[Me,aI n,.int .u64 150]
theorem MC (e t:Addr)(w:ah)(c:w.cell? (aH 11 0)=some (aP 208 (.agg #[hE]))):
  aJ 34 #[aP 453 (.pointer (some e)),aP 69 (.pointer (some t))] w λd w'=>d=ax (.bool false)/\aD w w':=by
 have r:=@run_callFunc_extern prog 61 _ (λa=>ReflectliteValue.unpack (a.getD 0 (aF #[]))) func61 az az az az;have s:=@run_callFunc_extern prog 62 _ (ReflectliteValue.methodAny (ReflectliteValue.valueError "reflectlite.Value.Type" 0) (λt _ _ _=>ReflectliteType.toType t)) func62 az az az az;have u:=@run_callFunc_extern prog 63 _ (ReflectliteValue.method (ReflectliteValue.valueError "reflectlite.Value.IsNil" 0) ReflectliteValue.isNil) func63 az az az az;have f:=@run_callFunc_extern prog 382 _ (ReflectliteType.abiMethod λt=>do pure (.int .u8 (<- Rtype.kind t))) func382 az az az az;have g:=@run_callFunc_extern prog 396 _ (ReflectliteType.method ReflectliteType.elem) func396 az az az az;have h:=@run_callFunc_extern prog 397 _ (ReflectliteType.relation "Implements" ReflectliteType.implements_) func397 az az az az;have i:=@run_callFunc_extern prog 65 _ ReflectliteType.typeOf func65 az az az az;have j:=@run_callFunc_extern prog 394 _ (ReflectliteType.relation "AssignableTo" ReflectliteType.assignableTo) func394 az az az az;have v:=Af;have mA:=qH;have k:=Qd;have x:=Ku;have y:=a2c;have z:=Gx;have A:=Gy;have B:=sw;have l:=a2d;have m:=a9l;have n:=WE;have o:=Dn;have C:=afl;have D:=BI;have p:=yP;have E:=WC ⟨w.heap.size,0,none⟩ t ((w.alloc (ai #[.pointer (some t)] 69)).alloc (ai (vPP w.heap.size) 127)) aG;have b:=lt_of_cell c;have q:((w.alloc (ai #[.pointer (some t)] 69)).alloc (ai (vPP w.heap.size) 127)).cell? (aH 11 0)=some (aP 208 (.agg #[hE])):=by
  rw[qh _ _ ⟨11,0,none⟩ (by simp at b⊢;omega),qh _ _ ⟨11,0,none⟩ b];exact c
 simp only[Me,hP,hE,hS,vPP] at*;go_enter func34,ntmps34;go_wp2;refine wp_loop_rounds 1 ?_;rw[rounds_succ];go_wp2;go_ret;exact⟨rfl,((((aQ _ _).alloc ay _).alloc aG _).alloc aX _)⟩
theorem a2g (e t:Addr)(a:au)(w:ah)(h:w.cell? (aH 11 0)=some (aP 208 (.agg #[hE])))(b:w.cell? t=some a)(g:w.frozen? t=false):
  aJ 34 #[aP 67 (.pointer (some e)),aP 69 (.pointer (some t))] w λj w'=>j=ax (.bool true)/\∃i,aD w i/\w'=i.setCell t (.pointer (some e)):=by
 have A:=@run_callFunc_extern prog 61 _ (λc=>ReflectliteValue.unpack (c.getD 0 (aF #[]))) func61 az az az az;have B:=@run_callFunc_extern prog 62 _ (ReflectliteValue.methodAny (ReflectliteValue.valueError "reflectlite.Value.Type" 0) (λt _ _ _=>ReflectliteType.toType t)) func62 az az az az;have C:=@run_callFunc_extern prog 63 _ (ReflectliteValue.method (ReflectliteValue.valueError "reflectlite.Value.IsNil" 0) ReflectliteValue.isNil) func63 az az az az;have k:=@run_callFunc_extern prog 382 _ (ReflectliteType.abiMethod λt=>do pure (.int .u8 (<- Rtype.kind t))) func382 az az az az;have l:=@run_callFunc_extern prog 396 _ (ReflectliteType.method ReflectliteType.elem) func396 az az az az;have m:=@run_callFunc_extern prog 397 _ (ReflectliteType.relation "Implements" ReflectliteType.implements_) func397 az az az az;have n:=@run_callFunc_extern prog 65 _ ReflectliteType.typeOf func65 az az az az;have o:=@run_callFunc_extern prog 394 _ (ReflectliteType.relation "AssignableTo" ReflectliteType.assignableTo) func394 az az az az;have p:=@run_callFunc_extern prog 115 _ (ReflectliteValue.method (ReflectliteValue.valueError "reflectlite.Value.Elem" 0) ReflectliteValue.elem) func115 az az az az;have q:=@run_callFunc_extern prog 116 _ ReflectliteValue.set func116 az az az az;have D:=a6E;have mA:=qH;have r:=Qc;have s:=a2e;have E:=Ku;have F:=a2c;have H:=Gx;have I:=Gy;have J:=sw;have u:=a2d;have v:=a9l;have x:=WE;have y:=Dn;have K:=WC ⟨w.heap.size,0,none⟩ t ((w.alloc (ai #[.pointer (some t)] 69)).alloc (ai (vPP w.heap.size) 127)) aG;have d:=lt_of_cell h;have f:=lt_of_cell b;have z:((w.alloc (ai #[.pointer (some t)] 69)).alloc (ai (vPP w.heap.size) 127)).cell? (aH 11 0)=some (aP 208 (.agg #[hE])):=by
  rw[qh _ _ ⟨11,0,none⟩ (by simp at d⊢;omega),qh _ _ ⟨11,0,none⟩ d];exact h
 have el:=a6F ⟨w.heap.size,0,none⟩ t (((w.alloc (ai #[.pointer (some t)] 69)).alloc (ai (vPP w.heap.size) 127)).alloc (ai (vPP w.heap.size) 127)) (by rw[qh _ _ ⟨w.heap.size,0,none⟩ aX];simp);have st:=ajG t ⟨w.heap.size+1+1+1,0,none⟩ e a ((((w.alloc (ai #[.pointer (some t)] 69)).alloc (ai (vPP w.heap.size) 127)).alloc (ai (vPP w.heap.size) 127)).alloc (ai #[.pointer (some e)] 67))
  (by rw[World.cell?_alloc_at _ _ _ _ aG];rfl)
  (by rw[qh _ _ t aX,qh _ _ t aX,qh _ _ t aX,qh _ _ t f];exact b)
  (by rw[World.frozen?_alloc_old _ _ t aX,World.frozen?_alloc_old _ _ t aX,World.frozen?_alloc_old _ _ t aX,World.frozen?_alloc_old _ _ t (Nat.ne_of_lt f)];exact g)
 simp only[Me,hP,hE,vPP] at*;go_enter func34,ntmps34;go_wp2;refine wp_loop_rounds 1 ?_;rw[rounds_succ];go_wp2;go_ret;exact⟨rfl,_,((((aQ _ _).alloc ay _).alloc aG _).alloc aX _).alloc aX _,rfl⟩
abbrev eV (a:Addr):au:=aP 453 (.pointer (some a))
def Qe:Array au->Sem au:=Extern.ReflectliteType.method λt=>do Rtype.noPackHeld "Comparable" t;pure (.bool (<- typeInfo t).comparable)
theorem pg (w:ah):(Qe #[.agg #[hS]]).run prog w=.ok (.bool true) w:=az
theorem kK (v:au)(w:ah):(Go.method 591 208 v "Comparable").run prog w=.ok (395,v) w:=az
theorem MF:(prog.info? 453).map (·.comparable)=some true:=az
theorem MG:(prog.info? 455).map (·.size)=some 1:=az
theorem a9m (v:au)(a:TypeId)(w:ah):(Instr.typeAssert (aP 453 v) a 219 true).run prog w=.ok (aF #[aU,.bool false]) w:=run_typeAssert_lacksB underlying219 az az v a w
theorem a9n (v:au)(a:TypeId)(w:ah):(Instr.typeAssert (aP 67 v) a 219 true).run prog w=.ok (aF #[aU,.bool false]) w:=run_typeAssert_lacksB underlying219 az az v a w
theorem Gz (v:au)(a:TypeId)(w:ah):(Instr.typeAssert (aP 67 v) a 215 true).run prog w=.ok (aF #[aP 67 v,.bool true]) w:=run_typeAssert_hasB underlying215 az v a w
theorem Ag (v:au)(w:ah):(Go.method 591 67 v "Unwrap").run prog w=.ok (386,v) w:=az
theorem WG (a:Addr)(w:ah):
  aJ 35 #[eV a,eV a] w λe w'=>e=ax (.bool true)/\w'=w:=by
 obtain⟨i,c,b⟩:=mM.1 MF;obtain⟨j,d,f⟩:=mM.1 MG;have k:=@run_callFunc_extern prog 65 _ Extern.ReflectliteType.typeOf func65 az az az az;have g:=@run_callFunc_extern prog 395 _ Qe func395 az az az az;have l:=Af;have m:=pg;have n:=kK;have h:=run_eql_iface_ptr_same (P:=prog) w a underlying25 underlying453 c b d;simp only[hS] at*;go_enter func35,ntmps35;go_wp2;refine wp_loop_rounds 1 ?_;rw[rounds_succ];go_wp2;go_ret;exact⟨rfl,rfl⟩
theorem Qf (a b:Addr)(h k:Array au)(l m:TypeId)(w:ah)(hne:a≠b)(f:w.heap[a.block]? =some (ai h l (0,0)))(g:w.heap[b.block]? =some (ai k m (0,0))):
  aJ 35 #[eV a,eV b] w λe w'=>e=ax (.bool false)/\w'=w:=by
 obtain⟨i,n,c⟩:=mM.1 MF;obtain⟨j,o,d⟩:=mM.1 MG;have r:=@run_callFunc_extern prog 65 _ Extern.ReflectliteType.typeOf func65 az az az az;have p:=@run_callFunc_extern prog 395 _ Qe func395 az az az az;have s:=Af;have t:=pg;have u:=kK;have v:=a9m;have x:=BI;have y:=yP;have q:=run_eql_iface_ptr_other (P:=prog) w underlying25 underlying453 n c o (by rw[d];decide) hne f g;simp only[hS] at*;clear f g hne;go_enter func35,ntmps35;go_wp2;refine wp_loop_rounds 1 ?_;rw[rounds_succ];go_wp2;go_ret;exact⟨rfl,rfl⟩
theorem Jm (c d:Nat)(b:Addr)(w:ah)(n:w.cell? (aH c (d+1))=some (eV b)):
  aJ 35 #[aP 67 (.pointer (some ⟨c,d,none⟩)),eV b] w λe w'=>e=ax (.bool true)/\w'=w:=by
 obtain⟨i,f,a⟩:=mM.1 MF;obtain⟨j,g,h⟩:=mM.1 MG;have o:=@run_callFunc_extern prog 65 _ Extern.ReflectliteType.typeOf func65 az az az az;have k:=@run_callFunc_extern prog 395 _ Qe func395 az az az az;have p:=Af;have q:=pg;have r:=kK;have s:=a9n;have t:=Gz;have u:=Ag;have l:=run_eql_iface_ptr_same (P:=prog) w b underlying25 underlying453 f a g;have m:=run_eql_iface_types (P:=prog) 67 453 (.pointer (some ⟨c,d,none⟩)) (.pointer (some b)) underlying25 aC w;simp only[hS] at*;go_enter func35,ntmps35;go_wp2;refine wp_loop_rounds 2 ?_;rw[rounds_succ];go_wp2;rw[rounds_succ];go_wp2;go_ret;exact⟨rfl,rfl⟩
theorem GA (d f:Nat)(b a:Addr)(l m:Array au)(n o:TypeId)(w:ah)(u:w.cell? (aH d (f+1))=some (eV a))(hne:a≠b)(h:w.heap[a.block]? =some (ai l n (0,0)))(k:w.heap[b.block]? =some (ai m o (0,0))):
  aJ 35 #[aP 67 (.pointer (some ⟨d,f,none⟩)),eV b] w λe w'=>e=ax (.bool false)/\w'=w:=by
 obtain⟨i,p,c⟩:=mM.1 MF;obtain⟨j,q,g⟩:=mM.1 MG;have v:=@run_callFunc_extern prog 65 _ Extern.ReflectliteType.typeOf func65 az az az az;have r:=@run_callFunc_extern prog 395 _ Qe func395 az az az az;have x:=Af;have y:=pg;have z:=kK;have A:=a9m;have B:=BI;have C:=yP;have D:=a9n;have E:=Gz;have F:=Ag;have s:=run_eql_iface_ptr_other (P:=prog) w underlying25 underlying453 p c q (by rw[g];decide) hne h k;have t:=run_eql_iface_types (P:=prog) 67 453 (.pointer (some ⟨d,f,none⟩)) (.pointer (some b)) underlying25 aC w;simp only[hS] at*;clear h k hne;go_enter func35,ntmps35;go_wp2;refine wp_loop_rounds 2 ?_;rw[rounds_succ];go_wp2;rw[rounds_succ];go_wp2;go_ret;exact⟨rfl,rfl⟩
end
section
open Go.RowKit
structure EE (E:Nat->Addr)(w:ah):Prop where
 c1:w.cell? (aH 1 0)=some (aP 453 (.pointer (some (E 1))))
 c2:w.cell? (aH 0 0)=some (aP 453 (.pointer (some (E 2))))
 c3:w.cell? (aH 2 0)=some (aP 453 (.pointer (some (E 3))))
 c4:w.cell? (aH 3 0)=some (aP 453 (.pointer (some (E 4))))
 c5:w.cell? (aH 4 0)=some (aP 453 (.pointer (some (E 5))))
 c6:w.cell? (aH 5 0)=some (aP 453 (.pointer (some (E 6))))
 c7:w.cell? (aH 6 0)=some (aP 453 (.pointer (some (E 7))))
 c8:w.cell? (aH 7 0)=some (aP 453 (.pointer (some (E 8))))
 c9:w.cell? (aH 8 0)=some (aP 453 (.pointer (some (E 9))))
 c10:w.cell? (aH 9 0)=some (aP 453 (.pointer (some (E 10))))
 c11:w.cell? (aH 10 0)=some (aP 453 (.pointer (some (E 11))))
 et:w.cell? (aH 11 0)=some (aP 208 (.agg #[hE]))
 blk:∀k,1<=k->k<=11->∃c t,w.heap[(E k).block]? =some (ai c t (0,0))
 ne:∀j k,1<=j->j<=11->1<=k->k<=11->j≠k->E j≠E k
theorem EE.below {E:Nat->Addr}{w w':ah}{B:Nat}(h:EE E w)(a:Below B w w')(b:w.heap.size<=B):EE E w' where
 c1:=(a.cell (dP (lt_of_cell h.c1) b)).trans h.c1
 c2:=(a.cell (dP (lt_of_cell h.c2) b)).trans h.c2
 c3:=(a.cell (dP (lt_of_cell h.c3) b)).trans h.c3
 c4:=(a.cell (dP (lt_of_cell h.c4) b)).trans h.c4
 c5:=(a.cell (dP (lt_of_cell h.c5) b)).trans h.c5
 c6:=(a.cell (dP (lt_of_cell h.c6) b)).trans h.c6
 c7:=(a.cell (dP (lt_of_cell h.c7) b)).trans h.c7
 c8:=(a.cell (dP (lt_of_cell h.c8) b)).trans h.c8
 c9:=(a.cell (dP (lt_of_cell h.c9) b)).trans h.c9
 c10:=(a.cell (dP (lt_of_cell h.c10) b)).trans h.c10
 c11:=(a.cell (dP (lt_of_cell h.c11) b)).trans h.c11
 et:=(a.cell (dP (lt_of_cell h.et) b)).trans h.et
 blk:=λk d e=>by
  obtain⟨c,t,f⟩:=h.blk k d e;have g:(E k).block<w.heap.size:=by grind
  exact⟨c,t,(a.block _ (dP g b)).trans f⟩
 ne:=h.ne
theorem EE.alloc {E:Nat->Addr}{w:ah}(h:EE E w)(o:Obj):EE E (w.alloc o):=h.below ((aQ w.heap.size w).alloc ay o) ay
theorem a9o {E:Nat->Addr}{w:ah}(h:EE E w)(j k:Nat)(b:1<=j)(d:j<=11)(f:1<=k)(g:k<=11):
  aJ 35 #[eV (E k),eV (E j)] w λe w'=>e=ax (.bool (decide (k=j)))/\w'=w:=by
 by_cases e:k=j
 .subst e;simp only[decide_true];exact WG _ _
 .obtain⟨c,t,i⟩:=h.blk k f g;obtain⟨l,m,a⟩:=h.blk j b d;simp only[e,decide_false];exact Qf _ _ _ _ _ _ _ (h.ne k j f g b d e) i a
abbrev Qg (E:Nat->Addr):Array au:=#[eV (E 1),eV (E 2),eV (E 3),eV (E 4),eV (E 5),eV (E 6),eV (E 7),eV (E 8),eV (E 9),eV (E 10),eV (E 11)]
theorem a2h (E:Nat->Addr)(w:ah)(t:TypeId)(i:Nat)(hi:i<11):(w.alloc (ai (Qg E) t)).cell? ⟨w.heap.size,i,none⟩=some (eV (E (i+1))):=by
 rcases i with _|_|_|_|_|_|_|_|_|_|_|i
 all_goals first|omega|simp[Qg]
theorem a6I {E:Nat->Addr}(k:Nat)(m:1<=k)(A:k<=11)(w:ah)(h:EE E w):
  aJ 16 #[eV (E k)] w λe w'=>e=ax (aF #[ag k,ag (-1)])/\aD w w':=by
 go_enter func16,ntmps16;go_wp2_with(go_at_call 34;refine(MC _ _ _ (h.alloc _).et).mono ?_;rintro e f ⟨rfl,d⟩;have g:=(h.alloc _).below d ay;obtain⟨n,o,p,q,d5,r,s,t,u,j,l,_,_,_⟩:=id g);have a:=a2h E f 25;have b:=g.alloc (ai (Qg E) 25);have c:aD w (f.alloc (ai (Qg E) 25)):=(((aQ _ _).alloc ay _).trans (d.mono aG)).alloc (by have:=d.size;simp at this;omega) _;clear d g n o p q d5 r s t u j l;simp only[Qg,eV] at a b c⊢;generalize (f.alloc (ai #[aP 453 (.pointer (some (E 1))),aP 453 (.pointer (some (E 2))),aP 453 (.pointer (some (E 3))),aP 453 (.pointer (some (E 4))),aP 453 (.pointer (some (E 5))),aP 453 (.pointer (some (E 6))),aP 453 (.pointer (some (E 7))),aP 453 (.pointer (some (E 8))),aP 453 (.pointer (some (E 9))),aP 453 (.pointer (some (E 10))),aP 453 (.pointer (some (E 11)))] 25))=B at a b c⊢
 go_loop [3,29] (λy x=>y=ag (-1)/\∃i:Nat,i<k/\x=ag i) (λ_ x=>11-(intOf x).toNat)
 case atStart=>exact⟨rfl,0,m,rfl⟩
 case round=>
  obtain⟨rfl,i,C,rfl⟩:=hrel;have v:(i:Int)<11:=aa;have D:=a i aa;by_cases e:k=i+1
  .subst e;go_wp2_with(go_at_call 35;refine(a9o b (i+1) (i+1) aa aa aa aa).mono ?_;rintro e w' ⟨rfl,rfl⟩)
   go_ret2
   exact⟨aG,c⟩
  .have z:decide (k=i+1)=false:=by simpa using e
   go_wp2_with(go_at_call 35;refine(a9o b (i+1) k aa aa aa aa).mono ?_;rw[z];rintro e w' ⟨rfl,rfl⟩)
   go_round
   case rel=>exact⟨rfl,i+1,aa,by go_num⟩
   case measure=>simp[intOf];omega
structure DE (E:Nat->Addr)(w:ah):Prop where
 c2:w.cell? (aH 0 0)=some (aP 453 (.pointer (some (E 2))))
 c3:w.cell? (aH 2 0)=some (aP 453 (.pointer (some (E 3))))
 c4:w.cell? (aH 3 0)=some (aP 453 (.pointer (some (E 4))))
 c5:w.cell? (aH 4 0)=some (aP 453 (.pointer (some (E 5))))
 c6:w.cell? (aH 5 0)=some (aP 453 (.pointer (some (E 6))))
 c7:w.cell? (aH 6 0)=some (aP 453 (.pointer (some (E 7))))
 c8:w.cell? (aH 7 0)=some (aP 453 (.pointer (some (E 8))))
 c9:w.cell? (aH 8 0)=some (aP 453 (.pointer (some (E 9))))
 c10:w.cell? (aH 9 0)=some (aP 453 (.pointer (some (E 10))))
theorem DE.below {E:Nat->Addr}{w w':ah}{B:Nat}(h:DE E w)(a:Below B w w')(b:w.heap.size<=B):DE E w' where
 c2:=(a.cell (dP (aK h.c2) b)).trans h.c2
 c3:=(a.cell (dP (aK h.c3) b)).trans h.c3
 c4:=(a.cell (dP (aK h.c4) b)).trans h.c4
 c5:=(a.cell (dP (aK h.c5) b)).trans h.c5
 c6:=(a.cell (dP (aK h.c6) b)).trans h.c6
 c7:=(a.cell (dP (aK h.c7) b)).trans h.c7
 c8:=(a.cell (dP (aK h.c8) b)).trans h.c8
 c9:=(a.cell (dP (aK h.c9) b)).trans h.c9
 c10:=(a.cell (dP (aK h.c10) b)).trans h.c10
set_option maxRecDepth 20000
theorem a2i (M:Dm):su M []=M:=by funext i;simp[su]
theorem Qh {E:Nat->Addr}{B:Nat}{W:ah}{DB:Nat}{p:Int->Option Nat}{M:Dm}{nx c:Nat}(hE:DE E W)(a:bT B s W DB A p M nx c)(e:gP)(d:M 0=some e):
  aJ 142 #[aI DB,ag 0] W λr w'=>r=ax (eV (E 3))/\w'=W:=by
 obtain⟨f,g,h,b,i⟩:=a.els 0 e d;have j:=a.d0;have k:=hE.c3;unfold eV;go_enter func142,ntmps142;go_wp2_with(at_lookup;refine dA _ rfl _ _ 138 rfl underlying3 underlying138 (cO _) rfl a.map 0 rfl aC f b ?_);go_ret;exact⟨rfl,rfl⟩
theorem Ua {B:Nat}{W:ah}{DB:Nat}{p:Int->Option Nat}{M:Dm}{nx c:Nat}(z:bT B s W DB A p M nx c)(n:Int)(e q:gP)(V:M n=some e)(X:n≠0)(hq:M e.parent=some q)(hk:q.kids≠[])(f:Nat)(hf:f<=900000)(L:List Int)
  (hp:Dp (dY M e.parent ⟨q.name,q.ats,q.parent,woL q.kids n⟩) f n) (S:dM (dY M e.parent ⟨q.name,q.ats,q.parent,woL q.kids n⟩) f n=L) (m:∀k∈L,dY M e.parent ⟨q.name,q.ats,q.parent,woL q.kids n⟩ k≠none) (C:L.Nodup) (Y:L.length<=1000000):
  aJ 142 #[aI DB,ag n] W λr w'=>r=ax aU/\KT s W w'/\∃mG o,(∀x,x<W.heap.size->mG x=s x)/\bT B mG w' DB A o (su (dY M e.parent ⟨q.name,q.ats,q.parent,woL q.kids n⟩) L) nx (c-L.length):=by
 obtain⟨EB,va,vk,Z,he⟩:=z.els n e V;have D:=z.i64 V;have d0:=z.d0;have TO:=Dl z n e q V hq hk;have YJ:(n==0)=false:=by rw[dL];exact X
 obtain⟨h,E⟩:∃h,dY M e.parent ⟨q.name,q.ats,q.parent,woL q.kids n⟩=h:=⟨_,rfl⟩;rw[E] at TO hp S m⊢;clear E;go_enter func142,ntmps142;go_upto_region 7 with(first|(at_lookup;refine dA _ rfl _ _ 138 rfl underlying3 underlying138 (cO _) rfl z.map n rfl D EB Z ?_)|(go_at_call 206;refine TO.mono ?_;rintro r w1 ⟨rfl,F,v,H,T⟩));have FR:=qD T f n hf hp D (by rw[S];exact Y);rw[S] at FR;have a4:=aA m;have a5:Hid L.Nodup:=C;have t:Hid (KT s W w1/\∀x,x<W.heap.size->v x=s x):=⟨F,H⟩;clear m C TO hp S;go_wp2_with(go_at_call 164;refine FR.mono ?_;rintro r w2 ⟨o2,k2,rfl,b2,U⟩);have d2:=T.below b2;have a6:=aA d2;have lM:A<w1.heap.size:=T.map.lt;have a7:=aA b2;clear T d2 b2 FR d0 F H
 go_loopw [33] (λy wr=>∃(i:Nat) (o:Int->Option Nat),i<=L.length/\y=ag i/\w2.grownBy wr (some A)/\bT B v wr DB A o (su h (L.take i)) nx (c-i)) (λy _=>L.length-(intOf y).toNat)
 case atStart=>exact⟨0,p,bf _,rfl,⟨rfl,rfl,rfl,Nat.le_refl _,λ_ _ _=>rfl⟩,by rw[List.take_zero,a2i];exact a6.out⟩
 case round=>
  obtain⟨i,o,hi,rfl,u,d⟩:=hrel;by_cases I:i<L.length
  .have b8:(i:Int)<(L.length:Int):=aa;obtain⟨k,J, -⟩:=drop_at I;obtain⟨g,l,hc⟩:=dO U i _ (pQ J);have a8:o2=some ⟨g,0,none⟩:=by
    obtain⟨o',b9,h1, -, -, -,h2⟩:=eT U;cases h1;exact h2 g l
   subst a8;have a9:g≠A:=by have:=(U.lt g l).1;omega
   have c0:=(qg (a:=⟨g,i,none⟩) (u.block g (U.lt g l).2 (λe1=>a9 (fF e1)))).trans hc;have K:k∈L:=gN J;have N:k ∉ L.take i:=λhm=>by
    have:=a5.out;rw[<- jJ i L] at this;exact(List.nodup_append.1 this).2.2 k hm k (by
     obtain⟨y,hy,b0⟩:=drop_at I;rw[J] at hy;cases hy;rw[b0];simp) rfl
   obtain⟨O,P⟩:∃O,su h (L.take i) k=some O:=by
    unfold su;rw[if_neg N];cases hm:h k with
    |none=>exact absurd hm (a4.out k K)
    |some O=>exact⟨O,rfl⟩
   obtain⟨kb,ka,kk,b1, -⟩:=d.els k O P;have b3:=d.i64 P;have d0:=d.d0;have Q:su h (L.take (i+1))=NL (su h (L.take i)) k:=by
    rw[dS,J];exact YH _ _ _
   have b4:=aA Q;clear Q J K N hc l;go_wp2_with(at_delete;refine Yg _ rfl _ _ 138 3 rfl underlying3 underlying138 rfl d.map k rfl b3 kb b1 ?_;intro w3 b5 R);have b6:Hid (bT B v w3 DB A (λj=>if j=k then none else o j) (su h (L.take (i+1))) nx (c-(i+1))):=(by rw[b4.out,Nat.sub_add_eq];exact d.cut b5 R:bT B v w3 DB A (λj=>if j=k then none else o j) (su h (L.take (i+1))) nx (c-(i+1)));have b7:w2.grownBy w3 (some A):=u.trans R.grown
   go_roundw
   case rel=>exact⟨i+1,_,aa,by go_num,b7,b6.out⟩
   case measure=>simp[intOf];omega
  .obtain rfl:i=L.length:=aa;have c1:¬(L.length:Int)<(L.length:Int):=aa;rw[gq] at d;go_wp2_with fail;go_ret;refine⟨rfl,?_,v,t.out.2,o,d⟩;have kt:=t.out.1;have w:=a7.out;refine kt.trans (mG:=v) ⟨u.os.trans w.os,u.tape.trans w.tape,u.output.trans w.output,bu w.size u.size,λb hb ht=>?_⟩ t.out.2;exact(u.block b (dP hb w.size) (λe1=>by have e2:=fF e1;rw[e2,d.mJ] at ht;cases ht)).trans (w.block b hb)
end
section
open Go.RowKit
def Qi:Array au->Nat->List au->Array au
 |a,_,[]=>a
 |a,o,v::r=>Qi (a.setIfInBounds o v) (o+1) r
theorem mh:∀(vs:List au) (a:Array au) (o:Nat),(Qi a o vs).size=a.size
 |[],_,_=>rfl
 |v::r,a,o=>by rw[Qi,mh r];simp
theorem sD:∀(vs:List au) (a:Array au) (o j:Nat),o+vs.length<=a.size->(Qi a o vs)[j]? =if o<=j/\j<o+vs.length then vs[j-o]? else a[j]?
 |[],a,o,j,_=>by rw[Qi,if_neg (by simp only[iO];omega)]
 |v::r,a,o,j,h=>by
  rw[eP] at h;rw[Qi,sD r _ _ _ aX];grind
theorem setCells_at:∀(vs:List au) (w:ah) (g o:Nat) (a:Array au) (t:TypeId),w.heap[g]? =some (ai a t)->(w.setCells g o vs).heap[g]? =some (ai (Qi a o vs) t)
 |[],_,_,_,_,_,h=>h
 |v::r,w,g,o,a,t,h=>by
  rw[World.setCells,Qi];exact setCells_at r _ g (o+1) _ t (heap_setCell_same w g o a t v h)
theorem uu:∀(vs:List au) (w:ah) (g o x:Nat),x≠g->(w.setCells g o vs).heap[x]? =w.heap[x]?
 |[],_,_,_,_,_=>rfl
 |v::r,w,g,o,x,h=>by
  rw[World.setCells,uu r _ g (o+1) x h];exact bY _ _ _ x h
theorem fT:∀(vs:List au) (w:ah) (g o:Nat),w.grownBy (w.setCells g o vs) (some g)
 |[],w,g,o=>⟨rfl,rfl,rfl,Nat.le_refl _,λ_ _ _=>rfl⟩
 |v::r,w,g,o=>by
  rw[World.setCells];have b:=fT r (w.setCell ⟨g,o,none⟩ v) g (o+1);have a:=(aQ g w).setCell (p:=⟨g,o,none⟩) ay v;have c:w.grownBy (w.setCell ⟨g,o,none⟩ v) (some g):=⟨a.os,a.tape,a.output,a.size,λx _ d=>bY _ _ _ x (λe=>d (by rw[e]))⟩;exact c.trans b
def iE (L:List Int)(i:Nat)(k:Int):List Int:=L.take i++k::L.drop i
theorem xq (L:List Int)(i:Nat)(k:Int)(h:i<=L.length):(iE L i k).length=L.length+1:=by
 unfold iE;simp;omega
theorem sF (L:List Int)(i j:Nat)(k:Int)(h:i<=L.length):(bO (iE L i k))[j]? =if j<i then(bO L)[j]? else if j=i then some (ag k) else(bO L)[j-1]? :=by
 unfold iE bO;grind
theorem a6J {a:Array au}{b:List au}{n:Nat}(c:b.length=n)(h:∀j,j<n->a[j]? =b[j]?):a.toList.take (n*1)=b:=by
 apply List.ext_getElem?;grind
theorem Ub {w w':ah}{r:Option Nat}{k:Nat}(h:(w.drewN k).grownBy w' r):w.grownBy w' r:=⟨h.os,h.tape,h.output,h.size,h.block⟩
theorem Ah {w:ah}{B g a n:Nat}{b:Array au}{c:List au}(e:B<=g)(f:w.heap[g]? =some (ai b 3))(d:c.length=n)(h:n<=a)(i:a<=maxLen)(k:b.size=a)(l:∀j,j<n->b[j]? =c[j]?):w.ownsRow B 3 1 (aj (some ⟨g,0,none⟩) n a) n c:=
 ⟨by rw[d,Nat.mul_one],.inr ⟨g,a,b,rfl,e,f,h,i,by rw[k,Nat.mul_one],a6J d l⟩⟩
theorem YK (w:ah)(o:Obj)(g i j:Nat)(a b:List au):w.heap.size<=((((w.alloc o).drew.setCells g i a).drew).setCells g j b).heap.size:=by
 have c:w.heap.size<=(w.alloc o).heap.size:=(dI w o).size;have d:(w.alloc o).heap.size<=((w.alloc o).drew.setCells g i a).heap.size:=(fT a ((w.alloc o).drew) g i).size;have e:((w.alloc o).drew.setCells g i a).heap.size<=((((w.alloc o).drew.setCells g i a).drew).setCells g j b).heap.size:=(fT b (((w.alloc o).drew.setCells g i a).drew) g j).size;omega
theorem nP (n:Nat):(Builtin.zeroCells (Value.int .i64 0).cells n).size=n:=by
 simp[Builtin.zeroCells,Value.cells]
theorem afm {B:Nat}{w:ah}{v:au}{L:List Int}{k:Int}{i n:Nat}(ho:w.ownsRow B 3 1 v L.length (bO L))(hi:i<=L.length)(hb:L.length<=1000000)(P:w.heap[n]? =some (ai #[ag k] 3))(hne:v.ownBlock≠some n)(hB:B<=w.heap.size):
  aJ 205 #[v,ag i,aj (some ⟨n,0,none⟩) 1 1] w λe w'=>∃o c,e=ax (aj o (L.length+1) c)/\w'.ownsRow B 3 1 (aj o (L.length+1) c) (L.length+1) (bO (iE L i k))/\w.grownBy w' v.ownBlock/\((Value.slice o (L.length+1) c).ownBlock=v.ownBlock\/∀g,(Value.slice o (L.length+1) c).ownBlock=some g->w.heap.size<=g):=by
 have f:(bO L).length=L.length:=pO L;have p:(bO (iE L i k)).length=L.length+1:=(pO _).trans (xq L i k hi);have q:∀j u,[Value.int .i64 k][j]? =some u->w.cell? (aH n (0+j))=some u:=λj u s=>by
  rw[fZ];exact aO P j u (by simpa using s)
 have t:∀u∈[Value.int .i64 k],u.oneCell'=true:=λu s=>by simp at s;rw[s];rfl
 have K:∀u∈bO L,u.oneCell'=true:=λu s=>by
  obtain⟨x, -,rfl⟩:=gu.1 s;rfl
 have l:∀(o:Option Addr) (c:Nat),(∀a,o=some a->∀j u,(bO L)[j]? =some u->w.cell? (a.add j)=some u)->(o=none->L.length=0)->L.length<=c->c<L.length+1->i=L.length->
   aJ 205 #[aj o L.length c,ag i,aj (some ⟨n,0,none⟩) 1 1] w λe w'=>∃A C,e=ax (aj A (L.length+1) C)/\w'.ownsRow B 3 1 (aj A (L.length+1) C) (L.length+1) (bO (iE L i k))/\(∀r,w.grownBy w' r)/\∀g,(Value.slice A (L.length+1) C).ownBlock=some g->w.heap.size<=g:=λo c hc hz Q z R=>by
  subst R;have H:=Any2.slices_Insert_int_end_grow Tryz.zZ o L.length c n 0 1 1 (bO L) [ag k] w aC Q aa aa f rfl hz hc q t;refine H.mono λe w' ⟨D,m⟩=>⟨_,_,D,?_,λr=>?_,λg hg=>by cases hg;exact Nat.le_refl _⟩
  .rw[m];have E:=grownCap_ge w (L.length+1) c (Tryz.uk.t 3);refine Ah hB (dN w.drew _ _) p E (grownCap_le_maxLen _ _ _ _ (by rw[dh];omega)) ?_ λj y=>?_
   .rw[Array.size_append,nP];grind
   .rw[Array.getElem?_append_left (by simp[f];omega),List.getElem?_toArray,sF L _ j k ay];grind
  .rw[m];exact⟨rfl,rfl,rfl,(dI w _).size,λx T _=>(dI w _).block x T⟩
 obtain⟨h1,M⟩:=ho;rcases M with⟨rfl,M⟩|⟨g,d,F,rfl,Q,z,R,h6,S,h8⟩
 .have H:=l none 0 (λa U=>by cases U) (λ_=>M) aa aa aa;rw[M] at H;rw[M];exact H.mono λe w' ⟨A,C,V,W,X,Y⟩=>⟨A,C,V,W,X _,.inr Y⟩
 rw[Nat.mul_one] at S h8;have Z:n≠g:=λe=>hne (by rw[e];rfl);have a4:∀j,j<L.length->F[j]? =(bO L)[j]? :=λj y=>by grind
 have N:∀j u,(bO L)[j]? =some u->w.cell? (aH g (0+j))=some u:=λj u s=>by
  have y:j<L.length:=by grind
  rw[fZ];exact aO z j u ((a4 j y).trans s)
 rw[dh] at h6;have O:∀j,j<d->(w.cell? (aH g (0+j))).isSome=true:=λj y=>by
  rw[fZ,aO z j _ (Array.getElem?_eq_getElem aa)];rfl
 by_cases b:L.length+1<=d
 .by_cases I:i<L.length
  .have H:=Any2.slices_Insert_int_shift Tryz.zZ g 0 L.length d i n 0 1 1 (bO L) [ag k] w I aC b aa Z f rfl N (λj y=>O j aa) (λj _=>bq z _) q K t 3 3 1 d (by unfold World.shape?;rw[P];rfl) (by unfold World.shape?;rw[z];simp[S]) aa (bq P _) (bq P _);refine H.mono λe w' ⟨D,m⟩=>⟨_,_,D,?_,?_,.inl rfl⟩
   .rw[m,fZ,fZ];refine Ah Q (setCells_at _ _ g i _ _ (setCells_at _ w.drew g (i+1) F _ z)) p b (by rw[dh];omega) (by rw[mh,mh,S]) λj y=>?_;rw[sD _ _ _ _ (by rw[mh];simp;omega),sD _ _ _ _ (by rw[kU];omega),sF L i j k hi];grind
   .rw[m];exact Ub (k:=1) ((fT _ w.drew g _).trans (fT _ _ g _))
  .obtain rfl:i=L.length:=aa;have H:=Any2.slices_Insert_int_end_room Tryz.zZ g 0 L.length d n 0 1 1 [ag k] w aC b aa rfl (λj y=>by rw[show 0+L.length+j=0+(L.length+j) from by omega];exact O _ aa) (λj _=>bq z _) q t;refine H.mono λe w' ⟨D,m⟩=>⟨_,_,D,?_,?_,.inl rfl⟩
   .rw[m,fZ];refine Ah Q (setCells_at _ w g L.length F _ z) p b (by rw[dh];omega) (by rw[mh,S]) λj y=>?_;rw[sD _ _ _ _ aX,sF L _ j k ay];grind
   .rw[m];exact fT _ w g _
 .by_cases I:i<L.length
  .have H:=Any2.slices_Insert_int_grow Tryz.zZ g 0 L.length d i n 0 1 1 (bO L) [ag k] w I aC R aa aa f rfl N q K t;have E:=grownCap_ge w (L.length+1) d (Tryz.uk.t 3);refine H.mono λe w' ⟨D,m⟩=>⟨_,_,D,?_,?_,.inr λg' a5=>by cases a5;exact Nat.le_refl _⟩
   .rw[m];have J:((bO L).take i).toArray.size=i:=by grind
    refine Ah hB (setCells_at _ _ w.heap.size (i+1) _ _ (setCells_at _ _ w.heap.size i _ _ (dN w _ _))) p E (grownCap_le_maxLen _ _ _ _ (by rw[dh];omega)) ?_ λj y=>?_
    .rw[mh,mh,Array.size_append,Array.size_append,nP,nP,J];omega
    .rw[sD _ _ _ _ (by rw[mh,Array.size_append,Array.size_append,nP,nP,J,kU];omega),sD _ _ _ _ (by rw[Array.size_append,Array.size_append,nP,nP,J];simp;omega),sF L i j k hi];grind
   .rw[m];refine⟨?_,?_,?_,?_,λx T a6=>?_⟩
    .exact(fT _ _ _ _).os.trans (fT _ ((w.alloc _).drew) _ _).os
    .exact(fT _ _ _ _).tape.trans (fT _ ((w.alloc _).drew) _ _).tape
    .exact(fT _ _ _ _).output.trans (fT _ ((w.alloc _).drew) _ _).output
    .exact YK w _ _ _ _ _ _
    .rw[uu _ _ _ _ x aa];refine Eq.trans (uu _ _ _ _ x aa) ((dI w _).block x T)
  .obtain rfl:i=L.length:=aa;have H:=l (some ⟨g,0,none⟩) d (λa U j u s=>by
    cases U;have a7:(⟨g,0,none⟩:Addr).add j=⟨g,j,none⟩:=by unfold Addr.add;split<;>simp_all
    grind) (λh=>by cases h) R aa rfl
   exact H.mono λe w' ⟨A,C,V,W,X,Y⟩=>⟨A,C,V,W,X _,.inr Y⟩
set_option maxRecDepth 20000
def Up (M:Dm):Int->Nat->Prop
 |i,0=>M i=none
 |i,d+1=>∃e,M i=some e/\Up M e.parent d
theorem wC {B:Nat}{W:ah}{DB:Nat}{p:Int->Option Nat}{M:Dm}{nx c:Nat}(l:bT B s W DB A p M nx c)(n:Int)(d:Nat)(x:dV n)(C:Up M n d)(D:d<=1000000):
  aJ 203 #[aI DB,ag n] W λr w'=>r=ax (ag d)/\aD W w':=by
 have H:=l.d0;have E:(d:Int)<=1000000:=aa;have t:=aA l;go_enter func203,ntmps203;go_wp2_with(at_lookup;refine Pg _ rfl _ _ 138 rfl underlying3 underlying138 (cO _) rfl l.map n rfl x ?_)
 go_loopw [5,6] (λy z wr=>∃(j r:Nat) (i:Int),j+r=d/\y=ag j/\z=.pointer ((p i).map λb=>⟨b,0,none⟩)/\Up M i r/\aD W wr) (λy _ _=>d-(intOf y).toNat)
 case atStart=>exact⟨0,d,n,aa,rfl,rfl,C,aQ _ _⟩
 case round=>
  obtain⟨j,r,i,F,rfl,rfl,g,m⟩:=hrel;have a:=t.out.below m;cases r with
  |zero=>
   have f:=t.out.non i g;rw[f];obtain rfl:j=d:=aa;go_wp2_with fail;go_ret;exact⟨rfl,m⟩
  |succ r=>
   obtain⟨e,o,h⟩:=g;obtain⟨b,I,J,f,u⟩:=a.els i e o;have k:=(a.wf i e o).1;rw[f];have K:=a.d0;have L:=u.c2;have N:(Instr.lookup 138 (.map (some A)) (ag e.parent) false).run prog wr.drew=.ok (.pointer ((p e.parent).map λb=>⟨b,0,none⟩)) wr.drew:=by
    cases v:p e.parent with
    |none=>exact iK.a6D (w:=wr.drew) (a.map.same rfl) underlying3 underlying138 (cO _) k v
    |some O=>exact iK.run_get (w:=wr.drew) (a.map.same rfl) underlying3 underlying138 (cO _) k v
   have P:(j:Int)<1000000:=aa;have q:=aA h;clear h o u;go_wp2_with fail;go_region;go_wp2_with fail
   go_roundw
   case rel=>exact⟨j+1,r,e.parent,aa,by go_num,rfl,q.out,G9 1 m⟩
   case measure=>simp[intOf];omega
theorem a6K {B:Nat}{W:ah}{DB:Nat}{p:Int->Option Nat}{M:Dm}{nx c:Nat}(v:bT B s W DB A p M nx c)(b:Int)(a:Nat)(e:Bs)(q:gP)(H:M b=some q)(ha:a<=q.kids.length)(J:iF e=true)(d:Nat)(hu:Up M b d)(b2:d<10)(hc:c<100)(Y:nx<1000000)(Z:q.kids.length<=1000000)(hB:B<=W.heap.size):
  aJ 141 #[aI DB,ag b,ag a,ak ⟨e.toArray⟩] W λr w'=>r=ax (aF #[ag nx,aU])/\KT s W w'/\∃mG p',(∀x,x<W.heap.size->mG x=s x)/\bT B mG w' DB A p' (dY (dY M nx ⟨e,[],b,[]⟩) b ⟨q.name,q.ats,q.parent,iE q.kids a nx⟩) (nx+1) (c+1):=by
 obtain⟨K,qa,qk,L,y⟩:=v.els b q H;obtain⟨oq,kq,rfl⟩:=bg y.kids;have z:=v.i64 H;have d0:=v.d0;have y3:=y.c3;have b3:=lC J;have b5:¬(a:Int)<0:=aa;have b6:¬(q.kids.length:Int)<(a:Int):=aa;have IN:=λw=>jA ⟨e.toArray⟩ (by rw[ic];omega) w;have a4:iF (⟨e.toArray⟩:aM).data.toList=true:=by simpa using J
 rw[a4] at IN;have DD:=wC v b d z hu aa;have N:b≠(nx:Int):=by have:=v.dom b q H;omega
 have u:=aA v;have a5:=aA y;go_enter func141,ntmps141;go_upto_region 12 with(first|(at_lookup;refine dA _ rfl _ _ 138 rfl underlying3 underlying138 (cO _) rfl v.map b rfl z K L ?_)|(go_at_call 177;refine(IN _).mono ?_;rintro r w0 ⟨rfl,rfl⟩)|(go_at_call 203;refine DD.mono ?_;rintro r w1 ⟨rfl,O⟩;have CT:=Bv (u.out.below O))|(go_at_call 204;refine CT.mono ?_;rintro r l ⟨rfl,rfl⟩));have m:=u.out.below O;have E0:=dN l #[ak ⟨e.toArray⟩,aj none 0 0,ag b,aj none 0 0] 147;have bE:=dI l (ai #[ak ⟨e.toArray⟩,aj none 0 0,ag b,aj none 0 0] 147);have NE:Yp B s (l.alloc (ai #[ak ⟨e.toArray⟩,aj none 0 0,ag b,aj none 0 0] 147)) l.heap.size ⟨e,[],b,[]⟩ (aj none 0 0) (aj none 0 0):=⟨E0,bu hB O.size,m.new ay,gp _ _ _ _,λg C=>absurd C (by simp[Value.ownBlock]),gp _ _ _ _,λg C=>absurd C (by simp[Value.ownBlock])⟩;have KE:=Pv B s _ DB A p M nx c l.heap.size ⟨e,[],b,[]⟩ (aj none 0 0) (aj none 0 0) (m.below bE) NE ⟨z,aG⟩ Y;go_upto_region 13 with(go_at_call 71;refine KE.mono ?_;rintro r P ⟨rfl,V,X⟩);have I:=aW O bE;have D:∀x t,s x=some t->ou s nx l.heap.size (aj none 0 0) (aj none 0 0) x=some t:=λx t n=>Ga n (m.new ay) (λg C=>by cases C) (λg C=>by cases C);have E:∀x,x<w0.heap.size->ou s nx l.heap.size (aj none 0 0) (aj none 0 0) x=s x:=λx hx=>Bu (by have:=O.size;omega) (by simp[Value.ownBlock]) (by simp[Value.ownBlock]);have h:AB B (ou s nx l.heap.size (aj none 0 0) (aj none 0 0)) P b K q qa (aj oq q.kids.length kq):=a5.out.turn λg t n f=>by
  have Q:g≠DB/\g≠A:=⟨λF=>(by have j:=u.out.mH;rw[<- F,n] at j;cases j;rcases f with f|f|f<;>cases f),λF=>(by have j:=u.out.mJ;rw[<- F,n] at j;cases j;rcases f with f|f|f<;>cases f)⟩;have a6:=(u.out.low g t n).2;exact⟨D g t n,(V.block g (by have:=I.size;omega) Q.1 Q.2).trans (I.block g a6)⟩
 obtain⟨T3,Kv⟩:∃T,ou s nx l.heap.size (aj none 0 0) (aj none 0 0)=T:=⟨_,rfl⟩;rw[Kv] at X D E h;have R:=aA E;have S:=dI P (ai #[ag nx] 3);have H4:=dN P #[ag nx] 3;have d4:=X.below S;have o:=h.turn (mG:=T3) (w':=P.alloc (ai #[ag nx] 3)) λg t n _=>⟨n,S.block g (X.low g t n).2⟩;have z3:=h.c3;have IE:=afm (k:=nx) (i:=a) o.kids ha Z H4 (λF=>by have j:=h.jG _ F;rw[X.new ay] at j;cases j) (by have j:=I.size;have h2:=V.size;have h3:=S.size;omega);have a7:some K≠(Value.slice oq q.kids.length kq).ownBlock:=λF=>by have j:=h.jG K F.symm;rw[h.tag] at j;cases j
 have lQ:=aY o.cells;have cQ:=o.cells;have HF:=aA V;clear KE NE E0 m Kv V D E;go_wp2_with(go_at_call 205;refine IE.mono ?_;rintro r w5 ⟨o5,k5,rfl,vv,U,a8⟩;have e5:=(U.block K lQ a7).trans cQ;have c5:=aO e5 3 _ rfl;have f5:=bq e5);have hL:(iE q.kids a (nx:Int)).length=q.kids.length+1:=xq _ _ _ ha;rw[<- hL] at vv;have a9:dY M nx ⟨e,[],b,[]⟩ b=some q:=by unfold dY;rw[if_neg N];exact H
 obtain⟨r1,r2,r3⟩:=d4.kids a9 (by simp only[if_neg N];exact L) o (λk f=>by
  unfold iE at f;rcases gT.1 f with f|f
  .exact(u.out.wf b q H).2 k (List.mem_of_mem_take f)
  .rcases gD.1 f with rfl|f
   .exact WalkArith.wf_i64 aa
   .exact(u.out.wf b q H).2 k (List.mem_of_mem_drop f)) vv U (by rw[hL];exact a8)
 rw[hL] at r1 r2 r3
 go_ret2
 refine⟨rfl,?_,_,_,λx hx=>?_,r1⟩
 .have f:=HF.out;have b0:KT s w0 P:=KT.trans (KT.of_below I) (mG:=s) (KT.aeS (u.out.below I) f) (λ_ _=>rfl);exact b0.trans (mG:=T3) (KT.trans (KT.of_below S) r3 (λ_ _=>rfl)) R.out
 .have j:=I.size;have h2:=HF.out.size;have h3:=S.size;rw[r2 x aa];exact R.out x hx
end
open Go.RowKit
theorem yQ {B:Nat}{W:ah}{DB:Nat}{p:Int->Option Nat}{M:Dm}{nx c:Nat}(b:bT B s W DB A p M nx c)(n a:Int)(e q:gP)(l:M n=some e)(m:M a=some q)(v:q.kids.length<=1000000):
  aJ 208 #[aI DB,ag a,ag n] W λr w'=>r=ax (ag (if e.parent=a then(q.kids.length:Int)-1 else q.kids.length))/\w'=W:=by
 have d:=b.i64 l;have f:=b.i64 m;have w:=b.d0;obtain⟨o,x,y,g,u⟩:=b.els n e l;obtain⟨t,z,C,h,i⟩:=b.els a q m;obtain⟨D,E,rfl⟩:=bg i.kids;have F:=u.c2;have H:=i.c3;by_cases j:e.parent=a
 .have k:(e.parent==a)=true:=by simp[j]
  have I:IntKind.i64.wrap ((q.kids.length:Int)-1)=(q.kids.length:Int)-1:=IntWalk.i64_in _ aa;rw[if_pos j];go_enter func208,ntmps208;go_wp2_with(at_lookup;first|(refine Et _ rfl _ _ 138 rfl underlying3 underlying138 (cO _) rfl b.map a rfl f t h ?_)|(refine Et _ rfl _ _ 138 rfl underlying3 underlying138 (cO _) rfl b.map n rfl d o g ?_));go_ret;exact⟨rfl,rfl⟩
 .have k:(e.parent==a)=false:=by simp[j]
  rw[if_neg j];go_enter func208,ntmps208;go_wp2_with(at_lookup;first|(refine Et _ rfl _ _ 138 rfl underlying3 underlying138 (cO _) rfl b.map a rfl f t h ?_)|(refine Et _ rfl _ _ 138 rfl underlying3 underlying138 (cO _) rfl b.map n rfl d o g ?_));go_ret;exact⟨rfl,rfl⟩
def nC (l:List (Int×Int)):Int:=l.foldl (λm x=>max m x.2) 0
theorem Uc (l:List (Int×Int))(x:Int×Int):nC (l++[x])=max (nC l) x.2:=by
 unfold nC;grind
def aaZ (W:ah)(a:List (Int×Int))(b:ah):Prop:=Below W.heap.size W b/\b.heap[W.heap.size]? =some (ai #[ag (nC a)] 3)
theorem deepest (W:ah)(a:List (Int×Int))(f:ah)(i d:Int)(h:aaZ W a f):
  aJ 276 (#[ag i,ag d]++#[aI W.heap.size]) f λe w'=>e=ax (aF #[])/\aaZ W (a++[(i,d)]) w':=by
 obtain⟨j,c⟩:=h;have k:=aO c 0 _ rfl;have o:=bq c 0;have p:=aA j;clear j;obtain⟨g,b⟩:∃g,W.heap.size=g:=⟨_,rfl⟩;rw[b] at k o c⊢;obtain⟨m,l⟩:∃m,nC a=m:=⟨_,rfl⟩;rw[l] at k c;show aJ 276 #[ag i,ag d,aI g] f _;go_enter func276,ntmps276;go_wp2_with fail;refine bodyPost_end (results_none rfl _ _ _) rfl ⟨rfl,?_,?_⟩
 .have n:=p.out;rw[b] at n⊢;exact n.setCell ay _
 .rw[b,heap_setCell_same f g 0 _ _ _ c,Uc,l];simp
theorem GD {B:Nat}{W:ah}{DB:Nat}{p:Int->Option Nat}{M:Dm}{nx c:Nat}(k:bT B s W DB A p M nx c)(f:Nat)(n:Int)(u:f<=900000)(hp:Dp M f n)(o:dV n)(v:(pre M f n 1).length<=1000000):
  aJ 209 #[aI DB,ag n] W λe w'=>e=ax (ag (nC (pre M f n 1)))/\Below W.heap.size W w':=by
 have l:=BA k _ (rT _ _ func276 az az) #[aI W.heap.size] (aaZ W) (λa m h=>⟨λb t q=>h.1.block b (k.low b t q).2,h.1.size⟩) (λa m i d h _=>deepest W a m i d h) f n 1 [] (W.alloc (ai #[ag 0] 3)) hp o aC aa (by rw[iO];omega) ⟨dI W _,dN W _ _⟩;rw[gF] at l;go_enter func209,ntmps209;go_wp2_with(go_at_call 230;refine l.mono ?_;rintro e w ⟨rfl,r⟩;obtain⟨g,j⟩:=r;have x:=aO j 0 _ rfl);go_ret;exact⟨rfl,g⟩
theorem Ud {B:Nat}(W:ah)(v:au)(L:List Int)(x:Int)(h:W.ownsRow B 3 1 v L.length (bO L))(D:L.length<=1000000):
  aJ 275 #[v,ag x] W λe w'=>w'=W/\∃i:Int,e=ax (ag i)/\(0<=i↔x∈L):=by
 have q:∀k y,L[k]? =some y->∃g,v.ownBlock=some g/\W.cell? (aH g k)=some (ag y):=λk y f=>dO h k _ (pQ f);rcases h.2 with⟨rfl,s⟩|⟨g,t,u,rfl,_,_,E,F,_,_⟩
 .have w:L=[]:=lS.1 s;subst w;go_enter func275,ntmps275;go_wp2_with fail
  go_loop [5,8] (λ_ i=>i=ag 0) (λ_ _=>0)
  case atStart=>rfl
  case round=>
   subst hrel;go_wp2_with fail;go_ret;exact⟨rfl, -1,rfl,aG⟩
 .have z:Hid (∀(k:Nat) (y:Int),L[k]? =some y->W.cell? (aH g k)=some (ag y)):=(λk y f=>by
   obtain⟨H,A,l⟩:=q k y f;cases A;exact l:∀(k:Nat) (y:Int),L[k]? =some y->W.cell? (aH g k)=some (ag y))
  clear q h;go_enter func275,ntmps275;go_wp2_with fail
  go_loop [5,8] (λ_ i=>∃k:Nat,k<=L.length/\i=ag k/\Hid (∀j,j<k->L[j]?≠some x)) (λ_ i=>match i with| .int _ m=>L.length-m.toNat|_=>0)
  case atStart=>exact⟨0,bf _,rfl,(λj b=>absurd b (Nat.not_lt_zero _):∀j,j<0->L[j]?≠some x)⟩
  case round=>
   obtain⟨k,f,rfl,c⟩:=hrel;by_cases n:k<L.length
   .obtain⟨y,o⟩:∃y,L[k]? =some y:=⟨_,eZ n⟩;have p:=z.out k y o;have d:(k:Int)<L.length:=aa;by_cases a:x=y
    .subst a;go_wp2_with fail;go_ret;exact⟨rfl,k,rfl,⟨λ_=>gN o,λ_=>aa⟩⟩
    .have r:(x==y)=false:=by simp[a]
     go_wp2_with fail;refine⟨⟨k+1,aa,rfl,(λj b=>?_:∀j,j<k+1->L[j]?≠some x)⟩,?_⟩
     .by_cases e:j=k
      .subst e;rw[o];exact λe=>a (by cases e;rfl)
      .exact c.out j aa
     .show L.length-((k:Int)+1).toNat<L.length-(k:Int).toNat;omega
   .have d:¬(k:Int)<L.length:=aa;go_wp2_with fail;go_ret;refine⟨rfl, -1,rfl,⟨λh=>aa,λC=>?_⟩⟩;obtain⟨j,b⟩:=List.getElem?_of_mem C;exact absurd b (c.out j (by have:=(kQ.1 b).1;omega))
theorem lG {B:Nat}(W:ah)(v:au)(L:List Int)(x:Int)(h:W.ownsRow B 3 1 v L.length (bO L))(a:L.length<=1000000):
  aJ 207 #[v,ag x] W λe w'=>w'=W/\e=ax (.bool (decide (x∈L))):=by
 have b:=Ud W v L x h a;go_enter func207,ntmps207;go_wp2_with(go_at_call 275;refine b.mono ?_;rintro e c ⟨rfl,i,rfl,d⟩);go_ret;exact⟨rfl,rfl⟩
set_option maxRecDepth 20000
theorem bT.par {B:Nat}{w:ah}{DB:Nat}{p:Int->Option Nat}{M:Dm}{nx c d:Nat}{i:Int}{e:gP}{va vk:au}(h:bT B s w DB A p M nx c)(hi:M i=some e)(hp:p i=some d)(he:AB B s w i d e va vk)(b:Int)(u:dV b):
  bT B s (w.setCell ⟨d,2,none⟩ (ag b)) DB A p (dY M i ⟨e.name,e.ats,b,e.kids⟩) nx c/\KT s w (w.setCell ⟨d,2,none⟩ (ag b)):=by
 have a:=(aQ d w).setCell (p:=⟨d,2,none⟩) ay (ag b);have f:∀x,x≠d->(w.setCell ⟨d,2,none⟩ (ag b)).heap[x]? =w.heap[x]? :=λx j=>bY _ _ _ x j;have n:∀g,va.ownBlock=some g->g≠d:=λg k l=>by have j:=he.nO g k;rw[l,he.tag] at j;cases j
 have o:∀g,vk.ownBlock=some g->g≠d:=λg k l=>by have j:=he.jG g k;rw[l,he.tag] at j;cases j
 refine⟨h.put hi hp (va:=va) (vk:=vk) ⟨?_,he.tag,di he.ats λg k=>f g (n g k),he.nO,di he.kids λg k=>f g (o g k),he.jG⟩ a.size ⟨u,(h.wf i e hi).2⟩ (λ_ _=>rfl) ?_ ?_ ?_,⟨a.os,a.tape,a.output,a.size,λx q r=>?_⟩⟩
 .rw[heap_setCell_same w d 2 _ _ _ he.cells];rfl
 .intro x t m;have:=h.low x t m;have:=a.size;omega
 .intro x q;exact .inl (h.new q)
 .intro x t m j v y;exact f x (λl=>by rw[l,he.tag] at m;cases m;exact j rfl)
 .exact f x (λl=>by rw[l,he.tag] at r;cases r)
def pz (M:Dm)(n:Int)(e o:gP):Dm:=dY M e.parent ⟨o.name,o.ats,o.parent,woL o.kids n⟩
def YL (M:Dm)(n b:Int)(a:Nat)(e o q:gP):Dm:=dY (dY (pz M n e o) n ⟨e.name,e.ats,b,e.kids⟩) b ⟨q.name,q.ats,q.parent,iE q.kids a n⟩
theorem a2j {B:Nat}{W:ah}{DB:Nat}{p:Int->Option Nat}{M:Dm}{nx c:Nat}(m:bT B s W DB A p M nx c)(n b:Int)(a:Nat)(e o y q:gP)(Q:M n=some e)(a9:n≠0)(ho:M e.parent=some o)(b0:o.kids≠[])(b2:e.parent≠n)(C:M b=some y)(hq:pz M n e o b=some q)(b3:b≠n)
  (f:Nat) (hf:f<=900000) (hp:Dp M f n) (hl:(pre M f n 1).length<=1000000) (R:b ∉ dM M f n) (b6:y.kids.length<=1000000) (b7:(a:Int)<=if e.parent=b then(y.kids.length:Int)-1 else y.kids.length) (S:a<=q.kids.length) (b9:q.kids.length<=1000000)
  (d:Nat) (hu:Up M b d) (c0:(d:Int)+nC (pre M f n 1)<=10) (c1:0<=nC (pre M f n 1)) (hB:B<=W.heap.size):
  aJ 143 #[aI DB,ag n,ag b,ag a] W λr w'=>r=ax aU/\KT s W w'/\∃mG,(∀x,x<W.heap.size->mG x=s x)/\bT B mG w' DB A p (YL M n b a e o q) nx c:=by
 obtain⟨EB,va,vk,D,he⟩:=m.els n e Q;obtain⟨QB,qa,qk,E,d2⟩:=m.els b y C;have u:=m.i64 Q;have F:=m.i64 C;have d0:=m.d0;have YJ:(n==0)=false:=by rw[dL];exact a9
 have T:(dM M f n).length<=1000000:=by unfold dM;rw[dF];exact hl
 have FD:=qD m f n hf hp u T;have d3:decide (b∈dM M f n)=false:=iH R;have d4:¬(a:Int)<0:=aa;have HD:=aA m;obtain⟨ot,H⟩:∃ot:Int,(if e.parent=b then(y.kids.length:Int)-1 else y.kids.length)=ot:=⟨_,rfl⟩;rw[H] at b7;obtain⟨mo,I⟩:∃mo:Int,nC (pre M f n 1)=mo:=⟨_,rfl⟩;rw[I] at c0 c1;have d9:IntKind.i64.wrap ((d:Int)+mo)=(d:Int)+mo:=IntWalk.i64_in _ aa;have c2:=aA H;have c3:=aA I;clear H I;go_enter func143,ntmps143;go_upto_region 7 with(at_lookup;first|refine dA _ rfl _ _ 138 rfl underlying3 underlying138 (cO _) rfl m.map n rfl u EB D ?_|refine dA _ rfl _ _ 138 rfl underlying3 underlying138 (cO _) rfl m.map b rfl F QB E ?_);go_upto_region 9 with(first|(go_at_call 164;refine FD.mono ?_;rintro r w1 ⟨o1,k1,rfl,b1,E5⟩;have CI:=lG w1 _ (dM M f n) b E5 T)|(go_at_call 207;refine CI.mono ?_;rintro r w2 ⟨rfl,rfl⟩));have V:=HD.out.below b1;have OD:=yQ V n b e y Q C b6;rw[c2.out] at OD;go_upto_region 11 with(go_at_call 208;refine OD.mono ?_;rintro r w3 ⟨rfl,rfl⟩);have DD:=wC V b d F hu aa;go_upto_region 13 with(first|(go_at_call 203;refine DD.mono ?_;rintro r w4 ⟨rfl,b4⟩;have LD:=GD (HD.out.below (aW b1 b4)) f n hf hp u hl;rw[c3.out] at LD)|(go_at_call 209;refine LD.mono ?_;rintro r w5 ⟨rfl,b5⟩));have P:=aW (aW b1 b4) b5;have TO:=Dl (HD.out.below P) n e o Q ho b0;go_upto_region 14 with(go_at_call 206;refine TO.mono ?_;rintro r X ⟨rfl,k6,T6,t6,Y⟩);have Z:pz M n e o n=some e:=by unfold pz dY;rw[if_neg (λh=>b2 h.symm)];exact Q
 have Y:bT B T6 X DB A p (pz M n e o) nx c:=Y;obtain⟨J,e0,e2,a4,K⟩:=Y.els n e Z;have c4:J=EB:=by rw[D] at a4;cases a4;rfl
 subst c4;obtain⟨L,k7⟩:=Y.par Z D K b F;have f6:=bq K.cells 2;have x6:=K.c2;have v:dY (pz M n e o) n ⟨e.name,e.ats,b,e.kids⟩ b=some q:=by unfold dY;rw[if_neg b3];exact hq
 have s7:X.heap.size<=(X.setCell ⟨J,2,none⟩ (ag b)).heap.size:=k7.size;obtain⟨U,a5⟩:∃U,X.setCell ⟨J,2,none⟩ (ag b)=U:=⟨_,rfl⟩;go_upto_region 15 with fail;rw[a5] at L k7 s7;obtain⟨w,e3,e4,a6,j⟩:=L.els b q v;have c5:w=QB:=by rw[E] at a6;cases a6;rfl
 subst c5;obtain⟨oq,kq,rfl⟩:=bg j.kids;have b8:=dI U (ai #[ag n] 3);have H8:=dN U #[ag n] 3;have d8:=L.below b8;have l:=j.turn (mG:=T6) (w':=U.alloc (ai #[ag n] 3)) λg t ht _=>⟨ht,b8.block g (L.low g t ht).2⟩;have y8:=l.c3;have z7:=j.c3;have IE:=afm (k:=n) (i:=a) l.kids S b9 H8 (λe1=>by have N:=j.jG _ e1;rw[L.new ay] at N;cases N) (by have N:=P.size;have h2:=k6.size;have h3:=b8.size;omega);have c6:some w≠(Value.slice oq q.kids.length kq).ownBlock:=λe1=>by have N:=j.jG w e1.symm;rw[j.tag] at N;cases N
 have lQ:=aY l.cells;have cQ:=l.cells;have c7:=aA k6;have c8:=aA k7;have O:=aA t6;clear a5 k6 k7 t6 Y TO;go_wp2_with(go_at_call 205;refine IE.mono ?_;rintro r w9 ⟨o9,k9,rfl,a7,a8,d1⟩;have e9:=(a8.block w lQ c6).trans cQ;have c9:=aO e9 3 _ rfl;have f9:=bq e9);have hL:(iE q.kids a n).length=q.kids.length+1:=xq _ _ _ S;rw[<- hL] at a7;obtain⟨r1,r2,r3⟩:=d8.kids v E l (λk z=>by
  unfold iE at z;rcases gT.1 z with z|z
  .exact(L.wf b q v).2 k (List.mem_of_mem_take z)
  .rcases gD.1 z with rfl|z
   .exact u
   .exact(L.wf b q v).2 k (List.mem_of_mem_drop z)) a7 a8 (by rw[hL];exact d1)
 rw[hL] at r1 r2 r3;go_ret;have h6:=c7.out;have h7:=c8.out;refine⟨rfl,?_,_,λx hx=>?_,r1⟩
 .have ku:KT s W X:=KT.trans (KT.of_below P) h6 (λ_ _=>rfl);have kv:KT s W U:=ku.trans (mG:=T6) h7 (λx hx=>O.out x (by have:=P.size;omega));exact kv.trans (mG:=T6) (KT.trans (KT.of_below b8) r3 (λ_ _=>rfl)) (λx hx=>O.out x (by have:=P.size;omega))
 .have N:=P.size;have h2:=h6.size;have h3:=h7.size;have h4:=b8.size;rw[r2 x aa];exact O.out x aa
theorem a6L {E:Nat->Addr}{B:Nat}{W:ah}{DB:Nat}{p:Int->Option Nat}{M:Dm}{nx c:Nat}(hE:DE E W)(d:bT B s W DB A p M nx c)(n b a:Int)(e:dV n)(f:dV b)(i:M n=none)(j:M b=none):
  aJ 143 #[aI DB,ag n,ag b,ag a] W λr w'=>r=ax (eV (E 5))/\aD W w':=by
 have k:=d.d0;have ck:=hE.c5;unfold eV;have g:=d.non n i;have h:=d.non b j;go_enter func143,ntmps143;go_wp2_with(at_lookup;first|refine jW _ rfl _ _ 138 rfl underlying3 underlying138 (cO _) rfl d.map n rfl e g ?_|refine jW _ rfl _ _ 138 rfl underlying3 underlying138 (cO _) rfl d.map b rfl f h ?_);go_ret;exact⟨rfl,aQ _ _⟩
theorem a2k {E:Nat->Addr}{B:Nat}{W:ah}{DB:Nat}{p:Int->Option Nat}{M:Dm}{nx c:Nat}(hE:DE E W)(d:bT B s W DB A p M nx c)(n b a:Int)(e:dV n)(f:dV b)(q:gP)(i:M n=none)(j:M b=some q):
  aJ 143 #[aI DB,ag n,ag b,ag a] W λr w'=>r=ax (eV (E 5))/\aD W w':=by
 have m:=d.d0;have ck:=hE.c5;unfold eV;have g:=d.non n i;obtain⟨k,o,t,h,l⟩:=d.els b q j;go_enter func143,ntmps143;go_wp2_with(at_lookup;first|refine jW _ rfl _ _ 138 rfl underlying3 underlying138 (cO _) rfl d.map n rfl e g ?_|refine dA _ rfl _ _ 138 rfl underlying3 underlying138 (cO _) rfl d.map b rfl f k h ?_);go_ret;exact⟨rfl,aQ _ _⟩
theorem a2l {E:Nat->Addr}{B:Nat}{W:ah}{DB:Nat}{p:Int->Option Nat}{M:Dm}{nx c:Nat}(hE:DE E W)(d:bT B s W DB A p M nx c)(n b a:Int)(f:dV n)(g:dV b)(e:gP)(j:M n=some e)(k:M b=none):
  aJ 143 #[aI DB,ag n,ag b,ag a] W λr w'=>r=ax (eV (E 5))/\aD W w':=by
 have m:=d.d0;have ck:=hE.c5;unfold eV;obtain⟨l,o,q,h,t⟩:=d.els n e j;have i:=d.non b k;go_enter func143,ntmps143;go_wp2_with(at_lookup;first|refine dA _ rfl _ _ 138 rfl underlying3 underlying138 (cO _) rfl d.map n rfl f l h ?_|refine jW _ rfl _ _ 138 rfl underlying3 underlying138 (cO _) rfl d.map b rfl g i ?_);go_ret;exact⟨rfl,aQ _ _⟩
theorem YM {E:Nat->Addr}{B:Nat}{W:ah}{DB:Nat}{p:Int->Option Nat}{M:Dm}{nx c:Nat}(hE:DE E W)(d:bT B s W DB A p M nx c)(n b a:Int)(g:dV n)(h:dV b)(e q:gP)(k:M n=some e)(l:M b=some q)(f:n=0):
  aJ 143 #[aI DB,ag n,ag b,ag a] W λr w'=>r=ax (eV (E 3))/\aD W w':=by
 have u:=d.d0;have ck:=hE.c3;unfold eV;obtain⟨m,v,w,i,x⟩:=d.els n e k;obtain⟨o,y,z,j,t⟩:=d.els b q l;have C:(n==0)=true:=by rw[beq_iff_eq];exact f
 clear f;go_enter func143,ntmps143;go_wp2_with(at_lookup;first|refine dA _ rfl _ _ 138 rfl underlying3 underlying138 (cO _) rfl d.map n rfl g m i ?_|refine dA _ rfl _ _ 138 rfl underlying3 underlying138 (cO _) rfl d.map b rfl h o j ?_);go_ret;exact⟨rfl,aQ _ _⟩
theorem Ue {E:Nat->Addr}{B:Nat}{W:ah}{DB:Nat}{p:Int->Option Nat}{M:Dm}{nx c:Nat}(hE:DE E W)(d:bT B s W DB A p M nx c)(n b a:Int)(e q:gP)(o:M n=some e)(t:M b=some q)(i:n≠0)(g:dV n)(j:dV b)(f:Nat)(u:f<=900000)(hp:Dp M f n)(v:(pre M f n 1).length<=1000000)(w:b∈dM M f n):
  aJ 143 #[aI DB,ag n,ag b,ag a] W λr w'=>r=ax (eV (E 9))/\aD W w':=by
 have J:=d.d0;unfold eV;obtain⟨x,K,L,k,N⟩:=d.els n e o;obtain⟨y,O,P,l,z⟩:=d.els b q t;have Q:(n==0)=false:=by rw[dL];exact i
 have h:(dM M f n).length<=1000000:=by unfold dM;rw[dF];exact v
 have C:=qD d f n u hp g h;have D:=aA hE;go_enter func143,ntmps143;go_upto_region 7 with(at_lookup;first|refine dA _ rfl _ _ 138 rfl underlying3 underlying138 (cO _) rfl d.map n rfl g x k ?_|refine dA _ rfl _ _ 138 rfl underlying3 underlying138 (cO _) rfl d.map b rfl j y l ?_);go_wp2_with(first|(go_at_call 164;refine C.mono ?_;rintro r F ⟨R,S,rfl,m,H⟩;have I:=lG F _ (dM M f n) b H h;have ck1:=(D.out.below m ay).c9)|(go_at_call 207;refine I.mono ?_;rintro r T ⟨rfl,rfl⟩));go_ret;exact⟨rfl,m⟩
theorem a2m {E:Nat->Addr}{B:Nat}{W:ah}{DB:Nat}{p:Int->Option Nat}{M:Dm}{nx c:Nat}(hE:DE E W)(d:bT B s W DB A p M nx c)(n b a:Int)(e q:gP)(t:M n=some e)(u:M b=some q)(i:n≠0)(g:dV n)(j:dV b)(f:Nat)(v:f<=900000)(hp:Dp M f n)(w:(pre M f n 1).length<=1000000)(m:b ∉ dM M f n)(J:a<0):
  aJ 143 #[aI DB,ag n,ag b,ag a] W λr w'=>r=ax (eV (E 2))/\aD W w':=by
 have K:=d.d0;unfold eV;obtain⟨x,L,N,k,O⟩:=d.els n e t;obtain⟨y,P,Q,l,z⟩:=d.els b q u;have R:(n==0)=false:=by rw[dL];exact i
 have h:(dM M f n).length<=1000000:=by unfold dM;rw[dF];exact w
 have C:=qD d f n v hp g h;have D:=aA hE;go_enter func143,ntmps143;go_upto_region 7 with(at_lookup;first|refine dA _ rfl _ _ 138 rfl underlying3 underlying138 (cO _) rfl d.map n rfl g x k ?_|refine dA _ rfl _ _ 138 rfl underlying3 underlying138 (cO _) rfl d.map b rfl j y l ?_);go_wp2_with(first|(go_at_call 164;refine C.mono ?_;rintro r F ⟨S,T,rfl,o,H⟩;have I:=lG F _ (dM M f n) b H h;have ck1:=(D.out.below o ay).c2)|(go_at_call 207;refine I.mono ?_;rintro r U ⟨rfl,rfl⟩));go_ret;exact⟨rfl,o⟩
theorem Uf {E:Nat->Addr}{B:Nat}{W:ah}{DB:Nat}{p:Int->Option Nat}{M:Dm}{nx c:Nat}(hE:DE E W)(d:bT B s W DB A p M nx c)(n b a:Int)(e q:gP)(w:M n=some e)(x:M b=some q)(j:n≠0)(h:dV n)(k:dV b)(f:Nat)(D:f<=900000)(hp:Dp M f n)(F:(pre M f n 1).length<=1000000)(y:b ∉ dM M f n)(R:¬a<0)(l:q.kids.length<=1000000)(m:(if e.parent=b then(q.kids.length:Int)-1 else q.kids.length)<a):
  aJ 143 #[aI DB,ag n,ag b,ag a] W λr w'=>r=ax (eV (E 2))/\aD W w':=by
 have S:=d.d0;unfold eV;obtain⟨H,T,U,o,V⟩:=d.els n e w;obtain⟨I,X,Y,t,J⟩:=d.els b q x;have Z:(n==0)=false:=by rw[dL];exact j
 have i:(dM M f n).length<=1000000:=by unfold dM;rw[dF];exact F
 have K:=qD d f n D hp h i;have L:=aA d;have N:=aA hE;obtain⟨z,g⟩:∃z:Int,(if e.parent=b then(q.kids.length:Int)-1 else q.kids.length)=z:=⟨_,rfl⟩;rw[g] at m;have u:=aA g;clear g;go_enter func143,ntmps143;go_upto_region 7 with(at_lookup;first|refine dA _ rfl _ _ 138 rfl underlying3 underlying138 (cO _) rfl d.map n rfl h H o ?_|refine dA _ rfl _ _ 138 rfl underlying3 underlying138 (cO _) rfl d.map b rfl k I t ?_);go_upto_region 9 with(first|(go_at_call 164;refine K.mono ?_;rintro r O ⟨o1,k1,rfl,v,P⟩;have Q:=lG O _ (dM M f n) b P i;have ck1:=(N.out.below v ay).c2)|(go_at_call 207;refine Q.mono ?_;rintro r w2 ⟨rfl,rfl⟩));have C:=yQ (L.out.below v) n b e q w x l;rw[u.out] at C;go_wp2_with(go_at_call 208;refine C.mono ?_;rintro r w3 ⟨rfl,rfl⟩);go_ret;exact⟨rfl,v⟩
theorem YN {E:Nat->Addr}{B:Nat}{W:ah}{DB:Nat}{p:Int->Option Nat}{M:Dm}{nx c:Nat}(hE:DE E W)(g:bT B s W DB A p M nx c)(n b a:Int)(e q:gP)(I:M n=some e)(J:M b=some q)(t:n≠0)(h:dV n)(l:dV b)(f:Nat)(K:f<=900000)(hp:Dp M f n)(L:(pre M f n 1).length<=1000000)(N:b ∉ dM M f n)(ha:¬a<0)(u:q.kids.length<=1000000)(v:¬(if e.parent=b then(q.kids.length:Int)-1 else q.kids.length)<a)(d:Nat)(T:Up M b d)(U:d<=10)(w:10<(d:Int)+nC (pre M f n 1))(x:nC (pre M f n 1)<=1000000):
  aJ 143 #[aI DB,ag n,ag b,ag a] W λr w'=>r=ax (eV (E 8))/\aD W w':=by
 have d0:=g.d0;unfold eV;obtain⟨V,va,vk,y,he⟩:=g.els n e I;obtain⟨X,qa,qk,z,Y⟩:=g.els b q J;have YJ:(n==0)=false:=by rw[dL];exact t
 have m:(dM M f n).length<=1000000:=by unfold dM;rw[dF];exact L
 have Z:=qD g f n K hp h m;have C:=aA g;have O:=aA hE;obtain⟨P,i⟩:∃P:Int,(if e.parent=b then(q.kids.length:Int)-1 else q.kids.length)=P:=⟨_,rfl⟩;rw[i] at v;have D:=aA i;clear i;obtain⟨o,j⟩:∃o:Int,nC (pre M f n 1)=o:=⟨_,rfl⟩;rw[j] at w x;have a4:IntKind.i64.wrap ((d:Int)+o)=(d:Int)+o:=IntWalk.i64_in _ aa;have F:=aA j;clear j;go_enter func143,ntmps143;go_upto_region 7 with(at_lookup;first|refine dA _ rfl _ _ 138 rfl underlying3 underlying138 (cO _) rfl g.map n rfl h V y ?_|refine dA _ rfl _ _ 138 rfl underlying3 underlying138 (cO _) rfl g.map b rfl l X z ?_);go_upto_region 9 with(first|(go_at_call 164;refine Z.mono ?_;rintro r w1 ⟨o1,k1,rfl,k,E5⟩;have CI:=lG w1 _ (dM M f n) b E5 m;have ck1:=(O.out.below k ay).c8)|(go_at_call 207;refine CI.mono ?_;rintro r w2 ⟨rfl,rfl⟩));have Q:=yQ (C.out.below k) n b e q I J u;rw[D.out] at Q;go_upto_region 11 with(go_at_call 208;refine Q.mono ?_;rintro r w3 ⟨rfl,rfl⟩);have DD:=wC (C.out.below k) b d l T aa;go_wp2_with(first|(go_at_call 203;refine DD.mono ?_;rintro r w4 ⟨rfl,H⟩;have R:=GD (C.out.below (aW k H)) f n K hp h L;rw[F.out] at R)|(go_at_call 209;refine R.mono ?_;rintro r w5 ⟨rfl,S⟩;have a5:=(O.out.below (aW (aW k H) S) ay).c8));go_ret;exact⟨rfl,aW (aW k H) S⟩
theorem ab1 {E:Nat->Addr}{B:Nat}{W:ah}{DB:Nat}{p:Int->Option Nat}{M:Dm}{nx c:Nat}(hE:DE E W)(e:bT B s W DB A p M nx c)(b a:Int)(d:Bs)(f:dV b)(h:M b=none):
  aJ 141 #[aI DB,ag b,ag a,ak ⟨d.toArray⟩] W λr w'=>r=ax (aF #[ag 0,eV (E 5)])/\aD W w':=by
 have i:=e.d0;have ck:=hE.c5;have j:=aA e;have k:=aA hE;unfold eV;have g:=e.non b h;go_enter func141,ntmps141;go_upto_region 3 with(at_lookup;refine jW _ rfl _ _ 138 rfl underlying3 underlying138 (cO _) rfl e.map b rfl f g ?_);go_region;go_wp2_with fail
 go_ret2
 exact⟨rfl,rfl,rfl,rfl,Nat.le_refl _,λ_ _=>rfl⟩
theorem a6M {E:Nat->Addr}{B:Nat}{W:ah}{DB:Nat}{p:Int->Option Nat}{M:Dm}{nx c:Nat}(hE:DE E W)(f:bT B s W DB A p M nx c)(b a:Int)(d:Bs)(g:dV b)(q:gP)(j:M b=some q)(k:q.kids.length<=1000000)(m:a<0):
  aJ 141 #[aI DB,ag b,ag a,ak ⟨d.toArray⟩] W λr w'=>r=ax (aF #[ag 0,eV (E 2)])/\aD W w':=by
 have n:=f.d0;have ck:=hE.c2;have o:=aA f;have t:=aA hE;unfold eV;obtain⟨l,u,v,h,e⟩:=f.els b q j;obtain⟨w,x,rfl⟩:=bg e.kids;have y:=e.c3;have i:(q.kids.length:Int)<=1000000:=aa;go_enter func141,ntmps141;go_upto_region 5 with(at_lookup;refine dA _ rfl _ _ 138 rfl underlying3 underlying138 (cO _) rfl f.map b rfl g l h ?_);go_region;go_wp2_with fail
 go_ret2
 exact⟨rfl,rfl,rfl,rfl,Nat.le_refl _,λ_ _=>rfl⟩
theorem YO {E:Nat->Addr}{B:Nat}{W:ah}{DB:Nat}{p:Int->Option Nat}{M:Dm}{nx c:Nat}(hE:DE E W)(f:bT B s W DB A p M nx c)(b a:Int)(d:Bs)(g:dV b)(q:gP)(j:M b=some q)(k:q.kids.length<=1000000)(n:¬a<0)(l:(q.kids.length:Int)<a):
  aJ 141 #[aI DB,ag b,ag a,ak ⟨d.toArray⟩] W λr w'=>r=ax (aF #[ag 0,eV (E 2)])/\aD W w':=by
 have o:=f.d0;have ck:=hE.c2;have t:=aA f;have u:=aA hE;unfold eV;obtain⟨m,v,w,h,e⟩:=f.els b q j;obtain⟨x,y,rfl⟩:=bg e.kids;have z:=e.c3;have i:(q.kids.length:Int)<=1000000:=aa;go_enter func141,ntmps141;go_upto_region 5 with(at_lookup;refine dA _ rfl _ _ 138 rfl underlying3 underlying138 (cO _) rfl f.map b rfl g m h ?_);go_region;go_wp2_with fail
 go_ret2
 exact⟨rfl,rfl,rfl,rfl,Nat.le_refl _,λ_ _=>rfl⟩
theorem a2n {E:Nat->Addr}{B:Nat}{W:ah}{DB:Nat}{p:Int->Option Nat}{M:Dm}{nx c:Nat}(hE:DE E W)(g:bT B s W DB A p M nx c)(b a:Int)(e:Bs)(h:dV b)(q:gP)(o:M b=some q)(t:q.kids.length<=1000000)(J:¬a<0)(u:¬(q.kids.length:Int)<a)(i:iF e=true)(d:Nat)(v:Up M b d)(x:d<=1000000)(y:10<=d):
  aJ 141 #[aI DB,ag b,ag a,ak ⟨e.toArray⟩] W λr w'=>r=ax (aF #[ag 0,eV (E 8)])/\aD W w':=by
 have K:=g.d0;have ck:=hE.c8;have z:=aA g;have C:=aA hE;unfold eV;obtain⟨D,L,N,k,j⟩:=g.els b q o;obtain⟨O,P,rfl⟩:=bg j.kids;have Q:=j.c3;have m:(q.kids.length:Int)<=1000000:=aa;have n:=λw=>jA ⟨e.toArray⟩ (by rw[ic];have:=lC i;omega) w;have l:iF (⟨e.toArray⟩:aM).data.toList=true:=by simpa using i
 rw[l] at n;have F:=wC g b d h v aa;have H:(10:Int)<=(d:Int):=aa;go_enter func141,ntmps141;go_upto_region 9 with(first|(at_lookup;refine dA _ rfl _ _ 138 rfl underlying3 underlying138 (cO _) rfl g.map b rfl h D k ?_)|(go_at_call 177;refine(n _).mono ?_;rintro r R ⟨rfl,rfl⟩)|(go_at_call 203;refine F.mono ?_;rintro r S ⟨rfl,f⟩;have I:=Bv (z.out.below f);have ck1:=(C.out.below f ay).c8)|(go_at_call 204;refine I.mono ?_;rintro r T ⟨rfl,rfl⟩));go_region;go_wp2_with fail
 go_ret2
 exact⟨rfl,f.os,f.tape,f.output,f.size,f.block⟩
theorem a2o {E:Nat->Addr}{B:Nat}{W:ah}{DB:Nat}{p:Int->Option Nat}{M:Dm}{nx c:Nat}(hE:DE E W)(g:bT B s W DB A p M nx c)(b a:Int)(e:Bs)(h:dV b)(q:gP)(o:M b=some q)(t:q.kids.length<=1000000)(K:¬a<0)(u:¬(q.kids.length:Int)<a)(i:iF e=true)(d:Nat)(v:Up M b d)(x:d<=1000000)(y:d<10)(hc:100<=c):
  aJ 141 #[aI DB,ag b,ag a,ak ⟨e.toArray⟩] W λr w'=>r=ax (aF #[ag 0,eV (E 7)])/\aD W w':=by
 have L:=g.d0;have ck:=hE.c7;have z:=aA g;have C:=aA hE;unfold eV;obtain⟨D,N,O,k,j⟩:=g.els b q o;obtain⟨P,Q,rfl⟩:=bg j.kids;have R:=j.c3;have m:(q.kids.length:Int)<=1000000:=aa;have n:=λw=>jA ⟨e.toArray⟩ (by rw[ic];have:=lC i;omega) w;have l:iF (⟨e.toArray⟩:aM).data.toList=true:=by simpa using i
 rw[l] at n;have F:=wC g b d h v aa;have H:¬(10:Int)<=(d:Int):=aa;have I:(100:Int)<=(c:Int):=aa;go_enter func141,ntmps141;go_upto_region 11 with(first|(at_lookup;refine dA _ rfl _ _ 138 rfl underlying3 underlying138 (cO _) rfl g.map b rfl h D k ?_)|(go_at_call 177;refine(n _).mono ?_;rintro r S ⟨rfl,rfl⟩)|(go_at_call 203;refine F.mono ?_;rintro r T ⟨rfl,f⟩;have J:=Bv (z.out.below f);have ck1:=(C.out.below f ay).c7)|(go_at_call 204;refine J.mono ?_;rintro r U ⟨rfl,rfl⟩));go_region;go_wp2_with fail
 go_ret2
 exact⟨rfl,f.os,f.tape,f.output,f.size,f.block⟩
theorem YP {E:Nat->Addr}{B:Nat}{W:ah}{DB:Nat}{p:Int->Option Nat}{M:Dm}{nx c:Nat}(hE:DE E W)(a:bT B s W DB A p M nx c)(n:Int)(b:dV n)(e:M n=none):
  aJ 142 #[aI DB,ag n] W λr w'=>r=ax (eV (E 5))/\w'=W:=by
 have d:=a.non n e;have f:=a.d0;have g:=hE.c5;unfold eV;go_enter func142,ntmps142;go_wp2_with(at_lookup;refine jW _ rfl _ _ 138 rfl underlying3 underlying138 (cO _) rfl a.map n rfl b d ?_);go_ret;exact⟨rfl,rfl⟩

/-
  Parts of the proof.
-/
import Derived.Stop.Asserts
import Derived.RowKitTokens
import Derived.Test.YtjfiehbcamfdfaaGreatDoorQy2
import Derived.Lib.QuietBelow
namespace Go.Proofs.YtjfiehbcamfdfaaGreatDoor
open Go.Proofs.Tryz
section
open Go.RowKit Go.Extern.Stop Go.Stop Go.Extern
abbrev EX:Value:=.pointer (some ⟨19,213,none⟩)
abbrev hP:Value:=.pointer (some ⟨19,113,none⟩)
abbrev hE:Value:=.pointer (some ⟨19,33,none⟩)
abbrev hS:Value:=.pointer (some ⟨19,390,none⟩)
theorem Dw (t:Addr)(w:World):(ReflectliteValue.unpack (.iface 213 (.pointer (some t)))).run prog w
    = .ok (.agg #[EX,aj w.heap.size,.int .u64 150]) (w.alloc (.cells #[.pointer (some t)] 213)):=by kernel_rfl
theorem TW (a:Addr)(w:World):(ReflectliteValue.methodAny (ReflectliteValue.valueError "reflectlite.Value.Type" 0) (fun t _ _ _=>ReflectliteType.toType t) #[.agg #[EX,.pointer (some a),.int .u64 150]]).run prog w
    = .ok (.iface 302 (.agg #[EX])) w:=by kernel_rfl
theorem TZ (w:World):((ReflectliteType.abiMethod fun t=>(fun a:Nat=>Value.int IntKind.u8 (a:Int))<$>Rtype.kind t) #[EX]).run prog w=.ok (.int .u8 22) w:=by kernel_rfl
theorem a1l (w:World):((ReflectliteType.abiMethod fun t=>(fun a:Nat=>Value.int IntKind.u8 (a:Int))<$>Rtype.kind t) #[hP]).run prog w=.ok (.int .u8 22) w:=by kernel_rfl
theorem O3 (a:Addr)(w:World):(ReflectliteValue.parts (.agg #[EX,.pointer (some a),.int .u64 150])).run prog w=.ok (some (213,a,150)) w:=by kernel_rfl
theorem O4 (a p:Addr)(W:World)(ha:W.cell? a=some (.pointer (some p))):
    (ReflectliteValue.method (ReflectliteValue.valueError "reflectlite.Value.IsNil" 0) ReflectliteValue.isNil #[.agg #[EX,.pointer (some a),.int .u64 150]]).run prog W=.ok (.bool false) W:=by
  obtain⟨k,hk,hr⟩:∃k,ReflectliteValue.method (ReflectliteValue.valueError "reflectlite.Value.IsNil" 0) ReflectliteValue.isNil #[.agg #[EX,.pointer (some a),.int .u64 150]]=(ReflectliteValue.parts (.agg #[EX,.pointer (some a),.int .u64 150])>>=k)/\(k (some (213,a,150))).run prog W=.ok (.bool false) W:=
    ⟨_,rfl,by simp[ReflectliteValue.isNil,loadVar,isAgg,underlying,underlying213,ha,Result.andThen]⟩
  rw[hk];simp only[Sem.run_bind,O3,Result.andThen];exact hr
theorem O5 (w:World):(ReflectliteType.method ReflectliteType.elem #[.agg #[EX]]).run prog w=.ok (.iface 302 (.agg #[hP])) w:=by kernel_rfl
theorem xN (w:World):(ReflectliteType.relation "Implements" ReflectliteType.implements_ #[.agg #[hP],.iface 302 (.agg #[hE])]).run prog w=.ok (.bool true) w:=by kernel_rfl
theorem YL (v:Value)(w:World):(ReflectliteType.typeOf #[.iface 113 v]).run prog w=.ok (.iface 302 (.agg #[hP])) w:=by kernel_rfl
theorem uO (v:Value)(w:World):(ReflectliteType.typeOf #[.iface 390 v]).run prog w=.ok (.iface 302 (.agg #[hS])) w:=by kernel_rfl
theorem Hl (w:World):(ReflectliteType.relation "AssignableTo" ReflectliteType.assignableTo #[.agg #[hP],.iface 302 (.agg #[hP])]).run prog w=.ok (.bool true) w:=by kernel_rfl
theorem Ho (w:World):(ReflectliteType.relation "AssignableTo" ReflectliteType.assignableTo #[.agg #[hS],.iface 302 (.agg #[hP])]).run prog w=.ok (.bool false) w:=by kernel_rfl
theorem U4 (e:Addr)(w:World):(ReflectliteValue.unpack (.iface 113 (.pointer (some e)))).run prog w
    = .ok (.agg #[hP,aj w.heap.size,.int .u64 150]) (w.alloc (.cells #[.pointer (some e)] 113)):=by kernel_rfl
theorem U5 (w:World):(Rtype.elem? 213).run prog w=.ok (some 113) w:=by kernel_rfl
theorem mkP (p:Addr)(w:World):(ReflectliteValue.mk 113 p ReflectliteValue.flagAddr).run prog w=.ok (.agg #[hP,.pointer (some p),.int .u64 406]) w:=by kernel_rfl
theorem YM (a p:Addr)(W:World)(ha:W.cell? a=some (.pointer (some p))):
    (ReflectliteValue.method (ReflectliteValue.valueError "reflectlite.Value.Elem" 0) ReflectliteValue.elem #[.agg #[EX,.pointer (some a),.int .u64 150]]).run prog W
      = .ok (.agg #[hP,.pointer (some p),.int .u64 406]) W:=by
  obtain⟨k,hk,hr⟩:∃k,ReflectliteValue.method (ReflectliteValue.valueError "reflectlite.Value.Elem" 0) ReflectliteValue.elem #[.agg #[EX,.pointer (some a),.int .u64 150]]=(ReflectliteValue.parts (.agg #[EX,.pointer (some a),.int .u64 150])>>=k)/\(k (some (213,a,150))).run prog W=.ok (.agg #[hP,.pointer (some p),.int .u64 406]) W:=
    ⟨_,rfl,by simp[ReflectliteValue.elem,loadVar,isAgg,underlying,underlying213,ha,Result.andThen,U5,mkP]⟩
  rw[hk];simp only[Sem.run_bind,O3,Result.andThen];exact hr
end
section
open Go.RowKit Go.Extern.Stop Go.Stop Go.Extern
set_option maxHeartbeats 4000000
theorem zM (h:Value)(w:World):(Go.method 530 302 (.agg #[h]) "Kind").run prog w=.ok (319,h) w:=by kernel_rfl
theorem zN (h:Value)(w:World):(Go.method 530 302 (.agg #[h]) "Elem").run prog w=.ok (333,.agg #[h]) w:=by kernel_rfl
theorem ni (h:Value)(w:World):(Go.method 530 302 (.agg #[h]) "Implements").run prog w=.ok (334,.agg #[h]) w:=by kernel_rfl
theorem kR (h:Value)(w:World):(Go.method 530 302 (.agg #[h]) "AssignableTo").run prog w=.ok (331,.agg #[h]) w:=by kernel_rfl
theorem YN (a:Addr)(w:World):(ReflectliteValue.parts (.agg #[hP,.pointer (some a),.int .u64 406])).run prog w=.ok (some (113,a,406)) w:=by kernel_rfl
theorem a2g (a:Addr)(w:World):(ReflectliteValue.parts (.agg #[hP,.pointer (some a),.int .u64 150])).run prog w=.ok (some (113,a,150)) w:=by kernel_rfl
theorem YO (w:World):(Rtype.directlyAssignable 113 113).run prog w=.ok true w:=by kernel_rfl
theorem aal (ta b e:Addr)(old:Value)(W:World)(hb:W.cell? b=some (.pointer (some e)))(ht:W.cell? ta=some old)(hf:W.frozen? ta=false):
    (ReflectliteValue.set #[.agg #[hP,.pointer (some ta),.int .u64 406],.agg #[hP,.pointer (some b),.int .u64 150]]).run prog W
      = .ok (.tuple #[]) (W.setCell ta (.pointer (some e))):=by
  obtain⟨k,hk,hr⟩:∃k:Option (TypeId×Addr×Nat)->Option (TypeId×Addr×Nat)->Sem Value,ReflectliteValue.set #[.agg #[hP,.pointer (some ta),.int .u64 406],.agg #[hP,.pointer (some b),.int .u64 150]]=(ReflectliteValue.parts (.agg #[hP,.pointer (some ta),.int .u64 406])>>=fun p=>ReflectliteValue.parts (.agg #[hP,.pointer (some b),.int .u64 150])>>=fun q=>k p q)/\(k (some (113,ta,406)) (some (113,b,150))).run prog W=.ok (.tuple #[]) (W.setCell ta (.pointer (some e))):=by
    refine⟨_,rfl,?_⟩;simp[ReflectliteValue.flagAddr,loadVar,isAgg,underlying,underlying113,hb,Result.andThen,YO,storeVar,Value.cells,storeCells,Addr.add];rw[run_store prog W ta _ _ (by rfl)];simp[ht,hf]
  rw[hk];simp only[Sem.run_bind,YN,a2g,Result.andThen];exact hr
theorem a6t (v:Value)(xT:TypeId)(w:World):(Instr.typeAssert (.iface 390 v) xT 306 true).run prog w=.ok (.tuple #[.nilIface,.bool false]) w:=run_typeAssert_lacksB underlying306 (by kernel_rfl) (by kernel_rfl) v xT w
theorem wG (v:Value)(xT:TypeId)(w:World):(Instr.typeAssert (.iface 390 v) xT 309 true).run prog w=.ok (.tuple #[.nilIface,.bool false]) w:=run_typeAssert_lacksB underlying309 (by kernel_rfl) (by kernel_rfl) v xT w
theorem tZ (v:Value)(xT:TypeId)(w:World):(Instr.typeAssert (.iface 390 v) xT 310 true).run prog w=.ok (.tuple #[.nilIface,.bool false]) w:=run_typeAssert_lacksB underlying310 (by kernel_rfl) (by kernel_rfl) v xT w
theorem lt_of_cell {w:World}{a:Addr}{v:Value}(h:w.cell? a=some v):a.block<w.heap.size:=by
  rcases Nat.lt_or_ge a.block w.heap.size with h'|h'
  · exact h'
  · simp[World.cell?,Array.getElem?_eq_none h'] at h
abbrev Yc (n:Nat):Array Value:=#[EX,aj n,.int .u64 150]
theorem YP (e t:Addr)(w:World)(hg:w.cell? (ag 11 0)=some (.iface 302 (.agg #[hE]))):
    ak 130 #[.iface 390 (.pointer (some e)),.iface 213 (.pointer (some t))] w fun ev w'=>ev=.returned (.bool false)/\Below w.heap.size w w':=by
  have h6:=@run_callFunc_extern prog 179 _ (fun args=>ReflectliteValue.unpack (args.getD 0 (.tuple #[]))) func179 (by kernel_rfl) (by kernel_rfl) (by kernel_rfl) (by kernel_rfl);have h7:=@run_callFunc_extern prog 180 _ (ReflectliteValue.methodAny (ReflectliteValue.valueError "reflectlite.Value.Type" 0) (fun t _ _ _=>ReflectliteType.toType t)) func180 (by kernel_rfl) (by kernel_rfl) (by kernel_rfl) (by kernel_rfl);have h8:=@run_callFunc_extern prog 181 _ (ReflectliteValue.method (ReflectliteValue.valueError "reflectlite.Value.IsNil" 0) ReflectliteValue.isNil) func181 (by kernel_rfl) (by kernel_rfl) (by kernel_rfl) (by kernel_rfl);have h27:=@run_callFunc_extern prog 319 _ (ReflectliteType.abiMethod fun t=>do pure (.int .u8 (<- Rtype.kind t))) func319 (by kernel_rfl) (by kernel_rfl) (by kernel_rfl) (by kernel_rfl);have h37:=@run_callFunc_extern prog 333 _ (ReflectliteType.method ReflectliteType.elem) func333 (by kernel_rfl) (by kernel_rfl) (by kernel_rfl) (by kernel_rfl);have h38:=@run_callFunc_extern prog 334 _ (ReflectliteType.relation "Implements" ReflectliteType.implements_) func334 (by kernel_rfl) (by kernel_rfl) (by kernel_rfl) (by kernel_rfl);have h10:=@run_callFunc_extern prog 204 _ ReflectliteType.typeOf func204 (by kernel_rfl) (by kernel_rfl) (by kernel_rfl) (by kernel_rfl);have h35:=@run_callFunc_extern prog 331 _ (ReflectliteType.relation "AssignableTo" ReflectliteType.assignableTo) func331 (by kernel_rfl) (by kernel_rfl) (by kernel_rfl) (by kernel_rfl);have tO:=uO;have mA:=kR;have a25:=Ho;have f6:=Dw;have f7:=TW;have mK:=zM;have mE:=zN;have mI:=ni;have k27:=TZ;have k25:=a1l;have e27:=O5;have i25:=xN;have nA:=a6t;have nU:=wG;have nUs:=tZ;have n8:=O4 ⟨w.heap.size,0,none⟩ t ((w.alloc (.cells #[.pointer (some t)] 213)).alloc (.cells (Yc w.heap.size) 253)) (by simp);have hlt:=lt_of_cell hg
  have hg2:((w.alloc (.cells #[.pointer (some t)] 213)).alloc (.cells (Yc w.heap.size) 253)).cell? (ag 11 0)=some (.iface 302 (.agg #[hE])):=by
    rw[World.cell?_alloc_lt _ _ ⟨11,0,none⟩ (by simp at hlt⊢;omega),World.cell?_alloc_lt _ _ ⟨11,0,none⟩ hlt];exact hg
  simp only[EX,hP,hE,hS,Yc] at*;go_enter func130,ntmps130;go_wp2;refine wp_loop_rounds 1 ?_;rw[rounds_succ];go_wp2;go_ret;exact⟨rfl,((((Below.refl _ _).alloc eU _).alloc (by simp) _).alloc (by simp;omega) _)⟩
theorem a2h (e t:Addr)(old:Value)(w:World)(hg:w.cell? (ag 11 0)=some (.iface 302 (.agg #[hE])))(ht0:w.cell? t=some old)(hf0:w.frozen? t=false):
    ak 130 #[.iface 113 (.pointer (some e)),.iface 213 (.pointer (some t))] w fun ev w'=>ev=.returned (.bool true)/\∃w1,Below w.heap.size w w1/\w'=w1.setCell t (.pointer (some e)):=by
  have h6:=@run_callFunc_extern prog 179 _ (fun args=>ReflectliteValue.unpack (args.getD 0 (.tuple #[]))) func179 (by kernel_rfl) (by kernel_rfl) (by kernel_rfl) (by kernel_rfl);have h7:=@run_callFunc_extern prog 180 _ (ReflectliteValue.methodAny (ReflectliteValue.valueError "reflectlite.Value.Type" 0) (fun t _ _ _=>ReflectliteType.toType t)) func180 (by kernel_rfl) (by kernel_rfl) (by kernel_rfl) (by kernel_rfl);have h8:=@run_callFunc_extern prog 181 _ (ReflectliteValue.method (ReflectliteValue.valueError "reflectlite.Value.IsNil" 0) ReflectliteValue.isNil) func181 (by kernel_rfl) (by kernel_rfl) (by kernel_rfl) (by kernel_rfl);have h27:=@run_callFunc_extern prog 319 _ (ReflectliteType.abiMethod fun t=>do pure (.int .u8 (<- Rtype.kind t))) func319 (by kernel_rfl) (by kernel_rfl) (by kernel_rfl) (by kernel_rfl);have h37:=@run_callFunc_extern prog 333 _ (ReflectliteType.method ReflectliteType.elem) func333 (by kernel_rfl) (by kernel_rfl) (by kernel_rfl) (by kernel_rfl);have h38:=@run_callFunc_extern prog 334 _ (ReflectliteType.relation "Implements" ReflectliteType.implements_) func334 (by kernel_rfl) (by kernel_rfl) (by kernel_rfl) (by kernel_rfl);have h10:=@run_callFunc_extern prog 204 _ ReflectliteType.typeOf func204 (by kernel_rfl) (by kernel_rfl) (by kernel_rfl) (by kernel_rfl);have h35:=@run_callFunc_extern prog 331 _ (ReflectliteType.relation "AssignableTo" ReflectliteType.assignableTo) func331 (by kernel_rfl) (by kernel_rfl) (by kernel_rfl) (by kernel_rfl);have h11:=@run_callFunc_extern prog 222 _ (ReflectliteValue.method (ReflectliteValue.valueError "reflectlite.Value.Elem" 0) ReflectliteValue.elem) func222 (by kernel_rfl) (by kernel_rfl) (by kernel_rfl) (by kernel_rfl);have h12:=@run_callFunc_extern prog 223 _ ReflectliteValue.set func223 (by kernel_rfl) (by kernel_rfl) (by kernel_rfl) (by kernel_rfl);have tO:=YL;have mA:=kR;have a25:=Hl
  have v25:=U4;have f6:=Dw;have f7:=TW;have mK:=zM;have mE:=zN;have mI:=ni;have k27:=TZ;have k25:=a1l;have e27:=O5;have i25:=xN;have n8:=O4 ⟨w.heap.size,0,none⟩ t ((w.alloc (.cells #[.pointer (some t)] 213)).alloc (.cells (Yc w.heap.size) 253)) (by simp);have hlt:=lt_of_cell hg;have htl:=lt_of_cell ht0;have hg2:((w.alloc (.cells #[.pointer (some t)] 213)).alloc (.cells (Yc w.heap.size) 253)).cell? (ag 11 0)=some (.iface 302 (.agg #[hE])):=by
    rw[World.cell?_alloc_lt _ _ ⟨11,0,none⟩ (by simp at hlt⊢;omega),World.cell?_alloc_lt _ _ ⟨11,0,none⟩ hlt];exact hg
  have el:=YM ⟨w.heap.size,0,none⟩ t (((w.alloc (.cells #[.pointer (some t)] 213)).alloc (.cells (Yc w.heap.size) 253)).alloc (.cells (Yc w.heap.size) 253)) (by rw[World.cell?_alloc_lt _ _ ⟨w.heap.size,0,none⟩ (by simp;omega)];simp);have st:=aal t ⟨w.heap.size+1+1+1,0,none⟩ e old ((((w.alloc (.cells #[.pointer (some t)] 213)).alloc (.cells (Yc w.heap.size) 253)).alloc (.cells (Yc w.heap.size) 253)).alloc (.cells #[.pointer (some e)] 113))
    (by rw[World.cell?_alloc_at _ _ _ _ (by simp)];rfl)
    (by rw[World.cell?_alloc_lt _ _ t (by simp;omega),World.cell?_alloc_lt _ _ t (by simp;omega),World.cell?_alloc_lt _ _ t (by simp;omega),World.cell?_alloc_lt _ _ t htl];exact ht0)
    (by rw[World.frozen?_alloc_old _ _ t (by simp;omega),World.frozen?_alloc_old _ _ t (by simp;omega),World.frozen?_alloc_old _ _ t (by simp;omega),World.frozen?_alloc_old _ _ t (Nat.ne_of_lt htl)];exact hf0)
  simp only[EX,hP,hE,Yc] at*;go_enter func130,ntmps130;go_wp2;refine wp_loop_rounds 1 ?_;rw[rounds_succ];go_wp2;go_ret;exact⟨rfl,_,((((Below.refl _ _).alloc eU _).alloc (by simp) _).alloc (by simp;omega) _).alloc (by simp;omega) _,rfl⟩
end
section
open Go.RowKit
set_option maxHeartbeats 4000000
set_option maxRecDepth 20000
structure EP (aB aS aZ aV:Addr)(w:World):Prop where
 e3:E3 aB aS aZ w
 v:w.cell? (ag 8 0)=some (.iface 390 (.pointer (some aV)))
 et:w.cell? (ag 11 0)=some (.iface 302 (.agg #[hE]))
theorem EP.below {aB aS aZ aV:Addr}{w w':World}{B:Nat}(h:EP aB aS aZ aV w)(hb:Below B w w')(hB:w.heap.size<=B):EP aB aS aZ aV w':=
 ⟨h.e3.below hb hB,(hb.cell (Nat.lt_of_lt_of_le (ay h.v) hB)).trans h.v,(hb.cell (Nat.lt_of_lt_of_le (ay h.et) hB)).trans h.et⟩
def a0f (r:ByteArray):Prop:=r.toList=TT\/r.toList=a1k
instance (r:ByteArray):Decidable (a0f r):=by unfold a0f;infer_instance
theorem ba_eq {a b:ByteArray}(h:a.toList=b.toList):a=b:=by
 rw[ByteArray.toList_eq,ByteArray.toList_eq] at h;cases a;cases b;simpa using h
def a2i (l:List Qt)(p:Qt)(r:ByteArray)(hv:Bool)(v:Value):Prop:=
 (jS l/\fU p=0/\a0f r/\hv=holdB l r p/\v=.nilIface)\/(¬(jS l/\fU p=0/\a0f r)/\(jS l->fU p=0->∃a,v=.iface 390 (.pointer (some a)))/\YH v)
theorem xO (aV:Addr)(l:List Qt)(o:Option Addr)(cap:Nat)(p:Qt)(r:ByteArray)(w:World)(h1:(r.toList==[119,105,110,100])=false)(h2:(r.toList==[101,118,101,110])=false)(hV:w.cell? (ag 8 0)=some (.iface 390 (.pointer (some aV)))):
  ak 129 #[.agg #[.slice o l.length cap],lS p,.string r] w fun e W=>e=.returned (.tuple #[.bool false,.iface 390 (.pointer (some aV))])/\Below w.heap.size w W:=by
 go_enter func129,ntmps129;go_upto_region 1 with fail;obtain⟨U,hU⟩:∃U,(w.alloc (.cells #[.slice o l.length cap] 136)).alloc (.cells #[aa p.xn,aa p.xd,aa p.yn,aa p.yd] 177)=U:=⟨_,rfl⟩;obtain⟨cS,⟨g0,g1,g2,g3⟩,sH⟩:=wD w _ _ _ _ _ _ _ U hU;have hVU:=(sH.cell (ay hV)).trans hV;rw[hU];clear hU hV;have hVd:U.drew.cell? (ag 8 0)=some (.iface 390 (.pointer (some aV))):=hVU;go_wp2_with fail;go_region
 all_goals
  go_wp2_with fail;refine bodyPost_ret (results_tmp2 rfl _ _ _) rfl ?_;exact⟨rfl,sH.drew⟩
theorem Qc (aB aS aZ aV:Addr)(l:List Qt)(o:Option Addr)(cap:Nat)(p:Qt)(r:ByteArray)(w:World)(h:dM w o l)(hp:PI p)(hE:EP aB aS aZ aV w):
  ak 129 #[.agg #[.slice o l.length cap],lS p,.string r] w fun e W=>∃hv v,a2i l p r hv v/\e=.returned (.tuple #[.bool hv,v])/\Below w.heap.size w W:=by
 by_cases h1:r.toList=TT
 ·have hr:r=⟨#[119,105,110,100]⟩:=ba_eq (by rw[h1,ByteArray.toList_eq];rfl);subst hr;refine(Lt aB aS aZ l o cap p w h hp hE.e3).mono ?_;rintro e W ⟨wd,cr,v,hv,rfl,hb⟩;refine⟨_,_,?_,rfl,hb⟩;rcases hv with⟨k1,k2,rfl,rfl,rfl⟩|⟨k1,rfl,rfl,k2⟩
  ·exact .inl ⟨k1,k2,.inl h1,by rw[holdB,if_pos h1],rfl⟩
  ·exact .inr ⟨fun h=>k1 ⟨h.1,h.2.1⟩,fun a b=>absurd ⟨a,b⟩ k1,k2⟩
 ·by_cases h2:r.toList=a1k
  ·have hr:r=⟨#[101,118,101,110]⟩:=ba_eq (by rw[h2,ByteArray.toList_eq];rfl);subst hr;refine(Lu aB aS aZ l o cap p w h hp hE.e3).mono ?_;rintro e W ⟨wd,cr,v,hv,rfl,hb⟩;refine⟨_,_,?_,rfl,hb⟩;rcases hv with⟨k1,k2,rfl,rfl,rfl⟩|⟨k1,rfl,rfl,k2⟩
   ·exact .inl ⟨k1,k2,.inr h2,by rw[holdB,if_neg h1];rfl,rfl⟩
   ·exact .inr ⟨fun h=>k1 ⟨h.1,h.2.1⟩,fun a b=>absurd ⟨a,b⟩ k1,k2⟩
  ·refine(xO aV l o cap p r w (beq_eq_false_iff_ne.2 h1) (beq_eq_false_iff_ne.2 h2) hE.v).mono ?_;rintro e W ⟨rfl,hb⟩;exact⟨_,_,.inr ⟨fun h=>h.2.2.elim h1 h2,fun _ _=>⟨aV,rfl⟩,.inl ⟨aV,rfl⟩⟩,rfl,hb⟩
end
section
open Go.RowKit
set_option maxHeartbeats 4000000
set_option maxRecDepth 20000
def zO (w:World)(v:Value):Prop:=(∃a,v=.iface 390 (.pointer (some a)))\/(∃pb t,w.cell? (ag pb 1)=some (.iface 390 (.pointer (some t)))/\v=.iface 113 (aj pb))
def iJ (s:Pm):Prop:=jS s.pts/\a0f s.rule
theorem U6 {x y:Int}(h1:0<=x)(h2:x<=100)(h3:0<=y)(h4:y<=100):fU (jw x y)=0/\PI (jw x y):=by
  have hc:∀n:Int,0<=n->n<=100->bK (2*n+1) 2=0:=fun n a b=>by
    rw[dA];refine⟨by decide,?_,by omega,by decide⟩;unfold eF;have:(2*n+1).natAbs=2*n.natAbs+1:=by omega
    rw[this];show Nat.gcd (2*n.natAbs+1) 2=1;rw[Nat.gcd_comm,Nat.gcd_rec];simp
  refine⟨gX.2 ⟨eO.2 ⟨hc x h1 h2,hc y h3 h4⟩,?_⟩,⟨⟨?_,?_⟩,⟨by show(-9223372036854775808:Int)<=2;omega,by show(2:Int)<=9223372036854775807;omega⟩,⟨?_,?_⟩,⟨by show(-9223372036854775808:Int)<=2;omega,by show(2:Int)<=9223372036854775807;omega⟩⟩⟩
  · unfold gV Q5 jw
    rw[if_neg];simp;omega
  all_goals(simp only[jw];omega)
theorem Hq (aB aS aZ aV:Addr)(l:List Qt)(o:Option Addr)(cap:Nat)(p:Qt)(r:ByteArray)(w:World)(h:dM w o l)(hp:PI p)(hE:EP aB aS aZ aV w)(h1:jS l)(h2:fU p=0)(h3:a0f r):
    ak 129 #[.agg #[.slice o l.length cap],lS p,.string r] w fun e W=>e=.returned (.tuple #[.bool (holdB l r p),.nilIface])/\Below w.heap.size w W:=
  (Qc aB aS aZ aV l o cap p r w h hp hE).mono fun e W ⟨hv,v,k,he,hb⟩=>by
    rcases k with⟨-, -, -,rfl,rfl⟩|⟨k, -⟩
    · exact⟨he,hb⟩
    · exact absurd ⟨h1,h2,h3⟩ k
theorem EY (x y:Int)(w:World)(h1: -1000<=x)(h2:x<=1000)(h3: -1000<=y)(h4:y<=1000):
    ak 89 #[aa x,aa y] w fun e W=>e=.returned (lS (jw x y))/\Below w.heap.size w W:=
  (zK x y w h1 h2 h3 h4).mono fun _ _ ⟨h1,h2⟩=>⟨h1,by rw[h2];exact Dv x y w⟩
theorem zO.Hr {aB aS aZ:Addr}{ef:Qt->Nat}{w:World}{l:List Qt}{e:Ending}{W:World}(h:qx aB aS aZ ef w l e W)(hc:∀a,ef a=0\/ef a=2\/ef a=3)(hn:¬∀y∈l,ef y=0):∃v,zO W v/\e=.returned v:=by
  rcases h with⟨h, -⟩|⟨q,x,r,pb, -, -,h3, -,h5,h6,h7⟩
  · exact absurd h hn
  · refine⟨_,?_,h5⟩
    obtain⟨ad,GD⟩:=eT aB aS aZ (show ef x=2\/ef x=3 by have:=hc x;omega);exact .inr ⟨pb,ad,by rw[h7,GD],rfl⟩
theorem zO.a2j {aB aS aZ:Addr}{w:World}{l:List Qt}{e:Ending}{W:World}(h:TM aB aS aZ w l e W):(jS l/\e=.returned .nilIface)\/(¬jS l/\∃v,zO W v/\e=.returned v):=by
  have hp:=h.plain;rcases h with⟨h1,h2⟩|⟨h1,⟨y,hy,hy2⟩,h3⟩|⟨h1,h2,h3⟩
  · exact .inr ⟨fun h=>by have:=h.1;omega,_,.inl ⟨aB,rfl⟩,h2⟩
  · exact .inr ⟨fun h=>hy2 (gX.1 (h.2 y hy)).1,zO.Hr h3 og (fun h=>hy2 (h y hy))⟩
  · by_cases hb:∀y∈l,gV y=0
    · rcases hp with hp|⟨hp, -⟩
      · exact .inl hp
      · exact absurd ⟨h1,fun y hy=>gX.2 ⟨h2 y hy,hb y hy⟩⟩ hp
    · refine .inr ⟨fun h=>hb (fun y hy=>(gX.1 (h.2 y hy)).2),zO.Hr h3 (fun a=>by have:=K8 a;omega) hb⟩
theorem zP (aB aS aZ aV:Addr)(x:P5)(w:World)(h:dM w x.o x.s.pts)(hE:EP aB aS aZ aV w):
    ak 82 #[TV x] w fun e W=>((iJ x.s/\e=.returned .nilIface)\/(¬iJ x.s/\∃v,zO W v/\e=.returned v))/\Below w.heap.size w W:=by
  have C0:=La.new w x 138;have b0:=aL w (.cells (wF x) 138);go_enter func82,ntmps82;go_upto_region 1 with fail;obtain⟨U,hU⟩:∃U,w.alloc (.cells (wF x) 138)=U:=⟨_,rfl⟩;rw[hU] at C0 b0⊢;clear hU;have YQ:=h.below b0 eU;have Hg:=hE.below b0 eU;have CK:=uM aB aS aZ x.s.pts x.o x.cap U YQ Hg.e3;obtain⟨c0,c1,c2,c3,c4⟩:=id C0;go_upto_region 2 with(go_at_call 128;refine CK.mono ?_;rintro e w1 ⟨hc,b1⟩;have hc:=zO.a2j hc;obtain⟨v,rfl,hv⟩:∃v,e=.returned v/\((jS x.s.pts/\v=.nilIface)\/(¬jS x.s.pts/\zO w1 v)):=(by rcases hc with⟨k1,k2⟩|⟨k1,v,k2,k3⟩;exact⟨_,k2,.inl ⟨k1,rfl⟩⟩;exact⟨v,k3,.inr ⟨k1,k2⟩⟩));clear hc CK c0 c1 c2 c3 c4;have C1:=C0.below b1 eU;have tV:=au b0 b1;have hP1:=YQ.below b1 eU;have hE1:=Hg.below b1 eU;rcases hv with⟨hok,rfl⟩|⟨hno,hv⟩
  · go_upto_region 4 with fail
    obtain⟨ec,ip⟩:=U6 (x:=0) (y:=0) (by decide) (by decide) (by decide) (by decide);have CE:∀d os,ak 89 #[aa 0,aa 0] (Go.Sort.grow (redrawn w1 d) os) fun e w''=>e=.returned (lS (jw 0 0))/\∃p:Regrown,w''=Go.Sort.grow (redrawn w1 p.d) p.os:=fun d os=>Calls.regrown_of (EY 0 0 _ (by decide) (by decide) (by decide) (by decide));by_cases hr:a0f x.s.rule
    · have HO:∀d os,ak 129 #[.agg #[.slice x.o x.s.pts.length x.cap],lS (jw 0 0),.string x.s.rule] (Go.Sort.grow (redrawn w1 d) os) fun e w''=>e=.returned (.tuple #[.bool (holdB x.s.pts x.s.rule (jw 0 0)),.nilIface])/\∃p:Regrown,w''=Go.Sort.grow (redrawn w1 p.d) p.os:=fun d os=>Calls.regrown_of (Hq aB aS aZ aV x.s.pts x.o x.cap (jw 0 0) x.s.rule _ (hP1.below (below_regrown w1 d os) eU) ip (hE1.below (below_regrown w1 d os) eU) hok ec hr)
      have r1:=cell_regrown C1.c1;have r3:=cell_regrown C1.c3;refine wp_region_quiet_below (by kernel_rfl) (by kernel_rfl) ?_
      repeat(quiet_step (first|(go_at_call 129;exact HO _ _)|(go_at_call 89;exact CE _ _)))
      refine wpQuiet_nil ?_;intro _ hw';obtain⟨pp,hw''⟩:=hw';subst hw'';have b2:=below_regrown w1 pp.d pp.os;generalize Go.Sort.grow (redrawn w1 pp.d) pp.os=w2 at b2⊢;go_wp2_with fail;go_ret;exact⟨.inl ⟨⟨hok,hr⟩,rfl⟩,au tV b2⟩
    · have h1:(x.s.rule.toList==[119,105,110,100])=false:=beq_eq_false_iff_ne.2 (fun h=>hr (.inl h))
      have h2:(x.s.rule.toList==[101,118,101,110])=false:=beq_eq_false_iff_ne.2 (fun h=>hr (.inr h));have HO:∀d os,ak 129 #[.agg #[.slice x.o x.s.pts.length x.cap],lS (jw 0 0),.string x.s.rule] (Go.Sort.grow (redrawn w1 d) os) fun e w''=>e=.returned (.tuple #[.bool false,.iface 390 (.pointer (some aV))])/\∃p:Regrown,w''=Go.Sort.grow (redrawn w1 p.d) p.os:=fun d os=>Calls.regrown_of (xO aV x.s.pts x.o x.cap (jw 0 0) x.s.rule _ h1 h2 (hE1.below (below_regrown w1 d os) eU).v);have r1:=cell_regrown C1.c1;have r3:=cell_regrown C1.c3;clear h1 h2;refine wp_region_quiet_below (by kernel_rfl) (by kernel_rfl) ?_
      repeat(quiet_step (first|(go_at_call 129;exact HO _ _)|(go_at_call 89;exact CE _ _)))
      refine wpQuiet_nil ?_;intro _ hw';obtain⟨pp,hw''⟩:=hw';subst hw'';have b2:=below_regrown w1 pp.d pp.os;generalize Go.Sort.grow (redrawn w1 pp.d) pp.os=w2 at b2⊢;go_wp2_with fail;go_ret;exact⟨.inr ⟨fun h=>hr h.2,_,.inl ⟨aV,rfl⟩,rfl⟩,au tV b2⟩
  · have hno':¬iJ x.s:=fun h=>hno h.1
    rcases hv with⟨a,rfl⟩|⟨pb,t,hcl,rfl⟩
    · go_wp2_with fail
      go_ret;exact⟨.inr ⟨hno',_,.inl ⟨a,rfl⟩,rfl⟩,tV⟩
    · go_wp2_with fail
      go_ret;exact⟨.inr ⟨hno',_,.inr ⟨pb,t,hcl,rfl⟩,rfl⟩,tV⟩
theorem wH (aB aS aZ aV:Addr)(v:Value)(w:World)(h:zO w v)(hE:EP aB aS aZ aV w):
    ak 83 #[v] w fun e W=>(∃a,e=.returned (.iface 390 (.pointer (some a))))/\Below w.heap.size w W:=by
  have b0:=aL w (.cells #[.pointer none] 113);have hE0:=hE.below b0 eU;rcases h with⟨a,rfl⟩|⟨pb,t,hc,rfl⟩
  · have AM:=YP a ⟨w.heap.size,0,none⟩ (w.alloc (.cells #[.pointer none] 113)) hE0.et
    go_enter func83,ntmps83;go_wp2_with(go_at_call 130;refine AM.mono ?_;rintro e w1 ⟨rfl,b1⟩);go_ret;exact⟨⟨a,rfl⟩,au b0 b1⟩
  · have AH:=a2h ⟨pb,0,none⟩ ⟨w.heap.size,0,none⟩ (.pointer none) (w.alloc (.cells #[.pointer none] 113)) hE0.et (by simp) (by simp)
    have hlt:=ay hc;go_enter func83,ntmps83;go_wp2_with fail;refine AH.mono ?_;rintro e w1' ⟨rfl,w1,b1,rfl⟩;have hb1:Below w.heap.size w (w1.setCell ⟨w.heap.size,0,none⟩ (aj pb)):=(au b0 b1).setCell eU _;have q1:=(hb1.cell (p:=⟨pb,1,none⟩) hlt).trans hc;have f1:(w1.setCell ⟨w.heap.size,0,none⟩ (aj pb)).cell? ⟨w.heap.size,0,none⟩=some (aj pb):=by
      have c0:w1.cell? ⟨w.heap.size,0,none⟩=some (.pointer none):=by rw[b1.cell (p:=⟨w.heap.size,0,none⟩) (by simp)];simp
      exact World.cell?_setCell_same' _ _ _ (by rw[c0];rfl)
    generalize (w1.setCell ⟨w.heap.size,0,none⟩ (aj pb))=w3 at hb1 q1 f1⊢;go_wp2;go_ret;exact⟨⟨t,rfl⟩,hb1⟩
theorem wI (aB aS aZ aV:Addr)(l:List P5)(o:Option Addr)(cap:Nat)(w:World)(hl:l.length<=1000)(h:gG w o l)(hP:iC w l)(hE:EP aB aS aZ aV w):
    ak 47 #[.slice o l.length cap] w fun e W=>(((∀x∈l,iJ x.s)/\e=.returned .nilIface)\/((∃x∈l,¬iJ x.s)/\∃a,e=.returned (.iface 113 (.pointer (some a)))))/\Below w.heap.size w W:=by
  go_enter func47,ntmps47;go_wp2
  go_loopw [8] (fun i wr=>∃k:Nat,k<=l.length/\i=aa k/\(∀x∈l.take k,iJ x.s)/\Below w.heap.size w wr) (fun i _=>l.length-(intOf i).toNat)
  case atStart=>exact⟨0,Nat.zero_le _,rfl,(fun a ha=>by simp at ha),Below.refl _ _⟩
  case round=>
    obtain⟨k,hk,rfl,hrt,hb⟩:=hrel;by_cases hlt:k<l.length
    · have hlt':(k:Int)<(l.length:Int):=by omega
      obtain⟨x,hx⟩:∃x,l[k]? =some x:=⟨_,List.getElem?_eq_getElem hlt⟩;have hmem:x∈l:=List.mem_of_getElem? hx;obtain⟨b,off,rfl,hC⟩:=h.below hb eU k x hx;have C0:=La.new wr x 138;have b1:=aL wr (.cells (wF x) 138);have bw:=au hb b1;have CP:=zP aB aS aZ aV x (wr.alloc (.cells (wF x) 138)) ((hP x hmem).below bw eU) (hE.below bw eU);obtain⟨c0,c1,c2,c3,c4⟩:=hC;have HX:Hid (l[k]? =some x):=hx;clear hx;go_upto_region 5 with(go_at_call 82;refine CP.mono ?_;rintro e w1 ⟨hc,b2⟩;obtain⟨v,rfl,hv⟩:∃v,e=.returned v/\((iJ x.s/\v=.nilIface)\/(¬iJ x.s/\zO w1 v)):=(by rcases hc with⟨k1,k2⟩|⟨k1,v,k2,k3⟩;exact⟨_,k2,.inl ⟨k1,rfl⟩⟩;exact⟨v,k3,.inr ⟨k1,k2⟩⟩));clear hc CP;have NY:=au bw b2;rcases hv with⟨hok,rfl⟩|⟨hno,hv⟩
      · go_wp2_with fail
        go_roundw
        case rel=>exact⟨k+1,by omega,by go_num,fun y hy=>by rw[List.take_add_one,HX.out] at hy;rcases List.mem_append.1 hy with hy|hy;exact hrt y hy;simp at hy;subst hy;exact hok,NY⟩
        case measure=>simp[intOf];omega
      · have WP:=wH aB aS aZ aV v w1 hv (hE.below NY eU)
        have key:∀v',v'=v->((∃a,v'=Value.iface 390 (.pointer (some a)))\/(∃a,v'=Value.iface 113 (.pointer (some a)))):=fun v' e=>by
          subst e;rcases hv with h|⟨pb,t, -,h⟩
          · exact .inl h
          · exact .inr ⟨_,h⟩
        have key:=key v rfl;clear hv;rcases key with⟨a,rfl⟩|⟨a,rfl⟩
        · go_wp2_with(go_at_call 83;refine WP.mono ?_;rintro e w2 ⟨⟨a2,rfl⟩,b3⟩)
          go_ret;have wC:=au NY b3;exact⟨.inr ⟨⟨x,hmem,hno⟩,_,rfl⟩,wC.alloc wC.size _⟩
        · go_wp2_with(go_at_call 83;refine WP.mono ?_;rintro e w2 ⟨⟨a2,rfl⟩,b3⟩)
          go_ret;have wC:=au NY b3;exact⟨.inr ⟨⟨x,hmem,hno⟩,_,rfl⟩,wC.alloc wC.size _⟩
    · obtain rfl:k=l.length:=by omega
      go_wp2_with fail;go_ret;rw[List.take_length] at hrt;exact⟨.inl ⟨hrt,rfl⟩,hb⟩
end
section
open Go.RowKit Go.Shelf
set_option maxHeartbeats 8000000
set_option maxRecDepth 100000
attribute [local go_sem] Oper.semAt_some
structure BkI (w0:World) where
 ix:Nat
 x:P5
 hp:dM w0 x.o x.s.pts
 ok:iJ x.s
abbrev bkV {w0:World}(e:BkI w0):Array Value:=#[aa e.ix,TV e.x]
theorem a1m (w0:World)(l:List P5)(hP:iC w0 l)(hk:∀x∈l,iJ x.s):∀n,n<=l.length->∃xs:List (BkI w0),xs.length=n/\xs.map (·.x)=(l.take n).reverse/\∀k e,xs[k]? =some e->e.ix=n-1-k
 |0,_=>⟨[],rfl,rfl,fun k e h=>by simp at h⟩
 |n+1,hn=>by
  obtain⟨xs,h1,h2,h3⟩:=a1m w0 l hP hk n (by omega);have hl:l[n]? =some l[n]:=List.getElem?_eq_getElem (by omega);have hm:l[n]∈l:=List.getElem_mem _;refine⟨⟨n,l[n],hP _ hm,hk _ hm⟩::xs,by simp[h1],?_,fun k e h=>?_⟩
  ·rw[List.map_cons,h2];have e:l.take (n+1)=l.take n++[l[n]]:=H6 l n (by omega);rw[e,List.reverse_append];rfl
  ·cases k with
   |zero=>simp at h;rw[<- h];simp
   |succ k=>have:=h3 k e (by simpa using h);omega
def bkT (Bs:Nat)(o:Option Addr)(l:List P5)(k:Nat):Prop:=k=Bs\/(l≠[]/\∃off,o=some ⟨k,off,none⟩)
theorem gG.kept {w w':World}{o:Option Addr}{l:List P5}{Bs:Nat}(h:gG w o l)(hk:ry (bkT Bs o l) w w'):gG w' o l:=fun i a ha=>by
 obtain⟨b,off,h1,c0,c1,c2,c3,c4⟩:=h i a ha;have hb:=hk b (.inr ⟨by rintro rfl;simp at ha,off,h1⟩);exact⟨b,off,h1,(cell_of_heap (p:=⟨b,_,none⟩) hb).trans c0,(cell_of_heap (p:=⟨b,_,none⟩) hb).trans c1,(cell_of_heap (p:=⟨b,_,none⟩) hb).trans c2,(cell_of_heap (p:=⟨b,_,none⟩) hb).trans c3,(cell_of_heap (p:=⟨b,_,none⟩) hb).trans c4⟩
theorem U7 (l:List P5)(w0:World)(xs:List (BkI w0))(hxl:xs.length=l.length)(hxs:xs.map (·.x)=l.reverse)(hix:∀k e,xs[k]? =some e->e.ix=l.length-1-k)(hl:l.length<=1000)(o:Option Addr)(cap n Bs:Nat)(hB:w0.heap[Bs]? =some (.cells #[.slice o l.length cap] 73))(hP:gG w0 o l):
  SeqStopsK Fence.wide n prog 184 #[aj Bs] bkV (ry (bkT Bs o l)) (fun ys=>ys=xs) (fun p=>p<+:xs) xs.length w0:=by
 intro L J Jx W hW hJ hJx hY h0;have hBl:Bs<w0.heap.size:=(Array.getElem?_eq_some_iff.1 hB).1;have hBW:W.heap[Bs]? =some (.cells #[.slice o l.length cap] 73):=(hW.block Bs hBl).trans hB;have c0:W.cell? (ag Bs 0)=some (.slice o l.length cap):=by simp[World.cell?,hBW]
 have hPW:=hP.below hW eU;refine callsIn_of_wp func184 rfl trivial ?_ rfl;simp only[ntmps184,List.size_toArray,List.length_cons,List.length_nil,Nat.reduceAdd,Nat.reduceSub,Array.replicate_succ,Array.replicate_zero,List.push_toArray,List.append_toArray,List.nil_append,List.cons_append]
 gi_wp2
 gi_loopw [3] (fun i wr=>∃k:Nat,k<=l.length/\i=aa ((l.length:Int)-1-k)/\J (xs.take k) wr/\ry (bkT Bs o l) W wr) (fun i _=>(intOf i+1).toNat)
 case atStart=>exact⟨0,Nat.zero_le _,by simp,h0,ry.refl _⟩
 case round=>
  obtain⟨k,hk,rfl,hJs,hnx⟩:=hrel;by_cases hlt:k<l.length
  ·have hkx:k<xs.length:=by omega
   obtain⟨x,hxk⟩:∃x,xs[k]? =some x:=⟨_,List.getElem?_eq_getElem hkx⟩;have hi:=hix k x hxk;have hge:l[l.length-1-k]? =some x.x:=by
    have h1:(xs.map (·.x))[k]? =some x.x:=by rw[List.getElem?_map,hxk];rfl
    rw[hxs,List.getElem?_reverse hlt] at h1;exact h1
   have hts:xs.take (k+1)=xs.take k++[x]:=by rw[List.take_add_one,hxk];rfl
   have hpl:(xs.take k).length<xs.length:=by rw[List.length_take];omega
   obtain⟨j,hj⟩:∃j:Nat,l.length-1-k=j:=⟨_,rfl⟩;rw[hj] at hi hge;have hjz:(l.length:Int)-1-k=(j:Int):=by omega
   have hjl:j<l.length:=by omega
   have agK:(j:Int)<(l.length:Int):=by omega
   obtain⟨bb,off,ho,q0,q1,q2,q3,q4⟩:=hPW.kept hnx j x.x hge;have cB:=(cell_of_heap (p:=⟨Bs,0,none⟩) (hnx Bs (.inl rfl))).trans c0;subst ho;obtain⟨fn,tmps,assign,body,hy,hR⟩:=hY (xs.take k) x wr hJs hpl;have HTS:Hid (xs.take (k+1)=xs.take k++[x]):=hts;have HJ:Hid (j+k+1=l.length):=(by omega:j+k+1=l.length);rw[hjz];unfold bkV at hy;rw[hi] at hy;clear hts hpl hge hi hj hxk hjz
   gi_wp2
   refine⟨(fun h=>by cases h),hR.mono ?_⟩;rintro e W3 (⟨rfl,hJ3,hk3⟩|⟨rfl,hJx3⟩)
   ·gi_wp2
    go_roundw
    case rel=>exact⟨k+1,by omega,by have:=HJ.out;congr 1;omega,by rw[HTS.out];exact hJ3,hnx.trans hk3⟩
    case measure=>simp[intOf]
   ·gi_wp2
    refine bodyPost_ret (results_none rfl _ _ _) rfl ?_;exact⟨⟨_,rfl⟩,.inr ⟨_,by rw[<- HTS.out];exact List.take_prefix _ _,hJx3⟩⟩
  ·obtain rfl:k=l.length:=by omega
   have hz:(l.length:Int)-1-(l.length:Nat)= -1:=by omega
   rw[hz]
   gi_wp2
   go_end0
   exact⟨⟨_,rfl⟩,.inl ⟨_,by rw[List.take_of_length_le (by omega)],hJs⟩⟩
theorem EZ (o:Option Addr)(n c:Nat)(W:World):ak 134 #[.slice o n c] W fun e w'=>e=.returned (.func (.func 184) #[] #[aj W.heap.size])/\w'=W.alloc (.cells #[.slice o n c] 73):=by
 go_enter func134,ntmps134;go_wp2;go_ret;exact⟨rfl,rfl⟩
structure ShI (p:Qt)(B1 B2 N:Nat)(W:World):Prop where
 f:Four W B1 (aa p.xn) (aa p.xd) (aa p.yn) (aa p.yd)
 r:W.heap[B2]? =some (.cells #[.string ⟨#[]⟩] 9)
 sz:N<=W.heap.size
theorem ShI.below {p:Qt}{B1 B2 N:Nat}{A B:World}(h:ShI p B1 B2 N A)(hb:Below A.heap.size A B):ShI p B1 B2 N B:=
 ⟨h.f.below hb eU,(hb.block _ (Array.getElem?_eq_some_iff.1 h.r).1).trans h.r,Nat.le_trans h.sz hb.size⟩
theorem Ht {A C:World}{row:Option Nat}{U k:Nat}{o:Obj}(h:A.heap[k]? =some o)(hk:k<U)(hg:A.grownBy C row)(hr:∀r,row=some r->U<=r/\∃o:Obj,A.heap[r]? =some o/\o.isCells=false):C.heap[k]? =some o:=
 (hg.block k (Array.getElem?_eq_some_iff.1 h).1 (fun e=>by have:=(hr k e.symm).1;omega)).trans h
theorem Hu {w:World}{b:Nat}{v:Value}{t:TypeId}(h:w.heap[b]? =some (.cells #[v] t))(u:Value):(w.setCell ⟨b,0,none⟩ u).heap[b]? =some (.cells #[u] t):=by
 rw[heap_setCell_same w b 0 _ _ _ h];rfl
theorem rA {w:World}{b:Nat}{v:Value}{t:TypeId}(h:w.heap[b]? =some (.cells #[v] t)):w.cell? (ag b 0)=some v:=by simp[World.cell?,h]
theorem Dx {w:World}{b:Nat}{v:Value}{t:TypeId}(h:w.heap[b]? =some (.cells #[v] t)):w.frozen? ⟨b,0,none⟩=false:=by
 unfold World.frozen?;rw[h];simp
def zQ {w0:World}(p:Qt)(pre:List (BkI w0)):Prop:=∀e∈pre,holdB e.x.s.pts e.x.s.rule p=false
theorem zQ.snoc {w0:World}{p:Qt}{pre:List (BkI w0)}{e:BkI w0}(h:zQ p pre)(he:holdB e.x.s.pts e.x.s.rule p=false):zQ p (pre++[e]):=fun x hx=>by
 rcases List.mem_append.1 hx with hx|hx
 ·exact h x hx
 ·simp at hx;subst hx;exact he
theorem zQ.pm {w0:World}{p:Qt}{pre:List (BkI w0)}(h:zQ p pre):∀s∈pre.map (·.x.s),holdB s.pts s.rule p=false:=fun s hs=>by
 obtain⟨e,he,rfl⟩:=List.mem_map.1 hs;exact h e he
theorem LG (aB aS aZ aV:Addr)(l:List P5)(o:Option Addr)(cap:Nat)(p:Qt)(w:World)(hl:l.length<=1000)(h:gG w o l)(hP:iC w l)(hk:∀x∈l,iJ x.s)(hp:PI p)(hpe:fU p=0)(hE:EP aB aS aZ aV w):
  CallsIn Fence.wide 9 prog 88 #[.slice o l.length cap,lS p] w fun e W=>e=.returned (.string (fZ (sP l) p))/\Below w.heap.size w W:=by
 refine callsIn_of_wp_marks func88 rfl trivial ?_ rfl;simp only[ntmps88,List.size_toArray,List.length_cons,List.length_nil,Nat.reduceAdd,Nat.reduceSub,Array.replicate_succ,Array.replicate_zero,List.push_toArray,List.append_toArray,List.nil_append,List.cons_append]
 gi_wp2
 obtain⟨U,hU⟩:∃U,(w.alloc (.cells #[aa p.xn,aa p.xd,aa p.yn,aa p.yd] 177)).alloc (.cells #[.string ⟨#[]⟩] 9)=U:=⟨_,rfl⟩;have F0:=Four.new w (aa p.xn) (aa p.xd) (aa p.yn) (aa p.yd) 177;have b0:=aL w (.cells #[aa p.xn,aa p.xd,aa p.yn,aa p.yd] 177);have b1:=aL (w.alloc (.cells #[aa p.xn,aa p.xd,aa p.yn,aa p.yd] 177)) (.cells #[.string ⟨#[]⟩] 9);have r1:=World.alloc_heap_new (w.alloc (.cells #[aa p.xn,aa p.xd,aa p.yn,aa p.yd] 177)) (.cells #[.string ⟨#[]⟩] 9);have F1:=F0.below b1 eU;rw[show(w.alloc (.cells #[aa p.xn,aa p.xd,aa p.yn,aa p.yd] 177)).heap.size=w.heap.size+1 from by simp] at r1;have bU:=au b0 b1;rw[hU] at F1 r1 bU;rw[hU];clear hU F0 b0 b1;refine⟨trivial,(callsIn_wide.2 (EZ o l.length cap U)).mono ?_⟩;rintro e w3 ⟨rfl,hw3⟩;have b3:=aL U (.cells #[.slice o l.length cap] 73);have hX:w3.heap[U.heap.size]? =some (.cells #[.slice o l.length cap] 73):=by rw[hw3];exact World.alloc_heap_new U _
 rw[<- hw3] at b3;clear hw3;have wC:=au bU b3;have hlt3:U.heap.size<w3.heap.size:=(Array.getElem?_eq_some_iff.1 hX).1;have hP3:=hP.below wC eU;have h3:=h.below wC eU;have LH:=hE.below wC eU;obtain⟨xs,hx1,hx2,hx3⟩:=a1m w3 l hP3 hk l.length eU;rw[List.take_length] at hx2;have hUs:w.heap.size+1<U.heap.size:=(Array.getElem?_eq_some_iff.1 r1).1;have H7:∀k,bkT U.heap.size o l k->k<w3.heap.size/\k≠w.heap.size+1:=fun k hk=>by
  rcases hk with rfl|⟨hne,off,ho⟩
  ·exact⟨hlt3,by omega⟩
  ·cases l with
   |nil=>exact absurd rfl hne
   |cons a l=>
    obtain⟨b,off',e1,h2⟩:=h 0 a rfl;rw[ho] at e1;cases e1;have hk:=ay h2.c0;simp at hk;exact⟨by have:=wC.size;omega,by omega⟩
 have Yb:ShI p w.heap.size (w.heap.size+1) 0 w3:=ShI.below ⟨F1,r1,Nat.zero_le _⟩ b3;have I0:ShI p w.heap.size (w.heap.size+1) w3.heap.size w3:=⟨Yb.f,Yb.r,Nat.le_refl _⟩;have hmap:xs.map (·.x.s)=(sP l).reverse:=by
  have:(xs.map (·.x)).map (·.s)=(l.reverse).map (·.s):=by rw[hx2]
  rw[List.map_map] at this;rw[sP,<- List.map_reverse,<- this];rfl
 have HM:Hid (xs.map (·.x.s)=(sP l).reverse):=hmap;have hseq:=U7 l w3 xs hx1 hx2 hx3 hl o cap (9-1) U.heap.size hX h3;clear Yb hx1 hx2 hx3 hmap F1 r1
 gi_wp2
 refine wpIn_rangeFunc_ownH rfl (by omega) (gf:=184) (lb:=#[aj U.heap.size]) rfl trivial (enters_of func184 (by kernel_rfl) rfl)
  hseq ry.trans (ry.put (fun k hk=>(H7 k hk).1)) (Below.refl _ _) (fun _=>rfl)
  (fun pre W=>ShI p w.heap.size (w.heap.size+1) w3.heap.size W/\Below w.heap.size w W/\Below w3.heap.size w3 W/\zQ p pre)
  (fun c pre W=>c=.ret/\∃U8 e,pre=U8++[e]/\zQ p U8/\holdB e.x.s.pts e.x.s.rule p=true/\W.heap[w.heap.size+1]? =some (.cells #[.string e.x.s.fill] 9)/\Below w.heap.size w W)
  ?own ?aan
  ⟨I0,wC,Below.refl _ _,fun e he=>by cases he⟩
  (fun x a' W=>∃Bx,La W Bx 0 x.x/\a'={tmps:=#[.slice o l.length cap,lS p,undef,aj w.heap.size,.pointer (some ⟨w.heap.size+1,0,none⟩),undef,aj Bx,undef,undef,.slice o l.length cap,.func (.func 184) #[] #[aj U.heap.size],aa x.ix,TV x.x,undef,undef,undef,undef,undef,undef,undef,undef,undef,undef,undef,undef],defers:=[]})
  ?a6u
  ?assign ?body ?done ?stop
 case own=>
  intro pre A B row hs hg hr;obtain⟨hI,hB,hB3,hn⟩:=hs;have hr':∀r,row=some r->∃o:Obj,A.heap[r]? =some o/\o.isCells=false:=fun r e=>(hr r e).2;refine⟨⟨hI.f.kept' hg hr',Ht hI.r (by omega) hg hr,Nat.le_trans hI.sz hg.size⟩,?_,?_,hn⟩
  ·exact⟨hg.os.trans hB.os,hg.tape.trans hB.tape,hg.output.trans hB.output,Nat.le_trans hB.size hg.size,fun k hk=>(hg.block k (Nat.lt_of_lt_of_le hk hB.size) (fun e=>by have:=(hr k e.symm).1;omega)).trans (hB.block k hk)⟩
  ·exact⟨hg.os.trans hB3.os,hg.tape.trans hB3.tape,hg.output.trans hB3.output,Nat.le_trans hB3.size hg.size,fun k hk=>(hg.block k (Nat.lt_of_lt_of_le hk hB3.size) (fun e=>by have:=(hr k e.symm).1;omega)).trans (hB3.block k hk)⟩
 case aan=>
  intro c pre A B row hs hg hr;obtain⟨hc,U8,e,h1,h2,h3',h4,hB⟩:=hs;exact⟨hc,U8,e,h1,h2,h3',Ht h4 (by omega) hg hr,⟨hg.os.trans hB.os,hg.tape.trans hB.tape,hg.output.trans hB.output,Nat.le_trans hB.size hg.size,fun k hk=>(hg.block k (Nat.lt_of_lt_of_le hk hB.size) (fun e=>by have:=(hr k e.symm).1;omega)).trans (hB.block k hk)⟩⟩
 case a6u=>
  intro x a' s A B row hs hg hr;obtain⟨Bx,hC,ha⟩:=hs;have hr':∀r,row=some r->∃o:Obj,A.heap[r]? =some o/\o.isCells=false:=fun r e=>(hr r e).2;exact⟨Bx,⟨cell_kept hC.c0 hg hr',cell_kept hC.c1 hg hr',cell_kept hC.c2 hg hr',cell_kept hC.c3 hg hr',cell_kept hC.c4 hg hr'⟩,ha⟩
 case assign=>
  rintro L pre x W K ⟨hI,hB,hB3,hn⟩ hK
  gi_wp2
  have k1:=aL W (.cells (wF x.x) 138);exact hK _ _ ((KeepsOthers.alloc _ _).from _) (ry.of_below k1 (fun j hj=>by have h1:=(H7 j hj).1;have h2:=hI.sz;omega)) ⟨hI.below k1,au hB k1,au hB3 k1,hn⟩ ⟨W.heap.size,La.new W x.x 138,rfl⟩
 case body=>
  rintro L pre x a' W hl' hr ⟨hI,hB,hB3,hn⟩ ⟨Bx,⟨x0,x1,x2,x3,x4⟩,rfl⟩ hlt;have HO:=Hq aB aS aZ aV x.x.s.pts x.x.o x.x.cap p x.x.s.rule W (x.hp.below hB3 eU) hp (LH.below hB3 eU) x.ok.1 hpe x.ok.2;obtain⟨⟨z0,z1,z2,z3⟩,hr0,hsz⟩:=id hI;have cr:=rA hr0;have fr:=Dx hr0;have HI:Hid (ShI p w.heap.size (w.heap.size+1) w3.heap.size W):=hI;clear hI hr0;cases hh:holdB x.x.s.pts x.x.s.rule p with
  |false=>
   rw[hh] at HO;have HH:Hid (holdB x.x.s.pts x.x.s.rule p=false):=hh;clear hh
   gi_wp2_with (refine⟨trivial,?_⟩;gi_at_call 129;refine(CallsIn.inRound L (callsIn_wide.2 HO)).mono ?_;rintro e w' ⟨rfl,hb⟩)
   exact⟨(tQ hb).from _,ry.of_below hb (fun j hj=>by have h1:=(H7 j hj).1;omega),HI.out.below hb,au hB hb,au hB3 hb,hn.snoc HH.out⟩
  |true=>
   rw[hh] at HO;have HH:Hid (holdB x.x.s.pts x.x.s.rule p=true):=hh;clear hh
   gi_wp2_with (refine⟨trivial,?_⟩;gi_at_call 129;refine(CallsIn.inRound L (callsIn_wide.2 HO)).mono ?_;rintro e w' ⟨rfl,hb⟩;have cr':=(hb.cell (ay cr)).trans cr;have fr':=(hb.frozen (ay cr)).trans fr;have x2':=(hb.cell (ay x2)).trans x2)
   have hI':=HI.out.below hb;exact⟨((tQ hb).trans (KeepsOthers.setCell _ _ _)).from _,rfl,pre,x,rfl,hn,HH.out,Hu hI'.r _,(au hB hb).setCell (by simp) _⟩
 case done=>
  rintro D ys W hD rfl ⟨hI,hB,hB3,hn⟩ hK;have hr0:=hI.r;have cr:=rA hr0;have fr:=Dx hr0;have hsh:fZ (sP l) p=a2e:=by
   unfold fZ;rw[<- HM.out];exact H9 _ _ hn.pm
  gi_wp2
  have hK':=(KeepsOthers.setCell W ⟨w.heap.size+1,0,none⟩ (.string ⟨#[46]⟩)).same D _ hK rfl;refine⟨by simp,.inl ⟨_,_,rfl,run_takeDeferred hK',?_⟩⟩;have hr2:=Hu hr0 (.string ⟨#[46]⟩);have hr3:=(World.putObj_heap_other (w:=W.setCell ⟨w.heap.size+1,0,none⟩ (.string ⟨#[46]⟩)) (o:=.deferred none) (show w.heap.size+1≠D by omega)).trans hr2;have oc:=rA hr3;refine⟨.string ⟨#[46]⟩,?_,by rw[hsh];rfl,(hB.setCell (by simp) _).trans (belowK_b (w:=w) eU _ D _ _ (by have:=wC.size;omega) hK' rfl rfl)⟩;simp[results,results88,go_sem,oc]
 case stop=>
  rintro D c pre W hD hpre ⟨rfl,U8,e,rfl,hn,hh,hr0,hB⟩ hK;have hsh:fZ (sP l) p=e.x.s.fill:=by
   unfold fZ;obtain⟨rest,hrest⟩:=hpre;rw[<- HM.out,<- hrest,List.map_append,List.map_append,List.append_assoc];exact Lv _ _ _ _ hn.pm hh
  gi_wp2
  refine⟨by simp,.inl ⟨_,_,rfl,run_takeDeferred hK,?_⟩⟩;have hr3:=(World.putObj_heap_other (w:=W) (o:=.deferred none) (show w.heap.size+1≠D by omega)).trans hr0;have oc:=rA hr3;refine⟨.string e.x.s.fill,?_,by rw[hsh],hB.trans (belowK_b (w:=w) eU W D _ _ (by have:=wC.size;omega) hK rfl rfl)⟩;simp[results,results88,go_sem,oc]
theorem Hw (aB aS aZ aV:Addr)(l:List P5)(o:Option Addr)(cap:Nat)(p:Qt)(w:World)(hl:l.length<=1000)(h:gG w o l)(hP:iC w l)(hk:∀x∈l,iJ x.s)(hp:PI p)(hpe:fU p=0)(hE:EP aB aS aZ aV w):
  ak 88 #[.slice o l.length cap,lS p] w fun e W=>e=.returned (.string (fZ (sP l) p))/\Below w.heap.size w W:=callsIn_wide.1 (LG aB aS aZ aV l o cap p w hl h hP hk hp hpe hE)
end
end Go.Proofs.YtjfiehbcamfdfaaGreatDoor

/- Parts of the proof. -/
import Derived.Stop.Asserts
import Derived.RowKitTokens
import Derived.Test.YtecneflbncjhpaaGreatDoorQp2
import Derived.Lib.QuietBelow
namespace Go.Proofs.YtecneflbncjhpaaGreatDoor
open Go.Proofs.Tryz
set_option maxHeartbeats 8000000
section
open Go.RowKit Go.Extern.Stop Go.Stop Go.Extern
abbrev GD:ah:=.pointer (some ⟨20,138,none⟩)
abbrev hP:ah:=.pointer (some ⟨20,90,none⟩)
abbrev hE:ah:=.pointer (some ⟨20,26,none⟩)
abbrev hS:ah:=.pointer (some ⟨20,401,none⟩)
theorem Ff (t:Addr)(w:ag):(ReflectliteValue.unpack (.iface 138 (.pointer (some t)))).run prog w
  = .ok (.agg #[GD,ay w.heap.size,.int .u64 150]) (w.alloc (.cells #[.pointer (some t)] 138)):=by kernel_rfl
theorem VW (a:Addr)(w:ag):(ReflectliteValue.methodAny (ReflectliteValue.valueError "reflectlite.Value.Type" 0) (fun t _ _ _=>ReflectliteType.toType t) #[.agg #[GD,.pointer (some a),.int .u64 150]]).run prog w
  = .ok (.iface 235 (.agg #[GD])) w:=by kernel_rfl
theorem VX (w:ag):((ReflectliteType.abiMethod fun t=>(fun a:Nat=>Value.int IntKind.u8 (a:Int))<$>Rtype.kind t) #[GD]).run prog w=.ok (.int .u8 22) w:=by kernel_rfl
theorem a3G (w:ag):((ReflectliteType.abiMethod fun t=>(fun a:Nat=>Value.int IntKind.u8 (a:Int))<$>Rtype.kind t) #[hP]).run prog w=.ok (.int .u8 22) w:=by kernel_rfl
theorem Qg (a:Addr)(w:ag):(ReflectliteValue.parts (.agg #[GD,.pointer (some a),.int .u64 150])).run prog w=.ok (some (138,a,150)) w:=by kernel_rfl
theorem Qh (a p:Addr)(W:ag)(ha:W.cell? a=some (.pointer (some p))):
  (ReflectliteValue.method (ReflectliteValue.valueError "reflectlite.Value.IsNil" 0) ReflectliteValue.isNil #[.agg #[GD,.pointer (some a),.int .u64 150]]).run prog W=.ok (.bool false) W:=by
 obtain⟨k,hk,hr⟩:∃k,ReflectliteValue.method (ReflectliteValue.valueError "reflectlite.Value.IsNil" 0) ReflectliteValue.isNil #[.agg #[GD,.pointer (some a),.int .u64 150]]=(ReflectliteValue.parts (.agg #[GD,.pointer (some a),.int .u64 150])>>=k)/\(k (some (138,a,150))).run prog W=.ok (.bool false) W:=
  ⟨_,rfl,by simp[ReflectliteValue.isNil,loadVar,isAgg,underlying,underlying138,ha,Result.andThen]⟩
 rw[hk];simp only[Sem.run_bind,Qg,Result.andThen];exact hr
theorem Qi (w:ag):(ReflectliteType.method ReflectliteType.elem #[.agg #[GD]]).run prog w=.ok (.iface 235 (.agg #[hP])) w:=by kernel_rfl
theorem yN (w:ag):(ReflectliteType.relation "Implements" ReflectliteType.implements_ #[.agg #[hP],.iface 235 (.agg #[hE])]).run prog w=.ok (.bool true) w:=by kernel_rfl
theorem a0A (v:ah)(w:ag):(ReflectliteType.typeOf #[.iface 90 v]).run prog w=.ok (.iface 235 (.agg #[hP])) w:=by kernel_rfl
theorem wo (v:ah)(w:ag):(ReflectliteType.typeOf #[.iface 401 v]).run prog w=.ok (.iface 235 (.agg #[hS])) w:=by kernel_rfl
theorem Jr (w:ag):(ReflectliteType.relation "AssignableTo" ReflectliteType.assignableTo #[.agg #[hP],.iface 235 (.agg #[hP])]).run prog w=.ok (.bool true) w:=by kernel_rfl
theorem Js (w:ag):(ReflectliteType.relation "AssignableTo" ReflectliteType.assignableTo #[.agg #[hS],.iface 235 (.agg #[hP])]).run prog w=.ok (.bool false) w:=by kernel_rfl
theorem VY (e:Addr)(w:ag):(ReflectliteValue.unpack (.iface 90 (.pointer (some e)))).run prog w
  = .ok (.agg #[hP,ay w.heap.size,.int .u64 150]) (w.alloc (.cells #[.pointer (some e)] 90)):=by kernel_rfl
theorem VZ (w:ag):(Rtype.elem? 138).run prog w=.ok (some 90) w:=by kernel_rfl
theorem mkP (p:Addr)(w:ag):(ReflectliteValue.mk 90 p ReflectliteValue.flagAddr).run prog w=.ok (.agg #[hP,.pointer (some p),.int .u64 406]) w:=by kernel_rfl
theorem a0B (a p:Addr)(W:ag)(ha:W.cell? a=some (.pointer (some p))):
  (ReflectliteValue.method (ReflectliteValue.valueError "reflectlite.Value.Elem" 0) ReflectliteValue.elem #[.agg #[GD,.pointer (some a),.int .u64 150]]).run prog W
   = .ok (.agg #[hP,.pointer (some p),.int .u64 406]) W:=by
 obtain⟨k,hk,hr⟩:∃k,ReflectliteValue.method (ReflectliteValue.valueError "reflectlite.Value.Elem" 0) ReflectliteValue.elem #[.agg #[GD,.pointer (some a),.int .u64 150]]=(ReflectliteValue.parts (.agg #[GD,.pointer (some a),.int .u64 150])>>=k)/\(k (some (138,a,150))).run prog W=.ok (.agg #[hP,.pointer (some p),.int .u64 406]) W:=
  ⟨_,rfl,by simp[ReflectliteValue.elem,loadVar,isAgg,underlying,underlying138,ha,Result.andThen,VZ,mkP]⟩
 rw[hk];simp only[Sem.run_bind,Qg,Result.andThen];exact hr
theorem Ba (h:ah)(w:ag):(Go.method 534 235 (.agg #[h]) "Kind").run prog w=.ok (327,h) w:=by kernel_rfl
theorem Bb (h:ah)(w:ag):(Go.method 534 235 (.agg #[h]) "Elem").run prog w=.ok (341,.agg #[h]) w:=by kernel_rfl
theorem nQ (h:ah)(w:ag):(Go.method 534 235 (.agg #[h]) "Implements").run prog w=.ok (342,.agg #[h]) w:=by kernel_rfl
theorem lX (h:ah)(w:ag):(Go.method 534 235 (.agg #[h]) "AssignableTo").run prog w=.ok (339,.agg #[h]) w:=by kernel_rfl
theorem a0C (a:Addr)(w:ag):(ReflectliteValue.parts (.agg #[hP,.pointer (some a),.int .u64 406])).run prog w=.ok (some (90,a,406)) w:=by kernel_rfl
theorem a4C (a:Addr)(w:ag):(ReflectliteValue.parts (.agg #[hP,.pointer (some a),.int .u64 150])).run prog w=.ok (some (90,a,150)) w:=by kernel_rfl
theorem a0D (w:ag):(Rtype.directlyAssignable 90 90).run prog w=.ok true w:=by kernel_rfl
theorem acQ (ta b e:Addr)(old:ah)(W:ag)(hb:W.cell? b=some (.pointer (some e)))(ht:W.cell? ta=some old)(hf:W.frozen? ta=false):
  (ReflectliteValue.set #[.agg #[hP,.pointer (some ta),.int .u64 406],.agg #[hP,.pointer (some b),.int .u64 150]]).run prog W
   = .ok (.tuple #[]) (W.setCell ta (.pointer (some e))):=by
 obtain⟨k,hk,hr⟩:∃k:Option (TypeId×Addr×Nat)->Option (TypeId×Addr×Nat)->Sem ah,ReflectliteValue.set #[.agg #[hP,.pointer (some ta),.int .u64 406],.agg #[hP,.pointer (some b),.int .u64 150]]=(ReflectliteValue.parts (.agg #[hP,.pointer (some ta),.int .u64 406])>>=fun p=>ReflectliteValue.parts (.agg #[hP,.pointer (some b),.int .u64 150])>>=fun q=>k p q)/\(k (some (90,ta,406)) (some (90,b,150))).run prog W=.ok (.tuple #[]) (W.setCell ta (.pointer (some e))):=by
  refine⟨_,rfl,?_⟩;simp[ReflectliteValue.flagAddr,loadVar,isAgg,underlying,underlying90,hb,Result.andThen,a0D,storeVar,Value.cells,storeCells,Addr.add];rw[run_store prog W ta _ _ (by rfl)];simp[ht,hf]
 rw[hk];simp only[Sem.run_bind,a0C,a4C,Result.andThen];exact hr
theorem a8N (v:ah)(xT:TypeId)(w:ag):(Instr.typeAssert (.iface 401 v) xT 239 true).run prog w=.ok (.tuple #[.nilIface,.bool false]) w:=run_typeAssert_lacksB underlying239 (by kernel_rfl) (by kernel_rfl) v xT w
theorem xC (v:ah)(xT:TypeId)(w:ag):(Instr.typeAssert (.iface 401 v) xT 242 true).run prog w=.ok (.tuple #[.nilIface,.bool false]) w:=run_typeAssert_lacksB underlying242 (by kernel_rfl) (by kernel_rfl) v xT w
theorem uS (v:ah)(xT:TypeId)(w:ag):(Instr.typeAssert (.iface 401 v) xT 243 true).run prog w=.ok (.tuple #[.nilIface,.bool false]) w:=run_typeAssert_lacksB underlying243 (by kernel_rfl) (by kernel_rfl) v xT w
theorem lt_of_cell {w:ag}{a:Addr}{v:ah}(h:w.cell? a=some v):a.block<w.heap.size:=by
 rcases Nat.lt_or_ge a.block w.heap.size with h'|h'
 ·exact h'
 ·simp[World.cell?,Array.getElem?_eq_none h'] at h
abbrev vPP (n:Nat):Array ah:=#[GD,ay n,.int .u64 150]
theorem Qj (e t:Addr)(w:ag)(hg:w.cell? (ak 11 0)=some (.iface 235 (.agg #[hE]))):
  au 55 #[.iface 401 (.pointer (some e)),.iface 138 (.pointer (some t))] w fun ev w'=>ev=.returned (.bool false)/\Below w.heap.size w w':=by
 have h6:=@run_callFunc_extern prog 96 _ (fun args=>ReflectliteValue.unpack (args.getD 0 (.tuple #[]))) func96 (by kernel_rfl) (by kernel_rfl) (by kernel_rfl) (by kernel_rfl);have h7:=@run_callFunc_extern prog 97 _ (ReflectliteValue.methodAny (ReflectliteValue.valueError "reflectlite.Value.Type" 0) (fun t _ _ _=>ReflectliteType.toType t)) func97 (by kernel_rfl) (by kernel_rfl) (by kernel_rfl) (by kernel_rfl);have h8:=@run_callFunc_extern prog 98 _ (ReflectliteValue.method (ReflectliteValue.valueError "reflectlite.Value.IsNil" 0) ReflectliteValue.isNil) func98 (by kernel_rfl) (by kernel_rfl) (by kernel_rfl) (by kernel_rfl);have h27:=@run_callFunc_extern prog 327 _ (ReflectliteType.abiMethod fun t=>do pure (.int .u8 (<- Rtype.kind t))) func327 (by kernel_rfl) (by kernel_rfl) (by kernel_rfl) (by kernel_rfl);have h37:=@run_callFunc_extern prog 341 _ (ReflectliteType.method ReflectliteType.elem) func341 (by kernel_rfl) (by kernel_rfl) (by kernel_rfl) (by kernel_rfl);have h38:=@run_callFunc_extern prog 342 _ (ReflectliteType.relation "Implements" ReflectliteType.implements_) func342 (by kernel_rfl) (by kernel_rfl) (by kernel_rfl) (by kernel_rfl);have h10:=@run_callFunc_extern prog 100 _ ReflectliteType.typeOf func100 (by kernel_rfl) (by kernel_rfl) (by kernel_rfl) (by kernel_rfl);have h35:=@run_callFunc_extern prog 339 _ (ReflectliteType.relation "AssignableTo" ReflectliteType.assignableTo) func339 (by kernel_rfl) (by kernel_rfl) (by kernel_rfl) (by kernel_rfl);have tO:=wo;have mA:=lX;have a25:=Js;have f6:=Ff;have f7:=VW;have mK:=Ba;have mE:=Bb;have mI:=nQ;have k27:=VX;have k25:=a3G;have e27:=Qi;have i25:=yN;have nA:=a8N;have nU:=xC;have nUs:=uS;have n8:=Qh ⟨w.heap.size,0,none⟩ t ((w.alloc (.cells #[.pointer (some t)] 138)).alloc (.cells (vPP w.heap.size) 184)) (by simp);have hlt:=lt_of_cell hg
 have hg2:((w.alloc (.cells #[.pointer (some t)] 138)).alloc (.cells (vPP w.heap.size) 184)).cell? (ak 11 0)=some (.iface 235 (.agg #[hE])):=by
  rw[World.cell?_alloc_lt _ _ ⟨11,0,none⟩ (by simp at hlt⊢;omega),World.cell?_alloc_lt _ _ ⟨11,0,none⟩ hlt];exact hg
 simp only[GD,hP,hE,hS,vPP] at*;go_enter func55,ntmps55;go_wp2;refine wp_loop_rounds 1 ?_;rw[rounds_succ];go_wp2;go_ret;exact⟨rfl,((((aG _ _).alloc ai _).alloc (by simp) _).alloc (by simp;omega) _)⟩
theorem W9 (e t:Addr)(old:ah)(w:ag)(hg:w.cell? (ak 11 0)=some (.iface 235 (.agg #[hE])))(ht0:w.cell? t=some old)(hf0:w.frozen? t=false):
  au 55 #[.iface 90 (.pointer (some e)),.iface 138 (.pointer (some t))] w fun ev w'=>ev=.returned (.bool true)/\∃w1,Below w.heap.size w w1/\w'=w1.setCell t (.pointer (some e)):=by
 have h6:=@run_callFunc_extern prog 96 _ (fun args=>ReflectliteValue.unpack (args.getD 0 (.tuple #[]))) func96 (by kernel_rfl) (by kernel_rfl) (by kernel_rfl) (by kernel_rfl);have h7:=@run_callFunc_extern prog 97 _ (ReflectliteValue.methodAny (ReflectliteValue.valueError "reflectlite.Value.Type" 0) (fun t _ _ _=>ReflectliteType.toType t)) func97 (by kernel_rfl) (by kernel_rfl) (by kernel_rfl) (by kernel_rfl);have h8:=@run_callFunc_extern prog 98 _ (ReflectliteValue.method (ReflectliteValue.valueError "reflectlite.Value.IsNil" 0) ReflectliteValue.isNil) func98 (by kernel_rfl) (by kernel_rfl) (by kernel_rfl) (by kernel_rfl);have h27:=@run_callFunc_extern prog 327 _ (ReflectliteType.abiMethod fun t=>do pure (.int .u8 (<- Rtype.kind t))) func327 (by kernel_rfl) (by kernel_rfl) (by kernel_rfl) (by kernel_rfl);have h37:=@run_callFunc_extern prog 341 _ (ReflectliteType.method ReflectliteType.elem) func341 (by kernel_rfl) (by kernel_rfl) (by kernel_rfl) (by kernel_rfl);have h38:=@run_callFunc_extern prog 342 _ (ReflectliteType.relation "Implements" ReflectliteType.implements_) func342 (by kernel_rfl) (by kernel_rfl) (by kernel_rfl) (by kernel_rfl);have h10:=@run_callFunc_extern prog 100 _ ReflectliteType.typeOf func100 (by kernel_rfl) (by kernel_rfl) (by kernel_rfl) (by kernel_rfl);have h35:=@run_callFunc_extern prog 339 _ (ReflectliteType.relation "AssignableTo" ReflectliteType.assignableTo) func339 (by kernel_rfl) (by kernel_rfl) (by kernel_rfl) (by kernel_rfl);have h11:=@run_callFunc_extern prog 150 _ (ReflectliteValue.method (ReflectliteValue.valueError "reflectlite.Value.Elem" 0) ReflectliteValue.elem) func150 (by kernel_rfl) (by kernel_rfl) (by kernel_rfl) (by kernel_rfl);have h12:=@run_callFunc_extern prog 151 _ ReflectliteValue.set func151 (by kernel_rfl) (by kernel_rfl) (by kernel_rfl) (by kernel_rfl);have tO:=a0A;have mA:=lX;have a25:=Jr
 have v25:=VY;have f6:=Ff;have f7:=VW;have mK:=Ba;have mE:=Bb;have mI:=nQ;have k27:=VX;have k25:=a3G;have e27:=Qi;have i25:=yN;have n8:=Qh ⟨w.heap.size,0,none⟩ t ((w.alloc (.cells #[.pointer (some t)] 138)).alloc (.cells (vPP w.heap.size) 184)) (by simp);have hlt:=lt_of_cell hg;have htl:=lt_of_cell ht0;have hg2:((w.alloc (.cells #[.pointer (some t)] 138)).alloc (.cells (vPP w.heap.size) 184)).cell? (ak 11 0)=some (.iface 235 (.agg #[hE])):=by
  rw[World.cell?_alloc_lt _ _ ⟨11,0,none⟩ (by simp at hlt⊢;omega),World.cell?_alloc_lt _ _ ⟨11,0,none⟩ hlt];exact hg
 have el:=a0B ⟨w.heap.size,0,none⟩ t (((w.alloc (.cells #[.pointer (some t)] 138)).alloc (.cells (vPP w.heap.size) 184)).alloc (.cells (vPP w.heap.size) 184)) (by rw[World.cell?_alloc_lt _ _ ⟨w.heap.size,0,none⟩ (by simp;omega)];simp);have st:=acQ t ⟨w.heap.size+1+1+1,0,none⟩ e old ((((w.alloc (.cells #[.pointer (some t)] 138)).alloc (.cells (vPP w.heap.size) 184)).alloc (.cells (vPP w.heap.size) 184)).alloc (.cells #[.pointer (some e)] 90))
  (by rw[World.cell?_alloc_at _ _ _ _ (by simp)];rfl)
  (by rw[World.cell?_alloc_lt _ _ t (by simp;omega),World.cell?_alloc_lt _ _ t (by simp;omega),World.cell?_alloc_lt _ _ t (by simp;omega),World.cell?_alloc_lt _ _ t htl];exact ht0)
  (by rw[World.frozen?_alloc_old _ _ t (by simp;omega),World.frozen?_alloc_old _ _ t (by simp;omega),World.frozen?_alloc_old _ _ t (by simp;omega),World.frozen?_alloc_old _ _ t (Nat.ne_of_lt htl)];exact hf0)
 simp only[GD,hP,hE,vPP] at*;go_enter func55,ntmps55;go_wp2;refine wp_loop_rounds 1 ?_;rw[rounds_succ];go_wp2;go_ret;exact⟨rfl,_,((((aG _ _).alloc ai _).alloc (by simp) _).alloc (by simp;omega) _).alloc (by simp;omega) _,rfl⟩
end
section
open Go.RowKit
set_option maxRecDepth 20000
structure EP (aB aS aZ aV:Addr)(w:ag):Prop where
 e3:E3 aB aS aZ w
 v:w.cell? (ak 9 0)=some (.iface 401 (.pointer (some aV)))
 et:w.cell? (ak 11 0)=some (.iface 235 (.agg #[hE]))
theorem EP.below {aB aS aZ aV:Addr}{w w':ag}{B:Nat}(h:EP aB aS aZ aV w)(hb:Below B w w')(hB:w.heap.size<=B):EP aB aS aZ aV w':=
 ⟨h.e3.below hb hB,(hb.cell (bI (aF h.v) hB)).trans h.v,(hb.cell (bI (aF h.et) hB)).trans h.et⟩
def oV (r:aC):Prop:=r.toList=VU\/r.toList=a3F
instance (r:aC):Decidable (oV r):=by unfold oV;infer_instance
theorem ba_eq {a b:aC}(h:a.toList=b.toList):a=b:=by
 rw[ByteArray.toList_eq,ByteArray.toList_eq] at h;cases a;cases b;simpa using h
def a4D (l:List Qt)(p:Qt)(r:aC)(hv:Bool)(v:ah):Prop:=
 (lg l/\iq p=0/\oV r/\hv=holdB l r p/\v=.nilIface)\/(¬(lg l/\iq p=0/\oV r)/\(lg l->iq p=0->∃a,v=.iface 401 (.pointer (some a)))/\a0w v)
theorem yO (aV:Addr)(l:List Qt)(o:Option Addr)(cap:Nat)(p:Qt)(r:aC)(w:ag)(h1:(r.toList==[119,105,110,100])=false)(h2:(r.toList==[101,118,101,110])=false)(hV:w.cell? (ak 9 0)=some (.iface 401 (.pointer (some aV)))):
  au 131 #[.agg #[.slice o l.length cap],mW p,.string r] w fun e W=>e=.returned (.tuple #[.bool false,.iface 401 (.pointer (some aV))])/\Below w.heap.size w W:=by
 go_enter func131,ntmps131;go_upto_region 1 with fail;obtain⟨U,hU⟩:∃U,(w.alloc (.cells #[.slice o l.length cap] 132)).alloc (.cells #[aa p.xn,aa p.xd,aa p.yn,aa p.yd] 168)=U:=⟨_,rfl⟩;obtain⟨cS,⟨g0,g1,g2,g3⟩,u7⟩:=xz w _ _ _ _ _ _ _ U hU;have hVU:=(u7.cell (aF hV)).trans hV;rw[hU];clear hU hV;have hVd:U.drew.cell? (ak 9 0)=some (.iface 401 (.pointer (some aV))):=hVU;go_wp2_with fail;go_region
 all_goals
  go_wp2_with fail;refine bodyPost_ret (results_tmp2 rfl _ _ _) rfl ?_;exact⟨rfl,u7.drew⟩
theorem SG (aB aS aZ aV:Addr)(l:List Qt)(o:Option Addr)(cap:Nat)(p:Qt)(r:aC)(w:ag)(h:fH w o l)(hp:PI p)(hE:EP aB aS aZ aV w):
  au 131 #[.agg #[.slice o l.length cap],mW p,.string r] w fun e W=>∃hv v,a4D l p r hv v/\e=.returned (.tuple #[.bool hv,v])/\Below w.heap.size w W:=by
 by_cases h1:r.toList=VU
 ·have hr:r=⟨#[119,105,110,100]⟩:=ba_eq (by rw[h1,ByteArray.toList_eq];rfl);subst hr;refine(Ny aB aS aZ l o cap p w h hp hE.e3).mono ?_;rintro e W ⟨wd,cr,v,hv,rfl,hb⟩;refine⟨_,_,?_,rfl,hb⟩;rcases hv with⟨k1,k2,rfl,rfl,rfl⟩|⟨k1,rfl,rfl,k2⟩
  ·exact .inl ⟨k1,k2,.inl h1,by rw[holdB,if_pos h1],rfl⟩
  ·exact .inr ⟨fun h=>k1 ⟨h.1,h.2.1⟩,fun a b=>absurd ⟨a,b⟩ k1,k2⟩
 ·by_cases h2:r.toList=a3F
  ·have hr:r=⟨#[101,118,101,110]⟩:=ba_eq (by rw[h2,ByteArray.toList_eq];rfl);subst hr;refine(Nz aB aS aZ l o cap p w h hp hE.e3).mono ?_;rintro e W ⟨wd,cr,v,hv,rfl,hb⟩;refine⟨_,_,?_,rfl,hb⟩;rcases hv with⟨k1,k2,rfl,rfl,rfl⟩|⟨k1,rfl,rfl,k2⟩
   ·exact .inl ⟨k1,k2,.inr h2,by rw[holdB,if_neg h1];rfl,rfl⟩
   ·exact .inr ⟨fun h=>k1 ⟨h.1,h.2.1⟩,fun a b=>absurd ⟨a,b⟩ k1,k2⟩
  ·refine(yO aV l o cap p r w (beq_eq_false_iff_ne.2 h1) (beq_eq_false_iff_ne.2 h2) hE.v).mono ?_;rintro e W ⟨rfl,hb⟩;exact⟨_,_,.inr ⟨fun h=>h.2.2.elim h1 h2,fun _ _=>⟨aV,rfl⟩,.inl ⟨aV,rfl⟩⟩,rfl,hb⟩
def Bc (A:Addr)(w:ag)(v:ah):Prop:=v=.iface 401 (.pointer (some A))\/(∃pb,w.cell? (ak pb 1)=some (.iface 401 (.pointer (some A)))/\v=.iface 90 (ay pb))
def NI (aB aS:Addr)(ef:Qt->Nat)(l:List Qt)(d:Addr):Addr:=match l.find? (fun y=>ef y !=0) with
 |some y=>if ef y=2 then aB else aS
 |none=>d
def xD (aB aS aV:Addr)(l:List Qt):Addr:=if 30<l.length then aB else NI aB aS fT l (NI aB aS jI l aV)
theorem xE {aB aS d:Addr}{ef:Qt->Nat}{l:List Qt}(h:∀y∈l,ef y=0):NI aB aS ef l d=d:=by
 unfold NI;rw[List.find?_eq_none.2 fun y hy=>by simp[h y hy]]
theorem a0E {aB aS aV:Addr}{l:List Qt}(h:lg l):xD aB aS aV l=aV:=by
 unfold xD;rw[if_neg (by have:=h.1;omega),xE fun y hy=>(gN.1 (h.2 y hy)).1,xE fun y hy=>(gN.1 (h.2 y hy)).2]
def iw (s:Pm):Prop:=lg s.pts/\oV s.rule
theorem We {x y:Int}(h1:0<=x)(h2:x<=100)(h3:0<=y)(h4:y<=100):iq (jX x y)=0/\PI (jX x y):=by
 have hc:∀n:Int,0<=n->n<=100->dH (2*n+1) 2=0:=fun n a b=>by
  rw[eO];refine⟨by decide,?_,by omega,by decide⟩;unfold gy;have:(2*n+1).natAbs=2*n.natAbs+1:=by omega
  rw[this];show Nat.gcd (2*n.natAbs+1) 2=1;rw[Nat.gcd_comm,Nat.gcd_rec];simp
 refine⟨gN.2 ⟨gF.2 ⟨hc x h1 h2,hc y h3 h4⟩,?_⟩,⟨⟨?_,?_⟩,⟨by show(-9223372036854775808:Int)<=2;omega,by show(2:Int)<=9223372036854775807;omega⟩,⟨?_,?_⟩,⟨by show(-9223372036854775808:Int)<=2;omega,by show(2:Int)<=9223372036854775807;omega⟩⟩⟩
 ·unfold jI Sq jX;rw[if_neg];simp;omega
 all_goals(simp only[jX];omega)
theorem Jt (aB aS aZ aV:Addr)(l:List Qt)(o:Option Addr)(cap:Nat)(p:Qt)(r:aC)(w:ag)(h:fH w o l)(hp:PI p)(hE:EP aB aS aZ aV w)(h1:lg l)(h2:iq p=0)(h3:oV r):
    au 131 #[.agg #[.slice o l.length cap],mW p,.string r] w fun e W=>e=.returned (.tuple #[.bool (holdB l r p),.nilIface])/\Below w.heap.size w W:=
  (SG aB aS aZ aV l o cap p r w h hp hE).mono fun e W ⟨hv,v,k,he,hb⟩=>by
    rcases k with⟨-, -, -,rfl,rfl⟩|⟨k, -⟩
    · exact⟨he,hb⟩
    · exact absurd ⟨h1,h2,h3⟩ k
theorem GG (x y:Int)(w:ag)(h1: -1000<=x)(h2:x<=1000)(h3: -1000<=y)(h4:y<=1000):
  au 83 #[aa x,aa y] w fun e W=>e=.returned (mW (jX x y))/\Below w.heap.size w W:=
 (AZ x y w h1 h2 h3 h4).mono fun _ _ ⟨h1,h2⟩=>⟨h1,by rw[h2];exact Fe x y w⟩
theorem Bc.Ju {aB aS aZ d:Addr}{ef:Qt->Nat}{w:ag}{l:List Qt}{e:Ending}{W:ag}(h:qO aB aS aZ ef w l e W)(hc:∀a,ef a=0\/ef a=2\/ef a=3)(hn:¬∀y∈l,ef y=0):∃v,Bc (NI aB aS ef l d) W v/\e=.returned v:=by
 rcases h with⟨h, -⟩|⟨q,x,r,pb,h1,h2,h3, -,h5,h6,h7⟩
 ·exact absurd h hn
 ·refine⟨_,.inr ⟨pb,?_,rfl⟩,h5⟩;have hf:l.find? (fun y=>ef y !=0)=some x:=by
   rw[h1,List.find?_append,List.find?_eq_none.2 fun y hy=>by simp[h2 y hy]];simp[h3]
  rw[h7];unfold NI;rw[hf];rcases hc x with h0|h0|h0
  ·exact absurd h0 h3
  ·simp only[h0,if_true];rfl
  ·simp only[h0];rfl
theorem Bc.a4E {aB aS aZ:Addr}(aV:Addr){w:ag}{l:List Qt}{e:Ending}{W:ag}(h:VN aB aS aZ w l e W):(lg l/\e=.returned .nilIface)\/(¬lg l/\∃v,Bc (xD aB aS aV l) W v/\e=.returned v):=by
 have hp:=h.plain;unfold xD;rcases h with⟨h1,h2⟩|⟨h1,⟨y,hy,hy2⟩,h3⟩|⟨h1,h2,h3⟩
 ·rw[if_pos h1];exact .inr ⟨fun h=>by have:=h.1;omega,_,.inl rfl,h2⟩
 ·rw[if_neg (by omega)];exact .inr ⟨fun h=>hy2 (gN.1 (h.2 y hy)).1,Bc.Ju h3 oU (fun h=>hy2 (h y hy))⟩
 ·rw[if_neg (by omega),xE h2];by_cases hb:∀y∈l,jI y=0
  ·rcases hp with hp|⟨hp, -⟩
   ·exact .inl hp
   ·exact absurd ⟨h1,fun y hy=>gN.2 ⟨h2 y hy,hb y hy⟩⟩ hp
  ·refine .inr ⟨fun h=>hb (fun y hy=>(gN.1 (h.2 y hy)).2),Bc.Ju h3 (fun a=>by have:=lV a;omega) hb⟩
theorem Be (aB aS aZ aV:Addr)(x:P5)(w:ag)(h:fH w x.o x.s.pts)(hE:EP aB aS aZ aV w):
  au 76 #[VV x] w fun e W=>((iw x.s/\e=.returned .nilIface)\/(¬iw x.s/\∃v,Bc (xD aB aS aV x.s.pts) W v/\e=.returned v))/\Below w.heap.size w W:=by
 have C0:=Qf.new w x 134;have b0:=bg w (.cells (xB x) 134);go_enter func76,ntmps76;go_upto_region 1 with fail;obtain⟨U,hU⟩:∃U,w.alloc (.cells (xB x) 134)=U:=⟨_,rfl⟩;rw[hU] at C0 b0⊢;clear hU;have hPU:=h.below b0 ai;have Nc:=hE.below b0 ai;have CK:=vY aB aS aZ x.s.pts x.o x.cap U hPU Nc.e3;obtain⟨c0,c1,c2,c3,c4⟩:=id C0;go_upto_region 2 with(go_at_call 130;refine CK.mono ?_;rintro e w1 ⟨hc,b1⟩;have hc:=Bc.a4E aV hc;obtain⟨v,rfl,hv⟩:∃v,e=.returned v/\((lg x.s.pts/\v=.nilIface)\/(¬lg x.s.pts/\Bc (xD aB aS aV x.s.pts) w1 v)):=(by rcases hc with⟨k1,k2⟩|⟨k1,v,k2,k3⟩;exact⟨_,k2,.inl ⟨k1,rfl⟩⟩;exact⟨v,k3,.inr ⟨k1,k2⟩⟩));clear hc CK c0 c1 c2 c3 c4;have C1:=C0.below b1 ai;have uP:=aA b0 b1;have hP1:=hPU.below b1 ai;have hE1:=Nc.below b1 ai;rcases hv with⟨hok,rfl⟩|⟨hno,hv⟩
 ·go_upto_region 4 with fail;obtain⟨ec,ip⟩:=We (x:=0) (y:=0) (by decide) (by decide) (by decide) (by decide);have CE:∀d os,au 83 #[aa 0,aa 0] (Go.Sort.grow (redrawn w1 d) os) fun e w''=>e=.returned (mW (jX 0 0))/\∃p:Regrown,w''=Go.Sort.grow (redrawn w1 p.d) p.os:=fun d os=>Calls.regrown_of (GG 0 0 _ (by decide) (by decide) (by decide) (by decide));by_cases hr:oV x.s.rule
  ·have HO:∀d os,au 131 #[.agg #[.slice x.o x.s.pts.length x.cap],mW (jX 0 0),.string x.s.rule] (Go.Sort.grow (redrawn w1 d) os) fun e w''=>e=.returned (.tuple #[.bool (holdB x.s.pts x.s.rule (jX 0 0)),.nilIface])/\∃p:Regrown,w''=Go.Sort.grow (redrawn w1 p.d) p.os:=fun d os=>Calls.regrown_of (Jt aB aS aZ aV x.s.pts x.o x.cap (jX 0 0) x.s.rule _ (hP1.below (below_regrown w1 d os) ai) ip (hE1.below (below_regrown w1 d os) ai) hok ec hr);have r1:=cell_regrown C1.c1;have r3:=cell_regrown C1.c3;refine wp_region_quiet_below (by kernel_rfl) (by kernel_rfl) ?_
   repeat(quiet_step (first|(go_at_call 131;exact HO _ _)|(go_at_call 83;exact CE _ _)))
   refine wpQuiet_nil ?_;intro _ hw';obtain⟨pp,hw''⟩:=hw';subst hw'';have b2:=below_regrown w1 pp.d pp.os;generalize Go.Sort.grow (redrawn w1 pp.d) pp.os=w2 at b2⊢;go_wp2_with fail;go_ret;exact⟨.inl ⟨⟨hok,hr⟩,rfl⟩,aA uP b2⟩
  ·have h1:(x.s.rule.toList==[119,105,110,100])=false:=beq_eq_false_iff_ne.2 (fun h=>hr (.inl h));have h2:(x.s.rule.toList==[101,118,101,110])=false:=beq_eq_false_iff_ne.2 (fun h=>hr (.inr h));have HO:∀d os,au 131 #[.agg #[.slice x.o x.s.pts.length x.cap],mW (jX 0 0),.string x.s.rule] (Go.Sort.grow (redrawn w1 d) os) fun e w''=>e=.returned (.tuple #[.bool false,.iface 401 (.pointer (some aV))])/\∃p:Regrown,w''=Go.Sort.grow (redrawn w1 p.d) p.os:=fun d os=>Calls.regrown_of (yO aV x.s.pts x.o x.cap (jX 0 0) x.s.rule _ h1 h2 (hE1.below (below_regrown w1 d os) ai).v);have r1:=cell_regrown C1.c1;have r3:=cell_regrown C1.c3;clear h1 h2;refine wp_region_quiet_below (by kernel_rfl) (by kernel_rfl) ?_
   repeat(quiet_step (first|(go_at_call 131;exact HO _ _)|(go_at_call 83;exact CE _ _)))
   refine wpQuiet_nil ?_;intro _ hw';obtain⟨pp,hw''⟩:=hw';subst hw'';have b2:=below_regrown w1 pp.d pp.os;generalize Go.Sort.grow (redrawn w1 pp.d) pp.os=w2 at b2⊢;go_wp2_with fail;go_ret;exact⟨.inr ⟨fun h=>hr h.2,.iface 401 (.pointer (some aV)),.inl (by rw[a0E hok]),rfl⟩,aA uP b2⟩
 ·have hno':¬iw x.s:=fun h=>hno h.1;obtain⟨A,hA⟩:∃A,xD aB aS aV x.s.pts=A:=⟨_,rfl⟩;rw[hA] at hv;have HA:=aj hA;clear hA;rcases hv with rfl|⟨pb,hcl,rfl⟩
  ·go_wp2_with fail;go_ret;exact⟨.inr ⟨hno',.iface 401 (.pointer (some A)),by rw[HA.out];exact .inl rfl,rfl⟩,uP⟩
  ·go_wp2_with fail;go_ret;exact⟨.inr ⟨hno',.iface 90 (ay pb),by rw[HA.out];exact .inr ⟨pb,hcl,rfl⟩,rfl⟩,uP⟩
theorem xG (aB aS aZ aV A:Addr)(v:ah)(w:ag)(h:Bc A w v)(hE:EP aB aS aZ aV w):
  au 77 #[v] w fun e W=>e=.returned (.iface 401 (.pointer (some A)))/\Below w.heap.size w W:=by
 have b0:=bg w (.cells #[.pointer none] 90);have hE0:=hE.below b0 ai;rcases h with rfl|⟨pb,hc,rfl⟩
 ·have AM:=Qj A ⟨w.heap.size,0,none⟩ (w.alloc (.cells #[.pointer none] 90)) hE0.et;go_enter func77,ntmps77;go_wp2_with(go_at_call 55;refine AM.mono ?_;rintro e w1 ⟨rfl,b1⟩);go_ret;exact⟨rfl,aA b0 b1⟩
 ·have AH:=W9 ⟨pb,0,none⟩ ⟨w.heap.size,0,none⟩ (.pointer none) (w.alloc (.cells #[.pointer none] 90)) hE0.et (by simp) (by simp);have hlt:=aF hc;go_enter func77,ntmps77;go_wp2_with fail;refine AH.mono ?_;rintro e w1' ⟨rfl,w1,b1,rfl⟩;have hb1:Below w.heap.size w (w1.setCell ⟨w.heap.size,0,none⟩ (ay pb)):=(aA b0 b1).setCell ai _;have q1:=(hb1.cell (p:=⟨pb,1,none⟩) hlt).trans hc;have f1:(w1.setCell ⟨w.heap.size,0,none⟩ (ay pb)).cell? ⟨w.heap.size,0,none⟩=some (ay pb):=by
   have c0:w1.cell? ⟨w.heap.size,0,none⟩=some (.pointer none):=by rw[b1.cell (p:=⟨w.heap.size,0,none⟩) (by simp)];simp
   exact fM _ _ _ (by rw[c0];rfl)
  generalize (w1.setCell ⟨w.heap.size,0,none⟩ (ay pb))=w3 at hb1 q1 f1⊢;go_wp2;go_ret;exact⟨rfl,hb1⟩
def Wh (aB aS aV:Addr)(l:List P5)(base pb:Nat)(W:ag):Prop:=∃q x r,l=q++x::r/\(∀y∈q,iw y.s)/\¬iw x.s/\base<=pb/\(∃n,W.cell? (ak pb 0)=some (aa n))/\W.cell? (ak pb 1)=some (.iface 401 (.pointer (some (xD aB aS aV x.s.pts))))
theorem yP (aB aS aZ aV:Addr)(l:List P5)(o:Option Addr)(cap:Nat)(w:ag)(hl:l.length<=1000)(h:iH w o l)(hP:j5 w l)(hE:EP aB aS aZ aV w):
  au 46 #[.slice o l.length cap] w fun e W=>(((∀x∈l,iw x.s)/\e=.returned .nilIface)\/(∃pb,Wh aB aS aV l w.heap.size pb W/\e=.returned (.iface 90 (ay pb))))/\Below w.heap.size w W:=by
 go_enter func46,ntmps46;go_wp2
 go_loopw [8] (fun i wr=>∃k:Nat,k<=l.length/\i=aa k/\(∀x∈l.take k,iw x.s)/\Below w.heap.size w wr) (fun i _=>l.length-(intOf i).toNat)
 case atStart=>exact⟨0,aP _,rfl,(fun a ha=>by simp at ha),aG _ _⟩
 case round=>
  obtain⟨k,hk,rfl,hrt,hb⟩:=hrel;by_cases hlt:k<l.length
  ·have hlt':(k:Int)<(l.length:Int):=by omega
   obtain⟨x,hx⟩:∃x,l[k]? =some x:=⟨_,dK hlt⟩;have hmem:x∈l:=fV hx;obtain⟨b,off,rfl,hC⟩:=h.below hb ai k x hx;have C0:=Qf.new wr x 134;have b1:=bg wr (.cells (xB x) 134);have bw:=aA hb b1;have CP:=Be aB aS aZ aV x (wr.alloc (.cells (xB x) 134)) ((hP x hmem).below bw ai) (hE.below bw ai);obtain⟨c0,c1,c2,c3,c4⟩:=hC;have HX:=aj hx;clear hx;go_upto_region 5 with(go_at_call 76;refine CP.mono ?_;rintro e w1 ⟨hc,b2⟩;obtain⟨v,rfl,hv⟩:∃v,e=.returned v/\((iw x.s/\v=.nilIface)\/(¬iw x.s/\Bc (xD aB aS aV x.s.pts) w1 v)):=(by rcases hc with⟨k1,k2⟩|⟨k1,v,k2,k3⟩;exact⟨_,k2,.inl ⟨k1,rfl⟩⟩;exact⟨v,k3,.inr ⟨k1,k2⟩⟩));clear hc CP;have Jb:=aA bw b2;rcases hv with⟨hok,rfl⟩|⟨hno,hv⟩
   ·go_wp2_with fail
    go_roundw
    case rel=>exact⟨k+1,by omega,by go_num,fun y hy=>by rw[List.take_add_one,HX.out] at hy;rcases List.mem_append.1 hy with hy|hy;exact hrt y hy;simp at hy;subst hy;exact hok,Jb⟩
    case measure=>simp[intOf];omega
   ·have WP:=xG aB aS aZ aV _ v w1 hv (hE.below Jb ai);have key:∀v',v'=v->((∃a,v'=Value.iface 401 (.pointer (some a)))\/(∃a,v'=Value.iface 90 (.pointer (some a)))):=fun v' e=>by
     subst e;rcases hv with h|⟨pb, -,h⟩
     ·exact .inl ⟨_,h⟩
     ·exact .inr ⟨_,h⟩
    have key:=key v rfl;clear hv;have HQ:Hid (∃q r,l=q++x::r/\∀y∈q,iw y.s):=by
     obtain⟨hlt2,hx2⟩:=jc.1 HX.out;exact⟨l.take k,l.drop (k+1),by rw[<- hx2,<- List.drop_eq_getElem_cons hlt2,List.take_append_drop],hrt⟩
    obtain⟨A,hA⟩:∃A,xD aB aS aV x.s.pts=A:=⟨_,rfl⟩;rw[hA] at WP;have HA:=aj hA;clear hA;rcases key with⟨a,rfl⟩|⟨a,rfl⟩
    ·go_wp2_with(go_at_call 77;refine WP.mono ?_;rintro e w2 ⟨rfl,b3⟩);go_ret;have vZ:=aA Jb b3;obtain⟨q,r,q1,q2⟩:=HQ.out;exact⟨.inr ⟨_,⟨q,x,r,q1,q2,hno,vZ.size,⟨k,by simp⟩,by rw[HA.out];simp⟩,rfl⟩,vZ.alloc vZ.size _⟩
    ·go_wp2_with(go_at_call 77;refine WP.mono ?_;rintro e w2 ⟨rfl,b3⟩);go_ret;have vZ:=aA Jb b3;obtain⟨q,r,q1,q2⟩:=HQ.out;exact⟨.inr ⟨_,⟨q,x,r,q1,q2,hno,vZ.size,⟨k,by simp⟩,by rw[HA.out];simp⟩,rfl⟩,vZ.alloc vZ.size _⟩
  ·obtain rfl:k=l.length:=by omega
   go_wp2_with fail;go_ret;rw[List.take_length] at hrt;exact⟨.inl ⟨hrt,rfl⟩,hb⟩
theorem Fg (aB aS aZ aV:Addr)(l:List P5)(o:Option Addr)(cap:Nat)(w:ag)(hl:l.length<=1000)(h:iH w o l)(hP:j5 w l)(hE:EP aB aS aZ aV w):
  au 46 #[.slice o l.length cap] w fun e W=>(((∀x∈l,iw x.s)/\e=.returned .nilIface)\/((∃x∈l,¬iw x.s)/\∃a,e=.returned (.iface 90 (.pointer (some a)))))/\Below w.heap.size w W:=(yP aB aS aZ aV l o cap w hl h hP hE).mono fun e W ⟨h1,h2⟩=>⟨h1.imp id fun⟨pb,⟨q,x,r,q1,_,q3,_⟩,q4⟩=>⟨⟨x,by rw[q1];simp,q3⟩,_,q4⟩,h2⟩
end
section
open Go.RowKit Go.Shelf
set_option maxRecDepth 100000
attribute [local go_sem] Oper.semAt_some
structure BkI (w0:ag) where
 ix:Nat
 x:P5
 hp:fH w0 x.o x.s.pts
 ok:iw x.s
abbrev bkV {w0:ag}(e:BkI w0):Array ah:=#[aa e.ix,VV e.x]
theorem a3H (w0:ag)(l:List P5)(hP:j5 w0 l)(hk:∀x∈l,iw x.s):∀n,n<=l.length->∃xs:List (BkI w0),xs.length=n/\xs.map (·.x)=(l.take n).reverse/\∀k e,xs[k]? =some e->e.ix=n-1-k
 |0,_=>⟨[],rfl,rfl,fun k e h=>by simp at h⟩
 |n+1,hn=>by
  obtain⟨xs,h1,h2,h3⟩:=a3H w0 l hP hk n (by omega);have hl:l[n]? =some l[n]:=dK (by omega);have hm:l[n]∈l:=List.getElem_mem _;refine⟨⟨n,l[n],hP _ hm,hk _ hm⟩::xs,by simp[h1],?_,fun k e h=>?_⟩
  ·rw[List.map_cons,h2];have e:l.take (n+1)=l.take n++[l[n]]:=Jm l n (by omega);rw[e,List.reverse_append];rfl
  ·cases k with
   |zero=>simp at h;rw[<- h];simp
   |succ k=>have:=h3 k e (by simpa using h);omega
def bkT (Bs:Nat)(o:Option Addr)(l:List P5)(k:Nat):Prop:=k=Bs\/(l≠[]/\∃off,o=some ⟨k,off,none⟩)
theorem iH.kept {w w':ag}{o:Option Addr}{l:List P5}{Bs:Nat}(h:iH w o l)(hk:rY (bkT Bs o l) w w'):iH w' o l:=fun i a ha=>by
 obtain⟨b,off,h1,c0,c1,c2,c3,c4⟩:=h i a ha;have hb:=hk b (.inr ⟨by rintro rfl;simp at ha,off,h1⟩);exact⟨b,off,h1,(cell_of_heap (p:=⟨b,_,none⟩) hb).trans c0,(cell_of_heap (p:=⟨b,_,none⟩) hb).trans c1,(cell_of_heap (p:=⟨b,_,none⟩) hb).trans c2,(cell_of_heap (p:=⟨b,_,none⟩) hb).trans c3,(cell_of_heap (p:=⟨b,_,none⟩) hb).trans c4⟩
theorem Wi (l:List P5)(w0:ag)(xs:List (BkI w0))(hxl:xs.length=l.length)(hxs:xs.map (·.x)=l.reverse)(hix:∀k e,xs[k]? =some e->e.ix=l.length-1-k)(hl:l.length<=1000)(o:Option Addr)(cap n Bs:Nat)(hB:w0.heap[Bs]? =some (.cells #[.slice o l.length cap] 63))(hP:iH w0 o l):
  SeqStopsK Fence.wide n prog 183 #[ay Bs] bkV (rY (bkT Bs o l)) (fun ys=>ys=xs) (fun p=>p<+:xs) xs.length w0:=by
 intro L J Jx W hW hJ hJx hY h0;have hBl:Bs<w0.heap.size:=(cZ.1 hB).1;have hBW:W.heap[Bs]? =some (.cells #[.slice o l.length cap] 63):=(hW.block Bs hBl).trans hB;have c0:W.cell? (ak Bs 0)=some (.slice o l.length cap):=by simp[World.cell?,hBW]
 have hPW:=hP.below hW ai;refine callsIn_of_wp func183 rfl trivial ?_ rfl;simp only[ntmps183,List.size_toArray,List.length_cons,List.length_nil,Nat.reduceAdd,Nat.reduceSub,Array.replicate_succ,Array.replicate_zero,List.push_toArray,List.append_toArray,List.nil_append,List.cons_append]
 gi_wp2
 gi_loopw [3] (fun i wr=>∃k:Nat,k<=l.length/\i=aa ((l.length:Int)-1-k)/\J (xs.take k) wr/\rY (bkT Bs o l) W wr) (fun i _=>(intOf i+1).toNat)
 case atStart=>exact⟨0,aP _,by simp,h0,rY.refl _⟩
 case round=>
  obtain⟨k,hk,rfl,hJs,hnx⟩:=hrel;by_cases hlt:k<l.length
  ·have hkx:k<xs.length:=by omega
   obtain⟨x,hxk⟩:∃x,xs[k]? =some x:=⟨_,dK hkx⟩;have hi:=hix k x hxk;have hge:l[l.length-1-k]? =some x.x:=by
    have h1:(xs.map (·.x))[k]? =some x.x:=by rw[List.getElem?_map,hxk];rfl
    rw[hxs,List.getElem?_reverse hlt] at h1;exact h1
   have hts:xs.take (k+1)=xs.take k++[x]:=by rw[List.take_add_one,hxk];rfl
   have hpl:(xs.take k).length<xs.length:=by rw[List.length_take];omega
   obtain⟨j,hj⟩:∃j:Nat,l.length-1-k=j:=⟨_,rfl⟩;rw[hj] at hi hge;have hjz:(l.length:Int)-1-k=(j:Int):=by omega
   have hjl:j<l.length:=by omega
   have ajn:(j:Int)<(l.length:Int):=by omega
   obtain⟨bb,off,ho,q0,q1,q2,q3,q4⟩:=hPW.kept hnx j x.x hge;have cB:=(cell_of_heap (p:=⟨Bs,0,none⟩) (hnx Bs (.inl rfl))).trans c0;subst ho;obtain⟨fn,tmps,assign,body,hy,hR⟩:=hY (xs.take k) x wr hJs hpl;have HTS:=aj hts;have HJ:Hid (j+k+1=l.length):=(by omega:j+k+1=l.length);rw[hjz];unfold bkV at hy;rw[hi] at hy;clear hts hpl hge hi hj hxk hjz
   gi_wp2
   refine⟨(fun h=>by cases h),hR.mono ?_⟩;rintro e W3 (⟨rfl,hJ3,hk3⟩|⟨rfl,hJx3⟩)
   ·gi_wp2
    go_roundw
    case rel=>exact⟨k+1,by omega,by have:=HJ.out;congr 1;omega,by rw[HTS.out];exact hJ3,hnx.trans hk3⟩
    case measure=>simp[intOf]
   ·gi_wp2
    refine bodyPost_ret (results_none rfl _ _ _) rfl ?_;exact⟨⟨_,rfl⟩,.inr ⟨_,by rw[<- HTS.out];exact List.take_prefix _ _,hJx3⟩⟩
  ·obtain rfl:k=l.length:=by omega
   have hz:(l.length:Int)-1-(l.length:Nat)= -1:=by omega
   rw[hz]
   gi_wp2
   go_end0
   exact⟨⟨_,rfl⟩,.inl ⟨_,by rw[List.take_of_length_le (by omega)],hJs⟩⟩
theorem GH (o:Option Addr)(n c:Nat)(W:ag):au 135 #[.slice o n c] W fun e w'=>e=.returned (.func (.func 183) #[] #[ay W.heap.size])/\w'=W.alloc (.cells #[.slice o n c] 63):=by
 go_enter func135,ntmps135;go_wp2;go_ret;exact⟨rfl,rfl⟩
structure ShI (p:Qt)(B1 B2 N:Nat)(W:ag):Prop where
 f:Four W B1 (aa p.xn) (aa p.xd) (aa p.yn) (aa p.yd)
 r:W.heap[B2]? =some (.cells #[.string ⟨#[]⟩] 9)
 sz:N<=W.heap.size
theorem ShI.below {p:Qt}{B1 B2 N:Nat}{A B:ag}(h:ShI p B1 B2 N A)(hb:Below A.heap.size A B):ShI p B1 B2 N B:=
 ⟨h.f.below hb ai,(hb.block _ (cZ.1 h.r).1).trans h.r,aJ h.sz hb.size⟩
theorem Jv {A C:ag}{row:Option Nat}{U k:Nat}{o:Obj}(h:A.heap[k]? =some o)(hk:k<U)(hg:A.grownBy C row)(hr:∀r,row=some r->U<=r/\∃o:Obj,A.heap[r]? =some o/\o.isCells=false):C.heap[k]? =some o:=
 (hg.block k (cZ.1 h).1 (fun e=>by have:=(hr k e.symm).1;omega)).trans h
theorem Jw {w:ag}{b:Nat}{v:ah}{t:TypeId}(h:w.heap[b]? =some (.cells #[v] t))(u:ah):(w.setCell ⟨b,0,none⟩ u).heap[b]? =some (.cells #[u] t):=by
 rw[heap_setCell_same w b 0 _ _ _ h];rfl
theorem sj {w:ag}{b:Nat}{v:ah}{t:TypeId}(h:w.heap[b]? =some (.cells #[v] t)):w.cell? (ak b 0)=some v:=by simp[World.cell?,h]
theorem Fh {w:ag}{b:Nat}{v:ah}{t:TypeId}(h:w.heap[b]? =some (.cells #[v] t)):w.frozen? ⟨b,0,none⟩=false:=by
 unfold World.frozen?;rw[h];simp
def Bg {w0:ag}(p:Qt)(pre:List (BkI w0)):Prop:=∀e∈pre,holdB e.x.s.pts e.x.s.rule p=false
theorem Bg.snoc {w0:ag}{p:Qt}{pre:List (BkI w0)}{e:BkI w0}(h:Bg p pre)(he:holdB e.x.s.pts e.x.s.rule p=false):Bg p (pre++[e]):=fun x hx=>by
 rcases List.mem_append.1 hx with hx|hx
 ·exact h x hx
 ·simp at hx;subst hx;exact he
theorem Bg.pm {w0:ag}{p:Qt}{pre:List (BkI w0)}(h:Bg p pre):∀s∈pre.map (·.x.s),holdB s.pts s.rule p=false:=fun s hs=>by
 obtain⟨e,he,rfl⟩:=List.mem_map.1 hs;exact h e he
theorem NJ (aB aS aZ aV:Addr)(l:List P5)(o:Option Addr)(cap:Nat)(p:Qt)(w:ag)(hl:l.length<=1000)(h:iH w o l)(hP:j5 w l)(hk:∀x∈l,iw x.s)(hp:PI p)(hpe:iq p=0)(hE:EP aB aS aZ aV w):
  CallsIn Fence.wide 9 prog 82 #[.slice o l.length cap,mW p] w fun e W=>e=.returned (.string (iD (sP l) p))/\Below w.heap.size w W:=by
 refine callsIn_of_wp_marks func82 rfl trivial ?_ rfl;simp only[ntmps82,List.size_toArray,List.length_cons,List.length_nil,Nat.reduceAdd,Nat.reduceSub,Array.replicate_succ,Array.replicate_zero,List.push_toArray,List.append_toArray,List.nil_append,List.cons_append]
 gi_wp2
 obtain⟨U,hU⟩:∃U,(w.alloc (.cells #[aa p.xn,aa p.xd,aa p.yn,aa p.yd] 168)).alloc (.cells #[.string ⟨#[]⟩] 9)=U:=⟨_,rfl⟩;have F0:=Four.new w (aa p.xn) (aa p.xd) (aa p.yn) (aa p.yd) 168;have b0:=bg w (.cells #[aa p.xn,aa p.xd,aa p.yn,aa p.yd] 168);have b1:=bg (w.alloc (.cells #[aa p.xn,aa p.xd,aa p.yn,aa p.yd] 168)) (.cells #[.string ⟨#[]⟩] 9);have r1:=dW (w.alloc (.cells #[aa p.xn,aa p.xd,aa p.yn,aa p.yd] 168)) (.cells #[.string ⟨#[]⟩] 9);have F1:=F0.below b1 ai;rw[show(w.alloc (.cells #[aa p.xn,aa p.xd,aa p.yn,aa p.yd] 168)).heap.size=w.heap.size+1 from by simp] at r1;have bU:=aA b0 b1;rw[hU] at F1 r1 bU;rw[hU];clear hU F0 b0 b1;refine⟨trivial,(callsIn_wide.2 (GH o l.length cap U)).mono ?_⟩;rintro e w3 ⟨rfl,hw3⟩;have b3:=bg U (.cells #[.slice o l.length cap] 63);have hX:w3.heap[U.heap.size]? =some (.cells #[.slice o l.length cap] 63):=by rw[hw3];exact dW U _
 rw[<- hw3] at b3;clear hw3;have vZ:=aA bU b3;have hlt3:U.heap.size<w3.heap.size:=(cZ.1 hX).1;have hP3:=hP.below vZ ai;have h3:=h.below vZ ai;have NK:=hE.below vZ ai;obtain⟨xs,hx1,hx2,hx3⟩:=a3H w3 l hP3 hk l.length ai;rw[List.take_length] at hx2;have hUs:w.heap.size+1<U.heap.size:=(cZ.1 r1).1;have Fb:∀k,bkT U.heap.size o l k->k<w3.heap.size/\k≠w.heap.size+1:=fun k hk=>by
  rcases hk with rfl|⟨hne,off,ho⟩
  ·exact⟨hlt3,by omega⟩
  ·cases l with
   |nil=>exact absurd rfl hne
   |cons a l=>
    obtain⟨b,off',e1,h2⟩:=h 0 a rfl;rw[ho] at e1;cases e1;have hk:=aF h2.c0;simp at hk;exact⟨by have:=vZ.size;omega,by omega⟩
 have I0':ShI p w.heap.size (w.heap.size+1) 0 w3:=ShI.below ⟨F1,r1,aP _⟩ b3;have I0:ShI p w.heap.size (w.heap.size+1) w3.heap.size w3:=⟨I0'.f,I0'.r,Nat.le_refl _⟩;have hmap:xs.map (·.x.s)=(sP l).reverse:=by
  have:(xs.map (·.x)).map (·.s)=(l.reverse).map (·.s):=by rw[hx2]
  rw[List.map_map] at this;rw[sP,<- List.map_reverse,<- this];rfl
 have HM:=aj hmap;have hseq:=Wi l w3 xs hx1 hx2 hx3 hl o cap (9-1) U.heap.size hX h3;clear I0' hx1 hx2 hx3 hmap F1 r1
 gi_wp2
 refine wpIn_rangeFunc_ownH rfl (by omega) (gf:=183) (lb:=#[ay U.heap.size]) rfl trivial (enters_of func183 (by kernel_rfl) rfl)
  hseq rY.trans (rY.put (fun k hk=>(Fb k hk).1)) (aG _ _) (fun _=>rfl)
  (fun pre W=>ShI p w.heap.size (w.heap.size+1) w3.heap.size W/\Below w.heap.size w W/\Below w3.heap.size w3 W/\Bg p pre)
  (fun c pre W=>c=.ret/\∃Wj e,pre=Wj++[e]/\Bg p Wj/\holdB e.x.s.pts e.x.s.rule p=true/\W.heap[w.heap.size+1]? =some (.cells #[.string e.x.s.fill] 9)/\Below w.heap.size w W)
  ?own ?acR
  ⟨I0,vZ,aG _ _,fun e he=>by cases he⟩
  (fun x a' W=>∃Bx,Qf W Bx 0 x.x/\a'={tmps:=#[.slice o l.length cap,mW p,undef,ay w.heap.size,.pointer (some ⟨w.heap.size+1,0,none⟩),undef,ay Bx,undef,undef,.slice o l.length cap,.func (.func 183) #[] #[ay U.heap.size],aa x.ix,VV x.x,undef,undef,undef,undef,undef,undef,undef,undef,undef,undef,undef,undef],defers:=[]})
  ?a8O
  ?assign ?body ?done ?stop
 case own=>
  intro pre A B row hs hg hr;obtain⟨hI,hB,hB3,hn⟩:=hs;have hr':∀r,row=some r->∃o:Obj,A.heap[r]? =some o/\o.isCells=false:=fun r e=>(hr r e).2;refine⟨⟨hI.f.kept' hg hr',Jv hI.r (by omega) hg hr,aJ hI.sz hg.size⟩,?_,?_,hn⟩
  ·exact⟨hg.os.trans hB.os,hg.tape.trans hB.tape,hg.output.trans hB.output,aJ hB.size hg.size,fun k hk=>(hg.block k (bI hk hB.size) (fun e=>by have:=(hr k e.symm).1;omega)).trans (hB.block k hk)⟩
  ·exact⟨hg.os.trans hB3.os,hg.tape.trans hB3.tape,hg.output.trans hB3.output,aJ hB3.size hg.size,fun k hk=>(hg.block k (bI hk hB3.size) (fun e=>by have:=(hr k e.symm).1;omega)).trans (hB3.block k hk)⟩
 case acR=>
  intro c pre A B row hs hg hr;obtain⟨hc,Wj,e,h1,h2,h3',h4,hB⟩:=hs;exact⟨hc,Wj,e,h1,h2,h3',Jv h4 (by omega) hg hr,⟨hg.os.trans hB.os,hg.tape.trans hB.tape,hg.output.trans hB.output,aJ hB.size hg.size,fun k hk=>(hg.block k (bI hk hB.size) (fun e=>by have:=(hr k e.symm).1;omega)).trans (hB.block k hk)⟩⟩
 case a8O=>
  intro x a' s A B row hs hg hr;obtain⟨Bx,hC,ha⟩:=hs;have hr':∀r,row=some r->∃o:Obj,A.heap[r]? =some o/\o.isCells=false:=fun r e=>(hr r e).2;exact⟨Bx,⟨cell_kept hC.c0 hg hr',cell_kept hC.c1 hg hr',cell_kept hC.c2 hg hr',cell_kept hC.c3 hg hr',cell_kept hC.c4 hg hr'⟩,ha⟩
 case assign=>
  rintro L pre x W K ⟨hI,hB,hB3,hn⟩ hK
  gi_wp2
  have k1:=bg W (.cells (xB x.x) 134);exact hK _ _ ((KeepsOthers.alloc _ _).from _) (rY.of_below k1 (fun j hj=>by have h1:=(Fb j hj).1;have h2:=hI.sz;omega)) ⟨hI.below k1,aA hB k1,aA hB3 k1,hn⟩ ⟨W.heap.size,Qf.new W x.x 134,rfl⟩
 case body=>
  rintro L pre x a' W hl' hr ⟨hI,hB,hB3,hn⟩ ⟨Bx,⟨x0,x1,x2,x3,x4⟩,rfl⟩ hlt;have HO:=Jt aB aS aZ aV x.x.s.pts x.x.o x.x.cap p x.x.s.rule W (x.hp.below hB3 ai) hp (NK.below hB3 ai) x.ok.1 hpe x.ok.2;obtain⟨⟨z0,z1,z2,z3⟩,hr0,hsz⟩:=id hI;have cr:=sj hr0;have fr:=Fh hr0;have HI:=aj hI;clear hI hr0;cases hh:holdB x.x.s.pts x.x.s.rule p with
  |false=>
   rw[hh] at HO;have HH:=aj hh;clear hh
   gi_wp2_with (refine⟨trivial,?_⟩;gi_at_call 131;refine(CallsIn.inRound L (callsIn_wide.2 HO)).mono ?_;rintro e w' ⟨rfl,hb⟩)
   exact⟨(uO hb).from _,rY.of_below hb (fun j hj=>by have h1:=(Fb j hj).1;omega),HI.out.below hb,aA hB hb,aA hB3 hb,hn.snoc HH.out⟩
  |true=>
   rw[hh] at HO;have HH:=aj hh;clear hh
   gi_wp2_with (refine⟨trivial,?_⟩;gi_at_call 131;refine(CallsIn.inRound L (callsIn_wide.2 HO)).mono ?_;rintro e w' ⟨rfl,hb⟩;have cr':=(hb.cell (aF cr)).trans cr;have fr':=(hb.frozen (aF cr)).trans fr;have x2':=(hb.cell (aF x2)).trans x2)
   have hI':=HI.out.below hb;exact⟨((uO hb).trans (eF _ _ _)).from _,rfl,pre,x,rfl,hn,HH.out,Jw hI'.r _,(aA hB hb).setCell (by simp) _⟩
 case done=>
  rintro D ys W hD rfl ⟨hI,hB,hB3,hn⟩ hK;have hr0:=hI.r;have cr:=sj hr0;have fr:=Fh hr0;have hsh:iD (sP l) p=a4A:=by
   unfold iD;rw[<- HM.out];exact Jo _ _ hn.pm
  gi_wp2
  have hK':=(eF W ⟨w.heap.size+1,0,none⟩ (.string ⟨#[46]⟩)).same D _ hK rfl;refine⟨by simp,.inl ⟨_,_,rfl,run_takeDeferred hK',?_⟩⟩;have hr2:=Jw hr0 (.string ⟨#[46]⟩);have hr3:=(World.putObj_heap_other (w:=W.setCell ⟨w.heap.size+1,0,none⟩ (.string ⟨#[46]⟩)) (o:=.deferred none) (show w.heap.size+1≠D by omega)).trans hr2;have oc:=sj hr3;refine⟨.string ⟨#[46]⟩,?_,by rw[hsh];rfl,(hB.setCell (by simp) _).trans (belowK_b (w:=w) ai _ D _ _ (by have:=vZ.size;omega) hK' rfl rfl)⟩;simp[results,results82,go_sem,oc]
 case stop=>
  rintro D c pre W hD hpre ⟨rfl,Wj,e,rfl,hn,hh,hr0,hB⟩ hK;have hsh:iD (sP l) p=e.x.s.fill:=by
   unfold iD;obtain⟨rest,hrest⟩:=hpre;rw[<- HM.out,<- hrest,List.map_append,List.map_append,List.append_assoc];exact NF _ _ _ _ hn.pm hh
  gi_wp2
  refine⟨by simp,.inl ⟨_,_,rfl,run_takeDeferred hK,?_⟩⟩;have hr3:=(World.putObj_heap_other (w:=W) (o:=.deferred none) (show w.heap.size+1≠D by omega)).trans hr0;have oc:=sj hr3;refine⟨.string e.x.s.fill,?_,by rw[hsh],hB.trans (belowK_b (w:=w) ai W D _ _ (by have:=vZ.size;omega) hK rfl rfl)⟩;simp[results,results82,go_sem,oc]
theorem Jy (aB aS aZ aV:Addr)(l:List P5)(o:Option Addr)(cap:Nat)(p:Qt)(w:ag)(hl:l.length<=1000)(h:iH w o l)(hP:j5 w l)(hk:∀x∈l,iw x.s)(hp:PI p)(hpe:iq p=0)(hE:EP aB aS aZ aV w):
  au 82 #[.slice o l.length cap,mW p] w fun e W=>e=.returned (.string (iD (sP l) p))/\Below w.heap.size w W:=callsIn_wide.1 (NJ aB aS aZ aV l o cap p w hl h hP hk hp hpe hE)
end
end Go.Proofs.YtecneflbncjhpaaGreatDoor

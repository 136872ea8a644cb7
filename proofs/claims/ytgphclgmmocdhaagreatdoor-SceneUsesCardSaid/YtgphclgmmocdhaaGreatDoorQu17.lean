/-
  Parts of the proof.
-/
import Derived.Stop.Asserts
import Derived.RowKitTokens
import Derived.Test.YtgphclgmmocdhaaGreatDoorQu16
namespace Go.Proofs.YtgphclgmmocdhaaGreatDoor
section
open Go.RowKit Go.Extern.Stop Go.Stop Go.Extern
abbrev hPP:Value:=.pointer (some ⟨19,278,none⟩)
abbrev hP:Value:=.pointer (some ⟨19,143,none⟩)
abbrev hE:Value:=.pointer (some ⟨19,31,none⟩)
abbrev hS:Value:=.pointer (some ⟨19,409,none⟩)
theorem typeOfS (v:Value) (w:World):(ReflectliteType.typeOf #[.iface 409 v]).run Tryz.prog w=.ok (.iface 316 (.agg #[hS])) w:=by kernel_rfl
end
section
open Go.RowKit Go.Extern.Stop Go.Stop Go.Extern
theorem noUnwrapS (v:Value) (xT:TypeId) (w:World):(Instr.typeAssert (.iface 409 v) xT 321 true).run Tryz.prog w=.ok (.tuple #[.nilIface,.bool false]) w:=run_typeAssert_lacksB Tryz.underlying321 (by kernel_rfl) (by kernel_rfl) v xT w
theorem noUnwrapsS (v:Value) (xT:TypeId) (w:World):(Instr.typeAssert (.iface 409 v) xT 322 true).run Tryz.prog w=.ok (.tuple #[.nilIface,.bool false]) w:=run_typeAssert_lacksB Tryz.underlying322 (by kernel_rfl) (by kernel_rfl) v xT w
end
section
open Go.RowKit Go.Extern.Stop Go.Stop Go.Extern
set_option maxHeartbeats 1000000
abbrev eV (a:Addr):Value:=.iface 409 (.pointer (some a))
def compF:Array Value->Sem Value:=Extern.ReflectliteType.method fun t=>do Rtype.noPackHeld "Comparable" t;pure (.bool (<- typeInfo t).comparable)
theorem isComparable (w:World):(compF #[.agg #[hS]]).run Tryz.prog w=.ok (.bool true) w:=by kernel_rfl
theorem methodComparable (v:Value) (w:World):(Go.method 549 316 v "Comparable").run Tryz.prog w=.ok (350,v) w:=by kernel_rfl
theorem isComp:(Tryz.prog.info? 409).map (·.comparable)=some true:=by kernel_rfl
theorem isSize:(Tryz.prog.info? 411).map (·.size)=some 1:=by kernel_rfl
theorem noIsS (v:Value) (xT:TypeId) (w:World):(Instr.typeAssert (.iface 409 v) xT 318 true).run Tryz.prog w=.ok (.tuple #[.nilIface,.bool false]) w:=run_typeAssert_lacksB Tryz.underlying318 (by kernel_rfl) (by kernel_rfl) v xT w
theorem noIsP (v:Value) (xT:TypeId) (w:World):(Instr.typeAssert (.iface 143 v) xT 318 true).run Tryz.prog w=.ok (.tuple #[.nilIface,.bool false]) w:=run_typeAssert_lacksB Tryz.underlying318 (by kernel_rfl) (by kernel_rfl) v xT w
theorem hasUnwrapP (v:Value) (xT:TypeId) (w:World):(Instr.typeAssert (.iface 143 v) xT 321 true).run Tryz.prog w=.ok (.tuple #[.iface 143 v,.bool true]) w:=run_typeAssert_hasB Tryz.underlying321 (by kernel_rfl) v xT w
theorem methodUnwrap (v:Value) (w:World):(Go.method 549 143 v "Unwrap").run Tryz.prog w=.ok (345,v) w:=by kernel_rfl
theorem is_same (a:Addr) (w:World) :
  Calls Tryz.prog 123 #[eV a,eV a] w fun e w'=>e=.returned (.bool true)/\w'=w:=by
 obtain ⟨i,hi,hcmp⟩:=Option.map_eq_some_iff.1 isComp
 obtain ⟨j,hj,hjs⟩:=Option.map_eq_some_iff.1 isSize
 have h8:=@run_callFunc_extern Tryz.prog 178 _ Extern.ReflectliteType.typeOf Tryz.func178 (by kernel_rfl) (by kernel_rfl) (by kernel_rfl) (by kernel_rfl)
 have h32:=@run_callFunc_extern Tryz.prog 350 _ compF Tryz.func350 (by kernel_rfl) (by kernel_rfl) (by kernel_rfl) (by kernel_rfl)
 have tT:=typeOfS
 have cT:=isComparable
 have mR:=methodComparable
 have heq:=run_eql_iface_ptr_same (P:=Tryz.prog) w a Tryz.underlying31 Tryz.underlying409 hi hcmp hj
 simp only [hS] at *
 go_enter Tryz.func123,Tryz.ntmps123
 go_wp2
 refine wp_loop_rounds 1 ?_
 rw [rounds_succ]
 go_wp2
 go_ret
 exact ⟨rfl,rfl⟩
theorem is_other (a b:Addr) (ca cb:Array Value) (ta tb:TypeId) (w:World) (hne:a≠b) (ha:w.heap[a.block]? = some (.cells ca ta (0,0))) (hb:w.heap[b.block]? = some (.cells cb tb (0,0))) :
  Calls Tryz.prog 123 #[eV a,eV b] w fun e w'=>e=.returned (.bool false)/\w'=w:=by
 obtain ⟨i,hi,hcmp⟩:=Option.map_eq_some_iff.1 isComp
 obtain ⟨j,hj,hjs⟩:=Option.map_eq_some_iff.1 isSize
 have h8:=@run_callFunc_extern Tryz.prog 178 _ Extern.ReflectliteType.typeOf Tryz.func178 (by kernel_rfl) (by kernel_rfl) (by kernel_rfl) (by kernel_rfl)
 have h32:=@run_callFunc_extern Tryz.prog 350 _ compF Tryz.func350 (by kernel_rfl) (by kernel_rfl) (by kernel_rfl) (by kernel_rfl)
 have tT:=typeOfS
 have cT:=isComparable
 have mR:=methodComparable
 have nE:=noIsS
 have uE:=noUnwrapS
 have vE:=noUnwrapsS
 have heq:=run_eql_iface_ptr_other (P:=Tryz.prog) w Tryz.underlying31 Tryz.underlying409 hi hcmp hj (by rw [hjs];decide) hne ha hb
 simp only [hS] at *
 clear ha hb hne
 go_enter Tryz.func123,Tryz.ntmps123
 go_wp2
 refine wp_loop_rounds 1 ?_
 rw [rounds_succ]
 go_wp2
 go_ret
 exact ⟨rfl,rfl⟩
theorem is_fault_same (pb po:Nat) (b:Addr) (w:World) (h1:w.cell? ⟨pb,po+1,none⟩=some (eV b)) :
  Calls Tryz.prog 123 #[.iface 143 (.pointer (some ⟨pb,po,none⟩)),eV b] w fun e w'=>e=.returned (.bool true)/\w'=w:=by
 obtain ⟨i,hi,hcmp⟩:=Option.map_eq_some_iff.1 isComp
 obtain ⟨j,hj,hjs⟩:=Option.map_eq_some_iff.1 isSize
 have h8:=@run_callFunc_extern Tryz.prog 178 _ Extern.ReflectliteType.typeOf Tryz.func178 (by kernel_rfl) (by kernel_rfl) (by kernel_rfl) (by kernel_rfl)
 have h32:=@run_callFunc_extern Tryz.prog 350 _ compF Tryz.func350 (by kernel_rfl) (by kernel_rfl) (by kernel_rfl) (by kernel_rfl)
 have tT:=typeOfS
 have cT:=isComparable
 have mR:=methodComparable
 have nW:=noIsP
 have uW:=hasUnwrapP
 have mU:=methodUnwrap
 have heq:=run_eql_iface_ptr_same (P:=Tryz.prog) w b Tryz.underlying31 Tryz.underlying409 hi hcmp hj
 have hty:=run_eql_iface_types (P:=Tryz.prog) 143 409 (.pointer (some ⟨pb,po,none⟩)) (.pointer (some b)) Tryz.underlying31 (by decide) w
 simp only [hS] at *
 go_enter Tryz.func123,Tryz.ntmps123
 go_wp2
 refine wp_loop_rounds 2 ?_
 rw [rounds_succ]
 go_wp2
 rw [rounds_succ]
 go_wp2
 go_ret
 exact ⟨rfl,rfl⟩
theorem is_fault_other (pb po:Nat) (b a:Addr) (ca cb:Array Value) (ta tb:TypeId) (w:World) (h1:w.cell? ⟨pb,po+1,none⟩=some (eV a)) (hne:a≠b) (ha:w.heap[a.block]? = some (.cells ca ta (0,0))) (hb:w.heap[b.block]? = some (.cells cb tb (0,0))) :
  Calls Tryz.prog 123 #[.iface 143 (.pointer (some ⟨pb,po,none⟩)),eV b] w fun e w'=>e=.returned (.bool false)/\w'=w:=by
 obtain ⟨i,hi,hcmp⟩:=Option.map_eq_some_iff.1 isComp
 obtain ⟨j,hj,hjs⟩:=Option.map_eq_some_iff.1 isSize
 have h8:=@run_callFunc_extern Tryz.prog 178 _ Extern.ReflectliteType.typeOf Tryz.func178 (by kernel_rfl) (by kernel_rfl) (by kernel_rfl) (by kernel_rfl)
 have h32:=@run_callFunc_extern Tryz.prog 350 _ compF Tryz.func350 (by kernel_rfl) (by kernel_rfl) (by kernel_rfl) (by kernel_rfl)
 have tT:=typeOfS
 have cT:=isComparable
 have mR:=methodComparable
 have nE:=noIsS
 have uE:=noUnwrapS
 have vE:=noUnwrapsS
 have nW:=noIsP
 have uW:=hasUnwrapP
 have mU:=methodUnwrap
 have heq:=run_eql_iface_ptr_other (P:=Tryz.prog) w Tryz.underlying31 Tryz.underlying409 hi hcmp hj (by rw [hjs];decide) hne ha hb
 have hty:=run_eql_iface_types (P:=Tryz.prog) 143 409 (.pointer (some ⟨pb,po,none⟩)) (.pointer (some b)) Tryz.underlying31 (by decide) w
 simp only [hS] at *
 clear ha hb hne
 go_enter Tryz.func123,Tryz.ntmps123
 go_wp2
 refine wp_loop_rounds 2 ?_
 rw [rounds_succ]
 go_wp2
 rw [rounds_succ]
 go_wp2
 go_ret
 exact ⟨rfl,rfl⟩
end
section
mutual
theorem elN_nm:∀ (n:Nd) (k:Nat) (p:Int),okN n->∀ e ∈ elN k p n,isNm e.name=true
 | .mk nm ats ks,k,p,h,e,he=>by
  unfold okN at h
  rw [elN] at he
  rcases List.mem_cons.1 he with rfl | he
  ·exact h.1
  ·exact elL_nm ks _ _ h.2.2 e he
theorem elL_nm:∀ (l:List Nd) (k:Nat) (p:Int),okL l->∀ e ∈ elL k p l,isNm e.name=true
 | [],_,_,_,e,he=>by simp [elL] at he
 | n :: l,k,p,h,e,he=>by
  unfold okL at h
  rw [elL] at he
  rcases List.mem_append.1 he with he | he
  ·exact elN_nm n _ _ h.1 e he
  ·exact elL_nm l _ _ h.2 e he
end
abbrev newD (n:Nd):Dm:=extE (fun _=>none) 0 (elN 0 (-1) n)
end
end Go.Proofs.YtgphclgmmocdhaaGreatDoor

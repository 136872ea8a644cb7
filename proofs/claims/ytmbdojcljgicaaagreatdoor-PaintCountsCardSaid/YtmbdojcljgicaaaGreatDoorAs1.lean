/-
  errors.As and errors.Is where package plain calls them: the target a *api.Fault variable, the errors those of errors.New's make and *api.Fault's. Closed facts first.
-/
import Derived.Test.YtmbdojcljgicaaaGreatDoorProg
import Derived.WalkKit
import Derived.WalkSpells
import Derived.WalkLawsBesides
import Derived.LaidEql
import Derived.Stop.Asserts
import Derived.RowKitTokens
namespace Go.Proofs.YtmbdojcljgicaaaGreatDoor
open Go.RowKit Go.Extern.Stop Go.Stop Go.Extern

theorem as_nil (t : Value) (w : World) :
    Calls Tryz.prog 37 #[.nilIface, t] w fun e w' => e = .returned (.bool false) ∧ w' = w := by
  go_enter Tryz.func37, Tryz.ntmps37
  go_wp2
  go_ret
  exact ⟨rfl, rfl⟩

abbrev hPP : Value := .pointer (some ⟨4, 86, none⟩)
abbrev hP : Value := .pointer (some ⟨4, 69, none⟩)
abbrev hE : Value := .pointer (some ⟨4, 29, none⟩)
abbrev hS : Value := .pointer (some ⟨4, 165, none⟩)

theorem valueOfPP (t : Addr) (w : World) : (ReflectliteValue.unpack (.iface 86 (.pointer (some t)))).run Tryz.prog w
    = .ok (.agg #[hPP, .pointer (some ⟨w.heap.size, 0, none⟩), .int .u64 150]) (w.alloc (.cells #[.pointer (some t)] 86)) := by kernel_rfl
theorem typePP (a : Addr) (w : World) : (ReflectliteValue.methodAny (ReflectliteValue.valueError "reflectlite.Value.Type" 0) (fun t _ _ _ => ReflectliteType.toType t) #[.agg #[hPP, .pointer (some a), .int .u64 150]]).run Tryz.prog w
    = .ok (.iface 136 (.agg #[hPP])) w := by kernel_rfl
theorem kindPP (w : World) : ((ReflectliteType.abiMethod fun t => (fun a : Nat => Value.int IntKind.u8 (a : Int)) <$> Rtype.kind t) #[hPP]).run Tryz.prog w = .ok (.int .u8 22) w := by kernel_rfl
theorem kindP (w : World) : ((ReflectliteType.abiMethod fun t => (fun a : Nat => Value.int IntKind.u8 (a : Int)) <$> Rtype.kind t) #[hP]).run Tryz.prog w = .ok (.int .u8 22) w := by kernel_rfl

theorem partsPP (a : Addr) (w : World) : (ReflectliteValue.parts (.agg #[hPP, .pointer (some a), .int .u64 150])).run Tryz.prog w = .ok (some (86, a, 150)) w := by kernel_rfl
theorem isNilPP (a p : Addr) (W : World) (ha : W.cell? a = some (.pointer (some p))) :
    (ReflectliteValue.method (ReflectliteValue.valueError "reflectlite.Value.IsNil" 0) ReflectliteValue.isNil #[.agg #[hPP, .pointer (some a), .int .u64 150]]).run Tryz.prog W = .ok (.bool false) W := by
  obtain ⟨k, hk, hr⟩ : ∃ k, ReflectliteValue.method (ReflectliteValue.valueError "reflectlite.Value.IsNil" 0) ReflectliteValue.isNil #[.agg #[hPP, .pointer (some a), .int .u64 150]] = (ReflectliteValue.parts (.agg #[hPP, .pointer (some a), .int .u64 150]) >>= k) ∧ (k (some (86, a, 150))).run Tryz.prog W = .ok (.bool false) W :=
    ⟨_, rfl, by simp [ReflectliteValue.isNil, loadVar, isAgg, underlying, Tryz.underlying86, ha, Result.andThen]⟩
  rw [hk]
  simp only [Sem.run_bind, partsPP, Result.andThen]
  exact hr
theorem elemTPP (w : World) : (ReflectliteType.method ReflectliteType.elem #[.agg #[hPP]]).run Tryz.prog w = .ok (.iface 136 (.agg #[hP])) w := by kernel_rfl
theorem implementsP (w : World) : (ReflectliteType.relation "Implements" ReflectliteType.implements_ #[.agg #[hP], .iface 136 (.agg #[hE])]).run Tryz.prog w = .ok (.bool true) w := by kernel_rfl
theorem typeOfP (v : Value) (w : World) : (ReflectliteType.typeOf #[.iface 69 v]).run Tryz.prog w = .ok (.iface 136 (.agg #[hP])) w := by kernel_rfl
theorem typeOfS (v : Value) (w : World) : (ReflectliteType.typeOf #[.iface 165 v]).run Tryz.prog w = .ok (.iface 136 (.agg #[hS])) w := by kernel_rfl
theorem assignableP (w : World) : (ReflectliteType.relation "AssignableTo" ReflectliteType.assignableTo #[.agg #[hP], .iface 136 (.agg #[hP])]).run Tryz.prog w = .ok (.bool true) w := by kernel_rfl
theorem assignableS (w : World) : (ReflectliteType.relation "AssignableTo" ReflectliteType.assignableTo #[.agg #[hS], .iface 136 (.agg #[hP])]).run Tryz.prog w = .ok (.bool false) w := by kernel_rfl
theorem valueOfP (e : Addr) (w : World) : (ReflectliteValue.unpack (.iface 69 (.pointer (some e)))).run Tryz.prog w
    = .ok (.agg #[hP, .pointer (some ⟨w.heap.size, 0, none⟩), .int .u64 150]) (w.alloc (.cells #[.pointer (some e)] 69)) := by kernel_rfl
theorem elemOfPP (w : World) : (Rtype.elem? 86).run Tryz.prog w = .ok (some 69) w := by kernel_rfl
theorem mkP (p : Addr) (w : World) : (ReflectliteValue.mk 69 p ReflectliteValue.flagAddr).run Tryz.prog w = .ok (.agg #[hP, .pointer (some p), .int .u64 406]) w := by kernel_rfl
theorem elemVPP (a p : Addr) (W : World) (ha : W.cell? a = some (.pointer (some p))) :
    (ReflectliteValue.method (ReflectliteValue.valueError "reflectlite.Value.Elem" 0) ReflectliteValue.elem #[.agg #[hPP, .pointer (some a), .int .u64 150]]).run Tryz.prog W
      = .ok (.agg #[hP, .pointer (some p), .int .u64 406]) W := by
  obtain ⟨k, hk, hr⟩ : ∃ k, ReflectliteValue.method (ReflectliteValue.valueError "reflectlite.Value.Elem" 0) ReflectliteValue.elem #[.agg #[hPP, .pointer (some a), .int .u64 150]] = (ReflectliteValue.parts (.agg #[hPP, .pointer (some a), .int .u64 150]) >>= k) ∧ (k (some (86, a, 150))).run Tryz.prog W = .ok (.agg #[hP, .pointer (some p), .int .u64 406]) W :=
    ⟨_, rfl, by simp [ReflectliteValue.elem, loadVar, isAgg, underlying, Tryz.underlying86, ha, Result.andThen, elemOfPP, mkP]⟩
  rw [hk]
  simp only [Sem.run_bind, partsPP, Result.andThen]
  exact hr

end Go.Proofs.YtmbdojcljgicaaaGreatDoor

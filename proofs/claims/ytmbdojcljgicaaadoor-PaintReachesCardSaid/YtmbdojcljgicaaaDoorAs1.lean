/-
  errors.As and errors.Is where package plain calls them: the target a *api.Fault variable, the errors those of errors.New's make and *api.Fault's. Closed facts first.
-/
import Derived.Test.YtmbdojcljgicaaaDoorProg
import Derived.WalkKit
import Derived.WalkSpells
import Derived.WalkLawsBesides
import Derived.LaidEql
import Derived.Stop.Asserts
import Derived.RowKitTokens
namespace Go.Proofs.YtmbdojcljgicaaaDoor
open Go.RowKit Go.Extern.Stop Go.Stop Go.Extern

theorem as_nil (t : Value) (w : World) :
    Calls Tryd.prog 32 #[.nilIface, t] w fun e w' => e = .returned (.bool false) ∧ w' = w := by
  go_enter Tryd.func32, Tryd.ntmps32
  go_wp2
  go_ret
  exact ⟨rfl, rfl⟩

abbrev hPP : Value := .pointer (some ⟨4, 79, none⟩)
abbrev hP : Value := .pointer (some ⟨4, 64, none⟩)
abbrev hE : Value := .pointer (some ⟨4, 29, none⟩)
abbrev hS : Value := .pointer (some ⟨4, 130, none⟩)

theorem valueOfPP (t : Addr) (w : World) : (ReflectliteValue.unpack (.iface 79 (.pointer (some t)))).run Tryd.prog w
    = .ok (.agg #[hPP, .pointer (some ⟨w.heap.size, 0, none⟩), .int .u64 150]) (w.alloc (.cells #[.pointer (some t)] 79)) := by kernel_rfl
theorem typePP (a : Addr) (w : World) : (ReflectliteValue.methodAny (ReflectliteValue.valueError "reflectlite.Value.Type" 0) (fun t _ _ _ => ReflectliteType.toType t) #[.agg #[hPP, .pointer (some a), .int .u64 150]]).run Tryd.prog w
    = .ok (.iface 113 (.agg #[hPP])) w := by kernel_rfl
theorem kindPP (w : World) : ((ReflectliteType.abiMethod fun t => (fun a : Nat => Value.int IntKind.u8 (a : Int)) <$> Rtype.kind t) #[hPP]).run Tryd.prog w = .ok (.int .u8 22) w := by kernel_rfl
theorem kindP (w : World) : ((ReflectliteType.abiMethod fun t => (fun a : Nat => Value.int IntKind.u8 (a : Int)) <$> Rtype.kind t) #[hP]).run Tryd.prog w = .ok (.int .u8 22) w := by kernel_rfl

theorem partsPP (a : Addr) (w : World) : (ReflectliteValue.parts (.agg #[hPP, .pointer (some a), .int .u64 150])).run Tryd.prog w = .ok (some (79, a, 150)) w := by kernel_rfl
theorem isNilPP (a p : Addr) (W : World) (ha : W.cell? a = some (.pointer (some p))) :
    (ReflectliteValue.method (ReflectliteValue.valueError "reflectlite.Value.IsNil" 0) ReflectliteValue.isNil #[.agg #[hPP, .pointer (some a), .int .u64 150]]).run Tryd.prog W = .ok (.bool false) W := by
  obtain ⟨k, hk, hr⟩ : ∃ k, ReflectliteValue.method (ReflectliteValue.valueError "reflectlite.Value.IsNil" 0) ReflectliteValue.isNil #[.agg #[hPP, .pointer (some a), .int .u64 150]] = (ReflectliteValue.parts (.agg #[hPP, .pointer (some a), .int .u64 150]) >>= k) ∧ (k (some (79, a, 150))).run Tryd.prog W = .ok (.bool false) W :=
    ⟨_, rfl, by simp [ReflectliteValue.isNil, loadVar, isAgg, underlying, Tryd.underlying79, ha, Result.andThen]⟩
  rw [hk]
  simp only [Sem.run_bind, partsPP, Result.andThen]
  exact hr
theorem elemTPP (w : World) : (ReflectliteType.method ReflectliteType.elem #[.agg #[hPP]]).run Tryd.prog w = .ok (.iface 113 (.agg #[hP])) w := by kernel_rfl
theorem implementsP (w : World) : (ReflectliteType.relation "Implements" ReflectliteType.implements_ #[.agg #[hP], .iface 113 (.agg #[hE])]).run Tryd.prog w = .ok (.bool true) w := by kernel_rfl
theorem typeOfP (v : Value) (w : World) : (ReflectliteType.typeOf #[.iface 64 v]).run Tryd.prog w = .ok (.iface 113 (.agg #[hP])) w := by kernel_rfl
theorem typeOfS (v : Value) (w : World) : (ReflectliteType.typeOf #[.iface 130 v]).run Tryd.prog w = .ok (.iface 113 (.agg #[hS])) w := by kernel_rfl
theorem assignableP (w : World) : (ReflectliteType.relation "AssignableTo" ReflectliteType.assignableTo #[.agg #[hP], .iface 113 (.agg #[hP])]).run Tryd.prog w = .ok (.bool true) w := by kernel_rfl
theorem assignableS (w : World) : (ReflectliteType.relation "AssignableTo" ReflectliteType.assignableTo #[.agg #[hS], .iface 113 (.agg #[hP])]).run Tryd.prog w = .ok (.bool false) w := by kernel_rfl
theorem valueOfP (e : Addr) (w : World) : (ReflectliteValue.unpack (.iface 64 (.pointer (some e)))).run Tryd.prog w
    = .ok (.agg #[hP, .pointer (some ⟨w.heap.size, 0, none⟩), .int .u64 150]) (w.alloc (.cells #[.pointer (some e)] 64)) := by kernel_rfl
theorem elemOfPP (w : World) : (Rtype.elem? 79).run Tryd.prog w = .ok (some 64) w := by kernel_rfl
theorem mkP (p : Addr) (w : World) : (ReflectliteValue.mk 64 p ReflectliteValue.flagAddr).run Tryd.prog w = .ok (.agg #[hP, .pointer (some p), .int .u64 406]) w := by kernel_rfl
theorem elemVPP (a p : Addr) (W : World) (ha : W.cell? a = some (.pointer (some p))) :
    (ReflectliteValue.method (ReflectliteValue.valueError "reflectlite.Value.Elem" 0) ReflectliteValue.elem #[.agg #[hPP, .pointer (some a), .int .u64 150]]).run Tryd.prog W
      = .ok (.agg #[hP, .pointer (some p), .int .u64 406]) W := by
  obtain ⟨k, hk, hr⟩ : ∃ k, ReflectliteValue.method (ReflectliteValue.valueError "reflectlite.Value.Elem" 0) ReflectliteValue.elem #[.agg #[hPP, .pointer (some a), .int .u64 150]] = (ReflectliteValue.parts (.agg #[hPP, .pointer (some a), .int .u64 150]) >>= k) ∧ (k (some (79, a, 150))).run Tryd.prog W = .ok (.agg #[hP, .pointer (some p), .int .u64 406]) W :=
    ⟨_, rfl, by simp [ReflectliteValue.elem, loadVar, isAgg, underlying, Tryd.underlying79, ha, Result.andThen, elemOfPP, mkP]⟩
  rw [hk]
  simp only [Sem.run_bind, partsPP, Result.andThen]
  exact hr

end Go.Proofs.YtmbdojcljgicaaaDoor

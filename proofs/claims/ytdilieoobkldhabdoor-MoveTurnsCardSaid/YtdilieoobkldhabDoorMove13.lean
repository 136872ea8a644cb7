/-
  Package move's kinds of moves in a text: which name is which kind.
-/
import Derived.Test.YtdilieoobkldhabDoorMove12
namespace Go.Proofs.YtdilieoobkldhabDoor
open Go.RowKit

theorem run_store_func' (P : Program) (w : World) (a : Addr) (m : Mode) (f : Fn) (x y : Array Value) : (store a (.func f x y) m).run P w = stored P w a (.func f x y) m := run_store P w a _ m rfl
attribute [local go_sem] run_store_func'

abbrev bMove : ByteArray := ⟨#[109, 111, 118, 101]⟩
abbrev bScale : ByteArray := ⟨#[115, 99, 97, 108, 101]⟩
abbrev bTurn : ByteArray := ⟨#[116, 117, 114, 110]⟩
abbrev bSkew : ByteArray := ⟨#[115, 107, 101, 119]⟩

set_option maxHeartbeats 1000000 in
theorem ofFracs_any (k : Nat) (W : World) : Calls Tryd.prog 68 #[.func (.func k) #[] #[]] W fun e w' => e = .returned (.func (.func 99) #[] #[.pointer (some ⟨W.heap.size, 0, none⟩)]) ∧ w' = W.alloc (.cells #[.func (.func k) #[] #[]] 139) := by
  have hmf : ∀ (fn : Fn) (first cap : Array Value) (w : World), (Instr.makeFunc fn first cap).run Tryd.prog w = .ok (.func fn first cap) w := fun _ _ _ _ => rfl
  go_enter Tryd.func68, Tryd.ntmps68
  go_wp2
  go_ret
  exact ⟨rfl, rfl⟩

set_option maxHeartbeats 2000000 in
theorem kindOf_move (W : World) : Calls Tryd.prog 47 #[.string bMove] W fun e w' => (∃ B, W.heap.size ≤ B ∧ e = .returned (.tuple #[.agg #[.int .i64 2, .func (.func 99) #[] #[.pointer (some ⟨B, 0, none⟩)]], .bool true]) ∧ w'.cell? ⟨B, 0, none⟩ = some (.func (.func 69) #[] #[])) ∧ Below W.heap.size W w' := by
  have HO := ofFracs_any
  go_enter Tryd.func47, Tryd.ntmps47
  go_wp2_with (go_at_call 68; refine (HO _ _).mono ?_; rintro e w1 ⟨rfl, rfl⟩)
  refine bodyPost_ret (v := .tuple #[.agg #[.int .i64 2, .func (.func 99) #[] #[.pointer (some ⟨W.heap.size + 1, 0, none⟩)]], .bool true]) (by simp [results, Tryd.results47, go_sem]) rfl ⟨⟨W.heap.size + 1, by omega, rfl, cell_at (by simp) rfl⟩, ?_⟩
  exact ((Below.refl _ W).alloc (Nat.le_refl _) _).alloc (by simp) _

set_option maxHeartbeats 2000000 in
theorem kindOf_scale (W : World) : Calls Tryd.prog 47 #[.string bScale] W fun e w' => (∃ B, W.heap.size ≤ B ∧ e = .returned (.tuple #[.agg #[.int .i64 2, .func (.func 99) #[] #[.pointer (some ⟨B, 0, none⟩)]], .bool true]) ∧ w'.cell? ⟨B, 0, none⟩ = some (.func (.func 70) #[] #[])) ∧ Below W.heap.size W w' := by
  have HO := ofFracs_any
  go_enter Tryd.func47, Tryd.ntmps47
  go_wp2_with (go_at_call 68; refine (HO _ _).mono ?_; rintro e w1 ⟨rfl, rfl⟩)
  refine bodyPost_ret (v := .tuple #[.agg #[.int .i64 2, .func (.func 99) #[] #[.pointer (some ⟨W.heap.size + 1, 0, none⟩)]], .bool true]) (by simp [results, Tryd.results47, go_sem]) rfl ⟨⟨W.heap.size + 1, by omega, rfl, cell_at (by simp) rfl⟩, ?_⟩
  exact ((Below.refl _ W).alloc (Nat.le_refl _) _).alloc (by simp) _

set_option maxHeartbeats 2000000 in
theorem kindOf_skew (W : World) : Calls Tryd.prog 47 #[.string bSkew] W fun e w' => (∃ B, W.heap.size ≤ B ∧ e = .returned (.tuple #[.agg #[.int .i64 1, .func (.func 99) #[] #[.pointer (some ⟨B, 0, none⟩)]], .bool true]) ∧ w'.cell? ⟨B, 0, none⟩ = some (.func (.func 72) #[] #[])) ∧ Below W.heap.size W w' := by
  have HO := ofFracs_any
  go_enter Tryd.func47, Tryd.ntmps47
  go_wp2_with (go_at_call 68; refine (HO _ _).mono ?_; rintro e w1 ⟨rfl, rfl⟩)
  refine bodyPost_ret (v := .tuple #[.agg #[.int .i64 1, .func (.func 99) #[] #[.pointer (some ⟨W.heap.size + 1, 0, none⟩)]], .bool true]) (by simp [results, Tryd.results47, go_sem]) rfl ⟨⟨W.heap.size + 1, by omega, rfl, cell_at (by simp) rfl⟩, ?_⟩
  exact ((Below.refl _ W).alloc (Nat.le_refl _) _).alloc (by simp) _

set_option maxHeartbeats 2000000 in
theorem kindOf_turn (W : World) : Calls Tryd.prog 47 #[.string bTurn] W fun e w' => e = .returned (.tuple #[.agg #[.int .i64 1, .func (.func 71) #[] #[]], .bool true]) ∧ Below W.heap.size W w' := by
  go_enter Tryd.func47, Tryd.ntmps47
  go_wp2
  refine bodyPost_ret (v := .tuple #[.agg #[.int .i64 1, .func (.func 71) #[] #[]], .bool true]) (by simp [results, Tryd.results47, go_sem]) rfl ⟨rfl, ?_⟩
  exact (Below.refl _ W).alloc (Nat.le_refl _) _

end Go.Proofs.YtdilieoobkldhabDoor

/-
  errors.Is where package plain calls it: the target one of package api's errors; the error one of errors.New's make, or a *api.Fault that wraps one.
-/
import Derived.Test.YtnoecobddhmhlaaGreatDoorJ13
import Derived.Test.YtnoecobddhmhlaaGreatDoorJ7
namespace Go.Proofs.YtnoecobddhmhlaaGreatDoor
open Go.RowKit Go.Extern.Stop Go.Stop Go.Extern

abbrev eV (a : Addr) : Value := .iface 245 (.pointer (some a))

def compF : Array Value → Sem Value := Extern.ReflectliteType.method fun t => do Rtype.noPackHeld "Comparable" t; pure (.bool (← typeInfo t).comparable)
theorem isComparable (w : World) : (compF #[.agg #[hS]]).run Tryz.prog w = .ok (.bool true) w := by kernel_rfl
theorem methodComparable (v : Value) (w : World) : (Go.method 376 214 v "Comparable").run Tryz.prog w = .ok (203, v) w := by kernel_rfl
theorem isComp : (Tryz.prog.info? 245).map (·.comparable) = some true := by kernel_rfl
theorem isSize : (Tryz.prog.info? 264).map (·.size) = some 1 := by kernel_rfl

theorem noIsS (v : Value) (xT : TypeId) (w : World) : (Instr.typeAssert (.iface 245 v) xT 225 true).run Tryz.prog w = .ok (.tuple #[.nilIface, .bool false]) w := run_typeAssert_lacksB Tryz.underlying225 (by kernel_rfl) (by kernel_rfl) v xT w
theorem noIsP (v : Value) (xT : TypeId) (w : World) : (Instr.typeAssert (.iface 153 v) xT 225 true).run Tryz.prog w = .ok (.tuple #[.nilIface, .bool false]) w := run_typeAssert_lacksB Tryz.underlying225 (by kernel_rfl) (by kernel_rfl) v xT w
theorem hasUnwrapP (v : Value) (xT : TypeId) (w : World) : (Instr.typeAssert (.iface 153 v) xT 221 true).run Tryz.prog w = .ok (.tuple #[.iface 153 v, .bool true]) w := run_typeAssert_hasB Tryz.underlying221 (by kernel_rfl) v xT w
theorem methodUnwrap (v : Value) (w : World) : (Go.method 376 153 v "Unwrap").run Tryz.prog w = .ok (197, v) w := by kernel_rfl

set_option maxHeartbeats 1000000 in
theorem is_same (a : Addr) (w : World) :
    Calls Tryz.prog 104 #[eV a, eV a] w fun e w' => e = .returned (.bool true) ∧ w' = w := by
  obtain ⟨i, hi, hcmp⟩ := Option.map_eq_some_iff.1 isComp
  obtain ⟨j, hj, hjs⟩ := Option.map_eq_some_iff.1 isSize
  have h8 := @run_callFunc_extern Tryz.prog 140 _ Extern.ReflectliteType.typeOf Tryz.func140 (by kernel_rfl) (by kernel_rfl) (by kernel_rfl) (by kernel_rfl)
  have h32 := @run_callFunc_extern Tryz.prog 203 _ compF Tryz.func203 (by kernel_rfl) (by kernel_rfl) (by kernel_rfl) (by kernel_rfl)
  have tT := typeOfS
  have cT := isComparable
  have mR := methodComparable
  have heq := run_eql_iface_ptr_same (P := Tryz.prog) w a Tryz.underlying32 Tryz.underlying245 hi hcmp hj
  simp only [hS] at *
  go_enter Tryz.func104, Tryz.ntmps104
  go_wp2
  refine wp_loop_rounds 1 ?_
  rw [rounds_succ]
  go_wp2
  go_ret
  exact ⟨rfl, rfl⟩

set_option maxHeartbeats 1000000 in
theorem is_other (a b : Addr) (ca cb : Array Value) (ta tb : TypeId) (w : World) (hne : a ≠ b) (ha : w.heap[a.block]? = some (.cells ca ta (0, 0))) (hb : w.heap[b.block]? = some (.cells cb tb (0, 0))) :
    Calls Tryz.prog 104 #[eV a, eV b] w fun e w' => e = .returned (.bool false) ∧ w' = w := by
  obtain ⟨i, hi, hcmp⟩ := Option.map_eq_some_iff.1 isComp
  obtain ⟨j, hj, hjs⟩ := Option.map_eq_some_iff.1 isSize
  have h8 := @run_callFunc_extern Tryz.prog 140 _ Extern.ReflectliteType.typeOf Tryz.func140 (by kernel_rfl) (by kernel_rfl) (by kernel_rfl) (by kernel_rfl)
  have h32 := @run_callFunc_extern Tryz.prog 203 _ compF Tryz.func203 (by kernel_rfl) (by kernel_rfl) (by kernel_rfl) (by kernel_rfl)
  have tT := typeOfS
  have cT := isComparable
  have mR := methodComparable
  have nE := noIsS
  have uE := noUnwrapS
  have vE := noUnwrapsS
  have heq := run_eql_iface_ptr_other (P := Tryz.prog) w Tryz.underlying32 Tryz.underlying245 hi hcmp hj (by rw [hjs]; decide) hne ha hb
  simp only [hS] at *
  clear ha hb hne
  go_enter Tryz.func104, Tryz.ntmps104
  go_wp2
  refine wp_loop_rounds 1 ?_
  rw [rounds_succ]
  go_wp2
  go_ret
  exact ⟨rfl, rfl⟩

set_option maxHeartbeats 1000000 in
theorem is_fault_same (pb po : Nat) (b : Addr) (w : World) (h1 : w.cell? ⟨pb, po + 1, none⟩ = some (eV b)) :
    Calls Tryz.prog 104 #[.iface 153 (.pointer (some ⟨pb, po, none⟩)), eV b] w fun e w' => e = .returned (.bool true) ∧ w' = w := by
  obtain ⟨i, hi, hcmp⟩ := Option.map_eq_some_iff.1 isComp
  obtain ⟨j, hj, hjs⟩ := Option.map_eq_some_iff.1 isSize
  have h8 := @run_callFunc_extern Tryz.prog 140 _ Extern.ReflectliteType.typeOf Tryz.func140 (by kernel_rfl) (by kernel_rfl) (by kernel_rfl) (by kernel_rfl)
  have h32 := @run_callFunc_extern Tryz.prog 203 _ compF Tryz.func203 (by kernel_rfl) (by kernel_rfl) (by kernel_rfl) (by kernel_rfl)
  have tT := typeOfS
  have cT := isComparable
  have mR := methodComparable
  have nW := noIsP
  have uW := hasUnwrapP
  have mU := methodUnwrap
  have heq := run_eql_iface_ptr_same (P := Tryz.prog) w b Tryz.underlying32 Tryz.underlying245 hi hcmp hj
  have hty := run_eql_iface_types (P := Tryz.prog) 153 245 (.pointer (some ⟨pb, po, none⟩)) (.pointer (some b)) Tryz.underlying32 (by decide) w
  simp only [hS] at *
  go_enter Tryz.func104, Tryz.ntmps104
  go_wp2
  refine wp_loop_rounds 2 ?_
  rw [rounds_succ]
  go_wp2
  rw [rounds_succ]
  go_wp2
  go_ret
  exact ⟨rfl, rfl⟩

set_option maxHeartbeats 1000000 in
theorem is_fault_other (pb po : Nat) (b a : Addr) (ca cb : Array Value) (ta tb : TypeId) (w : World) (h1 : w.cell? ⟨pb, po + 1, none⟩ = some (eV a)) (hne : a ≠ b) (ha : w.heap[a.block]? = some (.cells ca ta (0, 0))) (hb : w.heap[b.block]? = some (.cells cb tb (0, 0))) :
    Calls Tryz.prog 104 #[.iface 153 (.pointer (some ⟨pb, po, none⟩)), eV b] w fun e w' => e = .returned (.bool false) ∧ w' = w := by
  obtain ⟨i, hi, hcmp⟩ := Option.map_eq_some_iff.1 isComp
  obtain ⟨j, hj, hjs⟩ := Option.map_eq_some_iff.1 isSize
  have h8 := @run_callFunc_extern Tryz.prog 140 _ Extern.ReflectliteType.typeOf Tryz.func140 (by kernel_rfl) (by kernel_rfl) (by kernel_rfl) (by kernel_rfl)
  have h32 := @run_callFunc_extern Tryz.prog 203 _ compF Tryz.func203 (by kernel_rfl) (by kernel_rfl) (by kernel_rfl) (by kernel_rfl)
  have tT := typeOfS
  have cT := isComparable
  have mR := methodComparable
  have nE := noIsS
  have uE := noUnwrapS
  have vE := noUnwrapsS
  have nW := noIsP
  have uW := hasUnwrapP
  have mU := methodUnwrap
  have heq := run_eql_iface_ptr_other (P := Tryz.prog) w Tryz.underlying32 Tryz.underlying245 hi hcmp hj (by rw [hjs]; decide) hne ha hb
  have hty := run_eql_iface_types (P := Tryz.prog) 153 245 (.pointer (some ⟨pb, po, none⟩)) (.pointer (some b)) Tryz.underlying32 (by decide) w
  simp only [hS] at *
  clear ha hb hne
  go_enter Tryz.func104, Tryz.ntmps104
  go_wp2
  refine wp_loop_rounds 2 ?_
  rw [rounds_succ]
  go_wp2
  rw [rounds_succ]
  go_wp2
  go_ret
  exact ⟨rfl, rfl⟩
end Go.Proofs.YtnoecobddhmhlaaGreatDoor

namespace Go.Proofs.YtnoecobddhmhlaaGreatDoor
open Go.RowKit

/-- package api's eleven errors, and the library's handle of the type error -/
structure EE (E : Nat → Addr) (w : World) : Prop where
  c1 : w.cell? ⟨8, 0, none⟩ = some (.iface 245 (.pointer (some (E 1))))
  c2 : w.cell? ⟨1, 0, none⟩ = some (.iface 245 (.pointer (some (E 2))))
  c3 : w.cell? ⟨5, 0, none⟩ = some (.iface 245 (.pointer (some (E 3))))
  c4 : w.cell? ⟨2, 0, none⟩ = some (.iface 245 (.pointer (some (E 4))))
  c5 : w.cell? ⟨0, 0, none⟩ = some (.iface 245 (.pointer (some (E 5))))
  c6 : w.cell? ⟨9, 0, none⟩ = some (.iface 245 (.pointer (some (E 6))))
  c7 : w.cell? ⟨4, 0, none⟩ = some (.iface 245 (.pointer (some (E 7))))
  c8 : w.cell? ⟨3, 0, none⟩ = some (.iface 245 (.pointer (some (E 8))))
  c9 : w.cell? ⟨6, 0, none⟩ = some (.iface 245 (.pointer (some (E 9))))
  c10 : w.cell? ⟨7, 0, none⟩ = some (.iface 245 (.pointer (some (E 10))))
  c11 : w.cell? ⟨10, 0, none⟩ = some (.iface 245 (.pointer (some (E 11))))
  et : w.cell? ⟨11, 0, none⟩ = some (.iface 214 (.agg #[hE]))
  blk : ∀ k, 1 ≤ k → k ≤ 11 → ∃ c t, w.heap[(E k).block]? = some (.cells c t (0, 0))
  ne : ∀ j k, 1 ≤ j → j ≤ 11 → 1 ≤ k → k ≤ 11 → j ≠ k → E j ≠ E k

theorem EE.below {E : Nat → Addr} {w w' : World} {B : Nat} (h : EE E w) (hb : Below B w w') (hB : w.heap.size ≤ B) : EE E w' where
  c1 := (hb.cell (Nat.lt_of_lt_of_le (lt_of_cell h.c1) hB)).trans h.c1
  c2 := (hb.cell (Nat.lt_of_lt_of_le (lt_of_cell h.c2) hB)).trans h.c2
  c3 := (hb.cell (Nat.lt_of_lt_of_le (lt_of_cell h.c3) hB)).trans h.c3
  c4 := (hb.cell (Nat.lt_of_lt_of_le (lt_of_cell h.c4) hB)).trans h.c4
  c5 := (hb.cell (Nat.lt_of_lt_of_le (lt_of_cell h.c5) hB)).trans h.c5
  c6 := (hb.cell (Nat.lt_of_lt_of_le (lt_of_cell h.c6) hB)).trans h.c6
  c7 := (hb.cell (Nat.lt_of_lt_of_le (lt_of_cell h.c7) hB)).trans h.c7
  c8 := (hb.cell (Nat.lt_of_lt_of_le (lt_of_cell h.c8) hB)).trans h.c8
  c9 := (hb.cell (Nat.lt_of_lt_of_le (lt_of_cell h.c9) hB)).trans h.c9
  c10 := (hb.cell (Nat.lt_of_lt_of_le (lt_of_cell h.c10) hB)).trans h.c10
  c11 := (hb.cell (Nat.lt_of_lt_of_le (lt_of_cell h.c11) hB)).trans h.c11
  et := (hb.cell (Nat.lt_of_lt_of_le (lt_of_cell h.et) hB)).trans h.et
  blk := fun k h1 h2 => by
    obtain ⟨c, t, hc⟩ := h.blk k h1 h2
    have hl : (E k).block < w.heap.size := by
      rcases Nat.lt_or_ge (E k).block w.heap.size with h' | h'
      · exact h'
      · simp [Array.getElem?_eq_none h'] at hc
    exact ⟨c, t, (hb.block _ (Nat.lt_of_lt_of_le hl hB)).trans hc⟩
  ne := h.ne
theorem EE.alloc {E : Nat → Addr} {w : World} (h : EE E w) (o : Obj) : EE E (w.alloc o) := h.below ((Below.refl w.heap.size w).alloc (Nat.le_refl _) o) (Nat.le_refl _)

/-- is it this error? -/
theorem is_at {E : Nat → Addr} {w : World} (h : EE E w) (j k : Nat) (j1 : 1 ≤ j) (j2 : j ≤ 11) (k1 : 1 ≤ k) (k2 : k ≤ 11) :
    Calls Tryz.prog 104 #[eV (E k), eV (E j)] w fun e w' => e = .returned (.bool (decide (k = j))) ∧ w' = w := by
  by_cases e : k = j
  · subst e; simp only [decide_true]; exact is_same _ _
  · obtain ⟨c, t, hc⟩ := h.blk k k1 k2
    obtain ⟨c', t', hc'⟩ := h.blk j j1 j2
    simp only [e, decide_false]
    exact is_other _ _ _ _ _ _ _ (h.ne k j k1 k2 j1 j2 e) hc hc'
theorem is_at_fault {E : Nat → Addr} {w : World} (h : EE E w) (pb po : Nat) (j k : Nat) (h1 : w.cell? ⟨pb, po + 1, none⟩ = some (eV (E k))) (j1 : 1 ≤ j) (j2 : j ≤ 11) (k1 : 1 ≤ k) (k2 : k ≤ 11) :
    Calls Tryz.prog 104 #[.iface 153 (.pointer (some ⟨pb, po, none⟩)), eV (E j)] w fun e w' => e = .returned (.bool (decide (k = j))) ∧ w' = w := by
  by_cases e : k = j
  · subst e; simp only [decide_true]; exact is_fault_same _ _ _ _ h1
  · obtain ⟨c, t, hc⟩ := h.blk k k1 k2
    obtain ⟨c', t', hc'⟩ := h.blk j j1 j2
    simp only [e, decide_false]
    exact is_fault_other _ _ _ _ _ _ _ _ _ h1 (h.ne k j k1 k2 j1 j2 e) hc hc'

theorem Code_nil (w : World) : Calls Tryz.prog 55 #[.nilIface] w fun e w' => e = .returned (.tuple #[.int .i64 0, .int .i64 (-1)]) ∧ w' = w := by
  go_enter Tryz.func55, Tryz.ntmps55
  go_wp2
  go_ret2
  exact ⟨rfl, rfl⟩

/-- the row of errors that Code goes through -/
abbrev row11 (E : Nat → Addr) : Array Value := #[eV (E 1), eV (E 2), eV (E 3), eV (E 4), eV (E 5), eV (E 6), eV (E 7), eV (E 8), eV (E 9), eV (E 10), eV (E 11)]
theorem row11_at (E : Nat → Addr) (w : World) (t : TypeId) (i : Nat) (hi : i < 11) : (w.alloc (.cells (row11 E) t)).cell? ⟨w.heap.size, i, none⟩ = some (eV (E (i + 1))) := by
  rcases i with _ | _ | _ | _ | _ | _ | _ | _ | _ | _ | _ | i
  all_goals first | omega | simp [row11]

set_option maxHeartbeats 2000000 in
theorem Code_at {E : Nat → Addr} (k : Nat) (k1 : 1 ≤ k) (k2 : k ≤ 11) (w : World) (h : EE E w) :
    Calls Tryz.prog 55 #[eV (E k)] w fun e w' => e = .returned (.tuple #[.int .i64 k, .int .i64 (-1)]) ∧ Below w.heap.size w w' := by
  go_enter Tryz.func55, Tryz.ntmps55
  go_wp2_with (go_at_call 103; refine (as_miss _ _ _ (h.alloc _).et).mono ?_; rintro e w1 ⟨rfl, hb⟩; have h1 := (h.alloc _).below hb (Nat.le_refl _); obtain ⟨d1, d2, d3, d4, d5, d6, d7, d8, d9, d10, d11, _, _, _⟩ := id h1)
  have hrow := row11_at E w1 32
  have hE2 := h1.alloc (.cells (row11 E) 32)
  have hB2 : Below w.heap.size w (w1.alloc (.cells (row11 E) 32)) := (((Below.refl _ _).alloc (Nat.le_refl _) _).trans (hb.mono (by simp))).alloc (by have := hb.size; simp at this; omega) _
  clear hb h1 d1 d2 d3 d4 d5 d6 d7 d8 d9 d10 d11
  simp only [row11, eV] at hrow hE2 hB2 ⊢
  generalize (w1.alloc (.cells #[.iface 245 (.pointer (some (E 1))), .iface 245 (.pointer (some (E 2))), .iface 245 (.pointer (some (E 3))), .iface 245 (.pointer (some (E 4))), .iface 245 (.pointer (some (E 5))), .iface 245 (.pointer (some (E 6))), .iface 245 (.pointer (some (E 7))), .iface 245 (.pointer (some (E 8))), .iface 245 (.pointer (some (E 9))), .iface 245 (.pointer (some (E 10))), .iface 245 (.pointer (some (E 11)))] 32)) = W2 at hrow hE2 hB2 ⊢
  go_loop [3, 29] (fun y x => y = .int .i64 (-1) ∧ ∃ i : Nat, i < k ∧ x = .int .i64 i) (fun _ x => 11 - (intOf x).toNat)
  case atStart => exact ⟨rfl, 0, k1, rfl⟩
  case round =>
    obtain ⟨rfl, i, hi, rfl⟩ := hrel
    have hi11 : (i : Int) < 11 := by omega
    have hc := hrow i (by omega)
    by_cases e : k = i + 1
    · subst e
      go_wp2_with (go_at_call 104; refine (is_at hE2 (i + 1) (i + 1) (by omega) (by omega) (by omega) (by omega)).mono ?_; rintro e w' ⟨rfl, rfl⟩)
      go_ret2
      exact ⟨by simp, hB2⟩
    · have hd : decide (k = i + 1) = false := by simpa using e
      go_wp2_with (go_at_call 104; refine (is_at hE2 (i + 1) k (by omega) (by omega) (by omega) (by omega)).mono ?_; rw [hd]; rintro e w' ⟨rfl, rfl⟩)
      go_round
      case rel => exact ⟨rfl, i + 1, by omega, by go_num⟩
      case measure => simp [intOf]; omega

set_option maxHeartbeats 2000000 in
theorem Code_none {E : Nat → Addr} (a : Addr) (ca : Array Value) (ta : TypeId) (w : World) (h : EE E w) (hne : ∀ j, 1 ≤ j → j ≤ 11 → a ≠ E j) (ha : w.heap[a.block]? = some (.cells ca ta (0, 0))) :
    Calls Tryz.prog 55 #[eV a] w fun e w' => e = .returned (.tuple #[.int .i64 (-1), .int .i64 (-1)]) ∧ Below w.heap.size w w' := by
  have HN : Hid (∀ j, 1 ≤ j → j ≤ 11 → a ≠ E j) := hne
  have hal : a.block < w.heap.size := by
    rcases Nat.lt_or_ge a.block w.heap.size with h' | h'
    · exact h'
    · simp [Array.getElem?_eq_none h'] at ha
  have HA : Hid (w.heap[a.block]? = some (.cells ca ta (0, 0))) := ha
  clear hne ha
  go_enter Tryz.func55, Tryz.ntmps55
  go_wp2_with (go_at_call 103; refine (as_miss _ _ _ (h.alloc _).et).mono ?_; rintro e w1 ⟨rfl, hb⟩; have h1 := (h.alloc _).below hb (Nat.le_refl _); obtain ⟨d1, d2, d3, d4, d5, d6, d7, d8, d9, d10, d11, _, _, _⟩ := id h1)
  have hrow := row11_at E w1 32
  have hE2 := h1.alloc (.cells (row11 E) 32)
  have hB2 : Below w.heap.size w (w1.alloc (.cells (row11 E) 32)) := (((Below.refl _ _).alloc (Nat.le_refl _) _).trans (hb.mono (by simp))).alloc (by have := hb.size; simp at this; omega) _
  clear hb h1 d1 d2 d3 d4 d5 d6 d7 d8 d9 d10 d11
  simp only [row11, eV] at hrow hE2 hB2 ⊢
  generalize (w1.alloc (.cells #[.iface 245 (.pointer (some (E 1))), .iface 245 (.pointer (some (E 2))), .iface 245 (.pointer (some (E 3))), .iface 245 (.pointer (some (E 4))), .iface 245 (.pointer (some (E 5))), .iface 245 (.pointer (some (E 6))), .iface 245 (.pointer (some (E 7))), .iface 245 (.pointer (some (E 8))), .iface 245 (.pointer (some (E 9))), .iface 245 (.pointer (some (E 10))), .iface 245 (.pointer (some (E 11)))] 32)) = W2 at hrow hE2 hB2 ⊢
  have HA2 : Hid (W2.heap[a.block]? = some (.cells ca ta (0, 0))) := (hB2.block _ hal).trans HA.out
  go_loop [3, 29] (fun y x => y = .int .i64 (-1) ∧ ∃ i : Nat, i ≤ 11 ∧ x = .int .i64 i) (fun _ x => 11 - (intOf x).toNat)
  case atStart => exact ⟨rfl, 0, by omega, rfl⟩
  case round =>
    obtain ⟨rfl, i, hi, rfl⟩ := hrel
    by_cases hi11 : (i : Int) < 11
    · have hc := hrow i (by omega)
      obtain ⟨cb, tb, hcb⟩ := hE2.blk (i + 1) (by omega) (by omega)
      have HCB : Hid (W2.heap[(E (i + 1)).block]? = some (.cells cb tb (0, 0))) := hcb
      clear hcb
      go_wp2_with (go_at_call 104; refine (is_other a (E (i + 1)) ca cb ta tb _ (HN.out (i + 1) (by omega) (by omega)) HA2.out HCB.out).mono ?_; rintro e w' ⟨rfl, rfl⟩)
      go_round
      case rel => exact ⟨rfl, i + 1, by omega, by go_num⟩
      case measure => simp [intOf]; omega
    · go_wp2
      go_ret2
      exact ⟨rfl, hB2⟩

set_option maxHeartbeats 2000000 in
theorem Code_fault {E : Nat → Addr} (k : Nat) (pb po : Nat) (n : Int) (k1 : 1 ≤ k) (k2 : k ≤ 11) (w : World) (h : EE E w) (hp : w.cell? ⟨pb, po, none⟩ = some (.int .i64 n)) (hq : w.cell? ⟨pb, po + 1, none⟩ = some (eV (E k))) :
    Calls Tryz.prog 55 #[.iface 153 (.pointer (some ⟨pb, po, none⟩))] w fun e w' => e = .returned (.tuple #[.int .i64 k, .int .i64 n]) ∧ Below w.heap.size w w' := by
  have hpl := lt_of_cell hp
  have hbel : ∀ o, Below w.heap.size w (w.alloc o) := fun o => (Below.refl _ _).alloc (Nat.le_refl _) o
  go_enter Tryz.func55, Tryz.ntmps55
  go_wp2_with fail
  refine (as_hit ⟨pb, po, none⟩ ⟨w.heap.size, 0, none⟩ (.pointer none) _ (h.alloc _).et (by simp) (by simp)).mono ?_
  rintro e w1' ⟨rfl, w1, hb, rfl⟩
  have hb1 : Below w.heap.size w (w1.setCell ⟨w.heap.size, 0, none⟩ (.pointer (some ⟨pb, po, none⟩))) := ((hbel _).trans (hb.mono (by simp))).setCell (Nat.le_refl _) _
  have h1 := h.below hb1 (Nat.le_refl _)
  obtain ⟨d1, d2, d3, d4, d5, d6, d7, d8, d9, d10, d11, _, _, _⟩ := id h1
  have p1 := (hb1.cell (p := ⟨pb, po, none⟩) hpl).trans hp
  have q1 := (hb1.cell (p := ⟨pb, po + 1, none⟩) hpl).trans hq
  have f1 : (w1.setCell ⟨w.heap.size, 0, none⟩ (.pointer (some ⟨pb, po, none⟩))).cell? ⟨w.heap.size, 0, none⟩ = some (.pointer (some ⟨pb, po, none⟩)) := by
    have c0 : w1.cell? ⟨w.heap.size, 0, none⟩ = some (.pointer none) := by rw [hb.cell (p := ⟨w.heap.size, 0, none⟩) (by simp)]; simp
    exact World.cell?_setCell_same' _ _ _ (by rw [c0]; rfl)
  generalize (w1.setCell ⟨w.heap.size, 0, none⟩ (.pointer (some ⟨pb, po, none⟩))) = w3 at hb1 h1 d1 d2 d3 d4 d5 d6 d7 d8 d9 d10 d11 p1 q1 f1 ⊢
  go_wp2
  have hrow := row11_at E w3 32
  have hE2 := h1.alloc (.cells (row11 E) 32)
  have hB2 : Below w.heap.size w (w3.alloc (.cells (row11 E) 32)) := hb1.alloc hb1.size _
  have HQ : Hid ((w3.alloc (.cells (row11 E) 32)).cell? ⟨pb, po + 1, none⟩ = some (eV (E k))) := (hB2.cell (p := ⟨pb, po + 1, none⟩) hpl).trans hq
  clear hb h1 hb1 d1 d2 d3 d4 d5 d6 d7 d8 d9 d10 d11 p1 q1 f1 hp hq hbel
  simp only [row11, eV] at hrow hE2 hB2 HQ ⊢
  generalize (w3.alloc (.cells #[.iface 245 (.pointer (some (E 1))), .iface 245 (.pointer (some (E 2))), .iface 245 (.pointer (some (E 3))), .iface 245 (.pointer (some (E 4))), .iface 245 (.pointer (some (E 5))), .iface 245 (.pointer (some (E 6))), .iface 245 (.pointer (some (E 7))), .iface 245 (.pointer (some (E 8))), .iface 245 (.pointer (some (E 9))), .iface 245 (.pointer (some (E 10))), .iface 245 (.pointer (some (E 11)))] 32)) = W2 at hrow hE2 hB2 HQ ⊢
  go_loop [3, 29] (fun y x => y = .int .i64 n ∧ ∃ i : Nat, i < k ∧ x = .int .i64 i) (fun _ x => 11 - (intOf x).toNat)
  case atStart => exact ⟨rfl, 0, k1, rfl⟩
  case round =>
    obtain ⟨rfl, i, hi, rfl⟩ := hrel
    have hi11 : (i : Int) < 11 := by omega
    have hc := hrow i (by omega)
    by_cases e : k = i + 1
    · subst e
      go_wp2_with (go_at_call 104; refine (is_at_fault hE2 pb po (i + 1) (i + 1) HQ.out (by omega) (by omega) (by omega) (by omega)).mono ?_; rintro e w' ⟨rfl, rfl⟩)
      go_ret2
      exact ⟨by simp, hB2⟩
    · have hd : decide (k = i + 1) = false := by simpa using e
      go_wp2_with (go_at_call 104; refine (is_at_fault hE2 pb po (i + 1) k HQ.out (by omega) (by omega) (by omega) (by omega)).mono ?_; rw [hd]; rintro e w' ⟨rfl, rfl⟩)
      go_round
      case rel => exact ⟨rfl, i + 1, by omega, by go_num⟩
      case measure => simp [intOf]; omega
end Go.Proofs.YtnoecobddhmhlaaGreatDoor

namespace Go.Proofs.YtnoecobddhmhlaaGreatDoor
open Go.RowKit

/-- The nine errors of documents and nodes. -/
structure DE (E : Nat → Addr) (w : World) : Prop where
  c2 : w.cell? ⟨1, 0, none⟩ = some (.iface 245 (.pointer (some (E 2))))
  c3 : w.cell? ⟨5, 0, none⟩ = some (.iface 245 (.pointer (some (E 3))))
  c4 : w.cell? ⟨2, 0, none⟩ = some (.iface 245 (.pointer (some (E 4))))
  c5 : w.cell? ⟨0, 0, none⟩ = some (.iface 245 (.pointer (some (E 5))))
  c6 : w.cell? ⟨9, 0, none⟩ = some (.iface 245 (.pointer (some (E 6))))
  c7 : w.cell? ⟨4, 0, none⟩ = some (.iface 245 (.pointer (some (E 7))))
  c8 : w.cell? ⟨3, 0, none⟩ = some (.iface 245 (.pointer (some (E 8))))
  c9 : w.cell? ⟨6, 0, none⟩ = some (.iface 245 (.pointer (some (E 9))))
  c10 : w.cell? ⟨7, 0, none⟩ = some (.iface 245 (.pointer (some (E 10))))
theorem DE.below {E : Nat → Addr} {w w' : World} {B : Nat} (h : DE E w) (hb : Below B w w') (hB : w.heap.size ≤ B) : DE E w' where
  c2 := (hb.cell (Nat.lt_of_lt_of_le (cell_lt3 h.c2) hB)).trans h.c2
  c3 := (hb.cell (Nat.lt_of_lt_of_le (cell_lt3 h.c3) hB)).trans h.c3
  c4 := (hb.cell (Nat.lt_of_lt_of_le (cell_lt3 h.c4) hB)).trans h.c4
  c5 := (hb.cell (Nat.lt_of_lt_of_le (cell_lt3 h.c5) hB)).trans h.c5
  c6 := (hb.cell (Nat.lt_of_lt_of_le (cell_lt3 h.c6) hB)).trans h.c6
  c7 := (hb.cell (Nat.lt_of_lt_of_le (cell_lt3 h.c7) hB)).trans h.c7
  c8 := (hb.cell (Nat.lt_of_lt_of_le (cell_lt3 h.c8) hB)).trans h.c8
  c9 := (hb.cell (Nat.lt_of_lt_of_le (cell_lt3 h.c9) hB)).trans h.c9
  c10 := (hb.cell (Nat.lt_of_lt_of_le (cell_lt3 h.c10) hB)).trans h.c10
theorem DE.me {E : Nat → Addr} {w : World} (h : DE E w) : ME E w := ⟨h.c2, h.c4, h.c6, h.c7, h.c8, h.c10⟩
theorem DE.ce {E : Nat → Addr} {w : World} (h : DE E w) : CE E w := ⟨h.c4, h.c6, h.c7, h.c8, h.c10⟩
theorem EE.de {E : Nat → Addr} {w : World} (h : EE E w) : DE E w := ⟨h.c2, h.c3, h.c4, h.c5, h.c6, h.c7, h.c8, h.c9, h.c10⟩

end Go.Proofs.YtnoecobddhmhlaaGreatDoor

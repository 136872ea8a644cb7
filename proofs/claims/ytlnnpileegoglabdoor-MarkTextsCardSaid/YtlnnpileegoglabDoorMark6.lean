/-
  The check of an attribute.
-/
import Derived.Test.YtlnnpileegoglabDoorMark5
namespace Go.Proofs.YtlnnpileegoglabDoor
open Go.RowKit

/-- The errors of package api that package mark tells. -/
structure ME (E : Nat → Addr) (w : World) : Prop where
  c2 : w.cell? ⟨0, 0, none⟩ = some (.iface 209 (.pointer (some (E 2))))
  c4 : w.cell? ⟨3, 0, none⟩ = some (.iface 209 (.pointer (some (E 4))))
  c6 : w.cell? ⟨5, 0, none⟩ = some (.iface 209 (.pointer (some (E 6))))
  c7 : w.cell? ⟨6, 0, none⟩ = some (.iface 209 (.pointer (some (E 7))))
  c8 : w.cell? ⟨7, 0, none⟩ = some (.iface 209 (.pointer (some (E 8))))
  c10 : w.cell? ⟨9, 0, none⟩ = some (.iface 209 (.pointer (some (E 10))))
theorem ME.below {E : Nat → Addr} {w w' : World} (h : ME E w) (hb : Below w.heap.size w w') : ME E w' where
  c2 := (hb.cell (cell_lt3 h.c2)).trans h.c2
  c4 := (hb.cell (cell_lt3 h.c4)).trans h.c4
  c6 := (hb.cell (cell_lt3 h.c6)).trans h.c6
  c7 := (hb.cell (cell_lt3 h.c7)).trans h.c7
  c8 := (hb.cell (cell_lt3 h.c8)).trans h.c8
  c10 := (hb.cell (cell_lt3 h.c10)).trans h.c10
/-- An error by its number. -/
def errV (E : Nat → Addr) (c : Nat) : Value := if c = 0 then .nilIface else .iface 209 (.pointer (some (E c)))
theorem errV_zero (E : Nat → Addr) : errV E 0 = .nilIface := rfl
theorem errV_pos (E : Nat → Addr) {c : Nat} (h : c ≠ 0) : errV E c = .iface 209 (.pointer (some (E c))) := by unfold errV; rw [if_neg h]

/-- What the check of an attribute tells; ahead: those ahead of it. -/
def ckA (ahead : List (Bs × Bs)) (a : Bs × Bs) : Nat := if isNm a.1 = true then (if ahead.any (fun x => x.1 == a.1) = true then 6 else if isVal a.2 = true then 0 else 10) else 4

theorem mal (W : World) (o : Obj) : Below W.heap.size W (W.alloc o) := (Below.refl W.heap.size W).alloc (Nat.le_refl _) o
theorem mnew (W : World) (cs : Array Value) (t : TypeId) (i : Nat) (v : Value) (h : cs[i]? = some v) : (W.alloc (.cells cs t)).cell? ⟨W.heap.size, i, none⟩ = some v := by
  have e : (W.alloc (.cells cs t)).heap[W.heap.size]? = some (.cells cs t) := by show (W.heap.push (.cells cs t))[W.heap.size]? = _; simp
  unfold World.cell?
  simp only [e]
  simpa using h

set_option maxHeartbeats 2000000 in
theorem checkAttr_any (E : Nat → Addr) (a : Bs × Bs) (ats : List (Bs × Bs)) (v : Value) (W : World) (hE : ME E W) (h : AtsIn W v ats) (l1 : a.1.length ≤ maxLen) (l2 : a.2.length ≤ maxLen) :
    Calls Tryd.prog 61 #[atV a, v] W fun e w' => e = .returned (errV E (ckA ats a)) ∧ Below W.heap.size W w' := by
  have b0 := mal W (.cells #[.string ⟨a.1.toArray⟩, .string ⟨a.2.toArray⟩] 77)
  have n0 := mnew W #[.string ⟨a.1.toArray⟩, .string ⟨a.2.toArray⟩] 77 0 _ rfl
  have n1 := mnew W #[.string ⟨a.1.toArray⟩, .string ⟨a.2.toArray⟩] 77 1 _ rfl
  have HN := IsName_any ⟨a.1.toArray⟩ (by rw [strV_size, ← maxLen_eq]; exact l1) (W.alloc (.cells #[.string ⟨a.1.toArray⟩, .string ⟨a.2.toArray⟩] 77))
  have HC := ContainsFunc_any ats a.1 W.heap.size v _ (h.below b0) n0
  have HV := fun V => IsValue_any ⟨a.2.toArray⟩ (by rw [strV_size, ← maxLen_eq]; exact l2) V
  have hE1 := hE.below b0
  obtain ⟨o, cap, rfl, _, _, _, _⟩ := h
  have e4 := hE1.c4
  unfold ckA
  unfold atV strV
  cases hn : isNm a.1 with
  | false =>
    rw [show isNm (⟨a.1.toArray⟩ : ByteArray).data.toList = false from hn] at HN
    rw [if_neg (by simp), errV_pos E (by decide)]
    clear HC HV n1
    go_enter Tryd.func61, Tryd.ntmps61
    go_wp2_with (go_at_call 60; refine HN.mono ?_; rintro e w1 ⟨rfl, rfl⟩)
    go_ret
    exact ⟨rfl, b0⟩
  | true =>
    rw [show isNm (⟨a.1.toArray⟩ : ByteArray).data.toList = true from hn] at HN
    rw [if_pos rfl]
    cases ha : ats.any (fun x => x.1 == a.1) with
    | true =>
      rw [ha] at HC
      rw [if_pos rfl, errV_pos E (by decide)]
      clear HV n1 e4
      go_enter Tryd.func61, Tryd.ntmps61
      go_wp2_with (first | (go_at_call 60; refine HN.mono ?_; rintro e w1 ⟨rfl, rfl⟩) | (go_at_call 88; refine HC.mono ?_; rintro e w2 ⟨rfl, hb2⟩; have e6 := (hE1.below hb2).c6))
      go_ret
      exact ⟨rfl, mbel b0 hb2⟩
    | false =>
      rw [ha] at HC
      rw [if_neg (by simp)]
      cases hv : isVal a.2 with
      | true =>
        rw [show isVal (⟨a.2.toArray⟩ : ByteArray).data.toList = true from hv] at HV
        rw [if_pos rfl, errV_zero]
        clear e4
        go_enter Tryd.func61, Tryd.ntmps61
        go_wp2_with (first | (go_at_call 60; refine HN.mono ?_; rintro e w1 ⟨rfl, rfl⟩) | (go_at_call 88; refine HC.mono ?_; rintro e w2 ⟨rfl, hb2⟩; have k1 := (hb2.cell (cell_lt3 n1)).trans n1) | (go_at_call 90; refine (HV _).mono ?_; rintro e w3 ⟨rfl, rfl⟩))
        go_ret
        exact ⟨rfl, mbel b0 hb2⟩
      | false =>
        rw [show isVal (⟨a.2.toArray⟩ : ByteArray).data.toList = false from hv] at HV
        rw [if_neg (by simp), errV_pos E (by decide)]
        clear e4
        go_enter Tryd.func61, Tryd.ntmps61
        go_wp2_with (first | (go_at_call 60; refine HN.mono ?_; rintro e w1 ⟨rfl, rfl⟩) | (go_at_call 88; refine HC.mono ?_; rintro e w2 ⟨rfl, hb2⟩; have k1 := (hb2.cell (cell_lt3 n1)).trans n1; have e10 := (hE1.below hb2).c10) | (go_at_call 90; refine (HV _).mono ?_; rintro e w3 ⟨rfl, rfl⟩))
        go_ret
        exact ⟨rfl, mbel b0 hb2⟩

end Go.Proofs.YtlnnpileegoglabDoor

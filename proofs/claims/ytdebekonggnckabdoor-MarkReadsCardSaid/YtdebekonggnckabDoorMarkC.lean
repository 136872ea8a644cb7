/-
  The errors of package mark by their numbers.
-/
import Derived.Test.YtdebekonggnckabDoorCode1
import Derived.Test.YtdebekonggnckabDoorMarkF2
namespace Go.Proofs.YtdebekonggnckabDoor
open Go.RowKit

theorem EE.me {E : Nat → Addr} {w : World} (h : EE E w) : ME E w := ⟨h.c2, h.c4, h.c6, h.c7, h.c8, h.c10⟩
/-- What the check tells, as an error in memory. -/
def ErM (E : Nat → Addr) (r : Nat × Nat) (v : Value) (w : World) : Prop := (r.1 = 0 ∧ v = .nilIface) ∨ (r.1 ≠ 0 ∧ ∃ pb, v = .iface 93 (.pointer (some ⟨pb, 0, none⟩)) ∧ w.cell? ⟨pb, 0, none⟩ = some (.int .i64 r.2) ∧ w.cell? ⟨pb, 1, none⟩ = some (eV (E r.1)))
theorem ErM.below {E : Nat → Addr} {r : Nat × Nat} {v : Value} {w w' : World} (h : ErM E r v w) (hb : Below w.heap.size w w') : ErM E r v w' := by
  rcases h with h | ⟨h1, pb, h2, h3, h4⟩
  · exact .inl h
  · exact .inr ⟨h1, pb, h2, (hb.cell (cell_lt3 h3)).trans h3, (hb.cell (cell_lt3 h4)).trans h4⟩
theorem ckL_11 : ∀ (l pre : List (Bs × Bs)), ckL pre l ≤ 11
  | [], _ => by simp [ckL]
  | a :: l, pre => by
    rw [ckL]
    split
    · exact ckL_11 l _
    · unfold ckA
      repeat' split
      all_goals omega
theorem ck1_11 (nm : Bs) (ats : List (Bs × Bs)) (d i : Nat) : ck1 nm ats d i ≤ 11 := by
  unfold ck1
  repeat' split
  all_goals first | omega | exact ckL_11 _ _
mutual
theorem ckN_11 : ∀ (n : Nd) (d i : Nat), (ckN n d i).1 ≤ 11
  | .mk nm ats ks, d, i => by
    rw [ckN]
    split
    · exact ckK_11 ks _ _
    · exact ck1_11 _ _ _ _
theorem ckK_11 : ∀ (l : List Nd) (d i : Nat), (ckK l d i).1 ≤ 11
  | [], d, i => by simp [ckK]
  | n :: l, d, i => by
    rw [ckK]
    split
    · exact ckK_11 l _ _
    · exact ckN_11 n _ _
end
theorem code_M {E : Nat → Addr} {r : Nat × Nat} {v : Value} {w : World} (h : ErM E r v w) (hr : r.1 ≤ 11) (hE : EE E w) : ∀ V, Below w.heap.size w V → Calls Tryd.prog 37 #[v] V fun e w' => e = .returned (.tuple #[.int .i64 (fltM r).1, .int .i64 (fltM r).2]) ∧ Below V.heap.size V w' := by
  intro V hb
  have hE' := hE.below hb (Nat.le_refl _)
  rcases h.below hb with ⟨h1, rfl⟩ | ⟨h1, pb, rfl, h3, h4⟩
  · have : fltM r = (0, -1) := by unfold fltM; rw [if_pos h1]
    rw [this]
    exact (Code_nil V).mono fun e w' ⟨he, hw⟩ => ⟨he, by rw [hw]; exact Below.refl _ _⟩
  · have : fltM r = ((r.1 : Int), (r.2 : Int)) := by unfold fltM; rw [if_neg h1]
    rw [this]
    exact Code_fault r.1 pb 0 r.2 (by omega) hr V hE' h3 h4
set_option maxHeartbeats 2000000 in
theorem faulted_M {E : Nat → Addr} {r : Nat × Nat} {v : Value} {w : World} (h : ErM E r v w) (hr : r.1 ≤ 11) (hE : EE E w) :
    Calls Tryd.prog 15 #[v, .agg #[.int .i64 (fltM r).1, .int .i64 (fltM r).2]] w fun e w' => e = .returned (.bool true) ∧ Below w.heap.size w w' := by
  have HC := code_M h hr hE
  generalize fltM r = q at HC ⊢
  obtain ⟨c, a⟩ := q
  simp only at HC ⊢
  have L0 := mal w (.cells #[.int .i64 c, .int .i64 a] 44)
  have B0 : FB w.heap.size (.int .i64 c) (.int .i64 a) (w.alloc (.cells #[.int .i64 c, .int .i64 a] 44)) := mbox w #[.int .i64 c, .int .i64 a] 44
  have HK := HC _ L0
  by_cases hc : c = 0
  · subst hc
    go_enter Tryd.func15, Tryd.ntmps15
    go_wp2_with (go_at_call 37; refine HK.mono ?_; rintro e w1 ⟨rfl, hb1⟩; have B1 := B0.bel hb1; have z0 := B1.c0; have z1 := B1.c1)
    go_ret
    exact ⟨rfl, mbel L0 hb1⟩
  · have hc' : (c == 0) = false := by simp [hc]
    have hc'' : decide (c = 0) = false := by simp [hc]
    go_enter Tryd.func15, Tryd.ntmps15
    go_wp2_with (go_at_call 37; refine HK.mono ?_; rintro e w1 ⟨rfl, hb1⟩; have B1 := B0.bel hb1; have z0 := B1.c0; have z1 := B1.c1)
    go_ret
    exact ⟨rfl, mbel L0 hb1⟩
set_option maxHeartbeats 1000000 in
theorem coded_M {E : Nat → Addr} (c : Nat) (h0 : 1 ≤ c) (hc : c ≤ 11) (w : World) (h : EE E w) :
    Calls Tryd.prog 18 #[eV (E c), .int .i64 c] w fun e w' => e = .returned (.bool true) ∧ Below w.heap.size w w' := by
  go_enter Tryd.func18, Tryd.ntmps18
  go_wp2_with (go_at_call 37; refine (Code_at c h0 hc _ h).mono ?_; rintro e w' ⟨rfl, hb⟩)
  go_ret
  exact ⟨rfl, hb⟩

end Go.Proofs.YtdebekonggnckabDoor

/-
  The laws' word 'coded' on package frac's errors; all that the laws of fractions ask of a world, and two boxed fractions in every later world.
-/
import Derived.Test.YtdeahgbjkogjgaaDoorCode1
import Derived.Test.YtdeahgbjkogjgaaDoorFrac7
import Derived.Test.YtdeahgbjkogjgaaDoorOrds1
namespace Go.Proofs.YtdeahgbjkogjgaaDoor
open Go.RowKit

/-- an error by its number -/
def ev (E : Nat → Addr) (c : Nat) : Value := if c = 0 then .nilIface else eV (E c)
theorem ev_0 (E : Nat → Addr) : ev E 0 = .nilIface := rfl
theorem ev_pos (E : Nat → Addr) {c : Nat} (h : 1 ≤ c) : ev E c = eV (E c) := by unfold ev; rw [if_neg (by omega)]
theorem er_ev (E : Nat → Addr) {c : Nat} (h : c = 0 ∨ c = 2 ∨ c = 3 ∨ c = 11) : er (E 2) (E 3) (E 11) c = ev E c := by
  rcases h with rfl | rfl | rfl | rfl <;> rfl

set_option maxHeartbeats 400000 in
theorem coded_ev {E : Nat → Addr} (c : Nat) (hc : c ≤ 11) (w : World) (h : EE E w) :
    Calls Tryd.prog 10 #[ev E c, .int .i64 c] w fun e w' => e = .returned (.bool true) ∧ Below w.heap.size w w' := by
  rcases Nat.eq_zero_or_pos c with h0 | h0
  · subst h0
    rw [ev_0]
    go_enter Tryd.func10, Tryd.ntmps10
    go_wp2_with (go_at_call 9; refine (Code_nil _).mono ?_; rintro e w' ⟨rfl, rfl⟩)
    go_ret
    exact ⟨rfl, Below.refl _ _⟩
  · rw [ev_pos E h0]
    go_enter Tryd.func10, Tryd.ntmps10
    go_wp2_with (go_at_call 9; refine (Code_at c h0 hc _ h).mono ?_; rintro e w' ⟨rfl, hb⟩)
    go_ret
    exact ⟨rfl, hb⟩

/-- all that the laws of fractions ask of a world -/
structure GG (E : Nat → Addr) (w : World) : Prop where
  g : G (E 2) (E 3) (E 11) w
  ee : EE E w
theorem GG.below {E : Nat → Addr} {w w' : World} {B : Nat} (h : GG E w) (hb : Below B w w') (hB : w.heap.size ≤ B) : GG E w' := ⟨h.g.below hb hB, h.ee.below hb hB⟩
theorem GG.alloc {E : Nat → Addr} {w : World} (h : GG E w) (o : Obj) : GG E (w.alloc o) := h.below ((Below.refl w.heap.size w).alloc (Nat.le_refl _) o) (Nat.le_refl _)

/-- two boxes, in every later world -/
structure K2 (E : Nat → Addr) (w0 : World) (a0 a1 b0 b1 : Value) (w : World) : Prop where
  g : GG E w
  a : Two w w0.heap.size a0 a1
  b : Two w (w0.heap.size + 1) b0 b1
  hw : Below w0.heap.size w0 w
  hz : w0.heap.size + 1 + 1 ≤ w.heap.size
theorem K2.below {E : Nat → Addr} {w0 : World} {a0 a1 b0 b1 : Value} {w w' : World} (h : K2 E w0 a0 a1 b0 b1 w) (hb : Below w.heap.size w w') : K2 E w0 a0 a1 b0 b1 w' :=
  ⟨h.g.below hb (Nat.le_refl _), h.a.below hb (Nat.le_refl _), h.b.below hb (Nat.le_refl _), h.hw.trans (hb.mono (by have := h.hz; omega)), Nat.le_trans h.hz hb.size⟩
theorem K2.alloc {E : Nat → Addr} {w0 : World} {a0 a1 b0 b1 : Value} {w : World} (h : K2 E w0 a0 a1 b0 b1 w) (o : Obj) : K2 E w0 a0 a1 b0 b1 (w.alloc o) := h.below ((Below.refl w.heap.size w).alloc (Nat.le_refl _) o)
theorem K2.new {E : Nat → Addr} {w0 : World} {a0 a1 b0 b1 : Value} {t t' : TypeId} (h : GG E w0) : K2 E w0 a0 a1 b0 b1 ((w0.alloc (.cells #[a0, a1] t)).alloc (.cells #[b0, b1] t')) := by
  obtain ⟨h1, h2, h4, h5⟩ := two (Below.refl _ ((w0.alloc (.cells #[a0, a1] t)).alloc (.cells #[b0, b1] t')))
  exact ⟨(h.alloc _).alloc _, h1, h2, h4, h5⟩
theorem K2.cells {E : Nat → Addr} {w0 : World} {a0 a1 b0 b1 : Value} {w : World} (h : K2 E w0 a0 a1 b0 b1 w) :
    w.cell? ⟨w0.heap.size, 0, none⟩ = some a0 ∧ w.cell? ⟨w0.heap.size, 1, none⟩ = some a1 ∧ w.cell? ⟨w0.heap.size + 1, 0, none⟩ = some b0 ∧ w.cell? ⟨w0.heap.size + 1, 1, none⟩ = some b1 :=
  ⟨h.a.c0, h.a.c1, h.b.c0, h.b.c1⟩
theorem K2.cellsA {E : Nat → Addr} {w0 : World} {a0 a1 b0 b1 : Value} {w : World} (h : K2 E w0 a0 a1 b0 b1 w) :
    (∀ o, (w.alloc o).cell? ⟨w0.heap.size, 0, none⟩ = some a0) ∧ (∀ o, (w.alloc o).cell? ⟨w0.heap.size, 1, none⟩ = some a1) ∧ (∀ o, (w.alloc o).cell? ⟨w0.heap.size + 1, 0, none⟩ = some b0) ∧ (∀ o, (w.alloc o).cell? ⟨w0.heap.size + 1, 1, none⟩ = some b1) :=
  ⟨fun o => (h.alloc o).a.c0, fun o => (h.alloc o).a.c1, fun o => (h.alloc o).b.c0, fun o => (h.alloc o).b.c1⟩

/-- which numbers of errors there are -/
theorem mul_cases (an ad bn bd : Int) : (∃ p q, mul an ad bn bd = ⟨p, q, 0⟩) ∨ (∃ c, (c = 2 ∨ c = 3) ∧ mul an ad bn bd = ⟨0, 0, c⟩) := by
  rcases chk2_cases an ad bn bd with ⟨ha, hb⟩ | hbad
  · have e : mul an ad bn bd = low (an * bn) (ad * bd) := by unfold mul; rw [if_neg (by simp [ha]), if_neg (by simp [hb])]
    rw [e]
    rcases low_cases' (an * bn) (ad * bd) with h | h
    · exact Or.inl h
    · exact Or.inr ⟨2, Or.inl rfl, h⟩
  · exact Or.inr ⟨_, hbad, mul_err (by rintro ⟨h1, h2⟩; unfold chk2 at hbad; simp [h1, h2] at hbad)⟩

theorem Sub_ok (aB aS aZ : Addr) (an ad bn bd p q : Int) (w : World) (hr : sub an ad bn bd = ⟨p, q, 0⟩) (h : E3 aB aS aZ w) :
    Calls Tryd.prog 24 #[.agg #[.int .i64 an, .int .i64 ad], .agg #[.int .i64 bn, .int .i64 bd]] w fun e w' => e = .returned (.tuple #[.agg #[.int .i64 p, .int .i64 q], .nilIface]) ∧ Below w.heap.size w w' := by
  obtain ⟨c1, c2, _⟩ := sub_some.1 hr
  have := Sub_any aB aS aZ an ad bn bd w (i64_of_chk c1).1 (i64_of_chk c1).2 (i64_of_chk c2).1 (i64_of_chk c2).2 h
  rw [hr] at this
  exact this
theorem Mul_ok (aB aS aZ : Addr) (an ad bn bd p q : Int) (w : World) (hr : mul an ad bn bd = ⟨p, q, 0⟩) (h : E3 aB aS aZ w) :
    Calls Tryd.prog 25 #[.agg #[.int .i64 an, .int .i64 ad], .agg #[.int .i64 bn, .int .i64 bd]] w fun e w' => e = .returned (.tuple #[.agg #[.int .i64 p, .int .i64 q], .nilIface]) ∧ Below w.heap.size w w' := by
  obtain ⟨c1, c2, _⟩ := mul_some.1 hr
  have := Mul_any aB aS aZ an ad bn bd w (i64_of_chk c1).1 (i64_of_chk c1).2 (i64_of_chk c2).1 (i64_of_chk c2).2 h
  rw [hr] at this
  exact this
theorem Mul_no (aB aS aZ : Addr) (an ad bn bd : Int) (w : World) (i1 : I64 an) (i2 : I64 ad) (i3 : I64 bn) (i4 : I64 bd) (h : E3 aB aS aZ w) (hr : ∃ c, (c = 2 ∨ c = 3) ∧ mul an ad bn bd = ⟨0, 0, c⟩) :
    ∃ a, Calls Tryd.prog 25 #[.agg #[.int .i64 an, .int .i64 ad], .agg #[.int .i64 bn, .int .i64 bd]] w fun e w' => e = .returned (.tuple #[.agg #[.int .i64 0, .int .i64 0], .iface 57 (.pointer (some a))]) ∧ Below w.heap.size w w' := by
  obtain ⟨c, hc, hr⟩ := hr
  obtain ⟨a, ha⟩ := er_cases aB aS aZ hc
  have := Mul_any aB aS aZ an ad bn bd w i1 i2 i3 i4 h
  rw [hr] at this
  simp only [ha] at this
  exact ⟨a, this⟩
theorem Div_ok (aB aS aZ : Addr) (an ad bn bd p q : Int) (w : World) (hr : div an ad bn bd = ⟨p, q, 0⟩) (h : E3 aB aS aZ w) :
    Calls Tryd.prog 26 #[.agg #[.int .i64 an, .int .i64 ad], .agg #[.int .i64 bn, .int .i64 bd]] w fun e w' => e = .returned (.tuple #[.agg #[.int .i64 p, .int .i64 q], .nilIface]) ∧ Below w.heap.size w w' := by
  obtain ⟨c1, c2, _⟩ := div_some.1 hr
  have := Div_any aB aS aZ an ad bn bd w (i64_of_chk c1).1 (i64_of_chk c1).2 (i64_of_chk c2).1 (i64_of_chk c2).2 h
  rw [hr] at this
  exact this
theorem Div_zero (aB aS aZ : Addr) (an ad bd : Int) (w : World) (ha : chk an ad = 0) (hb : chk 0 bd = 0) (h : E3 aB aS aZ w) :
    Calls Tryd.prog 26 #[.agg #[.int .i64 an, .int .i64 ad], .agg #[.int .i64 0, .int .i64 bd]] w fun e w' => e = .returned (.tuple #[.agg #[.int .i64 0, .int .i64 0], .iface 57 (.pointer (some aZ))]) ∧ Below w.heap.size w w' := by
  have := Div_any aB aS aZ an ad 0 bd w (i64_of_chk ha).1 (i64_of_chk ha).2 (i64_of_chk hb).1 (i64_of_chk hb).2 h
  have e : div an ad 0 bd = ⟨0, 0, 11⟩ := by unfold div; rw [if_neg (by simp [ha]), if_neg (by simp [hb]), if_pos rfl]
  rw [e] at this
  exact this
end Go.Proofs.YtdeahgbjkogjgaaDoor

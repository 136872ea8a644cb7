/-
  What the law FracOrders calls, by cases of the answers: Cmp and Add, right and wrong.
-/
import Derived.Test.YtdeahgbjkogjgaaDoorFrac7
namespace Go.Proofs.YtdeahgbjkogjgaaDoor
open Go.RowKit

theorem low_cases' (n d : Int) : (∃ p q, low n d = ⟨p, q, 0⟩) ∨ low n d = ⟨0, 0, 2⟩ := by
  rcases low_cases (n := n) (d := d) with h | h
  · exact Or.inr h
  · exact Or.inl ⟨_, _, R3.ext' rfl rfl h⟩
theorem add_cases (an ad bn bd : Int) : (∃ p q, add an ad bn bd = ⟨p, q, 0⟩) ∨ (∃ c, (c = 2 ∨ c = 3) ∧ add an ad bn bd = ⟨0, 0, c⟩) := by
  rcases chk2_cases an ad bn bd with ⟨ha, hb⟩ | hbad
  · have e : add an ad bn bd = low (an * bd + bn * ad) (ad * bd) := by unfold add; rw [if_neg (by simp [ha]), if_neg (by simp [hb])]
    rw [e]
    rcases low_cases' (an * bd + bn * ad) (ad * bd) with h | h
    · exact Or.inl h
    · exact Or.inr ⟨2, Or.inl rfl, h⟩
  · exact Or.inr ⟨_, hbad, add_err (by rintro ⟨h1, h2⟩; unfold chk2 at hbad; simp [h1, h2] at hbad)⟩
theorem chk_of_add {an ad bn bd p q : Int} (h : add an ad bn bd = ⟨p, q, 0⟩) : chk an ad = 0 ∧ chk bn bd = 0 ∧ chk p q = 0 := ⟨(add_some.1 h).1, (add_some.1 h).2.1, (add_some.1 h).2.2.1⟩

theorem Add_ok (aB aS aZ : Addr) (an ad bn bd p q : Int) (w : World) (hr : add an ad bn bd = ⟨p, q, 0⟩) (h : E3 aB aS aZ w) :
    Calls Tryd.prog 23 #[.agg #[.int .i64 an, .int .i64 ad], .agg #[.int .i64 bn, .int .i64 bd]] w fun e w' => e = .returned (.tuple #[.agg #[.int .i64 p, .int .i64 q], .nilIface]) ∧ Below w.heap.size w w' := by
  obtain ⟨c1, c2, _⟩ := chk_of_add hr
  have := Add_any aB aS aZ an ad bn bd w (i64_of_chk c1).1 (i64_of_chk c1).2 (i64_of_chk c2).1 (i64_of_chk c2).2 h
  rw [hr] at this
  exact this
theorem Add_no (aB aS aZ : Addr) (an ad bn bd : Int) (w : World) (i1 : I64 an) (i2 : I64 ad) (i3 : I64 bn) (i4 : I64 bd) (h : E3 aB aS aZ w) (hr : ∃ c, (c = 2 ∨ c = 3) ∧ add an ad bn bd = ⟨0, 0, c⟩) :
    ∃ a, Calls Tryd.prog 23 #[.agg #[.int .i64 an, .int .i64 ad], .agg #[.int .i64 bn, .int .i64 bd]] w fun e w' => e = .returned (.tuple #[.agg #[.int .i64 0, .int .i64 0], .iface 57 (.pointer (some a))]) ∧ Below w.heap.size w w' := by
  obtain ⟨c, hc, hr⟩ := hr
  obtain ⟨a, ha⟩ := er_cases aB aS aZ hc
  have := Add_any aB aS aZ an ad bn bd w i1 i2 i3 i4 h
  rw [hr] at this
  simp only [ha] at this
  exact ⟨a, this⟩
theorem Cmp_ok (aB aS aZ : Addr) (an ad bn bd : Int) (w : World) (h1 : chk an ad = 0) (h2 : chk bn bd = 0) (h : E3 aB aS aZ w) :
    Calls Tryd.prog 21 #[.agg #[.int .i64 an, .int .i64 ad], .agg #[.int .i64 bn, .int .i64 bd]] w fun e w' => e = .returned (.tuple #[.int .i64 (cmpF an ad bn bd), .nilIface]) ∧ Below w.heap.size w w' := by
  have := Cmp_any aB aS aZ an ad bn bd w (i64_of_chk h1).1 (i64_of_chk h1).2 (i64_of_chk h2).1 (i64_of_chk h2).2 h
  have hc : chk2 an ad bn bd = 0 := by unfold chk2; simp [h1, h2]
  rw [if_pos hc, hc, er_0] at this
  exact this
theorem Cmp_no (aB aS aZ : Addr) (an ad bn bd : Int) (w : World) (i1 : I64 an) (i2 : I64 ad) (i3 : I64 bn) (i4 : I64 bd) (h : E3 aB aS aZ w) (hr : chk2 an ad bn bd = 2 ∨ chk2 an ad bn bd = 3) :
    ∃ a, Calls Tryd.prog 21 #[.agg #[.int .i64 an, .int .i64 ad], .agg #[.int .i64 bn, .int .i64 bd]] w fun e w' => e = .returned (.tuple #[.int .i64 0, .iface 57 (.pointer (some a))]) ∧ Below w.heap.size w w' := by
  obtain ⟨a, ha⟩ := er_cases aB aS aZ hr
  have := Cmp_any aB aS aZ an ad bn bd w i1 i2 i3 i4 h
  rw [if_neg (by omega), ha] at this
  exact ⟨a, this⟩

/-- three boxes and the errors, in every later world -/
structure K3 (aB aS aZ : Addr) (w0 : World) (a0 a1 b0 b1 c0 c1 : Value) (w : World) : Prop where
  g : G aB aS aZ w
  a : Two w w0.heap.size a0 a1
  b : Two w (w0.heap.size + 1) b0 b1
  c : Two w (w0.heap.size + 1 + 1) c0 c1
  hw : Below w0.heap.size w0 w
  hz : w0.heap.size + 1 + 1 + 1 ≤ w.heap.size
theorem K3.below {aB aS aZ : Addr} {w0 : World} {a0 a1 b0 b1 c0 c1 : Value} {w w' : World} (h : K3 aB aS aZ w0 a0 a1 b0 b1 c0 c1 w) (hb : Below w.heap.size w w') : K3 aB aS aZ w0 a0 a1 b0 b1 c0 c1 w' :=
  ⟨h.g.below hb (Nat.le_refl _), h.a.below hb (Nat.le_refl _), h.b.below hb (Nat.le_refl _), h.c.below hb (Nat.le_refl _), h.hw.trans (hb.mono (by have := h.hz; omega)), Nat.le_trans h.hz hb.size⟩
theorem K3.alloc {aB aS aZ : Addr} {w0 : World} {a0 a1 b0 b1 c0 c1 : Value} {w : World} (h : K3 aB aS aZ w0 a0 a1 b0 b1 c0 c1 w) (o : Obj) : K3 aB aS aZ w0 a0 a1 b0 b1 c0 c1 (w.alloc o) :=
  h.below ((Below.refl w.heap.size w).alloc (Nat.le_refl _) o)
theorem K3.new {aB aS aZ : Addr} {w0 : World} {a0 a1 b0 b1 c0 c1 : Value} {t t' t'' : TypeId} (h : G aB aS aZ w0) : K3 aB aS aZ w0 a0 a1 b0 b1 c0 c1 (((w0.alloc (.cells #[a0, a1] t)).alloc (.cells #[b0, b1] t')).alloc (.cells #[c0, c1] t'')) := by
  obtain ⟨h1, h2, h3, h4, h5⟩ := three (Below.refl _ (((w0.alloc (.cells #[a0, a1] t)).alloc (.cells #[b0, b1] t')).alloc (.cells #[c0, c1] t'')))
  exact ⟨((h.alloc _).alloc _).alloc _, h1, h2, h3, h4, h5⟩
theorem K3.cells {aB aS aZ : Addr} {w0 : World} {a0 a1 b0 b1 c0 c1 : Value} {w : World} (h : K3 aB aS aZ w0 a0 a1 b0 b1 c0 c1 w) :
    w.cell? ⟨w0.heap.size, 0, none⟩ = some a0 ∧ w.cell? ⟨w0.heap.size, 1, none⟩ = some a1 ∧ w.cell? ⟨w0.heap.size + 1, 0, none⟩ = some b0 ∧ w.cell? ⟨w0.heap.size + 1, 1, none⟩ = some b1 ∧ w.cell? ⟨w0.heap.size + 1 + 1, 0, none⟩ = some c0 ∧ w.cell? ⟨w0.heap.size + 1 + 1, 1, none⟩ = some c1 :=
  ⟨h.a.c0, h.a.c1, h.b.c0, h.b.c1, h.c.c0, h.c.c1⟩
theorem K3.cellsA {aB aS aZ : Addr} {w0 : World} {a0 a1 b0 b1 c0 c1 : Value} {w : World} (h : K3 aB aS aZ w0 a0 a1 b0 b1 c0 c1 w) :
    (∀ o, (w.alloc o).cell? ⟨w0.heap.size, 0, none⟩ = some a0) ∧ (∀ o, (w.alloc o).cell? ⟨w0.heap.size, 1, none⟩ = some a1) ∧ (∀ o, (w.alloc o).cell? ⟨w0.heap.size + 1, 0, none⟩ = some b0) ∧ (∀ o, (w.alloc o).cell? ⟨w0.heap.size + 1, 1, none⟩ = some b1) ∧ (∀ o, (w.alloc o).cell? ⟨w0.heap.size + 1 + 1, 0, none⟩ = some c0) ∧ (∀ o, (w.alloc o).cell? ⟨w0.heap.size + 1 + 1, 1, none⟩ = some c1) :=
  ⟨fun o => (h.alloc o).a.c0, fun o => (h.alloc o).a.c1, fun o => (h.alloc o).b.c0, fun o => (h.alloc o).b.c1, fun o => (h.alloc o).c.c0, fun o => (h.alloc o).c.c1⟩
theorem Two.cellsA {w : World} {b : Nat} {x y : Value} (h : Two w b x y) : (∀ o, (w.alloc o).cell? ⟨b, 0, none⟩ = some x) ∧ (∀ o, (w.alloc o).cell? ⟨b, 1, none⟩ = some y) :=
  ⟨fun o => (h.alloc o).c0, fun o => (h.alloc o).c1⟩

/-- what the order of two right fractions gives the walk -/
theorem cmp_facts {an ad bn bd : Int} (ha : chk an ad = 0) (hb : chk bn bd = 0) :
    ∃ n m : Int, cmpF an ad bn bd = n ∧ cmpF bn bd an ad = m ∧ n = -m ∧ -1 ≤ m ∧ m ≤ 1 ∧ (n = 0 ↔ an = bn ∧ ad = bd) := by
  refine ⟨_, _, rfl, rfl, cmpF_swap an ad bn bd, ?_, ?_, cmpF_zero ha hb⟩
  · unfold cmpF sgn; split <;> (try split) <;> omega
  · unfold cmpF sgn; split <;> (try split) <;> omega
end Go.Proofs.YtdeahgbjkogjgaaDoor

/-
  The walks of package frac's Check, checkBoth and lowest, for every fraction.
-/
import Derived.Test.YtmbdojcljgicaaaDoorFrac1
namespace Go.Proofs.YtmbdojcljgicaaaDoor
open Go.RowKit

theorem bcell {W w1 : World} (hb : Below W.heap.size W w1) : (∀ b o, b < W.heap.size → w1.cell? ⟨b, o, none⟩ = W.cell? ⟨b, o, none⟩) ∧ (∀ b o, b < W.heap.size → w1.frozen? ⟨b, o, none⟩ = W.frozen? ⟨b, o, none⟩) :=
  ⟨fun b o h => hb.cell (p := ⟨b, o, none⟩) h, fun b o h => hb.frozen (p := ⟨b, o, none⟩) h⟩
def I64 (n : Int) : Prop := -9223372036854775808 ≤ n ∧ n ≤ 9223372036854775807

set_option maxHeartbeats 400000 in
theorem Check_any (aB aS aZ : Addr) (n d : Int) (w : World) (hn : I64 n) (hd : I64 d) (h : E3 aB aS aZ w) :
    Calls Tryd.prog 16 #[.agg #[.int .i64 n, .int .i64 d]] w fun e w' => e = .returned (er aB aS aZ (chk n d)) ∧ Below w.heap.size w w' := by
  obtain ⟨n1, n2⟩ := hn
  obtain ⟨d1, d2⟩ := hd
  go_enter Tryd.func16, Tryd.ntmps16
  go_wp2_with (go_at_call 28; refine (check_any aB aS aZ _ _ _ n1 n2 d1 d2 ?_).mono ?_; exact h.alloc _; rintro e w' ⟨rfl, k, rfl⟩)
  go_ret
  exact ⟨rfl, below_drewN ((Below.refl _ _).alloc (Nat.le_refl _) _) _⟩

theorem er_cases (aB aS aZ : Addr) {c : Nat} (h : c = 2 ∨ c = 3) : ∃ a, er aB aS aZ c = .iface 130 (.pointer (some a)) := by
  rcases h with rfl | rfl
  · exact ⟨aB, rfl⟩
  · exact ⟨aS, rfl⟩

theorem er_0 (aB aS aZ : Addr) : er aB aS aZ 0 = .nilIface := rfl


/-- a block of two cells, as a walk reads and writes it -/
structure Two (w : World) (b : Nat) (x y : Value) : Prop where
  c0 : w.cell? ⟨b, 0, none⟩ = some x
  c1 : w.cell? ⟨b, 1, none⟩ = some y
  f0 : w.frozen? ⟨b, 0, none⟩ = false
  f1 : w.frozen? ⟨b, 1, none⟩ = false
theorem Two.below {w w' : World} {b B : Nat} {x y : Value} (h : Two w b x y) (hb : Below B w w') (hB : w.heap.size ≤ B) : Two w' b x y := by
  have hl : b < B := Nat.lt_of_lt_of_le (cell_lt h.c0) hB
  exact ⟨(hb.cell (p := ⟨b, 0, none⟩) hl).trans h.c0, (hb.cell (p := ⟨b, 1, none⟩) hl).trans h.c1, (hb.frozen (p := ⟨b, 0, none⟩) hl).trans h.f0, (hb.frozen (p := ⟨b, 1, none⟩) hl).trans h.f1⟩
theorem Two.new (w : World) (x y : Value) (t : TypeId) : Two (w.alloc (.cells #[x, y] t)) w.heap.size x y := ⟨by simp, by simp, by simp, by simp⟩
theorem Two.alloc {w : World} {b : Nat} {x y : Value} (h : Two w b x y) (o : Obj) : Two (w.alloc o) b x y := h.below ((Below.refl w.heap.size w).alloc (Nat.le_refl _) o) (Nat.le_refl _)
theorem Two.drewN {w : World} {b : Nat} {x y : Value} (h : Two w b x y) (k : Nat) : Two (w.drewN k) b x y := ⟨h.c0, h.c1, h.f0, h.f1⟩
theorem three {w w1 : World} {x0 x1 y0 y1 z0 z1 : Value} {t t' t'' : TypeId} (hb : Below (((w.alloc (.cells #[x0, x1] t)).alloc (.cells #[y0, y1] t')).alloc (.cells #[z0, z1] t'')).heap.size (((w.alloc (.cells #[x0, x1] t)).alloc (.cells #[y0, y1] t')).alloc (.cells #[z0, z1] t'')) w1) :
    Two w1 w.heap.size x0 x1 ∧ Two w1 (w.heap.size + 1) y0 y1 ∧ Two w1 (w.heap.size + 1 + 1) z0 z1 ∧ Below w.heap.size w w1 ∧ w.heap.size + 1 + 1 + 1 ≤ w1.heap.size := by
  refine ⟨(((Two.new w x0 x1 t).alloc _).alloc _).below hb (Nat.le_refl _), ?_, ?_, ?_, by have := hb.size; simpa using this⟩
  · have := ((Two.new (w.alloc (.cells #[x0, x1] t)) y0 y1 t').alloc (.cells #[z0, z1] t'')).below hb (Nat.le_refl _)
    simpa using this
  · have := (Two.new ((w.alloc (.cells #[x0, x1] t)).alloc (.cells #[y0, y1] t')) z0 z1 t'').below hb (Nat.le_refl _)
    simpa using this
  · exact ((((Below.refl _ _).alloc (Nat.le_refl _) _).alloc (by simp) _).alloc (by simp; omega) _).trans (hb.mono (by simp; omega))
end Go.Proofs.YtmbdojcljgicaaaDoor

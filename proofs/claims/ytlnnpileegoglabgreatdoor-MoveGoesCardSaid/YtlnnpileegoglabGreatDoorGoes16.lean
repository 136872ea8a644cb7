/-
  The law MoveGoes answers true, whatever it is given.
-/
import Derived.Test.YtlnnpileegoglabGreatDoorGoes15
namespace Go.Proofs.YtlnnpileegoglabGreatDoor
open Go.RowKit

theorem e4_of {E : Nat → Addr} {W : World} (h : EE E W) : E4 (E 1) (E 2) (E 3) W := ⟨⟨h.c2, h.c3, rfl⟩, h.c1⟩

set_option maxRecDepth 20000 in
set_option maxHeartbeats 4000000 in
theorem goes_long (E : Nat → Addr) (m n : Mv) (p : Pt) (s : ByteArray) (W : World) (hE : EE E W) (hs : 200 < (s.size : Int)) :
    Calls Tryz.prog 4 #[mv m, mv n, pv p, .string s] W fun e w' => e = .returned (.bool true) ∧ Below W.heap.size W w' := by
  have H0 := (((Held.start W).new [.int .i64 m.a.n, .int .i64 m.a.d, .int .i64 m.b.n, .int .i64 m.b.d, .int .i64 m.c.n, .int .i64 m.c.d, .int .i64 m.d.n, .int .i64 m.d.d, .int .i64 m.e.n, .int .i64 m.e.d, .int .i64 m.f.n, .int .i64 m.f.d] 25).new [.int .i64 n.a.n, .int .i64 n.a.d, .int .i64 n.b.n, .int .i64 n.b.d, .int .i64 n.c.n, .int .i64 n.c.d, .int .i64 n.d.n, .int .i64 n.d.d, .int .i64 n.e.n, .int .i64 n.e.d, .int .i64 n.f.n, .int .i64 n.f.d] 25).new [.int .i64 p.x.n, .int .i64 p.x.d, .int .i64 p.y.n, .int .i64 p.y.d] 27
  go_enter Tryz.func4, Tryz.ntmps4
  go_wp2_with (go_at_call 5; refine (moved_true _ (e4_of (hE.below H0.hb (Nat.le_refl _)))).mono ?_; rintro e w1 ⟨rfl, hb1⟩)
  go_ret
  exact ⟨rfl, bel0 H0.hb hb1⟩

/-- What the document says of the two moves, one by one. -/
def dF (m n : Mv) : Int × Int := if (firstBad 0 m.list).1 = 0 then fltC (firstBad 0 n.list) else fltC (firstBad 0 m.list)

attribute [local irreducible] thenS in
set_option maxRecDepth 20000 in
set_option maxHeartbeats 4000000 in
theorem goes_any (E : Nat → Addr) (m n : Mv) (p : Pt) (s : ByteArray) (W : World) (im : m.i64) (jn : n.i64) (ip : p.i64) (hE : EE E W) :
    Calls Tryz.prog 4 #[mv m, mv n, pv p, .string s] W fun e w' => e = .returned (.bool true) ∧ Below W.heap.size W w' := by
  by_cases hs : s.size ≤ 200
  · have HW : ((fltC (ptB m p)).1 ≠ 0 ∧ (erC (atR m p).2).1 = (fltC (ptB m p)).1 ∧ (erC (atR m p).2).2 = (fltC (ptB m p)).2 ∧ (atR m p).1 = .zero) ∨ ((fltC (ptB m p)).1 = 0 ∧ (erC (atR m p).2).1 = (fltC (ptB m p)).1 ∧ (erC (atR m p).2).2 = (fltC (ptB m p)).2 ∧ ∀ V, Calls Tryz.prog 17 #[mv m, pv p] V fun e w' => e = .returned (.tuple #[pv (atR m p).1, .bool true]) ∧ Below V.heap.size V w') ∨ ((fltC (ptB m p)).1 = 0 ∧ (erC (atR m p).2).1 = 2 ∧ (erC (atR m p).2).2 = -1 ∧ ∀ V, Calls Tryz.prog 17 #[mv m, pv p] V fun e w' => e = .returned (.tuple #[pv (atR m p).1, .bool false]) ∧ Below V.heap.size V w') := by
      obtain ⟨h1, h2, h3⟩ := at_told m p
      rw [h1]
      unfold goesF
      by_cases h0 : (ptB m p).1 = 0
      · obtain ⟨om, op, hq⟩ := h2 h0
        rw [if_pos h0]
        have HG := fun V => GoesTo_any om op V
        rw [← hq] at HG
        cases hg : (goesO m p).isSome with
        | true => rw [hg] at HG; exact .inr (.inl ⟨flt_zero'.2 h0, by simp, by simp, HG⟩)
        | false => rw [hg] at HG; exact .inr (.inr ⟨flt_zero'.2 h0, by simp, by simp, HG⟩)
      · rw [if_neg h0]
        exact .inl ⟨fun e => h0 (flt_zero'.1 e), rfl, rfl, h3 h0⟩
    have HH : ((fltC (firstBad 0 m.list)).1 ≠ 0 ∧ (dF m n).1 = (fltC (firstBad 0 m.list)).1 ∧ (dF m n).2 = (fltC (firstBad 0 m.list)).2) ∨ ((fltC (firstBad 0 m.list)).1 = 0 ∧ ∀ V, Calls Tryz.prog 8 #[mv n] V fun e w' => e = .returned (.agg #[.int .i64 (dF m n).1, .int .i64 (dF m n).2]) ∧ Below V.heap.size V w') := by
      unfold dF
      by_cases h0 : (firstBad 0 m.list).1 = 0
      · rw [if_pos h0]; exact .inr ⟨flt_zero'.2 h0, fun V => SixFault_any n jn V⟩
      · rw [if_neg h0]; exact .inl ⟨fun e => h0 (flt_zero'.1 e), rfl, rfl⟩
    have HX : ((dF m n).1 ≠ 0 ∧ (erC (thenR m n).2).1 = (dF m n).1 ∧ (erC (thenR m n).2).2 = (dF m n).2 ∧ (thenR m n).1 = .zero) ∨ ((dF m n).1 = 0 ∧ (erC (thenR m n).2).1 = (dF m n).1 ∧ (erC (thenR m n).2).2 = (dF m n).2 ∧ ∀ V, Calls Tryz.prog 19 #[mv m, mv n] V fun e w' => e = .returned (.tuple #[mv (thenR m n).1, .bool true]) ∧ Below V.heap.size V w') ∨ ((dF m n).1 = 0 ∧ (erC (thenR m n).2).1 = 2 ∧ (erC (thenR m n).2).2 = -1 ∧ ∀ V, Calls Tryz.prog 19 #[mv m, mv n] V fun e w' => e = .returned (.tuple #[mv (thenR m n).1, .bool false]) ∧ Below V.heap.size V w') := by
      obtain ⟨h1, h2, h3⟩ := then_told m n
      rw [h1]
      unfold thnF dF
      by_cases h0 : (firstBad 0 m.list).1 = 0
      · rw [if_pos h0, if_pos h0]
        by_cases h4 : (firstBad 0 n.list).1 = 0
        · obtain ⟨om, on, hq⟩ := h2 h0 h4
          rw [if_pos h4]
          have HG := fun V => ThenOf_any om on V
          rw [← hq] at HG
          cases hg : (thenO m n).isSome with
          | true => rw [hg] at HG; exact .inr (.inl ⟨flt_zero'.2 h4, by simp, by simp, HG⟩)
          | false => rw [hg] at HG; exact .inr (.inr ⟨flt_zero'.2 h4, by simp, by simp, HG⟩)
        · rw [if_neg h4]
          exact .inl ⟨fun e => h4 (flt_zero'.1 e), rfl, rfl, h3 (.inr h4)⟩
      · rw [if_neg h0, if_neg h0]
        exact .inl ⟨fun e => h0 (flt_zero'.1 e), rfl, rfl, h3 (.inl h0)⟩
    exact goes_walk E m n (thenR m n).1 (readR s).1 p (atR m p).1 s _ _ _ _ _ _ _ _ _ _ _ (chkE m) (atR m p).2 (thenR m n).2 (er0 (E 1) (E 2) (E 3) (readR s).2) W hE (by omega)
      (fun V hV => moved_true V (e4_of hV)) (fun V => asMove_any m V) (fun V => asMove_any n V) (fun V => SixFault_any m im V)
      (fun V hV => Check_er m im V (e4_of hV).e3)
      (fun k B v w V c i h hb hV e => by have := faulted_er h hb hV; rw [e] at this; exact this)
      (chkE_told m)
      (fun V hV => At_er m p im ip V (e4_of hV).e3) rfl (fun V => pointFault_any m p im ip V) HW (fun V => Bare_any 2 V)
      (fun V hV => Then_er m n im jn V (e4_of hV).e3) rfl HH HX (fun V => asMove_any _ V)
      (fun V hV => Read_gen s (by omega) V (e4_of hV)) (fun V => SixOf_any s (by omega) V) (fun V hV => coded_er0 _ (readR_codes s) V hV) (fun V => asMove_any _ V)
  · exact goes_long E m n p s W hE (by omega)

end Go.Proofs.YtlnnpileegoglabGreatDoor

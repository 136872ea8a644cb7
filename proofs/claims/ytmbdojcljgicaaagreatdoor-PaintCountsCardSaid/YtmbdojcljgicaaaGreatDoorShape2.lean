/-
  The walks of package shape's checks of one point.
-/
import Derived.Test.YtmbdojcljgicaaaGreatDoorShape1
namespace Go.Proofs.YtmbdojcljgicaaaGreatDoor
open Go.RowKit

/-- a block of four cells -/
structure Four (w : World) (b : Nat) (x y z u : Value) : Prop where
  c0 : w.cell? ⟨b, 0, none⟩ = some x
  c1 : w.cell? ⟨b, 1, none⟩ = some y
  c2 : w.cell? ⟨b, 2, none⟩ = some z
  c3 : w.cell? ⟨b, 3, none⟩ = some u
theorem Four.below {w w' : World} {b B : Nat} {x y z u : Value} (h : Four w b x y z u) (hb : Below B w w') (hB : w.heap.size ≤ B) : Four w' b x y z u := by
  have hl : b < B := Nat.lt_of_lt_of_le (cell_lt h.c0) hB
  exact ⟨(hb.cell (p := ⟨b, 0, none⟩) hl).trans h.c0, (hb.cell (p := ⟨b, 1, none⟩) hl).trans h.c1, (hb.cell (p := ⟨b, 2, none⟩) hl).trans h.c2, (hb.cell (p := ⟨b, 3, none⟩) hl).trans h.c3⟩
theorem Four.new (w : World) (x y z u : Value) (t : TypeId) : Four (w.alloc (.cells #[x, y, z, u] t)) w.heap.size x y z u := ⟨by simp, by simp, by simp, by simp⟩

set_option maxHeartbeats 1000000 in
theorem checkSize_any (aB aS aZ : Addr) (a : Qt) (w : World) (hI : PI a) (hp : Pos a) (h : E3 aB aS aZ w) :
    Calls Tryz.prog 49 #[qtV a] w fun e w' => e = .returned (er aB aS aZ (bigP a)) ∧ Below w.heap.size w w' := by
  have hB := h.b
  have TX := fun V => tooGreat_sh a.xn a.xd V hI.xn hp.x
  have TY := fun V => tooGreat_sh a.yn a.yd V hI.yn hp.y
  have F0 := Four.new w (.int .i64 a.xn) (.int .i64 a.xd) (.int .i64 a.yn) (.int .i64 a.yd) 61
  have hw := mbelow w (.cells #[.int .i64 a.xn, .int .i64 a.xd, .int .i64 a.yn, .int .i64 a.yd] 61)
  cases h1 : tgr a.xn a.xd with
  | true =>
    have e : bigP a = 2 := by unfold bigP; rw [if_pos (.inl h1)]
    rw [e]
    rw [h1] at TX
    go_enter Tryz.func49, Tryz.ntmps49
    go_wp2_with (go_at_call 68; refine (TX _).mono ?_; rintro e w1 ⟨rfl, b1⟩; have k1 := bel_more hw b1; have hE1 := (h.below k1 (Nat.le_refl _)).b)
    go_ret
    exact ⟨rfl, k1⟩
  | false =>
    rw [h1] at TX
    cases h2 : tgr a.yn a.yd with
    | true =>
      have e : bigP a = 2 := by unfold bigP; rw [if_pos (.inr h2)]
      rw [e]
      rw [h2] at TY
      go_enter Tryz.func49, Tryz.ntmps49
      go_wp2_with (first | (go_at_call 68; refine (TY w1).mono ?_; rintro e w2 ⟨rfl, b2⟩; have k2 := bel_more k1 b2; have hE1 := (h.below k2 (Nat.le_refl _)).b) | (go_at_call 68; refine (TX _).mono ?_; rintro e w1 ⟨rfl, b1⟩; have k1 := bel_more hw b1; obtain ⟨x0, x1, x2, x3⟩ := F0.below b1 (Nat.le_refl _)))
      go_ret
      exact ⟨rfl, k2⟩
    | false =>
      have e : bigP a = 0 := by unfold bigP; rw [if_neg (by simp [h1, h2])]
      rw [e]
      rw [h2] at TY
      go_enter Tryz.func49, Tryz.ntmps49
      go_wp2_with (first | (go_at_call 68; refine (TY w1).mono ?_; rintro e w2 ⟨rfl, b2⟩; have k2 := bel_more k1 b2; have hE1 := (h.below k2 (Nat.le_refl _)).b) | (go_at_call 68; refine (TX _).mono ?_; rintro e w1 ⟨rfl, b1⟩; have k1 := bel_more hw b1; obtain ⟨x0, x1, x2, x3⟩ := F0.below b1 (Nat.le_refl _)))
      go_ret
      exact ⟨rfl, k2⟩

theorem er_two (aB aS aZ : Addr) {c : Nat} (h : c = 2) : ∃ a, er aB aS aZ c = .iface 165 (.pointer (some a)) := by
  subst h
  exact ⟨aB, rfl⟩

set_option maxHeartbeats 1000000 in
theorem checkRight_any (aB aS aZ : Addr) (a : Qt) (w : World) (hI : PI a) (h : E3 aB aS aZ w) :
    Calls Tryz.prog 48 #[qtV a] w fun e w' => e = .returned (er aB aS aZ (chkP a)) ∧ Below w.heap.size w w' := by
  have F0 := Four.new w (.int .i64 a.xn) (.int .i64 a.xd) (.int .i64 a.yn) (.int .i64 a.yd) 61
  have hw := mbelow w (.cells #[.int .i64 a.xn, .int .i64 a.xd, .int .i64 a.yn, .int .i64 a.yd] 61)
  have TX := fun V (hv : Below w.heap.size w V) => Check_any aB aS aZ a.xn a.xd V hI.xn hI.xd (h.below hv (Nat.le_refl _))
  have TY := fun V (hv : Below w.heap.size w V) => Check_any aB aS aZ a.yn a.yd V hI.yn hI.yd (h.below hv (Nat.le_refl _))
  by_cases hc : chk a.xn a.xd = 0
  · have e : chkP a = chk a.yn a.yd := by unfold chkP; rw [if_neg (by simp [hc])]
    rw [e]
    rw [hc] at TX
    clear hc
    go_enter Tryz.func48, Tryz.ntmps48
    go_wp2_with (first | (go_at_call 39; refine (TY w1 k1).mono ?_; rintro e w2 ⟨rfl, b2⟩; have k2 := bel_more k1 b2) | (go_at_call 39; refine (TX _ hw).mono ?_; rintro e w1 ⟨rfl, b1⟩; simp only [er_0]; have k1 := bel_more hw b1; obtain ⟨x0, x1, x2, x3⟩ := F0.below b1 (Nat.le_refl _)))
    go_ret
    exact ⟨rfl, k2⟩
  · have e : chkP a = chk a.xn a.xd := by unfold chkP; rw [if_pos hc]
    rw [e]
    obtain ⟨ad, ha⟩ := er_cases aB aS aZ (show chk a.xn a.xd = 2 ∨ chk a.xn a.xd = 3 by have := chk_cases a.xn a.xd; omega)
    rw [ha] at TX ⊢
    clear hc ha e
    go_enter Tryz.func48, Tryz.ntmps48
    go_wp2_with (go_at_call 39; refine (TX _ hw).mono ?_; rintro e w1 ⟨rfl, b1⟩; have k1 := bel_more hw b1)
    go_ret
    exact ⟨rfl, k1⟩

/-- the error's number of a point -/
def errP (a : Qt) : Nat := if chkP a ≠ 0 then chkP a else bigP a
theorem errP_cases (a : Qt) : errP a = 0 ∨ errP a = 2 ∨ errP a = 3 := by
  unfold errP
  split
  · exact chkP_cases a
  · have := bigP_cases a; omega
theorem errP_zero {a : Qt} : errP a = 0 ↔ chkP a = 0 ∧ bigP a = 0 := by
  unfold errP
  by_cases h : chkP a = 0
  · rw [if_neg (by simp [h])]; simp [h]
  · rw [if_pos h]; simp [h]

set_option maxHeartbeats 1000000 in
theorem checkPoint_any (aB aS aZ : Addr) (a : Qt) (w : World) (hI : PI a) (h : E3 aB aS aZ w) :
    Calls Tryz.prog 69 #[qtV a] w fun e w' => e = .returned (er aB aS aZ (errP a)) ∧ Below w.heap.size w w' := by
  have F0 := Four.new w (.int .i64 a.xn) (.int .i64 a.xd) (.int .i64 a.yn) (.int .i64 a.yd) 61
  have hw := mbelow w (.cells #[.int .i64 a.xn, .int .i64 a.xd, .int .i64 a.yn, .int .i64 a.yd] 61)
  have TX := fun V (hv : Below w.heap.size w V) => checkRight_any aB aS aZ a V hI (h.below hv (Nat.le_refl _))
  by_cases hc : chkP a = 0
  · have e : errP a = bigP a := by unfold errP; rw [if_neg (by simp [hc])]
    have TY := fun V (hv : Below w.heap.size w V) => checkSize_any aB aS aZ a V hI (chkP_pos hc) (h.below hv (Nat.le_refl _))
    rw [e]
    rw [hc] at TX
    clear hc
    go_enter Tryz.func69, Tryz.ntmps69
    go_wp2_with (first | (go_at_call 49; refine (TY w1 k1).mono ?_; rintro e w2 ⟨rfl, b2⟩; have k2 := bel_more k1 b2) | (go_at_call 48; refine (TX _ hw).mono ?_; rintro e w1 ⟨rfl, b1⟩; simp only [er_0]; have k1 := bel_more hw b1; obtain ⟨x0, x1, x2, x3⟩ := F0.below b1 (Nat.le_refl _)))
    go_ret
    exact ⟨rfl, k2⟩
  · have e : errP a = chkP a := by unfold errP; rw [if_pos hc]
    rw [e]
    obtain ⟨ad, ha⟩ := er_cases aB aS aZ (show chkP a = 2 ∨ chkP a = 3 by have := chkP_cases a; omega)
    rw [ha] at TX ⊢
    clear hc ha e
    go_enter Tryz.func69, Tryz.ntmps69
    go_wp2_with (go_at_call 48; refine (TX _ hw).mono ?_; rintro e w1 ⟨rfl, b1⟩; have k1 := bel_more hw b1)
    go_ret
    exact ⟨rfl, k1⟩

/-- the world behind a call of minus -/
def minusW (an ad bn bd : Int) (w : World) : World := ((w.alloc (.cells #[.int .i64 an, .int .i64 ad] 59)).alloc (.cells #[.int .i64 bn, .int .i64 bd] 59)).alloc (.cells #[.int .i64 (an * bd - bn * ad), .int .i64 (ad * bd)] 159)
theorem minusW_below (an ad bn bd : Int) (w : World) : Below w.heap.size w (minusW an ad bn bd w) := (((Below.refl _ _).alloc (Nat.le_refl _) _).alloc (by simp) _).alloc (by simp; omega) _
set_option maxHeartbeats 1000000 in
/-- what lies between two coordinates, where an int holds all that is made -/
theorem minus_any (an ad bn bd : Int) (w : World) (h1 : I64 (an * bd)) (h2 : I64 (bn * ad)) (h3 : I64 (an * bd - bn * ad)) (h4 : I64 (ad * bd)) :
    Calls Tryz.prog 85 #[.agg #[.int .i64 an, .int .i64 ad], .agg #[.int .i64 bn, .int .i64 bd]] w fun e w' => e = .returned (.agg #[.int .i64 (an * bd - bn * ad), .int .i64 (ad * bd)]) ∧ w' = minusW an ad bn bd w := by
  obtain ⟨a1, a2⟩ := h1
  obtain ⟨b1, b2⟩ := h2
  obtain ⟨c1, c2⟩ := h3
  obtain ⟨d1, d2⟩ := h4
  go_enter Tryz.func85, Tryz.ntmps85
  go_wp2
  exact bodyPost_ret (v := .agg #[.int .i64 (an * bd - bn * ad), .int .i64 (ad * bd)]) (by simp [results, Tryz.results85, go_sem]) rfl ⟨rfl, rfl⟩
end Go.Proofs.YtmbdojcljgicaaaGreatDoor

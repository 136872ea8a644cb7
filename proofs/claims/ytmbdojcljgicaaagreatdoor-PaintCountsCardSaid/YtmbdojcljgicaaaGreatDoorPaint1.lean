/-
  Pieces in memory; what a shape's Holds answers by any rule; package paint's small functions.
-/
import Derived.Test.YtmbdojcljgicaaaGreatDoorShape9
import Derived.Test.YtmbdojcljgicaaaGreatDoorShape11
import Derived.Test.YtmbdojcljgicaaaGreatDoorPaintP
import Derived.Test.YtmbdojcljgicaaaGreatDoorAs2
namespace Go.Proofs.YtmbdojcljgicaaaGreatDoor
open Go.RowKit

/-- What is laid of the package variables. -/
structure EP (aB aS aZ aV : Addr) (w : World) : Prop where
  e3 : E3 aB aS aZ w
  v : w.cell? ⟨1, 0, none⟩ = some (.iface 165 (.pointer (some aV)))
  et : w.cell? ⟨2, 0, none⟩ = some (.iface 136 (.agg #[hE]))
theorem EP.below {aB aS aZ aV : Addr} {w w' : World} {B : Nat} (h : EP aB aS aZ aV w) (hb : Below B w w') (hB : w.heap.size ≤ B) : EP aB aS aZ aV w' :=
  ⟨h.e3.below hb hB, (hb.cell (Nat.lt_of_lt_of_le (cell_lt h.v) hB)).trans h.v, (hb.cell (Nat.lt_of_lt_of_le (cell_lt h.et) hB)).trans h.et⟩

/-- A rule. -/
def okRule (r : ByteArray) : Prop := r.toList = lWind ∨ r.toList = lEven
instance (r : ByteArray) : Decidable (okRule r) := by unfold okRule; infer_instance
theorem ba_eq {a b : ByteArray} (h : a.toList = b.toList) : a = b := by
  rw [ByteArray.toList_eq, ByteArray.toList_eq] at h
  cases a; cases b
  simpa using h
/-- What Holds answers. -/
def HoldsR (l : List Qt) (p : Qt) (r : ByteArray) (hv : Bool) (v : Value) : Prop :=
  (okSh l ∧ errP p = 0 ∧ okRule r ∧ hv = holdB l r p ∧ v = .nilIface) ∨ (¬ (okSh l ∧ errP p = 0 ∧ okRule r) ∧ (okSh l → errP p = 0 → ∃ a, v = .iface 165 (.pointer (some a))) ∧ ErrV v)
set_option maxRecDepth 20000 in
set_option maxHeartbeats 4000000 in
theorem Holds_other (aV : Addr) (l : List Qt) (o : Option Addr) (cap : Nat) (p : Qt) (r : ByteArray) (w : World) (h1 : (r.toList == [119, 105, 110, 100]) = false) (h2 : (r.toList == [101, 118, 101, 110]) = false) (hV : w.cell? ⟨1, 0, none⟩ = some (.iface 165 (.pointer (some aV)))) :
    Calls Tryz.prog 36 #[.agg #[.slice o l.length cap], qtV p, .string r] w fun e W => e = .returned (.tuple #[.bool false, .iface 165 (.pointer (some aV))]) ∧ Below w.heap.size w W := by
  go_enter Tryz.func36, Tryz.ntmps36
  go_upto_region 1 with fail
  obtain ⟨U, hU⟩ : ∃ U, (w.alloc (.cells #[.slice o l.length cap] 41)).alloc (.cells #[.int .i64 p.xn, .int .i64 p.xd, .int .i64 p.yn, .int .i64 p.yd] 61) = U := ⟨_, rfl⟩
  obtain ⟨cS, ⟨g0, g1, g2, g3⟩, hbU⟩ := two_boxes w _ _ _ _ _ _ _ U hU
  have hVU := (hbU.cell (cell_lt hV)).trans hV
  rw [hU]
  clear hU hV
  have hVd : U.drew.cell? ⟨1, 0, none⟩ = some (.iface 165 (.pointer (some aV))) := hVU
  go_wp2_with fail
  go_region
  all_goals
    go_wp2_with fail
    refine bodyPost_ret (results_tmp2 rfl _ _ _) rfl ?_
    exact ⟨rfl, hbU.drew⟩
theorem Holds_any (aB aS aZ aV : Addr) (l : List Qt) (o : Option Addr) (cap : Nat) (p : Qt) (r : ByteArray) (w : World) (h : PtsAt w o l) (hp : PI p) (hE : EP aB aS aZ aV w) :
    Calls Tryz.prog 36 #[.agg #[.slice o l.length cap], qtV p, .string r] w fun e W => ∃ hv v, HoldsR l p r hv v ∧ e = .returned (.tuple #[.bool hv, v]) ∧ Below w.heap.size w W := by
  by_cases h1 : r.toList = lWind
  · have hr : r = ⟨#[119, 105, 110, 100]⟩ := ba_eq (by rw [h1, ByteArray.toList_eq]; rfl)
    subst hr
    refine (Holds_wind aB aS aZ l o cap p w h hp hE.e3).mono ?_
    rintro e W ⟨wd, cr, v, hv, rfl, hb⟩
    refine ⟨_, _, ?_, rfl, hb⟩
    rcases hv with ⟨k1, k2, rfl, rfl, rfl⟩ | ⟨k1, rfl, rfl, k2⟩
    · exact .inl ⟨k1, k2, .inl h1, by rw [holdB, if_pos h1], rfl⟩
    · exact .inr ⟨fun h => k1 ⟨h.1, h.2.1⟩, fun a b => absurd ⟨a, b⟩ k1, k2⟩
  · by_cases h2 : r.toList = lEven
    · have hr : r = ⟨#[101, 118, 101, 110]⟩ := ba_eq (by rw [h2, ByteArray.toList_eq]; rfl)
      subst hr
      refine (Holds_even aB aS aZ l o cap p w h hp hE.e3).mono ?_
      rintro e W ⟨wd, cr, v, hv, rfl, hb⟩
      refine ⟨_, _, ?_, rfl, hb⟩
      rcases hv with ⟨k1, k2, rfl, rfl, rfl⟩ | ⟨k1, rfl, rfl, k2⟩
      · exact .inl ⟨k1, k2, .inr h2, by rw [holdB, if_neg h1]; rfl, rfl⟩
      · exact .inr ⟨fun h => k1 ⟨h.1, h.2.1⟩, fun a b => absurd ⟨a, b⟩ k1, k2⟩
    · refine (Holds_other aV l o cap p r w (beq_eq_false_iff_ne.2 h1) (beq_eq_false_iff_ne.2 h2) hE.v).mono ?_
      rintro e W ⟨rfl, hb⟩
      exact ⟨_, _, .inr ⟨fun h => h.2.2.elim h1 h2, fun _ _ => ⟨aV, rfl⟩, .inl ⟨aV, rfl⟩⟩, rfl, hb⟩

end Go.Proofs.YtmbdojcljgicaaaGreatDoor

/-
  The walks of package shape's Wind, Cross and Holds.
-/
import Derived.Test.YtmbdojcljgicaaaDoorShape8
namespace Go.Proofs.YtmbdojcljgicaaaDoor
open Go.RowKit

/-- What around answers, by its three values. -/
def AroundV (l : List Qt) (p : Qt) (wd cr : Int) (v : Value) : Prop :=
  (okSh l ∧ errP p = 0 ∧ wd = windE (turnI p) l ∧ cr = windE (sq p) l ∧ v = .nilIface) ∨ (¬ (okSh l ∧ errP p = 0) ∧ wd = 0 ∧ cr = 0 ∧ ErrV v)
theorem around_any (aB aS aZ : Addr) (l : List Qt) (o : Option Addr) (cap : Nat) (p : Qt) (w : World) (h : PtsAt w o l) (hp : PI p) (hE : E3 aB aS aZ w) :
    Calls Tryd.prog 43 #[.agg #[.slice o l.length cap], qtV p] w fun e W => ∃ wd cr v, AroundV l p wd cr v ∧ e = .returned (.tuple #[.int .i64 wd, .int .i64 cr, v]) ∧ Below w.heap.size w W :=
  (callsIn_wide.1 (around_in aB aS aZ l o cap p w h hp hE)).mono fun e W h => by
    obtain ⟨h1 | h1, hb⟩ := h
    · obtain ⟨h1, h2, h3⟩ := h1
      exact ⟨_, _, _, .inl ⟨h1, h2, rfl, rfl, rfl⟩, h3, hb⟩
    · obtain ⟨h1, v, h2, h3⟩ := h1
      exact ⟨_, _, _, .inr ⟨h1, rfl, rfl, h2⟩, h3, hb⟩
theorem two_boxes (w : World) (v a b c d : Value) (t t' : TypeId) :
    ∀ U, (w.alloc (.cells #[v] t)).alloc (.cells #[a, b, c, d] t') = U → U.cell? ⟨w.heap.size, 0, none⟩ = some v ∧ Four U (w.heap.size + 1) a b c d ∧ Below w.heap.size w U := by
  rintro U rfl
  have h1 := mbelow (w.alloc (.cells #[v] t)) (.cells #[a, b, c, d] t')
  have F := Four.new (w.alloc (.cells #[v] t)) a b c d t'
  rw [show (w.alloc (.cells #[v] t)).heap.size = w.heap.size + 1 from by simp] at F
  exact ⟨(h1.cell (p := ⟨w.heap.size, 0, none⟩) (by simp)).trans (cell_onew w v t).1, F, bel_more (mbelow w _) h1⟩

abbrev sWind : Value := .string ⟨#[119, 105, 110, 100]⟩
abbrev sEven : Value := .string ⟨#[101, 118, 101, 110]⟩
set_option maxRecDepth 20000 in
set_option maxHeartbeats 4000000 in
theorem Holds_wind (aB aS aZ : Addr) (l : List Qt) (o : Option Addr) (cap : Nat) (p : Qt) (w : World) (h : PtsAt w o l) (hp : PI p) (hE : E3 aB aS aZ w) :
    Calls Tryd.prog 31 #[.agg #[.slice o l.length cap], qtV p, sWind] w fun e W => ∃ wd cr v, AroundV l p wd cr v ∧ e = .returned (.tuple #[.bool (wd != 0), v]) ∧ Below w.heap.size w W := by
  have AR := fun V (hv : Below w.heap.size w V) => around_any aB aS aZ l o cap p V (h.below hv (Nat.le_refl _)) hp (hE.below hv (Nat.le_refl _))
  go_enter Tryd.func31, Tryd.ntmps31
  go_upto_region 1 with fail
  obtain ⟨U, hU⟩ : ∃ U, (w.alloc (.cells #[.slice o l.length cap] 40)).alloc (.cells #[.int .i64 p.xn, .int .i64 p.xd, .int .i64 p.yn, .int .i64 p.yd] 54) = U := ⟨_, rfl⟩
  obtain ⟨cS, ⟨g0, g1, g2, g3⟩, hbU⟩ := two_boxes w _ _ _ _ _ _ _ U hU
  rw [hU]
  clear hU
  have AR := AR U hbU
  go_wp2_with (go_at_call 43; refine AR.mono ?_; rintro e w1 ⟨wd, cr, v, hv, rfl, b1⟩)
  refine bodyPost_ret (results_tmp2 rfl _ _ _) rfl ?_
  exact ⟨_, _, _, hv, rfl, bel_more hbU b1⟩
set_option maxRecDepth 20000 in
set_option maxHeartbeats 4000000 in
theorem Holds_even (aB aS aZ : Addr) (l : List Qt) (o : Option Addr) (cap : Nat) (p : Qt) (w : World) (h : PtsAt w o l) (hp : PI p) (hE : E3 aB aS aZ w) :
    Calls Tryd.prog 31 #[.agg #[.slice o l.length cap], qtV p, sEven] w fun e W => ∃ wd cr v, AroundV l p wd cr v ∧ e = .returned (.tuple #[.bool (cr.tmod 2 == 1), v]) ∧ Below w.heap.size w W := by
  have AR := fun V (hv : Below w.heap.size w V) => around_any aB aS aZ l o cap p V (h.below hv (Nat.le_refl _)) hp (hE.below hv (Nat.le_refl _))
  go_enter Tryd.func31, Tryd.ntmps31
  go_upto_region 1 with fail
  obtain ⟨U, hU⟩ : ∃ U, (w.alloc (.cells #[.slice o l.length cap] 40)).alloc (.cells #[.int .i64 p.xn, .int .i64 p.xd, .int .i64 p.yn, .int .i64 p.yd] 54) = U := ⟨_, rfl⟩
  obtain ⟨cS, ⟨g0, g1, g2, g3⟩, hbU⟩ := two_boxes w _ _ _ _ _ _ _ U hU
  rw [hU]
  clear hU
  have AR := AR U hbU
  go_wp2_with (go_at_call 43; refine AR.mono ?_; rintro e w1 ⟨wd, cr, v, hv, rfl, b1⟩)
  refine bodyPost_ret (results_tmp2 rfl _ _ _) rfl ?_
  exact ⟨_, _, _, hv, rfl, bel_more hbU b1⟩
end Go.Proofs.YtmbdojcljgicaaaDoor

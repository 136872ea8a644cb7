/-
  The walk of package shape's Check.
-/
import Derived.Test.YtmbdojcljgicaaaGreatDoorShape5
namespace Go.Proofs.YtmbdojcljgicaaaGreatDoor
open Go.RowKit

theorem FirstF.mono {aB aS aZ : Addr} {ef : Qt → Nat} {w u : World} {l : List Qt} {e : Ending} {W : World} (h : FirstF aB aS aZ ef u l e W) (hs : w.heap.size ≤ u.heap.size) : FirstF aB aS aZ ef w l e W := by
  rcases h with h | ⟨q, x, r, pb, h1, h2, h3, h4, h5⟩
  · exact .inl h
  · exact .inr ⟨q, x, r, pb, h1, h2, h3, Nat.le_trans hs h4, h5⟩
/-- What Check answers. -/
def ChkR (aB aS aZ : Addr) (w : World) (l : List Qt) (e : Ending) (W : World) : Prop :=
  (30 < l.length ∧ e = .returned (er aB aS aZ 2)) ∨ (l.length ≤ 30 ∧ (∃ y ∈ l, chkP y ≠ 0) ∧ FirstF aB aS aZ chkP w l e W) ∨ (l.length ≤ 30 ∧ (∀ y ∈ l, chkP y = 0) ∧ FirstF aB aS aZ bigP w l e W)
/-- A shape that is well. -/
def okSh (l : List Qt) : Prop := l.length ≤ 30 ∧ ∀ y ∈ l, errP y = 0
/-- An error. -/
def ErrV (v : Value) : Prop := (∃ a, v = .iface 165 (.pointer (some a))) ∨ (∃ a, v = .iface 69 (.pointer (some a)))
theorem ChkR.plain {aB aS aZ : Addr} {w : World} {l : List Qt} {e : Ending} {W : World} (h : ChkR aB aS aZ w l e W) : (okSh l ∧ e = .returned .nilIface) ∨ (¬ okSh l ∧ ∃ v, ErrV v ∧ e = .returned v) := by
  rcases h with ⟨h1, h2⟩ | ⟨h1, ⟨y, hy, hy2⟩, h3⟩ | ⟨h1, h2, h3⟩
  · exact .inr ⟨fun h => by have := h.1; omega, _, .inl ⟨aB, rfl⟩, h2⟩
  · have hn : ¬ okSh l := fun h => hy2 (errP_zero.1 (h.2 y hy)).1
    rcases h3 with ⟨h4, -⟩ | ⟨q, x, r, pb, -, -, -, -, h5, -⟩
    · exact absurd (h4 y hy) hy2
    · exact .inr ⟨hn, _, .inr ⟨_, rfl⟩, h5⟩
  · rcases h3 with ⟨h4, h5⟩ | ⟨q, x, r, pb, e1, -, h4, -, h5, -⟩
    · exact .inl ⟨⟨h1, fun y hy => errP_zero.2 ⟨h2 y hy, h4 y hy⟩⟩, h5⟩
    · exact .inr ⟨fun h => h4 (errP_zero.1 (h.2 x (by rw [e1]; simp))).2, _, .inr ⟨_, rfl⟩, h5⟩

set_option maxRecDepth 20000 in
set_option maxHeartbeats 4000000 in
theorem Check_sh (aB aS aZ : Addr) (l : List Qt) (o : Option Addr) (cap : Nat) (w : World) (h : PtsAt w o l) (hE : E3 aB aS aZ w) :
    Calls Tryz.prog 35 #[.agg #[.slice o l.length cap]] w fun e W => ChkR aB aS aZ w l e W ∧ Below w.heap.size w W := by
  have hw := mbelow w (.cells #[.slice o l.length cap] 41)
  have hE1 := (hE.below hw (Nat.le_refl _)).b
  by_cases h30 : 30 < l.length
  · have h30' : 30 < (l.length : Int) := by omega
    go_enter Tryz.func35, Tryz.ntmps35
    go_wp2
    go_ret
    exact ⟨.inl ⟨h30, rfl⟩, hw⟩
  · have h30' : ¬ 30 < (l.length : Int) := by omega
    have F1 := firstRight aB aS aZ l o cap _ (by omega) (h.below hw (Nat.le_refl _)) (hE.below hw (Nat.le_refl _))
    by_cases hr : ∀ y ∈ l, chkP y = 0
    · have F2 := fun V (hv : Below w.heap.size w V) => firstSize aB aS aZ l o cap V (by omega) (h.below hv (Nat.le_refl _)) (hE.below hv (Nat.le_refl _)) hr
      have HR : Hid (∀ y ∈ l, chkP y = 0) := hr
      clear hr
      go_enter Tryz.func35, Tryz.ntmps35
      go_wp2_with (first | (go_at_call 47; refine (F2 w1 k1).mono ?_; rintro e w2 ⟨hf2, b2⟩; obtain ⟨v2, rfl⟩ : ∃ v, e = .returned v := (by rcases hf2 with ⟨-, rfl⟩ | ⟨_, _, _, _, -, -, -, -, rfl, -⟩; exact ⟨_, rfl⟩; exact ⟨_, rfl⟩)) | (go_at_call 47; refine F1.mono ?_; rintro e w1 ⟨hf1, b1⟩; have he : e = .returned .nilIface := (by rcases hf1 with ⟨-, h2⟩ | ⟨q, x, r, pb, e1, -, h4, -⟩; exact h2; exact absurd (HR.out x (by rw [e1]; simp)) h4); subst he; clear hf1; have k1 := bel_more hw b1; have cb := (b1.cell (p := ⟨w.heap.size, 0, none⟩) (by simp)).trans (show (w.alloc (.cells #[.slice o l.length cap] 41)).cell? ⟨w.heap.size, 0, none⟩ = some (.slice o l.length cap) by simp)))
      go_ret
      exact ⟨.inr (.inr ⟨by omega, HR.out, hf2.mono k1.size⟩), bel_more k1 b2⟩
    · have hex : ∃ y ∈ l, chkP y ≠ 0 := by
        apply Classical.byContradiction
        intro hn
        refine hr fun y hy => ?_
        apply Classical.byContradiction
        exact fun h0 => hn ⟨y, hy, h0⟩
      have HX : Hid (∃ y ∈ l, chkP y ≠ 0) := hex
      clear hr hex
      go_enter Tryz.func35, Tryz.ntmps35
      go_wp2_with (go_at_call 47; refine F1.mono ?_; rintro e w1 ⟨hf1, b1⟩; have he : ∃ a, e = .returned (.iface 69 (.pointer (some a))) := (by rcases hf1 with ⟨h2, -⟩ | ⟨q, x, r, pb, -, -, -, -, rfl, -⟩; exact absurd HX.out (fun ⟨y, hy, h0⟩ => h0 (h2 y hy)); exact ⟨_, rfl⟩); obtain ⟨ad, rfl⟩ := he)
      go_ret
      exact ⟨.inr (.inl ⟨by omega, HX.out, hf1.mono hw.size⟩), bel_more hw b1⟩
end Go.Proofs.YtmbdojcljgicaaaGreatDoor

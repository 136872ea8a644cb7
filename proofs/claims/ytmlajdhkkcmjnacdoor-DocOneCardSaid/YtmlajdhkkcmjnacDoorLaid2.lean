/-
  Package api's eleven errors and the handle of the type error, out of a row's list of variables.
-/
import Derived.Test.YtmlajdhkkcmjnacDoorCards
import Derived.Test.YtmlajdhkkcmjnacDoorTie
import Derived.Test.YtmlajdhkkcmjnacDoorLaid
import Derived.Test.YtmlajdhkkcmjnacDoorCode1
import Derived.ProofKit
namespace Go.Proofs.YtmlajdhkkcmjnacDoor
open Go.ChangeShapes Go.WideShapes Go.RowKit

theorem star2 : "*" ++ "errors.errorString" = "*errors.errorString" := by decide
theorem sentOk2 : ∃ ms f, SentOk Tryd.prog 32 181 200 9 ms f :=
  ⟨_, _, { hi := Tryd.underlying32
           hrow := fun u h => typeName_ptr_named (nm := "errors.errorString") (by rw [star2]; kernel_rfl) (by kernel_rfl) (by decide) u (by rw [star2]; exact h)
           hp := Tryd.underlying181
           he := Tryd.underlying200
           hft := rfl
           hfo := rfl
           hs := Tryd.underlying9
           hc := by kernel_rfl
           hcs := by kernel_rfl }⟩

theorem rtName : (Tryd.prog.cutTypes.find? (·.1 == "internal/reflectlite.rtype")).map (·.2) = some 149 := by kernel_rfl
theorem oneRow : ((List.range 212).filter fun t => Tryd.prog.rowNamed t [101, 114, 114, 111, 114]) = [32] := by kernel_rfl
theorem typesSize : Tryd.prog.types.size = 212 := by kernel_rfl
theorem gErrorType : Tryd.prog.globalNamed "errors.errorType" = some 11 := by kernel_rfl
theorem handle_of {W : World} (h : handlesMet Tryd.prog [("errors.errorType", Rows.laid_errors_errorType)] W) : W.cell? ⟨11, 0, none⟩ = some (.iface 149 (.agg #[hE])) := by
  obtain ⟨name, u, ty, e1, e2, e3, e4, e5⟩ := h _ (List.mem_singleton.2 rfl)
  have en : name = [101, 114, 114, 111, 114] := (Option.some.inj e1).symm
  subst en
  obtain rfl := Option.some.inj (rtName.symm.trans e2)
  have hm : ty ∈ (List.range 212).filter fun t => Tryd.prog.rowNamed t [101, 114, 114, 111, 114] := List.mem_filter.2 ⟨List.mem_range.2 (by rw [← typesSize]; exact e3), e4⟩
  rw [oneRow] at hm
  obtain rfl := List.mem_singleton.1 hm
  have hh : typeHandle Tryd.prog 32 = .pointer (some ⟨15, 32, none⟩) := by kernel_rfl
  rw [hh] at e5
  simpa using World.var?_cell gErrorType e5 0

/-- the eleven names -/
def errEntry (k : Nat) : String × DataW Unit := match k with
  | 1 => ("leadlight/api.ErrText", Rows.laid_leadlight_api_ErrText)
  | 2 => ("leadlight/api.ErrBound", Rows.laid_leadlight_api_ErrBound)
  | 3 => ("leadlight/api.ErrShape", Rows.laid_leadlight_api_ErrShape)
  | 4 => ("leadlight/api.ErrName", Rows.laid_leadlight_api_ErrName)
  | 5 => ("leadlight/api.ErrNone", Rows.laid_leadlight_api_ErrNone)
  | 6 => ("leadlight/api.ErrExist", Rows.laid_leadlight_api_ErrExist)
  | 7 => ("leadlight/api.ErrFull", Rows.laid_leadlight_api_ErrFull)
  | 8 => ("leadlight/api.ErrDeep", Rows.laid_leadlight_api_ErrDeep)
  | 9 => ("leadlight/api.ErrCycle", Rows.laid_leadlight_api_ErrCycle)
  | 10 => ("leadlight/api.ErrValue", Rows.laid_leadlight_api_ErrValue)
  | _ => ("leadlight/api.ErrZero", Rows.laid_leadlight_api_ErrZero)
def errGlobal (k : Nat) : Nat := match k with
  | 1 => 7 | 2 => 1 | 3 => 5 | 4 => 2 | 5 => 0 | 6 => 8 | 7 => 4 | 8 => 3 | 9 => 6 | 10 => 9 | _ => 10
theorem errEntry_ok : ∀ k, 1 ≤ k → k ≤ 11 → (∃ text, (errEntry k).2 = sent text) ∧ Tryd.prog.globalNamed (errEntry k).1 = some (errGlobal k) ∧ (Tryd.prog.globals[errGlobal k]?).map (·.type) = some 32 := by
  intro k h1 h2
  rcases k with _ | _ | _ | _ | _ | _ | _ | _ | _ | _ | _ | _ | k
  all_goals first | omega | exact ⟨⟨_, rfl⟩, by kernel_rfl, by kernel_rfl⟩

theorem ee_of {W : World} {l : List (String × DataW Unit)} (idx : Nat → Nat) (hi : ∀ j k, j ≠ k → 1 ≤ j → 1 ≤ k → idx j ≠ idx k) (hl : ∀ k, 1 ≤ k → k ≤ 11 → l[idx k]? = some (errEntry k)) (h : laidMet Tryd.prog l W)
    (hh : handlesMet Tryd.prog [("errors.errorType", Rows.laid_errors_errorType)] W) : ∃ E, EE E W := by
  obtain ⟨ps, hv, hn, hk⟩ := h
  obtain ⟨ms, f, S⟩ := sentOk2
  obtain ⟨a, ha, hne⟩ := sents S hv hn hk
  have key : ∀ k, 1 ≤ k → k ≤ 11 → W.cell? ⟨errGlobal k, 0, none⟩ = some (.iface 181 (.pointer (some (a (idx k))))) ∧ ∃ c t, W.heap[(a (idx k)).block]? = some (.cells c t (0, 0)) := by
    intro k h1 h2
    obtain ⟨⟨text, ht⟩, hg, hty⟩ := errEntry_ok k h1 h2
    have := ha (idx k) (errEntry k).1 text (errGlobal k) (by rw [hl k h1 h2, ← ht]) hg hty
    exact ⟨this.1, this.2.1⟩
  refine ⟨fun k => a (idx k), (key 1 (by decide) (by decide)).1, (key 2 (by decide) (by decide)).1, (key 3 (by decide) (by decide)).1, (key 4 (by decide) (by decide)).1, (key 5 (by decide) (by decide)).1, (key 6 (by decide) (by decide)).1, (key 7 (by decide) (by decide)).1, (key 8 (by decide) (by decide)).1, (key 9 (by decide) (by decide)).1, (key 10 (by decide) (by decide)).1, (key 11 (by decide) (by decide)).1, handle_of hh, fun k h1 h2 => (key k h1 h2).2, ?_⟩
  intro j k j1 j2 k1 k2 hjk
  obtain ⟨⟨t1, ht1⟩, hg1, hty1⟩ := errEntry_ok j j1 j2
  obtain ⟨⟨t2, ht2⟩, hg2, hty2⟩ := errEntry_ok k k1 k2
  exact hne (idx j) (idx k) _ _ t1 t2 _ _ (hi j k hjk j1 k1) (by rw [hl j j1 j2, ← ht1]) (by rw [hl k k1 k2, ← ht2]) hg1 hg2 hty1 hty2
end Go.Proofs.YtmlajdhkkcmjnacDoor

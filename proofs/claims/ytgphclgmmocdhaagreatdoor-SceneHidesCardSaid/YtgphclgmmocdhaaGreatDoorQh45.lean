/-
  Parts of the proof.
-/
import Derived.Test.YtgphclgmmocdhaaGreatDoorQh44
import Derived.Test.YtgphclgmmocdhaaGreatDoorQh32
namespace Go.Proofs.YtgphclgmmocdhaaGreatDoor
open Go.ChangeShapes Go.WideShapes Go.RowKit
theorem starS : "*" ++ "errors.errorString" = "*errors.errorString" := by decide
theorem sentOkS : ∃ ms f, SentOk Tryz.prog 31 409 411 9 ms f :=
  ⟨_, _, { hi := Tryz.underlying31
           hrow := fun u h => typeName_ptr_named (nm := "errors.errorString") (by rw [starS]; kernel_rfl) (by kernel_rfl) (by decide) u (by rw [starS]; exact h)
           hp := Tryz.underlying409
           he := Tryz.underlying411
           hft := rfl
           hfo := rfl
           hs := Tryz.underlying9
           hc := by kernel_rfl
           hcs := by kernel_rfl }⟩
def errEntryS (k : Nat) : String × DataW Unit := match k with
  | 1 => ("leadlight/api.ErrText", Rows.laid_leadlight_api_ErrText)
  | 2 => ("leadlight/api.ErrBound", Rows.laid_leadlight_api_ErrBound)
  | 3 => ("leadlight/api.ErrShape", Rows.laid_leadlight_api_ErrShape)
  | 4 => ("leadlight/api.ErrName", Rows.laid_leadlight_api_ErrName)
  | 5 => ("leadlight/api.ErrNone", Rows.laid_leadlight_api_ErrNone)
  | 6 => ("leadlight/api.ErrExist", Rows.laid_leadlight_api_ErrExist)
  | 7 => ("leadlight/api.ErrFull", Rows.laid_leadlight_api_ErrFull)
  | 8 => ("leadlight/api.ErrDeep", Rows.laid_leadlight_api_ErrDeep)
  | 9 => ("leadlight/api.ErrCycle", Rows.laid_leadlight_api_ErrCycle)
  | 10 => ("leadlight/api.ErrValue", Rows.laid_leadlight_api_ErrValue)
  | 11 => ("strconv.ErrRange", Rows.laid_strconv_ErrRange)
  | _ => ("strconv.ErrSyntax", Rows.laid_strconv_ErrSyntax)
def errGlobalS (k : Nat) : Nat := match k with
  | 1 => 7 | 2 => 6 | 3 => 4 | 4 => 1 | 5 => 0 | 6 => 9 | 7 => 3 | 8 => 8 | 9 => 5 | 10 => 2 | 11 => 13 | _ => 12
theorem errEntryS_ok : ∀ k, 1 <= k -> k <= 12 -> (∃ text, (errEntryS k).2 = sent text) /\ Tryz.prog.globalNamed (errEntryS k).1 = some (errGlobalS k) /\ (Tryz.prog.globals[errGlobalS k]?).map (·.type) = some 31 := by
  intro k h1 h2
  rcases k with _ | _ | _ | _ | _ | _ | _ | _ | _ | _ | _ | _ | _ | k
  all_goals first | omega | exact ⟨⟨_, rfl⟩, by kernel_rfl, by kernel_rfl⟩
theorem ns_of {W : World} {l : List (String × DataW Unit)} (idx : Nat -> Nat) (hi : ∀ j k, j ≠ k -> 1 <= j -> 1 <= k -> j <= 12 -> k <= 12 -> idx j ≠ idx k) (hl : ∀ k, 1 <= k -> k <= 12 -> l[idx k]? = some (errEntryS k)) (hx : ("internal/strconv.uint64pow10", Rows.laid_internal_strconv_uint64pow10) ∈ l) (h : laidMet Tryz.prog l W) : ∃ E, NE E W /\ DE E W := by
  have hT : Lib.TabIs Tryz.prog W "internal/strconv.uint64pow10" .u64 Lib.pow10Tab :=
    Lib.tabIs_of_head (rest := []) gPow (by kernel_rfl) Tryz.underlying413 Tryz.underlying370 (by kernel_rfl) (by kernel_rfl) (laidMet_one h hx)
  obtain ⟨ps, hv, hn, hk⟩ := h
  obtain ⟨ms, f, S⟩ := sentOkS
  obtain ⟨a, ha, hne⟩ := sents S hv hn hk
  have key : ∀ k, 1 <= k -> k <= 12 -> W.cell? ⟨errGlobalS k, 0, none⟩ = some (.iface 409 (.pointer (some (a (idx k))))) /\ ∃ c t, W.heap[(a (idx k)).block]? = some (.cells c t (0, 0)) := by
    intro k h1 h2
    obtain ⟨⟨text, ht⟩, hg, hty⟩ := errEntryS_ok k h1 h2
    have := ha (idx k) (errEntryS k).1 text (errGlobalS k) (by rw [hl k h1 h2, <- ht]) hg hty
    exact ⟨this.1, this.2.1⟩
  have c := fun k h1 h2 => (key k h1 h2).1
  refine ⟨fun k => a (idx k), ⟨c 1 (by decide) (by decide), c 2 (by decide) (by decide), c 3 (by decide) (by decide), c 7 (by decide) (by decide), c 9 (by decide) (by decide), c 10 (by decide) (by decide), ⟨_, c 12 (by decide) (by decide)⟩, ⟨_, c 11 (by decide) (by decide)⟩, hT, fun k k1 k2 => (key k k1 (by omega)).2, ?_⟩,
    ⟨c 2 (by decide) (by decide), c 3 (by decide) (by decide), c 4 (by decide) (by decide), c 5 (by decide) (by decide), c 6 (by decide) (by decide), c 7 (by decide) (by decide), c 8 (by decide) (by decide), c 9 (by decide) (by decide), c 10 (by decide) (by decide)⟩⟩
  intro j k j1 j2 k1 k2 hjk
  obtain ⟨⟨t1, ht1⟩, hg1, hty1⟩ := errEntryS_ok j j1 (by omega)
  obtain ⟨⟨t2, ht2⟩, hg2, hty2⟩ := errEntryS_ok k k1 (by omega)
  exact hne (idx j) (idx k) _ _ t1 t2 _ _ (hi j k hjk j1 k1 (by omega) (by omega)) (by rw [hl j j1 (by omega), <- ht1]) (by rw [hl k k1 (by omega), <- ht2]) hg1 hg2 hty1 hty2
end Go.Proofs.YtgphclgmmocdhaaGreatDoor

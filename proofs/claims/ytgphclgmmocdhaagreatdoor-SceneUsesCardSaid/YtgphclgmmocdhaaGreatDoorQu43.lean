/-
  Parts of the proof.
-/
import Derived.Test.YtgphclgmmocdhaaGreatDoorQu42
import Derived.Test.YtgphclgmmocdhaaGreatDoorQu31
namespace Go.Proofs.YtgphclgmmocdhaaGreatDoor
open Go.ChangeShapes Go.WideShapes Go.RowKit
theorem starS : "*" ++ "errors.errorString" = "*errors.errorString" := by decide
theorem sentOkS : ∃ ms f, SentOk Tryz.prog 31 409 411 9 ms f :=
  ⟨_, _, { hi := Tryz.underlying31
           hrow := fun u h => typeName_ptr_named (nm := "errors.errorString") (by rw [starS]; kernel_rfl) (by kernel_rfl) (by decide) u (by rw [starS]; exact h)
           hp := Tryz.underlying409
           he := Tryz.underlying411
           hft := rfl
           hfo := rfl
           hs := Tryz.underlying9
           hc := by kernel_rfl
           hcs := by kernel_rfl }⟩
def errEntryS (k : Nat) : String × DataW Unit := match k with
  | 1 => ("leadlight/api.ErrText", Rows.laid_leadlight_api_ErrText)
  | 2 => ("leadlight/api.ErrBound", Rows.laid_leadlight_api_ErrBound)
  | 3 => ("leadlight/api.ErrShape", Rows.laid_leadlight_api_ErrShape)
  | 4 => ("leadlight/api.ErrName", Rows.laid_leadlight_api_ErrName)
  | 5 => ("leadlight/api.ErrNone", Rows.laid_leadlight_api_ErrNone)
  | 6 => ("leadlight/api.ErrExist", Rows.laid_leadlight_api_ErrExist)
  | 7 => ("leadlight/api.ErrFull", Rows.laid_leadlight_api_ErrFull)
  | 8 => ("leadlight/api.ErrDeep", Rows.laid_leadlight_api_ErrDeep)
  | 9 => ("leadlight/api.ErrCycle", Rows.laid_leadlight_api_ErrCycle)
  | 10 => ("leadlight/api.ErrValue", Rows.laid_leadlight_api_ErrValue)
  | 11 => ("strconv.ErrRange", Rows.laid_strconv_ErrRange)
  | _ => ("strconv.ErrSyntax", Rows.laid_strconv_ErrSyntax)
def errGlobalS (k : Nat) : Nat := match k with
  | 1 => 7 | 2 => 6 | 3 => 4 | 4 => 1 | 5 => 0 | 6 => 9 | 7 => 3 | 8 => 8 | 9 => 5 | 10 => 2 | 11 => 13 | _ => 12
theorem errEntryS_ok : ∀ k, 1 <= k -> k <= 12 -> (∃ text, (errEntryS k).2 = sent text) /\ Tryz.prog.globalNamed (errEntryS k).1 = some (errGlobalS k) /\ (Tryz.prog.globals[errGlobalS k]?).map (·.type) = some 31 := by
  intro k h1 h2
  rcases k with _ | _ | _ | _ | _ | _ | _ | _ | _ | _ | _ | _ | _ | k
  all_goals first | omega | exact ⟨⟨_, rfl⟩, by kernel_rfl, by kernel_rfl⟩
end Go.Proofs.YtgphclgmmocdhaaGreatDoor

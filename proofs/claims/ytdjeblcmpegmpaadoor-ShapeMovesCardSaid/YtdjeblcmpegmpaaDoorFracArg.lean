/-
  A fraction as an argument of a law: opened and shut; what the list of variables gives the walks of package frac.
-/
import Derived.Test.YtdjeblcmpegmpaaDoorCards
import Derived.Test.YtdjeblcmpegmpaaDoorTie
import Derived.Test.YtdjeblcmpegmpaaDoorLaid
import Derived.Test.YtdjeblcmpegmpaaDoorFrac5
import Derived.ProofKit
import Derived.OpenShut
import Derived.Lib.SmallJoins
import Derived.LaidMore
import Derived.Deep.DeepHandedRow
import Derived.Deep.DeepWitnessRowRef
namespace Go.Proofs.YtdjeblcmpegmpaaDoor
open Go.ChangeShapes Go.WideShapes Go.ChangeAt Go.RowKit Go.Joins

theorem own : ownKnob Tryd.prog.godebug = none := by kernel_rfl
theorem cellsFrac : Tryd.prog.cellsOf 24 = 2 := by kernel_rfl

theorem wf_i64 {n : Int} : (Lit.int .i64 n).wf = true ↔ I64 n := by
  unfold I64
  constructor
  · intro h; exact bounds_i64 h
  · intro h; simp [Lit.wf, IntKind.min, IntKind.max, IntKind.signed, IntKind.bits]; omega

set_option maxRecDepth 100000 in
theorem open_frac {H : Type} {enc : TypeId × Value → H} {w : World} {r : Reach} {b0 base : Nat} {spare : Nat → Bool} {held : Bool} {v : Value} {d : DataW H} {p : List MemPlace}
    (hv : Value.okWide Tryd.prog w r b0 24 v) (h : DataW.Trod enc Tryd.prog w base spare held 24 v d p) :
    ∃ n m, v = .agg #[.int .i64 n, .int .i64 m] ∧ d = .agg [.lit (.int .i64 n), .lit (.int .i64 m)] ∧ p = [] ∧ I64 n ∧ I64 m := by
  obtain ⟨c0, c1, y0, y1, k, rfl, rfl, rfl, h0, h1⟩ := open_agg2 Tryd.underlying24 (by kernel_rfl) cellsFrac hv h
  obtain ⟨n, e0, rfl, w0⟩ := DataW.trod_int Tryd.underlying3 h0
  obtain ⟨m, e1, rfl, w1⟩ := DataW.trod_int Tryd.underlying3 h1
  simp at e0 e1
  subst e0 e1
  exact ⟨n, m, rfl, rfl, rfl, wf_i64.1 w0, wf_i64.1 w1⟩
set_option maxRecDepth 100000 in
theorem shut_frac {H : Type} {enc : TypeId × Value → H} {w : World} {base : Nat} {spare : Nat → Bool} {held : Bool} {n m : Int} (hn : I64 n) (hm : I64 m) :
    DataW.Trod enc Tryd.prog w base spare held 24 (.agg #[.int .i64 n, .int .i64 m]) (.agg [.lit (.int .i64 n), .lit (.int .i64 m)]) [] :=
  shut_agg2 (y0 := (.lit (.int .i64 n), [])) (y1 := (.lit (.int .i64 m), [])) Tryd.underlying24 (by kernel_rfl) cellsFrac ⟨1, by simp [DataW.trod, Tryd.underlying3, wf_i64.2 hn]⟩ ⟨1, by simp [DataW.trod, Tryd.underlying3, wf_i64.2 hm]⟩

theorem star : "*" ++ "errors.errorString" = "*errors.errorString" := by decide
theorem sentOk : ∃ ms f, SentOk Tryd.prog 32 108 126 9 ms f :=
  ⟨_, _, { hi := Tryd.underlying32
           hrow := fun u h => typeName_ptr_named (nm := "errors.errorString") (by rw [star]; kernel_rfl) (by kernel_rfl) (by decide) u (by rw [star]; exact h)
           hp := Tryd.underlying108
           he := Tryd.underlying126
           hft := rfl
           hfo := rfl
           hs := Tryd.underlying9
           hc := by kernel_rfl
           hcs := by kernel_rfl }⟩

end Go.Proofs.YtdjeblcmpegmpaaDoor

/-
  A node as an argument of a law: read, and read again behind the call; what the list of variables gives the walks of package mark.
-/
import Derived.Test.YtmlajdhkkcmjnacDoorCards
import Derived.Test.YtmlajdhkkcmjnacDoorTie
import Derived.Test.YtmlajdhkkcmjnacDoorLaid
import Derived.Test.YtmlajdhkkcmjnacDoorJ2
import Derived.ProofKit
import Derived.OpenShut
import Derived.ReadAgain
import Derived.ChangeBook
import Derived.Lib.SmallJoins
import Derived.LaidMore
import Derived.Deep.DeepHandedRow
import Derived.Deep.DeepWitnessRowRef
namespace Go.Proofs.YtmlajdhkkcmjnacDoor
open Go.ChangeShapes Go.WideShapes Go.ChangeAt Go.RowKit Go.Joins

theorem ownN : ownKnob Tryd.prog.godebug = none := by kernel_rfl
theorem nodeRec : Tryd.prog.readableRec 25 = true := by kernel_rfl
theorem nodeKids : Kids Tryd.prog (InBook Tryd.prog 25) := kids_book (by kernel_rfl) nodeRec
theorem nodeIn : InBook Tryd.prog 25 25 := ⟨of_decide_eq_true (by kernel_rfl), book_self _⟩

set_option maxRecDepth 100000 in
/-- A node's argument: its three cells, and the node. -/
theorem open_node {H : Type} {enc : TypeId × Value → H} {w : World} {r : Reach} {b0 base : Nat} {spare : Nat → Bool} {held : Bool} {v : Value} {d : DataW H} {p : List MemPlace}
    (hv : Value.okWide Tryd.prog w r b0 25 v) (h : DataW.Trod enc Tryd.prog w base spare held 25 v d p) :
    ∃ c0 c1 c2 n, v = .agg #[c0, c1, c2] ∧ NdC w c0 c1 c2 n := by
  obtain ⟨cs, rfl, -⟩ := okWide_struct Tryd.underlying25 hv
  obtain ⟨fuel, hf⟩ := h
  obtain ⟨c0, c1, c2, n, hc, hn⟩ := open_nd fuel hf
  obtain rfl : cs = #[c0, c1, c2] := by
    cases cs
    simp [Value.cells] at hc
    simp [hc]
  exact ⟨c0, c1, c2, n, rfl, hn⟩
/-- Behind the call it reads as it did. -/
theorem again_node {H : Type} {enc : TypeId × Value → H} {W W' : World} {sp : Nat → Bool} {v : Value} {d : DataW H} {p : List MemPlace} (hb : Below W.heap.size W W')
    (h : DataW.Trod enc Tryd.prog W 0 (fun _ => true) true 25 v d p) (hs : ∀ x ∈ p, sp x.block = true) (hl : ∀ x ∈ p, x.block < W.heap.size) : DataW.Trod enc Tryd.prog W' 0 sp true 25 v d p := by
  obtain ⟨n, hn⟩ := DataW.Trod.respare nodeKids (fun t e ht hu => book_sized nodeRec ht hu) nodeIn h hs
  exact ⟨n, DataW.trod_carry n _ _ _ hn (fun x hx => hb.same (hl x hx))⟩

theorem starN : "*" ++ "errors.errorString" = "*errors.errorString" := by decide
theorem sentOkN : ∃ ms f, SentOk Tryd.prog 32 181 200 9 ms f :=
  ⟨_, _, { hi := Tryd.underlying32
           hrow := fun u h => typeName_ptr_named (nm := "errors.errorString") (by rw [starN]; kernel_rfl) (by kernel_rfl) (by decide) u (by rw [starN]; exact h)
           hp := Tryd.underlying181
           he := Tryd.underlying200
           hft := rfl
           hfo := rfl
           hs := Tryd.underlying9
           hc := by kernel_rfl
           hcs := by kernel_rfl }⟩
def errEntryN (k : Nat) : String × DataW Unit := match k with
  | 1 => ("leadlight/api.ErrText", Rows.laid_leadlight_api_ErrText)
  | 2 => ("leadlight/api.ErrBound", Rows.laid_leadlight_api_ErrBound)
  | 4 => ("leadlight/api.ErrName", Rows.laid_leadlight_api_ErrName)
  | 6 => ("leadlight/api.ErrExist", Rows.laid_leadlight_api_ErrExist)
  | 7 => ("leadlight/api.ErrFull", Rows.laid_leadlight_api_ErrFull)
  | 8 => ("leadlight/api.ErrDeep", Rows.laid_leadlight_api_ErrDeep)
  | _ => ("leadlight/api.ErrValue", Rows.laid_leadlight_api_ErrValue)
def errGlobalN (k : Nat) : Nat := match k with
  | 1 => 7 | 2 => 1 | 4 => 2 | 6 => 8 | 7 => 4 | 8 => 3 | _ => 9
theorem errEntryN_ok : ∀ k ∈ [1, 2, 4, 6, 7, 8, 10], (∃ text, (errEntryN k).2 = sent text) ∧ Tryd.prog.globalNamed (errEntryN k).1 = some (errGlobalN k) ∧ (Tryd.prog.globals[errGlobalN k]?).map (·.type) = some 32 := by
  intro k hk
  simp at hk
  rcases hk with rfl | rfl | rfl | rfl | rfl | rfl | rfl
  all_goals exact ⟨⟨_, rfl⟩, by kernel_rfl, by kernel_rfl⟩
/-- The seven errors out of a list that names them at these places. -/
theorem me_of {W : World} {l : List (String × DataW Unit)} (idx : Nat → Nat) (hl : ∀ k ∈ [1, 2, 4, 6, 7, 8, 10], l[idx k]? = some (errEntryN k)) (h : laidMet Tryd.prog l W) :
    ∃ E, ME E W ∧ W.cell? ⟨7, 0, none⟩ = some (.iface 181 (.pointer (some (E 1)))) := by
  obtain ⟨ps, hv, hn, hk⟩ := h
  obtain ⟨ms, f, S⟩ := sentOkN
  obtain ⟨a, ha, -⟩ := sents S hv hn hk
  have key : ∀ k ∈ [1, 2, 4, 6, 7, 8, 10], W.cell? ⟨errGlobalN k, 0, none⟩ = some (.iface 181 (.pointer (some (a (idx k))))) := by
    intro k h1
    obtain ⟨⟨text, ht⟩, hg, hty⟩ := errEntryN_ok k h1
    exact (ha (idx k) (errEntryN k).1 text (errGlobalN k) (by rw [hl k h1, ← ht]) hg hty).1
  exact ⟨fun k => a (idx k), ⟨key 2 (by decide), key 4 (by decide), key 6 (by decide), key 7 (by decide), key 8 (by decide), key 10 (by decide)⟩, key 1 (by decide)⟩

end Go.Proofs.YtmlajdhkkcmjnacDoor

/-
  The errors that the check of a node and of a selector tells, out of a row's list of variables.
-/
import Derived.Test.YtmlajdhkkcmjnacDoorMarkA
namespace Go.Proofs.YtmlajdhkkcmjnacDoor
open Go.ChangeShapes Go.WideShapes Go.RowKit

theorem ce_of {W : World} {l : List (String × DataW Unit)} (idx : Nat → Nat) (hl : ∀ k ∈ [1, 4, 6, 7, 8, 10], l[idx k]? = some (errEntryN k)) (h : laidMet Tryd.prog l W) :
    ∃ E, CE E W ∧ W.cell? ⟨7, 0, none⟩ = some (.iface 181 (.pointer (some (E 1)))) := by
  obtain ⟨ps, hv, hn, hk⟩ := h
  obtain ⟨ms, f, S⟩ := sentOkN
  obtain ⟨a, ha, -⟩ := sents S hv hn hk
  have key : ∀ k ∈ [1, 4, 6, 7, 8, 10], W.cell? ⟨errGlobalN k, 0, none⟩ = some (.iface 181 (.pointer (some (a (idx k))))) := by
    intro k h1
    obtain ⟨⟨text, ht⟩, hg, hty⟩ := errEntryN_ok k (by simp at h1 ⊢; omega)
    exact (ha (idx k) (errEntryN k).1 text (errGlobalN k) (by rw [hl k h1, ← ht]) hg hty).1
  exact ⟨fun k => a (idx k), ⟨key 4 (by decide), key 6 (by decide), key 7 (by decide), key 8 (by decide), key 10 (by decide)⟩, key 1 (by decide)⟩

end Go.Proofs.YtmlajdhkkcmjnacDoor

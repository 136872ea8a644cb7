/-
  The nine errors of documents and nodes, out of a row's list of variables.
-/
import Derived.Test.YtmlajdhkkcmjnacDoorLaid2
import Derived.Test.YtmlajdhkkcmjnacDoorDocE
namespace Go.Proofs.YtmlajdhkkcmjnacDoor
open Go.ChangeShapes Go.WideShapes Go.RowKit

theorem de_of {W : World} {l : List (String × DataW Unit)} (idx : Nat → Nat) (hl : ∀ k, 2 ≤ k → k ≤ 10 → l[idx k]? = some (errEntry k)) (h : laidMet Tryd.prog l W) : ∃ E, DE E W := by
  obtain ⟨ps, hv, hn, hk⟩ := h
  obtain ⟨ms, f, S⟩ := sentOk2
  obtain ⟨a, ha, -⟩ := sents S hv hn hk
  have key : ∀ k, 2 ≤ k → k ≤ 10 → W.cell? ⟨errGlobal k, 0, none⟩ = some (.iface 181 (.pointer (some (a (idx k))))) := by
    intro k h1 h2
    obtain ⟨⟨text, ht⟩, hg, hty⟩ := errEntry_ok k (by omega) (by omega)
    exact (ha (idx k) (errEntry k).1 text (errGlobal k) (by rw [hl k h1 h2, ← ht]) hg hty).1
  exact ⟨fun k => a (idx k), key 2 (by decide) (by decide), key 3 (by decide) (by decide), key 4 (by decide) (by decide), key 5 (by decide) (by decide), key 6 (by decide) (by decide), key 7 (by decide) (by decide), key 8 (by decide) (by decide), key 9 (by decide) (by decide), key 10 (by decide) (by decide)⟩

end Go.Proofs.YtmlajdhkkcmjnacDoor

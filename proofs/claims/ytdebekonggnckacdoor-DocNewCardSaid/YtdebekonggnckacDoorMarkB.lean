/-
  The builder of texts, as this program bears it.
-/
import Derived.Test.YtdebekonggnckacDoorMark10
import Derived.Shelf.Strings.BuilderK
namespace Go.Proofs.YtdebekonggnckacDoor
open Go.RowKit

theorem heap_lt {w : World} {b : Nat} {o : Obj} (h : w.heap[b]? = some o) : b < w.heap.size := (Array.getElem?_eq_some_iff.1 h).1

theorem one_cell (w : World) (x : Value) (t : TypeId) : ∀ j u, [x][j]? = some u → (w.alloc (.cells #[x] t)).cell? ((⟨w.heap.size, 0, none⟩ : Addr).add j) = some u := by
  intro j u h
  match j, h with
  | 0, h => simp at h; subst h; exact mnew w #[x] t 0 x rfl

end Go.Proofs.YtdebekonggnckacDoor

/-
  The errors that a document tells, in memory.
-/
import Derived.Test.YtmlajdhkkcmjnacDoorCode1
import Derived.Test.YtmlajdhkkcmjnacDoorJ2
namespace Go.Proofs.YtmlajdhkkcmjnacDoor
open Go.RowKit

/-- The nine errors of documents and nodes. -/
structure DE (E : Nat → Addr) (w : World) : Prop where
  c2 : w.cell? ⟨1, 0, none⟩ = some (.iface 181 (.pointer (some (E 2))))
  c3 : w.cell? ⟨5, 0, none⟩ = some (.iface 181 (.pointer (some (E 3))))
  c4 : w.cell? ⟨2, 0, none⟩ = some (.iface 181 (.pointer (some (E 4))))
  c5 : w.cell? ⟨0, 0, none⟩ = some (.iface 181 (.pointer (some (E 5))))
  c6 : w.cell? ⟨8, 0, none⟩ = some (.iface 181 (.pointer (some (E 6))))
  c7 : w.cell? ⟨4, 0, none⟩ = some (.iface 181 (.pointer (some (E 7))))
  c8 : w.cell? ⟨3, 0, none⟩ = some (.iface 181 (.pointer (some (E 8))))
  c9 : w.cell? ⟨6, 0, none⟩ = some (.iface 181 (.pointer (some (E 9))))
  c10 : w.cell? ⟨9, 0, none⟩ = some (.iface 181 (.pointer (some (E 10))))
theorem DE.below {E : Nat → Addr} {w w' : World} {B : Nat} (h : DE E w) (hb : Below B w w') (hB : w.heap.size ≤ B) : DE E w' where
  c2 := (hb.cell (Nat.lt_of_lt_of_le (cell_lt3 h.c2) hB)).trans h.c2
  c3 := (hb.cell (Nat.lt_of_lt_of_le (cell_lt3 h.c3) hB)).trans h.c3
  c4 := (hb.cell (Nat.lt_of_lt_of_le (cell_lt3 h.c4) hB)).trans h.c4
  c5 := (hb.cell (Nat.lt_of_lt_of_le (cell_lt3 h.c5) hB)).trans h.c5
  c6 := (hb.cell (Nat.lt_of_lt_of_le (cell_lt3 h.c6) hB)).trans h.c6
  c7 := (hb.cell (Nat.lt_of_lt_of_le (cell_lt3 h.c7) hB)).trans h.c7
  c8 := (hb.cell (Nat.lt_of_lt_of_le (cell_lt3 h.c8) hB)).trans h.c8
  c9 := (hb.cell (Nat.lt_of_lt_of_le (cell_lt3 h.c9) hB)).trans h.c9
  c10 := (hb.cell (Nat.lt_of_lt_of_le (cell_lt3 h.c10) hB)).trans h.c10
theorem DE.me {E : Nat → Addr} {w : World} (h : DE E w) : ME E w := ⟨h.c2, h.c4, h.c6, h.c7, h.c8, h.c10⟩
theorem DE.ce {E : Nat → Addr} {w : World} (h : DE E w) : CE E w := ⟨h.c4, h.c6, h.c7, h.c8, h.c10⟩
theorem EE.de {E : Nat → Addr} {w : World} (h : EE E w) : DE E w := ⟨h.c2, h.c3, h.c4, h.c5, h.c6, h.c7, h.c8, h.c9, h.c10⟩

end Go.Proofs.YtmlajdhkkcmjnacDoor

/- Short words for frequent terms. -/
import Derived.Test.YtecneflbncjhpaaGreatDoorProg
import Derived.Below
import Derived.Calls
import Derived.KernelRfl
import Derived.Deep.RegionHeld
import Derived.RangeFuncRecord
import Derived.Laws.Entries
import Derived.RangeFuncOwn
import Derived.Laws.AppendOwn
namespace Go.Proofs.YtecneflbncjhpaaGreatDoor
open Go.RowKit
abbrev aa:=Value.int .i64
abbrev ak (b i:Nat):Addr:=⟨b,i,none⟩
abbrev ay (b:Nat):Value:=.pointer (some ⟨b,0,none⟩)
abbrev aj3 (w:World):World->Prop:=Below w.heap.size w
abbrev au:=Calls Tryz.prog
theorem ai {n:Nat}:n<=n:=Nat.le.refl
theorem aj {p:Prop}(h:p):Hid p:=h
abbrev aO:=@World.cell?_setCell_far
abbrev aG:=@Below.refl
abbrev cZ:=@Array.getElem?_eq_some_iff
abbrev dK:=@List.getElem?_eq_getElem
abbrev aY:=@Below.heap_setCell
abbrev aJ:=@Nat.le_trans
abbrev bI:=@Nat.lt_of_lt_of_le
abbrev dB:=@World.size_alloc
abbrev jc:=@List.getElem?_eq_some_iff
abbrev fV:=@List.mem_of_getElem?
abbrev dW:=@World.alloc_heap_new
abbrev fM:=@World.cell?_setCell_same'
abbrev eF:=@KeepsOthers.setCell
abbrev aP:=@Nat.zero_le
abbrev iK:=@List.getElem?_append_right
abbrev iC:=@List.length_eq_zero_iff
abbrev dP:=@Option.some.inj
abbrev eH:=@World.ownsRow_nil
abbrev ag:=World
abbrev ah:=Value
abbrev aC:=ByteArray
end Go.Proofs.YtecneflbncjhpaaGreatDoor

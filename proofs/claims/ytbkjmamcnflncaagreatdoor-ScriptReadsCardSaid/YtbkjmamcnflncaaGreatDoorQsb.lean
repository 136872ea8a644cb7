import Derived.Test.YtbkjmamcnflncaaGreatDoorProg
import Derived.Below
import Derived.Calls
import Derived.KernelRfl
import Derived.Deep.RegionHeld
import Derived.RangeFuncRecord
import Derived.Laws.Entries
import Derived.RangeFuncOwn
import Derived.Laws.AppendOwn
namespace Go.Proofs.YtbkjmamcnflncaaGreatDoor
open Go.RowKit
abbrev ag:=Value.int .i64
abbrev aH (b i:Nat):Addr:=⟨b,i,none⟩
abbrev aI (b:Nat):Value:=.pointer (some ⟨b,0,none⟩)
abbrev aD (w:World):World->Prop:=Below w.heap.size w
abbrev aJ:=Calls Tryz.prog
theorem ay {n:Nat}:n<=n:=Nat.le.refl
theorem aA {p:Prop}(h:p):Hid p:=h
theorem aa {p:Prop}(h:p:=by omega):p:=h
theorem az {p:Prop}(h:p:=by kernel_rfl):p:=h
theorem aG {p:Prop}(h:p:=by simp):p:=h
theorem aC {p:Prop}(h:p:=by decide):p:=h
theorem aX {p:Prop}(h:p:=by simp;omega):p:=h
theorem fJ {p:Prop}(h:p:=by simp only;omega):p:=h
theorem fC {p:Prop}(h:p:=by assumption):p:=h
abbrev bN:=@World.cell?_setCell_far
abbrev aQ:=@Below.refl
abbrev dZ:=@Array.getElem?_eq_some_iff
abbrev eZ:=@List.getElem?_eq_getElem
abbrev bY:=@Below.heap_setCell
abbrev bu:=@Nat.le_trans
abbrev dP:=@Nat.lt_of_lt_of_le
abbrev dK:=@World.size_alloc
abbrev kQ:=@List.getElem?_eq_some_iff
abbrev gN:=@List.mem_of_getElem?
abbrev eO:=@World.alloc_heap_new
abbrev iA:=@World.cell?_setCell_same'
abbrev gH:=@KeepsOthers.setCell
abbrev bf:=@Nat.zero_le
abbrev qb:=@List.getElem?_append_right
abbrev lS:=@List.length_eq_zero_iff
abbrev fF:=@Option.some.inj
abbrev gp:=@World.ownsRow_nil
abbrev dJ:=@List.length_append
abbrev eP:=@List.length_cons
abbrev dF:=@List.length_map
abbrev dS:=@List.take_add_one
abbrev gz:=@ByteArray.toList_eq
abbrev fV:=@List.cons_append
abbrev iV:=@List.length_take
abbrev gD:=@List.mem_cons
abbrev iN:=@List.getElem?_map
abbrev gq:=@List.take_length
abbrev ig:=@World.ownsRow.alloc
abbrev jg:=@List.take_of_length_le
abbrev fZ:=@Nat.zero_add
abbrev gF:=@List.nil_append
abbrev gT:=@List.mem_append
abbrev iW:=@Bool.and_eq_true
abbrev iO:=@List.length_nil
abbrev jJ:=@List.take_append_drop
abbrev gu:=@List.mem_map
abbrev jK:=@World.frozen?_setCell
abbrev iG:=@List.map_append
abbrev kU:=@List.length_drop
abbrev jL:=@Array.replicate_zero
abbrev jM:=@Array.replicate_succ
abbrev jN:=@List.append_toArray
abbrev ji:=@List.size_toArray
abbrev mM:=@Option.map_eq_some_iff
abbrev qd:=@Array.getElem?_eq_none
abbrev yA:=@List.getElem?_append_left
abbrev nH:=@World.putObj_heap_other
abbrev jO:=@List.push_toArray
abbrev jw:=@IntKind.wrap_i64
abbrev kV:=@List.append_assoc
abbrev lU:=@List.mem_filter
abbrev mO:=@World.size_setCell
abbrev AV:=@List.getElem?_take
abbrev nI:=@List.map_cons
abbrev qg:=@World.cell?_of_block
abbrev qh:=@World.cell?_alloc_lt
abbrev EO:=@List.mem_cons_of_mem
abbrev a0v:=@Array.getElem?_toList
abbrev vz:=@List.drop_eq_getElem_cons
abbrev qY:=@World.grownBy_alloc
abbrev mP:=@List.drop_drop
abbrev qi:=@List.nodup_cons
abbrev dL:=@beq_eq_false_iff_ne
abbrev ES:=@List.getElem?_eq_none
abbrev iH:=@decide_eq_false
abbrev kZ:=@decide_eq_true_eq
abbrev ax:=@Ending.returned
abbrev ai:=@Obj.cells
abbrev aj:=@Value.slice
abbrev ak:=@Value.string
abbrev aF:=@Value.tuple
abbrev aU:=@Value.nilIface
abbrev aP:=@Value.iface
attribute [match_pattern] ax ai aj ak aF aU aP
abbrev ah:=World
abbrev au:=Value
abbrev aM:=ByteArray

import Derived.Test.YtbkjmamcnflncaaGreatDoorProg
import Derived.Below
import Derived.Calls
import Derived.KernelRfl
import Derived.Deep.RegionHeld
import Derived.RangeFuncRecord
import Derived.Laws.Entries
import Derived.RangeFuncOwn
import Derived.Laws.AppendOwn
namespace Go.Proofs.YtbkjmamcnflncaaGreatDoor
open Go.RowKit
variable{p:Prop}
abbrev ag:=Value.int .i64
abbrev aJ (b i:Nat):Addr:=⟨b,i,none⟩
abbrev aK (b:Nat):Value:=.pointer (some ⟨b,0,none⟩)
abbrev aD (w:World):World->Prop:=Below w.heap.size w
abbrev aL:=Calls Tryz.prog
theorem az {n:Nat}:n<=n:=Nat.le.refl
theorem aF (h:p):Hid p:=h
theorem aa {p:Prop}(h:p:=by omega):p:=h
theorem aA (h:p:=by kernel_rfl):p:=h
theorem aI {p:Prop}(h:p:=by simp):p:=h
theorem aC (h:p:=by decide):p:=h
theorem bq (h:p:=by simp;omega):p:=h
theorem fZ (h:p:=by simp only;omega):p:=h
theorem gm (h:p:=by assumption):p:=h
abbrev dh:=@World.cell?_setCell_far
abbrev aW:=@Below.refl
abbrev eY:=@Array.getElem?_eq_some_iff
abbrev fD:=@List.getElem?_eq_getElem
abbrev dw:=@Below.heap_setCell
abbrev bO:=@Nat.le_trans
abbrev fK:=@Nat.lt_of_lt_of_le
abbrev dV:=@World.size_alloc
abbrev lK:=@List.getElem?_eq_some_iff
abbrev ic:=@List.mem_of_getElem?
abbrev fE:=@World.alloc_heap_new
abbrev iJ:=@World.cell?_setCell_same'
abbrev gT:=@KeepsOthers.setCell
abbrev bA:=@Nat.zero_le
abbrev pI:=@List.getElem?_append_right
abbrev lu:=@List.length_eq_zero_iff
abbrev fT:=@Option.some.inj
abbrev gp:=@World.ownsRow_nil
abbrev dO:=@List.length_append
abbrev eZ:=@List.length_cons
abbrev dP:=@List.length_map
abbrev eX:=@List.take_add_one
abbrev gN:=@ByteArray.toList_eq
abbrev gH:=@List.cons_append
abbrev iR:=@List.length_take
abbrev gP:=@List.mem_cons
abbrev jv:=@List.getElem?_map
abbrev gJ:=@List.take_length
abbrev iF:=@World.ownsRow.alloc
abbrev jH:=@List.take_of_length_le
abbrev gq:=@Nat.zero_add
abbrev gK:=@List.nil_append
abbrev iw:=@List.mem_append
abbrev jg:=@Bool.and_eq_true
abbrev iT:=@List.length_nil
abbrev jS:=@List.take_append_drop
abbrev gL:=@List.mem_map
abbrev jT:=@World.frozen?_setCell
abbrev iK:=@List.map_append
abbrev lC:=@List.length_drop
abbrev jU:=@Array.replicate_zero
abbrev jV:=@Array.replicate_succ
abbrev jW:=@List.append_toArray
abbrev jw:=@List.size_toArray
abbrev ni:=@Option.map_eq_some_iff
abbrev qK:=@Array.getElem?_eq_none
abbrev wu:=@List.getElem?_append_left
abbrev nZ:=@World.putObj_heap_other
abbrev jX:=@List.push_toArray
abbrev jI:=@IntKind.wrap_i64
abbrev lF:=@List.append_assoc
abbrev mD:=@List.mem_filter
abbrev nu:=@World.size_setCell
abbrev zg:=@List.getElem?_take
abbrev ny:=@List.map_cons
abbrev qL:=@World.cell?_of_block
abbrev qM:=@World.cell?_alloc_lt
abbrev FM:=@List.mem_cons_of_mem
abbrev a1e:=@Array.getElem?_toList
abbrev wz:=@List.drop_eq_getElem_cons
abbrev rZ:=@World.grownBy_alloc
abbrev nC:=@List.drop_drop
abbrev qN:=@List.nodup_cons
abbrev dW:=@beq_eq_false_iff_ne
abbrev BV:=@List.getElem?_eq_none
abbrev iU:=@decide_eq_false
abbrev lG:=@decide_eq_true_eq
abbrev aG:=@if_neg
abbrev aR:=@if_pos
abbrev bJ:=@Nat.le_refl
abbrev bg:=@bodyPost_ret
abbrev dM:=@callsIn_wide
abbrev ay:=@Ending.returned
abbrev ak:=@Obj.cells
abbrev aj:=@Value.slice
abbrev au:=@Value.string
abbrev aH:=@Value.tuple
abbrev aY:=@Value.nilIface
abbrev aU:=@Value.iface
attribute [match_pattern] ay ak aj au aH aY aU
abbrev ai:=World
abbrev ax:=Value
abbrev aO:=ByteArray

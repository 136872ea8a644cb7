/-
  A row of acts as an argument of a law: read, and read again behind the call.
-/
import Derived.Test.YtmlajdhkkcmjnacDoorMarkA
import Derived.Test.YtmlajdhkkcmjnacDoorActs1
namespace Go.Proofs.YtmlajdhkkcmjnacDoor
open Go.ChangeShapes Go.WideShapes Go.ChangeAt Go.RowKit Go.Joins

theorem actsRec : Tryd.prog.readableRec 26 = true := by kernel_rfl
theorem actsKids : Kids Tryd.prog (InBook Tryd.prog 26) := kids_book (by kernel_rfl) actsRec
theorem actsIn : InBook Tryd.prog 26 26 := ⟨of_decide_eq_true (by kernel_rfl), book_self _⟩
set_option maxRecDepth 100000 in
theorem open_row {H : Type} {enc : TypeId × Value → H} {w : World} {r : Reach} {b0 base : Nat} {spare : Nat → Bool} {held : Bool} {v : Value} {d : DataW H} {p : List MemPlace}
    (hv : Value.okWide Tryd.prog w r b0 26 v) (h : DataW.Trod enc Tryd.prog w base spare held 26 v d p) :
    ∃ o l cap, v = .slice o l.length cap ∧ AcsAt w o l := by
  obtain ⟨a, len, cap, rfl⟩ := okWide_slice Tryd.underlying26 hv
  obtain ⟨fuel, hf⟩ := h
  obtain ⟨v, l, hc, o, cap', hv', hl⟩ := open_acts hf
  obtain rfl : Value.slice a len cap = v := by simpa [Value.cells] using hc
  exact ⟨o, l, cap', hv', hl⟩
theorem again_row {H : Type} {enc : TypeId × Value → H} {W W' : World} {sp : Nat → Bool} {v : Value} {d : DataW H} {p : List MemPlace} (hb : Below W.heap.size W W')
    (h : DataW.Trod enc Tryd.prog W 0 (fun _ => true) true 26 v d p) (hs : ∀ x ∈ p, sp x.block = true) (hl : ∀ x ∈ p, x.block < W.heap.size) : DataW.Trod enc Tryd.prog W' 0 sp true 26 v d p := by
  obtain ⟨n, hn⟩ := DataW.Trod.respare actsKids (fun t e ht hu => book_sized actsRec ht hu) actsIn h hs
  exact ⟨n, DataW.trod_carry n _ _ _ hn (fun x hx => hb.same (hl x hx))⟩

end Go.Proofs.YtmlajdhkkcmjnacDoor

/-
  Short words for frequent terms.
-/
import Derived.Test.YtjfiehbcamfdfaaGreatDoorProg
import Derived.Below
import Derived.Calls
namespace Go.Proofs.YtjfiehbcamfdfaaGreatDoor
open Go.RowKit
abbrev aa:=Value.int .i64
abbrev ag (b i:Nat):Addr:=⟨b,i,none⟩
abbrev aj (b:Nat):Value:=.pointer (some ⟨b,0,none⟩)
abbrev ai (w:World):World->Prop:=Below w.heap.size w
abbrev ak:=Calls Tryz.prog
theorem eU {n:Nat}:n<=n:=Nat.le.refl
end Go.Proofs.YtjfiehbcamfdfaaGreatDoor

/- Short words for frequent terms. -/
import Derived.Test.YtjfiehbcamfdfaaGreatDoorProg
import Derived.Below
import Derived.Calls
namespace Go.Proofs.YtjfiehbcamfdfaaGreatDoor
open Go.RowKit
abbrev aa:=Value.int .i64
abbrev ak (b i:Nat):Addr:=⟨b,i,none⟩
abbrev ay (b:Nat):Value:=.pointer (some ⟨b,0,none⟩)
abbrev ahE (w:World):World->Prop:=Below w.heap.size w
abbrev ax:=Calls Tryz.prog
theorem ai {n:Nat}:n<=n:=Nat.le.refl
theorem aj {p:Prop}(h:p):Hid p:=h
abbrev ag:=World
abbrev ah:=Value
abbrev aD:=ByteArray
end Go.Proofs.YtjfiehbcamfdfaaGreatDoor

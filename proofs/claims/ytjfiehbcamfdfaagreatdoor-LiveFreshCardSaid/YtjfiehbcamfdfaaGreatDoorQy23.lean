/-
  Parts of the proof.
-/
import Derived.Test.YtjfiehbcamfdfaaGreatDoorQy21
namespace Go.Proofs.YtjfiehbcamfdfaaGreatDoor
abbrev dZ (n:Nd):Dm:=zU (fun _=>none) 0 (mP 0 (-1) n)
end Go.Proofs.YtjfiehbcamfdfaaGreatDoor

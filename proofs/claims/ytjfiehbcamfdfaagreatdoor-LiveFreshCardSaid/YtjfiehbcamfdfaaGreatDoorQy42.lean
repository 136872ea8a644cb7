/-
  Parts of the proof.
-/
import Derived.Test.YtjfiehbcamfdfaaGreatDoorQy40
namespace Go.Proofs.YtjfiehbcamfdfaaGreatDoor
open Go.RowKit
theorem Y6 {w:World}{B g n cp:Nat}{l:List ByteArray}(h:w.ownsRow B 9 1 (.slice (some ⟨g,0,none⟩) n cp) n (l.map .string)):KN w (some ⟨g,0,none⟩) l:=fun i x hx=>by
 obtain⟨g',hg,hc⟩:=bJ h i (.string x) (by rw[List.getElem?_map,hx];rfl);cases hg;exact⟨g,0,rfl,by rw[Nat.zero_add];exact hc⟩
theorem KS {w:World}{B B' g g' cp cp':Nat}{l:List ByteArray}(hl:l.length=72)(h:w.ownsRow B 9 1 (.slice (some ⟨g,0,none⟩) 72 cp) 72 (l.map .string))(h':w.ownsRow B' 9 1 (.slice (some ⟨g',0,none⟩) 72 cp') 72 (l.map .string)):
  ak 13 #[.agg #[aa 9,aa 8,.slice (some ⟨g,0,none⟩) 72 cp],.agg #[aa 9,aa 8,.slice (some ⟨g',0,none⟩) 72 cp']] w fun e W=>e=.returned (.bool true)/\Below w.heap.size w W:=by
 have h1:=XW l l (some ⟨g,0,none⟩) (some ⟨g',0,none⟩) cp cp' 9 8 w (by omega) (Y6 h) (Y6 h');rw[hl] at h1;refine h1.mono fun e W ⟨h2,h3⟩=>⟨?_,h3⟩;rcases h2 with⟨-,h2⟩|⟨h2, -⟩
 ·exact h2
 ·exact absurd rfl h2
end Go.Proofs.YtjfiehbcamfdfaaGreatDoor

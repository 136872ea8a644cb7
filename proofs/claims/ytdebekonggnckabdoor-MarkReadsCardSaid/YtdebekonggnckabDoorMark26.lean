/-
  The closed fact of the laws on marks.
-/
import Derived.Test.YtdebekonggnckabDoorMark25
import Derived.Test.YtdebekonggnckabDoorJ2
namespace Go.Proofs.YtdebekonggnckabDoor
open Go.RowKit

def mkdS : Bs := [60, 97, 32, 98, 61, 34, 38, 108, 116, 59, 34, 62, 60, 99, 47, 62, 60, 47, 97, 62]
def mkdN : Nd := .mk [97] [([98], [60])] [.mk [99] [] []]
theorem mkd_gd : gd mkdN := by
  unfold mkdN
  simp only [gd, gdL]
  decide
theorem mkd_txt : txt mkdN = mkdS := by rfl
theorem mkd_rd : rdT mkdS = some mkdN := by
  refine rdT_some ?_
  have h := rdN_of mkdN (mkdS.length + 1) [] mkd_gd (by rw [mkd_txt]; exact Nat.le_succ _)
  rw [mkd_txt, List.append_nil] at h
  exact h
theorem mkd_ck : (ckN mkdN 1 0).1 = 0 := by rfl

set_option maxRecDepth 20000 in
set_option maxHeartbeats 4000000 in
theorem marked_any (E : Nat → Addr) (W : World) (hE : ME E W) (h1 : W.cell? ⟨1, 0, none⟩ = some (.iface 209 (.pointer (some (E 1))))) :
    Calls Tryd.prog 11 #[] W fun e w' => e = .returned (.bool true) ∧ Below W.heap.size W w' := by
  have RD := (Read_any E mkdS W hE h1 (by decide)).mono (R' := fun e w' => Below W.heap.size W w' ∧ ∃ b off cap ok capk, e = .returned (.tuple #[.agg #[.string ⟨#[97]⟩, .slice (some ⟨b, off, none⟩) 1 cap, .slice ok 1 capk], .nilIface]) ∧ w'.cell? ⟨b, off + 1, none⟩ = some (.string ⟨#[60]⟩)) (fun e w' h => by
    refine ⟨h.1, ?_⟩
    rcases h.2 with h2 | h2 | ⟨-, n, h2, h3, -⟩ | ⟨-, n, c0, c1, c2, h2, -, h4, h5⟩
    · exact absurd h2.1 (by decide)
    · have := h2.2.1; rw [mkd_rd] at this; cases this
    · rw [mkd_rd] at h2; cases h2; exact absurd mkd_ck h3
    · rw [mkd_rd] at h2
      cases h2
      unfold mkdN NdC at h5
      obtain ⟨rfl, -, ⟨o, cap, rfl, -, -, -, ha⟩, ok, capk, rfl, -⟩ := h5
      obtain ⟨b, off, rfl, -, hc, -⟩ := ha 0 _ rfl
      exact ⟨b, off, cap, ok, capk, h4, hc⟩)
  have RD' : Calls Tryd.prog 19 #[.string ⟨#[60, 97, 32, 98, 61, 34, 38, 108, 116, 59, 34, 62, 60, 99, 47, 62, 60, 47, 97, 62]⟩] W fun e w' => Below W.heap.size W w' ∧ ∃ b off cap ok capk, e = .returned (.tuple #[.agg #[.string ⟨#[97]⟩, .slice (some ⟨b, off, none⟩) 1 cap, .slice ok 1 capk], .nilIface]) ∧ w'.cell? ⟨b, off + 1, none⟩ = some (.string ⟨#[60]⟩) := RD
  clear RD
  go_enter Tryd.func11, Tryd.ntmps11
  go_wp2_with (go_at_call 19; refine RD'.mono ?_; rintro e w1 ⟨b1, b, off, cap, ok, capk, rfl, hc⟩; have hc' := fun o => mcell_al o hc)
  go_ret
  exact ⟨rfl, b1.trans ((mal w1 _).mono b1.size)⟩

end Go.Proofs.YtdebekonggnckabDoor

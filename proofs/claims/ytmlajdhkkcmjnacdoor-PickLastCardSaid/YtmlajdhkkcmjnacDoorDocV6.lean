/-
  What lies below an element that was moved, as it lay before; how deep.
-/
import Derived.Test.YtmlajdhkkcmjnacDoorJ5
namespace Go.Proofs.YtmlajdhkkcmjnacDoor

section
variable {M M' : Dm} {r r' : Int → Nat} {n par : Int}
theorem MovV.back (hv : MovV M M' n par) {y : Int} {e' : Elm} (h : M' y = some e') (hy : y ≠ n) : ∃ e, M y = some e ∧ e'.parent = e.parent := by
  cases hm : M y with
  | none => rw [hv.non y hm] at h; exact absurd h (by simp)
  | some e =>
    obtain ⟨x', h1, h2, _⟩ := hv.old y e hm
    rw [h] at h1
    cases h1
    rw [if_neg hy] at h2
    exact ⟨e, rfl, h2⟩
theorem MovV.below (hv : MovV M M' n par) {x : Elm} (hn : M n = some x) {y : Int} (h : Bl M' n y) : Bl M n y := by
  induction h with
  | self _ => exact .self hn
  | @kid y e' he h0 _ ih =>
    by_cases hy : y = n
    · rw [hy]; exact .self hn
    · obtain ⟨e, h1, h2⟩ := hv.back he hy
      rw [h2] at ih
      exact .kid h1 h0 ih
/-- How much deeper than the moved one: as before. -/
theorem MovV.rank (hv : MovV M M' n par) (h : Wd M r) (h' : Wd M' r') {y : Int} (hb : Bl M' n y) : r' y + r n = r y + r' n := by
  induction hb with
  | self _ => omega
  | @kid y e' he h0 _ ih =>
    by_cases hy : y = n
    · rw [hy]; omega
    · obtain ⟨e, h1, h2⟩ := hv.back he hy
      obtain ⟨_, _, _, h3⟩ := h'.up y e' he h0
      obtain ⟨_, _, _, h4⟩ := h.up y e h1 h0
      rw [h2] at ih h3
      omega
theorem MovV.deep (hv : MovV M M' n par) (h : Wd M r) (h' : Wd M' r') {f : Nat} {y dy : Int} (hm : (y, dy) ∈ pre M' f n 1) {x : Elm} (hn : M n = some x) : dy + r n ≤ 11 := by
  obtain ⟨h1, h2⟩ := h'.pre_in f n 1 y dy hm
  have h3 := hv.rank h h' h1
  obtain ⟨e, he⟩ := (hv.below hn h1).in_
  have := (h.rb y e he).2
  omega
end

end Go.Proofs.YtmlajdhkkcmjnacDoor

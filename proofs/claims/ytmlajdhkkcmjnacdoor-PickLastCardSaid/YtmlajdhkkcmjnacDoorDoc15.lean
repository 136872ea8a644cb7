/-
  Whether a number is among these.
-/
import Derived.Test.YtmlajdhkkcmjnacDoorDoc14
namespace Go.Proofs.YtmlajdhkkcmjnacDoor
open Go.RowKit

set_option maxHeartbeats 2000000 in
theorem Index_ints {B : Nat} (W : World) (v : Value) (L : List Int) (x : Int) (h : W.ownsRow B 3 1 v L.length (intsV L)) (hl : L.length ≤ 1000000) :
    Calls Tryd.prog 62 #[v, .int .i64 x] W fun e w' => w' = W ∧ ∃ i : Int, e = .returned (.int .i64 i) ∧ (0 ≤ i ↔ x ∈ L) := by
  have hc : ∀ k y, L[k]? = some y → ∃ g, v.ownBlock = some g ∧ W.cell? ⟨g, k, none⟩ = some (.int .i64 y) := fun k y hk => row_get h k _ (intsV_get hk)
  rcases h.2 with ⟨rfl, hn⟩ | ⟨g, cap, cur, rfl, _, _, h1, h2, _, _⟩
  · have hz : L = [] := List.length_eq_zero_iff.1 hn
    subst hz
    go_enter Tryd.func62, Tryd.ntmps62
    go_wp2_with fail
    go_loop [5, 8] (fun _ i => i = .int .i64 0) (fun _ _ => 0)
    case atStart => rfl
    case round =>
      subst hrel
      go_wp2_with fail
      go_ret
      exact ⟨rfl, -1, rfl, by simp⟩
  · have HC : Hid (∀ (k : Nat) (y : Int), L[k]? = some y → W.cell? ⟨g, k, none⟩ = some (.int .i64 y)) := (fun k y hk => by
      obtain ⟨g', hg, hk'⟩ := hc k y hk
      cases hg
      exact hk' : ∀ (k : Nat) (y : Int), L[k]? = some y → W.cell? ⟨g, k, none⟩ = some (.int .i64 y))
    clear hc h
    go_enter Tryd.func62, Tryd.ntmps62
    go_wp2_with fail
    go_loop [5, 8] (fun _ i => ∃ k : Nat, k ≤ L.length ∧ i = .int .i64 k ∧ Hid (∀ j, j < k → L[j]? ≠ some x)) (fun _ i => match i with | .int _ m => L.length - m.toNat | _ => 0)
    case atStart => exact ⟨0, Nat.zero_le _, rfl, (fun j hj => absurd hj (Nat.not_lt_zero _) : ∀ j, j < 0 → L[j]? ≠ some x)⟩
    case round =>
      obtain ⟨k, hk, rfl, hne⟩ := hrel
      by_cases hkl : k < L.length
      · obtain ⟨y, hy⟩ : ∃ y, L[k]? = some y := ⟨_, List.getElem?_eq_getElem hkl⟩
        have hcell := HC.out k y hy
        have hkl' : (k : Int) < L.length := by omega
        by_cases hxy : x = y
        · subst hxy
          go_wp2_with fail
          go_ret
          exact ⟨rfl, k, rfl, ⟨fun _ => List.mem_of_getElem? hy, fun _ => by omega⟩⟩
        · have hxy' : (x == y) = false := by simp [hxy]
          go_wp2_with fail
          refine ⟨⟨k + 1, by omega, rfl, (fun j hj => ?_ : ∀ j, j < k + 1 → L[j]? ≠ some x)⟩, ?_⟩
          · by_cases e : j = k
            · subst e
              rw [hy]
              exact fun e => hxy (by cases e; rfl)
            · exact hne.out j (by omega)
          · show L.length - ((k : Int) + 1).toNat < L.length - (k : Int).toNat
            omega
      · have hkl' : ¬ (k : Int) < L.length := by omega
        go_wp2_with fail
        go_ret
        refine ⟨rfl, -1, rfl, ⟨fun h => by omega, fun hm => ?_⟩⟩
        obtain ⟨j, hj⟩ := List.getElem?_of_mem hm
        exact absurd hj (hne.out j (by have := (List.getElem?_eq_some_iff.1 hj).1; omega))
theorem Contains_ints {B : Nat} (W : World) (v : Value) (L : List Int) (x : Int) (h : W.ownsRow B 3 1 v L.length (intsV L)) (hl : L.length ≤ 1000000) :
    Calls Tryd.prog 37 #[v, .int .i64 x] W fun e w' => w' = W ∧ e = .returned (.bool (decide (x ∈ L))) := by
  have HI := Index_ints W v L x h hl
  go_enter Tryd.func37, Tryd.ntmps37
  go_wp2_with (go_at_call 62; refine HI.mono ?_; rintro e w1 ⟨rfl, i, rfl, hi⟩)
  go_ret
  exact ⟨rfl, rfl⟩

end Go.Proofs.YtmlajdhkkcmjnacDoor

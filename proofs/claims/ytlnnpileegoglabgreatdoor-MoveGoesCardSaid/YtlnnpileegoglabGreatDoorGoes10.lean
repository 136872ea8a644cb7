/-
  The document's reading of any text of moves: it is the program's.
-/
import Derived.Test.YtlnnpileegoglabGreatDoorGoes8
import Derived.Test.YtlnnpileegoglabGreatDoorGoes9
namespace Go.Proofs.YtlnnpileegoglabGreatDoor
open Go.RowKit

set_option maxRecDepth 20000 in
set_option maxHeartbeats 4000000 in
theorem SixOf_empty (W : World) : Calls Tryz.prog 21 #[.string ⟨#[]⟩] W fun e w' => e = .returned (.tuple #[mv .one, .int .i64 0]) ∧ Below W.heap.size W w' := by
  have L0 := (Below.refl W.heap.size W).alloc (Nat.le_refl _) (.cells #[.int .i64 0, .int .i64 0, .int .i64 0, .int .i64 0, .int .i64 0, .int .i64 0, .int .i64 0, .int .i64 0, .int .i64 0, .int .i64 0, .int .i64 0, .int .i64 0] 25)
  have R0 := Blk.new W #[.int .i64 0, .int .i64 0, .int .i64 0, .int .i64 0, .int .i64 0, .int .i64 0, .int .i64 0, .int .i64 0, .int .i64 0, .int .i64 0, .int .i64 0, .int .i64 0] 25
  go_enter Tryz.func21, Tryz.ntmps21
  go_wp2_with (go_at_call 43; refine (Stay_any _).mono ?_; rintro e wo ⟨rfl, hbo⟩; dsimp only [Mv.one, Fr.whole]; have so := hbo.size; simp only [World.size_alloc] at so; have n1 : ¬ wo.heap.size = W.heap.size := (by omega); have n2 : ¬ W.heap.size = wo.heap.size := (by omega); have R1 := R0.below hbo (Nat.le_refl _); have L1 := bel0 L0 hbo; have zc0 := fun o => cell_al o (R1.cell 0 _ rfl); have zf0 := fun o => froz_al o (R1.cell 0 _ rfl) (R1.froz 0 _ rfl); have zc1 := fun o => cell_al o (R1.cell 1 _ rfl); have zf1 := fun o => froz_al o (R1.cell 1 _ rfl) (R1.froz 1 _ rfl); have zc2 := fun o => cell_al o (R1.cell 2 _ rfl); have zf2 := fun o => froz_al o (R1.cell 2 _ rfl) (R1.froz 2 _ rfl); have zc3 := fun o => cell_al o (R1.cell 3 _ rfl); have zf3 := fun o => froz_al o (R1.cell 3 _ rfl) (R1.froz 3 _ rfl); have zc4 := fun o => cell_al o (R1.cell 4 _ rfl); have zf4 := fun o => froz_al o (R1.cell 4 _ rfl) (R1.froz 4 _ rfl); have zc5 := fun o => cell_al o (R1.cell 5 _ rfl); have zf5 := fun o => froz_al o (R1.cell 5 _ rfl) (R1.froz 5 _ rfl); have zc6 := fun o => cell_al o (R1.cell 6 _ rfl); have zf6 := fun o => froz_al o (R1.cell 6 _ rfl) (R1.froz 6 _ rfl); have zc7 := fun o => cell_al o (R1.cell 7 _ rfl); have zf7 := fun o => froz_al o (R1.cell 7 _ rfl) (R1.froz 7 _ rfl); have zc8 := fun o => cell_al o (R1.cell 8 _ rfl); have zf8 := fun o => froz_al o (R1.cell 8 _ rfl) (R1.froz 8 _ rfl); have zc9 := fun o => cell_al o (R1.cell 9 _ rfl); have zf9 := fun o => froz_al o (R1.cell 9 _ rfl) (R1.froz 9 _ rfl); have zc10 := fun o => cell_al o (R1.cell 10 _ rfl); have zf10 := fun o => froz_al o (R1.cell 10 _ rfl) (R1.froz 10 _ rfl); have zc11 := fun o => cell_al o (R1.cell 11 _ rfl); have zf11 := fun o => froz_al o (R1.cell 11 _ rfl) (R1.froz 11 _ rfl))
  refine bodyPost_ret (v := .tuple #[mv .one, .int .i64 0]) (by simp [results, Tryz.results21, go_sem, Mv.one, Fr.whole, zc0, zc1, zc2, zc3, zc4, zc5, zc6, zc7, zc8, zc9, zc10, zc11]) rfl ⟨rfl, ?_⟩
  exact put_below (R := W.heap.size) (Nat.le_refl _) [.int .i64 1, .int .i64 1, .int .i64 0, .int .i64 1, .int .i64 0, .int .i64 1, .int .i64 1, .int .i64 1, .int .i64 0, .int .i64 1, .int .i64 0, .int .i64 1] 0 (L1.alloc L1.size _)

attribute [local irreducible] thenS in
theorem SixOf_any (s : ByteArray) (hs : s.size ≤ 900) (W : World) :
    Calls Tryz.prog 21 #[.string s] W fun e w' => e = .returned (.tuple #[mv (readR s).1, .int .i64 (readR s).2]) ∧ Below W.heap.size W w' := by
  by_cases h0 : s.size = 0
  · have hs0 : s = ⟨#[]⟩ := ext_list (List.length_eq_zero_iff.1 (by rw [len_eq]; exact h0))
    subst hs0
    exact SixOf_empty W
  · have hne : s.toList.isEmpty = false := by
      rw [ByteArray.toList_eq, List.isEmpty_eq_false_iff]
      intro e
      exact h0 (by rw [← len_eq, e]; rfl)
    have hlen : (words s).length = Lib.countB s ⟨#[32]⟩ + 1 := Lib.splitB_all ⟨#[32]⟩ (by decide) 0 _ s rfl
    have hle := Lib.countB_le ⟨#[32]⟩ (by decide) s.size s (Nat.le_refl _)
    have hsz : ∀ a ∈ words s, a.size ≤ 1000000 := fun a ha => by have := split_le _ s a ha; omega
    have hL : listR s = readL (words s).length (words s) [] := by unfold listR; rw [if_neg h0]
    by_cases hc : (listR s).2 = 0
    · have hR : readL (words s).length (words s) [] = ((listR s).1, 0) := by rw [← hL]; exact Prod.ext rfl hc
      obtain ⟨_, l2, l3⟩ := readL_len (words s).length (words s) [] (by rw [hR])
      have hok := readL_ok (words s).length (words s) [] (by simp) (by rw [hR])
      rw [hR] at l2 l3 hok
      have l4 := l3 (fun e => by rw [e] at hlen; simp at hlen)
      simp only [List.length_nil] at l2 l4
      have hr : readR s = foldR .one (listR s).1.reverse := by unfold readR; rw [if_pos hc]
      rw [hr]
      exact SixOf_ok s (words s) (listR s).1 W hs rfl (by omega) hsz hne hR l4 (by omega) hok
    · have hR : readL (words s).length (words s) [] = ([], (listR s).2) := by
        rw [← hL]
        exact Prod.ext (by rw [hL]; exact readL_err _ _ _ (by rw [← hL]; exact hc)) rfl
      have hr : readR s = (.zero, (listR s).2) := by unfold readR; rw [if_neg hc]
      rw [hr]
      exact SixOf_no s (words s) (listR s).2 W hs rfl (by omega) hsz hne hR hc

end Go.Proofs.YtlnnpileegoglabGreatDoor

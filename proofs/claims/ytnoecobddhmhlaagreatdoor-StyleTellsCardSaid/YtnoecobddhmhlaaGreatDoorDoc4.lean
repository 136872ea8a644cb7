/-
  Copies of attributes and of numbers; what a new document leaves as it was.
-/
import Derived.Test.YtnoecobddhmhlaaGreatDoorJ10
import Derived.Test.YtnoecobddhmhlaaGreatDoorJ8
import Derived.Lib.SliceRun
import Derived.Deep.RegionHeld3
import Derived.Deep.RegionLaw
import Derived.Deep.AppendLies
namespace Go.Proofs.YtnoecobddhmhlaaGreatDoor
open Go.RowKit

theorem cellsA_len : ∀ l : List (Bs × Bs), (cellsA l).length = l.length * 2
  | [] => rfl
  | x :: r => by simp [cellsA, cellsA_len r]; omega
theorem cellsA_inv : ∀ (l : List (Bs × Bs)) (j : Nat) (u : Value), (cellsA l)[j]? = some u → ∃ i x, l[i]? = some x ∧ ((j = i * 2 ∧ u = .string ⟨x.1.toArray⟩) ∨ (j = i * 2 + 1 ∧ u = .string ⟨x.2.toArray⟩))
  | [], j, u, h => by simp [cellsA] at h
  | x :: r, 0, u, h => by
    simp [cellsA] at h
    exact ⟨0, x, rfl, .inl ⟨rfl, h.symm⟩⟩
  | x :: r, 1, u, h => by
    simp [cellsA] at h
    exact ⟨0, x, rfl, .inr ⟨rfl, h.symm⟩⟩
  | x :: r, j + 2, u, h => by
    have h' : (cellsA r)[j]? = some u := by simpa [cellsA] using h
    obtain ⟨i, y, h1, h2⟩ := cellsA_inv r j u h'
    exact ⟨i + 1, y, by simpa using h1, h2.imp (fun h => ⟨by omega, h.2⟩) (fun h => ⟨by omega, h.2⟩)⟩
theorem cellsA_one (l : List (Bs × Bs)) : ∀ u ∈ cellsA l, u.oneCell' = true := fun u hu => by
  obtain ⟨j, hj⟩ := List.getElem?_of_mem hu
  obtain ⟨i, x, -, ⟨-, rfl⟩ | ⟨-, rfl⟩⟩ := cellsA_inv l j u hj <;> rfl
theorem ats_news {w : World} {a : Addr} {ats : List (Bs × Bs)} (h : AtsAt w (some a) ats) : ∀ j u, (cellsA ats)[j]? = some u → w.cell? (a.add j) = some u := fun j u hu => by
  obtain ⟨i, x, hx, h2⟩ := cellsA_inv ats j u hu
  obtain ⟨b, off, h3, h4, h5, -⟩ := h i x hx
  cases h3
  have hadd : ∀ k, (⟨b, off, none⟩ : Addr).add k = ⟨b, off + k, none⟩ := fun k => by unfold Addr.add; split <;> simp_all
  rw [hadd]
  rcases h2 with ⟨rfl, rfl⟩ | ⟨rfl, rfl⟩
  · exact h4
  · rw [← Nat.add_assoc]; exact h5
set_option maxHeartbeats 2000000 in
theorem CloneA (w : World) (v : Value) (ats : List (Bs × Bs)) (h : AtsIn w v ats) (hl : ats.length ≤ 1000000) :
    Calls Tryz.prog 50 #[v] w fun e w' => ∃ o n k, e = .returned (.slice o n k) ∧ w'.ownsRow w.heap.size 59 2 (.slice o n k) ats.length (cellsA ats) ∧ Below w.heap.size w w' := by
  obtain ⟨o, cap, rfl, h1, h2, h3, h4⟩ := h
  have q22 : ∀ (w : World) (a : Option Addr) (n c n' c' : Nat), (binOp .eql 22 (.slice a n c) (.slice none n' c')).run Tryz.prog w = .ok (.bool a.isNone) w := fun w a n c n' c' => Lib.run_eql_slice_nil w _ _ a n c n' c' Tryz.underlying22
  obtain ⟨i0, hi, hz0, hz1, hz2⟩ := info_parts attrInfo
  cases o with
  | none =>
    have hc := h3 rfl
    have hz : ats = [] := List.length_eq_zero_iff.1 (by omega)
    subst hz
    go_enter Tryz.func50, Tryz.ntmps50
    go_wp2_with fail
    go_ret
    exact ⟨none, 0, 0, rfl, World.ownsRow_nil _ _ _ _, Below.refl _ _⟩
  | some a =>
    have HN : Hid (∀ j u, (cellsA ats)[j]? = some u → w.cell? (a.add j) = some u) := ats_news h4
    have HO : Hid (∀ u ∈ cellsA ats, u.oneCell' = true) := cellsA_one ats
    clear h4
    go_enter Tryz.func50, Tryz.ntmps50
    go_wp2_with (at_builtin; refine wpList_append_own _ rfl _ _ 22 rfl w.heap.size 59 i0 (.agg #[.string ⟨#[]⟩, .string ⟨#[]⟩]) 2 32 Tryz.underlying22 hi hz0 hz1 hz2 rfl (by decide) _ _ _ rfl (World.ownsRow_made w #[] 0 (Nat.le_refl _) (Nat.zero_le _) (by simp)) a ats.length cap (cellsA ats) rfl (cellsA_len ats) (fun j u hj => mcell_al _ (HN.out j u hj)) HO.out (by rw [maxLen_eq]; omega) (by omega) (by simp) ?_; intro v7 w7 ow7 gr7 _; obtain ⟨o7, cap7, rfl⟩ := own_slice ow7)
    go_ret
    exact ⟨o7, _, cap7, rfl, by simpa using ow7, ((Below.refl _ w).alloc (Nat.le_refl _) _).grown gr7 (by simp) (fun k hk => by have hk' : some w.heap.size = some k := hk; cases hk'; exact Nat.le_refl _)⟩

mutual
/-- No node has more than twelve attributes. -/
def lowN : Nd → Prop
  | .mk _ ats ks => ats.length ≤ 12 ∧ lowL ks
def lowL : List Nd → Prop
  | [] => True
  | k :: l => lowN k ∧ lowL l
end
theorem lowL_mem : ∀ {l : List Nd} {k : Nd}, lowL l → k ∈ l → lowN k
  | [], _, _, h => by simp at h
  | a :: l, k, h, hk => by
    unfold lowL at h
    rcases List.mem_cons.1 hk with rfl | hk
    · exact h.1
    · exact lowL_mem h.2 hk
mutual
theorem lowN_of : ∀ (n : Nd) (deep ahead : Nat), (ckN n deep ahead).1 = 0 → lowN n
  | .mk nm ats ks, deep, ahead, h => by
    unfold ckN at h
    split at h
    · rename_i h1
      unfold lowN
      exact ⟨(ck1_ok h1).2.1, lowL_of ks _ _ h⟩
    · rename_i h1; exact (h1 h).elim
theorem lowL_of : ∀ (l : List Nd) (deep ahead : Nat), (ckK l deep ahead).1 = 0 → lowL l
  | [], _, _, _ => by unfold lowL; trivial
  | k :: l, deep, ahead, h => by
    by_cases h1 : (ckN k deep ahead).1 = 0
    · rw [ckK_zero h1] at h
      unfold lowL
      exact ⟨lowN_of k deep ahead h1, lowL_of l _ _ h⟩
    · rw [ckK_pos h1] at h; exact (h1 h).elim
end
theorem szL_take_le (ks : List Nd) (i : Nat) : szL (ks.take i) ≤ szL ks := by
  have := szL_app (ks.take i) (ks.drop i)
  rw [List.take_append_drop] at this
  omega
theorem take_snoc {ks : List Nd} {i : Nat} {k : Nd} (h : ks[i]? = some k) : ks.take (i + 1) = ks.take i ++ [k] := by
  rw [List.take_add_one, h]; rfl

end Go.Proofs.YtnoecobddhmhlaaGreatDoor

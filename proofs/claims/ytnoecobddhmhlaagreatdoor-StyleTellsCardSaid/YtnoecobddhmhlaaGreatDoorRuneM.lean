/-
  Signs of a text that are more than one byte: none of their bytes is below 128.
-/
import Derived.WalkKit
import Derived.Laws.RangeAny
namespace Go.Proofs.YtnoecobddhmhlaaGreatDoor

theorem decode_skip (s : ByteArray) (pos : Nat) (h : pos < s.size) (ha : 128 ≤ (s[pos]'h).toNat) : ∀ k, 1 ≤ k → k < (Utf8.decode s pos).2 → pos + k < s.size ∧ 128 ≤ (s.get! (pos + k)).toNat := by
  have hn : ¬ (s[pos]'h).toNat < 128 := by omega
  intro k hk1 hk2
  have h2 : (Utf8.decode s pos).2 ≤ 4 := by
    simp only [Utf8.decode]
    repeat' split
    all_goals simp
  simp only [Utf8.decode, get_at s pos h, hn, if_false] at hk2
  have key : ∀ k, (decide (pos + k < s.size) && ((s.get! (pos + k)).toNat / 64 == 2)) = true → pos + k < s.size ∧ 128 ≤ (s.get! (pos + k)).toNat := fun k hk => by
    simp only [Bool.and_eq_true, decide_eq_true_eq, beq_iff_eq] at hk
    exact ⟨hk.1, by omega⟩
  split at hk2
  · rename_i hc
    rw [Bool.and_eq_true] at hc
    have : k = 1 := by split at hk2 <;> simp only at hk2 <;> omega
    subst this
    exact key 1 hc.2
  · split at hk2
    · rename_i hc
      rw [Bool.and_eq_true, Bool.and_eq_true] at hc
      have : k = 1 ∨ k = 2 := by split at hk2 <;> simp only at hk2 <;> omega
      rcases this with rfl | rfl
      · exact key 1 hc.1.2
      · exact key 2 hc.2
    · split at hk2
      · rename_i hc
        rw [Bool.and_eq_true, Bool.and_eq_true, Bool.and_eq_true] at hc
        have : k = 1 ∨ k = 2 ∨ k = 3 := by split at hk2 <;> simp only at hk2 <;> omega
        rcases this with rfl | rfl | rfl
        · exact key 1 hc.1.1.2
        · exact key 2 hc.1.2
        · exact key 3 hc.2
      · simp only at hk2
        omega
theorem decode_fits (s : ByteArray) (pos : Nat) (h : pos < s.size) : pos + (Utf8.decode s pos).2 ≤ s.size := by
  by_cases ha : 128 ≤ (s[pos]'h).toNat
  · have h1 := (decode_high s pos h ha).2
    by_cases h2 : (Utf8.decode s pos).2 = 1
    · omega
    · have := (decode_skip s pos h ha ((Utf8.decode s pos).2 - 1) (by omega) (by omega)).1
      omega
  · have hn : (s[pos]'h).toNat < 128 := by omega
    simp only [Utf8.decode, get_at s pos h, hn, if_true]
    omega
theorem encode_high (r : Int) (h : 128 ≤ r) : 2 ≤ (Utf8.encode r).size ∧ (Utf8.encode r).size ≤ 4 ∧ ∀ x ∈ (Utf8.encode r).data.toList, 128 ≤ x.toNat := by
  unfold Utf8.encode
  simp only
  generalize hc : (if Utf8.valid r = true then r.toNat else Utf8.runeError) = c
  have h1 : 128 ≤ c := by
    rw [← hc]
    split
    · omega
    · decide
  have h2 : c ≤ 1114111 := by
    rw [← hc]
    split
    · rename_i hv
      unfold Utf8.valid at hv
      simp at hv
      omega
    · decide
  have key : ∀ n : Nat, 128 ≤ n → n < 256 → 128 ≤ (UInt8.ofNat n).toNat := fun n h3 h4 => by
    rw [UInt8.toNat_ofNat', Nat.mod_eq_of_lt (by simpa using h4)]
    exact h3
  rw [if_neg (by omega)]
  split
  · refine ⟨by simp [ByteArray.size], by simp [ByteArray.size], ?_⟩
    intro x hx
    simp only [List.mem_cons, List.not_mem_nil, or_false] at hx
    rcases hx with rfl | rfl
    · exact key _ (by omega) (by omega)
    · exact key _ (by omega) (by omega)
  · split
    · refine ⟨by simp [ByteArray.size], by simp [ByteArray.size], ?_⟩
      intro x hx
      simp only [List.mem_cons, List.not_mem_nil, or_false] at hx
      rcases hx with rfl | rfl | rfl
      · exact key _ (by omega) (by omega)
      · exact key _ (by omega) (by omega)
      · exact key _ (by omega) (by omega)
    · refine ⟨by simp [ByteArray.size], by simp [ByteArray.size], ?_⟩
      intro x hx
      simp only [List.mem_cons, List.not_mem_nil, or_false] at hx
      rcases hx with rfl | rfl | rfl | rfl
      · exact key _ (by omega) (by omega)
      · exact key _ (by omega) (by omega)
      · exact key _ (by omega) (by omega)
      · exact key _ (by omega) (by omega)

end Go.Proofs.YtnoecobddhmhlaaGreatDoor

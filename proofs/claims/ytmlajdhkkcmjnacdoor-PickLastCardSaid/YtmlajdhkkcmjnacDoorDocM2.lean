/-
  A node's elements in a document: those below one are those of a row of numbers.
-/
import Derived.Test.YtmlajdhkkcmjnacDoorDocM
namespace Go.Proofs.YtmlajdhkkcmjnacDoor

/-- The elements of a node lie in a document, from a number on. -/
def InN (M : Dm) (k : Nat) (p : Int) (n : Nd) : Prop := ∀ (j : Nat) (e : Elm), (elN k p n)[j]? = some e → M ((k : Int) + j) = some e
def InL (M : Dm) (k : Nat) (p : Int) (l : List Nd) : Prop := ∀ (j : Nat) (e : Elm), (elL k p l)[j]? = some e → M ((k : Int) + j) = some e
theorem InN.parts {M : Dm} {k : Nat} {p : Int} {nm : Bs} {as : List (Bs × Bs)} {ks : List Nd} (h : InN M k p (.mk nm as ks)) : M k = some ⟨nm, as, p, kdN (k + 1) ks⟩ ∧ InL M (k + 1) k ks := by
  constructor
  · have := h 0 ⟨nm, as, p, kdN (k + 1) ks⟩ (by rw [elN]; rfl)
    simpa using this
  · intro j e he
    have := h (j + 1) e (by rw [elN]; simpa using he)
    rw [show ((k : Int) + (j + 1 : Nat)) = ((k + 1 : Nat) : Int) + j from by omega] at this
    exact this
theorem InL.parts {M : Dm} {k : Nat} {p : Int} {n : Nd} {l : List Nd} (h : InL M k p (n :: l)) : InN M k p n ∧ InL M (k + szN n) p l := by
  constructor
  · intro j e he
    exact h j e (by rw [elL, List.getElem?_append_left (List.getElem?_eq_some_iff.1 he).1]; exact he)
  · intro j e he
    have := h (szN n + j) e (by rw [elL, List.getElem?_append_right (by rw [elN_len]; omega), elN_len]; rw [show szN n + j - szN n = j from by omega]; exact he)
    rw [show ((k : Int) + (szN n + j : Nat)) = ((k + szN n : Nat) : Int) + j from by omega] at this
    exact this
theorem InN.ext (M : Dm) (k : Nat) (p : Int) (n : Nd) : InN (extE M k (elN k p n)) k p n := fun j e he => by
  rw [extE_new (List.getElem?_eq_some_iff.1 he).1]
  exact he
def nums (k n : Nat) : List Int := (List.range' k n).map (fun (j : Nat) => (j : Int))
theorem nums_zero (k : Nat) : nums k 0 = [] := rfl
theorem nums_add (k a b : Nat) : nums k (a + b) = nums k a ++ nums (k + a) b := by
  unfold nums
  rw [← List.range'_append_1, List.map_append]
theorem nums_succ (k a : Nat) : nums k (a + 1) = (k : Int) :: nums (k + 1) a := by
  rw [Nat.add_comm, nums_add]
  rfl
theorem mem_nums {k n : Nat} {i : Int} : i ∈ nums k n ↔ (k : Int) ≤ i ∧ i < k + n := by
  unfold nums
  simp only [List.mem_map, List.mem_range'_1]
  constructor
  · rintro ⟨j, hj, rfl⟩
    omega
  · intro h
    exact ⟨i.toNat, by omega, by omega⟩
mutual
theorem InN.dp {M : Dm} : ∀ {n : Nd} {k : Nat} {p : Int} {f : Nat}, InN M k p n → szN n ≤ f → Dp M f k
  | .mk nm as ks, k, p, 0, _, hf => by simp [szN] at hf
  | .mk nm as ks, k, p, f + 1, h, hf => by
    obtain ⟨h1, h2⟩ := h.parts
    intro e he i hi
    rw [h1] at he
    cases he
    exact InL.dp h2 (by simp [szN] at hf; omega) i hi
theorem InL.dp {M : Dm} : ∀ {l : List Nd} {k : Nat} {p : Int} {f : Nat}, InL M k p l → szL l ≤ f → ∀ i ∈ kdN k l, Dp M f i
  | [], _, _, _, _, _, i, hi => by simp [kdN] at hi
  | n :: l, k, p, f, h, hf, i, hi => by
    obtain ⟨h1, h2⟩ := h.parts
    rw [szL] at hf
    rw [kdN] at hi
    rcases List.mem_cons.1 hi with rfl | hi
    · exact InN.dp h1 (by omega)
    · exact InL.dp h2 (by omega) i hi
end
mutual
theorem InN.pre {M : Dm} : ∀ {n : Nd} {k : Nat} {p d : Int} {f : Nat}, InN M k p n → szN n ≤ f → (pre M f k d).map Prod.fst = nums k (szN n)
  | .mk nm as ks, k, p, d, 0, _, hf => by simp [szN] at hf
  | .mk nm as ks, k, p, d, f + 1, h, hf => by
    obtain ⟨h1, h2⟩ := h.parts
    rw [Go.Proofs.YtmlajdhkkcmjnacDoor.pre, h1, szN, nums_succ]
    simp only [List.map_cons]
    rw [InL.pre h2 (by simp [szN] at hf; omega)]
theorem InL.pre {M : Dm} : ∀ {l : List Nd} {k : Nat} {p d : Int} {f : Nat}, InL M k p l → szL l ≤ f → ((kdN k l).flatMap (fun i => pre M f i d)).map Prod.fst = nums k (szL l)
  | [], _, _, _, _, _, _ => rfl
  | n :: l, k, p, d, f, h, hf => by
    obtain ⟨h1, h2⟩ := h.parts
    rw [szL] at hf
    rw [kdN, List.flatMap_cons, List.map_append, szL, nums_add, InN.pre h1 (by omega), InL.pre h2 (by omega)]
end

mutual
/-- Parents lie within. -/
theorem elN_par : ∀ (n : Nd) (k : Nat) (p : Int) (j : Nat) (e : Elm), (elN k p n)[j]? = some e → (j = 0 ∧ e.parent = p) ∨ (0 < j ∧ (k : Int) ≤ e.parent ∧ e.parent < k + szN n)
  | .mk nm as ks, k, p, 0, e, h => by
    rw [elN] at h
    simp at h
    subst h
    exact .inl ⟨rfl, rfl⟩
  | .mk nm as ks, k, p, j + 1, e, h => by
    rw [elN] at h
    rw [szN]
    rcases elL_par ks (k + 1) k j e (by simpa using h) with h1 | h1
    · exact .inr (by omega)
    · exact .inr (by omega)
theorem elL_par : ∀ (l : List Nd) (k : Nat) (p : Int) (j : Nat) (e : Elm), (elL k p l)[j]? = some e → e.parent = p ∨ ((k : Int) ≤ e.parent ∧ e.parent < k + szL l)
  | [], _, _, _, _, h => by simp [elL] at h
  | n :: l, k, p, j, e, h => by
    rw [elL] at h
    rw [szL]
    by_cases hj : j < szN n
    · rw [List.getElem?_append_left (by rw [elN_len]; exact hj)] at h
      rcases elN_par n k p j e h with h1 | h1
      · exact .inl h1.2
      · exact .inr (by omega)
    · rw [List.getElem?_append_right (by rw [elN_len]; omega)] at h
      rcases elL_par l _ p _ e h with h1 | h1
      · exact .inl h1
      · exact .inr (by omega)
end
/-- Of these numbers the first one is the only one whose parent is not among them; and no others have theirs among them. -/
def Own (L : List Elm) (k i s : Nat) : Prop := ∀ (j : Nat) (e : Elm), L[j]? = some e → ((i < k + j ∧ k + j < i + s) → (i : Int) ≤ e.parent ∧ e.parent < i + s) ∧ (¬ (i ≤ k + j ∧ k + j < i + s) → ¬ ((i : Int) ≤ e.parent ∧ e.parent < i + s))
mutual
theorem elN_sub {M : Dm} : ∀ (n : Nd) (k : Nat) (p : Int) (i : Nat), InN M k p n → p < k → k ≤ i → i < k + szN n → ∃ m q, InN M i q m ∧ i + szN m ≤ k + szN n ∧ Own (elN k p n) k i (szN m)
  | .mk nm as ks, k, p, i, h, hp, h1, h2 => by
    by_cases hi : i = k
    · subst hi
      refine ⟨.mk nm as ks, p, h, Nat.le_refl _, fun j e he => ⟨fun hj => ?_, fun hj => ?_⟩⟩
      · rcases elN_par _ _ _ _ _ he with h3 | h3
        · omega
        · exact h3.2
      · have := (List.getElem?_eq_some_iff.1 he).1
        rw [elN_len] at this
        omega
    · rw [szN] at h2 ⊢
      obtain ⟨m, q, a1, a2, a3⟩ := elL_sub ks (k + 1) k i h.parts.2 (by omega) (by omega) (by omega)
      refine ⟨m, q, a1, by omega, fun j e he => ?_⟩
      rw [elN] at he
      cases j with
      | zero =>
        simp at he
        subst he
        simp only
        exact ⟨fun h => by omega, fun _ => by omega⟩
      | succ j =>
        have := a3 j e (by simpa using he)
        rw [show k + 1 + j = k + (j + 1) from by omega] at this
        exact this
theorem elL_sub {M : Dm} : ∀ (l : List Nd) (k : Nat) (p : Int) (i : Nat), InL M k p l → p < k → k ≤ i → i < k + szL l → ∃ m q, InN M i q m ∧ i + szN m ≤ k + szL l ∧ Own (elL k p l) k i (szN m)
  | [], _, _, _, _, _, h1, h2 => by rw [szL] at h2; omega
  | n :: l, k, p, i, h, hp, h1, h2 => by
    rw [szL] at h2 ⊢
    obtain ⟨b1, b2⟩ := h.parts
    by_cases hi : i < k + szN n
    · obtain ⟨m, q, a1, a2, a3⟩ := elN_sub n k p i b1 hp h1 hi
      refine ⟨m, q, a1, by omega, fun j e he => ?_⟩
      rw [elL] at he
      by_cases hj : j < szN n
      · rw [List.getElem?_append_left (by rw [elN_len]; exact hj)] at he
        exact a3 j e he
      · rw [List.getElem?_append_right (by rw [elN_len]; omega)] at he
        have := elL_par l _ p _ e he
        exact ⟨fun h => by omega, fun _ => by omega⟩
    · obtain ⟨m, q, a1, a2, a3⟩ := elL_sub l (k + szN n) p i b2 (by omega) (by omega) (by omega)
      refine ⟨m, q, a1, by omega, fun j e he => ?_⟩
      rw [elL] at he
      by_cases hj : j < szN n
      · rw [List.getElem?_append_left (by rw [elN_len]; exact hj)] at he
        have := elN_par n k p j e he
        exact ⟨fun h => by omega, fun _ => by omega⟩
      · rw [List.getElem?_append_right (by rw [elN_len]; omega), elN_len] at he
        have := a3 _ e he
        rw [show k + szN n + (j - szN n) = k + j from by omega] at this
        exact this
end

end Go.Proofs.YtmlajdhkkcmjnacDoor

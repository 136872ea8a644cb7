/-
  A new document: parents lie ahead, names are names; one that is taken out, with all below.
-/
import Derived.Test.YtmlajdhkkcmjnacDoorJ17
namespace Go.Proofs.YtmlajdhkkcmjnacDoor

mutual
theorem elN_lt : ∀ (n : Nd) (k : Nat) (p : Int) (j : Nat) (e : Elm), (elN k p n)[j]? = some e → p < k → e.parent < k + j
  | .mk nm ats ks, k, p, 0, e, h, hp => by
    rw [elN] at h
    simp at h
    subst h
    show p < (k : Int) + (0 : Nat)
    omega
  | .mk nm ats ks, k, p, j + 1, e, h, hp => by
    rw [elN] at h
    have := elL_lt ks (k + 1) k j e (by simpa using h) (by omega)
    omega
theorem elL_lt : ∀ (l : List Nd) (k : Nat) (p : Int) (j : Nat) (e : Elm), (elL k p l)[j]? = some e → p < k → e.parent < k + j
  | [], _, _, _, _, h, _ => by simp [elL] at h
  | n :: l, k, p, j, e, h, hp => by
    rw [elL] at h
    by_cases hj : j < szN n
    · rw [List.getElem?_append_left (by rw [elN_len]; exact hj)] at h
      exact elN_lt n k p j e h hp
    · rw [List.getElem?_append_right (by rw [elN_len]; omega), elN_len] at h
      have := elL_lt l (k + szN n) p (j - szN n) e h (by omega)
      omega
end
mutual
theorem elN_kid : ∀ (n : Nd) (k : Nat) (p : Int) (j : Nat) (e : Elm), (elN k p n)[j]? = some e → 0 < j → ∃ (i : Nat) (q : Elm), (elN k p n)[i]? = some q ∧ e.parent = k + i ∧ q.kids ≠ []
  | .mk nm ats ks, k, p, 0, e, h, hj => absurd hj (Nat.lt_irrefl _)
  | .mk nm ats ks, k, p, j + 1, e, h, _ => by
    rw [elN] at h ⊢
    rcases elL_kid ks (k + 1) k j e (by simpa using h) with ⟨h1, h2⟩ | ⟨i, q, h1, h2, h3⟩
    · exact ⟨0, _, rfl, by omega, h2⟩
    · exact ⟨i + 1, q, by simpa using h1, by omega, h3⟩
theorem elL_kid : ∀ (l : List Nd) (k : Nat) (p : Int) (j : Nat) (e : Elm), (elL k p l)[j]? = some e → (e.parent = p ∧ kdN k l ≠ []) ∨ ∃ (i : Nat) (q : Elm), (elL k p l)[i]? = some q ∧ e.parent = k + i ∧ q.kids ≠ []
  | [], _, _, _, _, h => by simp [elL] at h
  | n :: l, k, p, j, e, h => by
    rw [elL] at h ⊢
    by_cases hj : j < szN n
    · rw [List.getElem?_append_left (by rw [elN_len]; exact hj)] at h
      by_cases h0 : j = 0
      · subst h0
        rcases elN_par n k p 0 e h with h1 | h1
        · exact .inl ⟨h1.2, by rw [kdN]; simp⟩
        · omega
      · obtain ⟨i, q, h1, h2, h3⟩ := elN_kid n k p j e h (by omega)
        refine .inr ⟨i, q, ?_, h2, h3⟩
        rw [List.getElem?_append_left (List.getElem?_eq_some_iff.1 h1).1]
        exact h1
    · rw [List.getElem?_append_right (by rw [elN_len]; omega), elN_len] at h
      rcases elL_kid l (k + szN n) p (j - szN n) e h with ⟨h1, h2⟩ | ⟨i, q, h1, h2, h3⟩
      · exact .inl ⟨h1, by rw [kdN]; simp⟩
      · refine .inr ⟨szN n + i, q, ?_, by omega, h3⟩
        rw [List.getElem?_append_right (by rw [elN_len]; omega), elN_len, show szN n + i - szN n = i from by omega]
        exact h1
end
mutual
theorem elN_nm : ∀ (n : Nd) (k : Nat) (p : Int), okN n → ∀ e ∈ elN k p n, isNm e.name = true
  | .mk nm ats ks, k, p, h, e, he => by
    unfold okN at h
    rw [elN] at he
    rcases List.mem_cons.1 he with rfl | he
    · exact h.1
    · exact elL_nm ks _ _ h.2.2 e he
theorem elL_nm : ∀ (l : List Nd) (k : Nat) (p : Int), okL l → ∀ e ∈ elL k p l, isNm e.name = true
  | [], _, _, _, e, he => by simp [elL] at he
  | n :: l, k, p, h, e, he => by
    unfold okL at h
    rw [elL] at he
    rcases List.mem_append.1 he with he | he
    · exact elN_nm n _ _ h.1 e he
    · exact elL_nm l _ _ h.2 e he
end
theorem fl_el {n : Nd} {i : Nat} {f : Fl} (h : (flN 0 (-1) 1 n)[i]? = some f) : ∃ e, (elN 0 (-1) n)[i]? = some e ∧ e.parent = f.parent := by
  have h1 := congrArg (fun l => l[i]?) (elN_fl n 0 (-1) 1)
  simp only [List.getElem?_map, h, Option.map_some] at h1
  cases h2 : (elN 0 (-1) n)[i]? with
  | none => rw [h2] at h1; cases h1
  | some e =>
    rw [h2] at h1
    simp at h1
    exact ⟨e, rfl, h1.2.2⟩
/-- A new document's elements. -/
abbrev newD (n : Nd) : Dm := extE (fun _ => none) 0 (elN 0 (-1) n)
theorem newD_at {n : Nd} {j : Nat} (h : j < szN n) : newD n (j : Int) = (elN 0 (-1) n)[j]? := by
  have := extE_new (M := fun _ => none) (nx := 0) (L := elN 0 (-1) n) (j := j) (by rw [elN_len]; exact h)
  simpa using this
theorem newD_none {n : Nd} {i : Int} (h : i < 0) : newD n i = none := extE_old h
theorem newD_root (n : Nd) : ∃ e, newD n 0 = some e ∧ e.parent = -1 ∧ e.kids.length ≤ szN n := by
  obtain ⟨nm, ats, ks⟩ := n
  refine ⟨⟨nm, ats, -1, kdN 1 ks⟩, ?_, rfl, ?_⟩
  · unfold newD
    rw [elN]
    exact extE_at _ _ _ _
  · rw [kdN_len, szN]
    have := szL_len ks
    omega
/-- One that is not the root, with all below: what Remove asks for, and what is left. -/
structure CutAt (n : Nd) (w s : Nat) (e q : Elm) : Prop where
  at_ : newD n (w : Int) = some e
  par : newD n e.parent = some q
  low : 0 ≤ e.parent ∧ e.parent < w
  kids : q.kids ≠ []
  fits : w + s ≤ szN n
  pos : 0 < s
  own : Own (elN 0 (-1) n) 0 w s
  dp : Dp (putE (newD n) e.parent ⟨q.name, q.ats, q.parent, woL q.kids w⟩) s w
  all : fromL (putE (newD n) e.parent ⟨q.name, q.ats, q.parent, woL q.kids w⟩) s w = nums w s
theorem cut_at (n : Nd) (w : Nat) (hw : w < szN n) (h0 : w ≠ 0) : ∃ s e q, CutAt n w s e q := by
  obtain ⟨m, p', h1, h2, h3⟩ := elN_sub n 0 (-1) w (InN.ext (fun _ => none) 0 (-1) n) (by decide) (Nat.zero_le _) (by omega)
  have hl : w < (elN 0 (-1) n).length := by rw [elN_len]; exact hw
  obtain ⟨e, he⟩ : ∃ e, (elN 0 (-1) n)[w]? = some e := ⟨_, List.getElem?_eq_getElem hl⟩
  obtain ⟨i, q, h4, h5, h6⟩ := elN_kid n 0 (-1) w e he (by omega)
  have h7 := elN_lt n 0 (-1) w e he (by decide)
  have h8 : newD n e.parent = some q := by
    rw [h5, show ((0 : Nat) : Int) + i = (i : Int) from by omega, newD_at (by rw [← elN_len n 0 (-1)]; exact (List.getElem?_eq_some_iff.1 h4).1)]
    exact h4
  have hin : InN (putE (newD n) e.parent ⟨q.name, q.ats, q.parent, woL q.kids w⟩) w p' m := fun j x hx => by
    unfold putE
    rw [if_neg (by omega)]
    exact h1 j x hx
  have hsp := szN_pos m
  exact ⟨szN m, e, q, (newD_at hw).trans he, h8, by omega, h6, by omega, hsp, h3, hin.dp (Nat.le_refl _), hin.pre (Nat.le_refl _)⟩
theorem nums_len (k n : Nat) : (nums k n).length = n := by simp [nums]
theorem nums_nodup (k n : Nat) : (nums k n).Nodup := by
  unfold nums
  exact List.Pairwise.map _ (fun a b h => by omega) (List.nodup_range' (s := k) (n := n) (step := 1))

end Go.Proofs.YtmlajdhkkcmjnacDoor

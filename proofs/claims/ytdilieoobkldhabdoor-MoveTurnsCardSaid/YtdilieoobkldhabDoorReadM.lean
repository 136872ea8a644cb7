/-
  Numbers in texts, in plain lists of bytes, with nothing of the program: decimal digits without needless zeros, ten at the most.
-/
import Derived.WalkKit
import Derived.Lib.ItoaNum
namespace Go.Proofs.YtdilieoobkldhabDoor

theorem snoc_ind {P : List UInt8 → Prop} (h0 : P []) (h1 : ∀ l c, P l → P (l ++ [c])) (l : List UInt8) : P l := by
  have h : ∀ r : List UInt8, P r.reverse := by
    intro r
    induction r with
    | nil => simpa using h0
    | cons c r ih => rw [List.reverse_cons]; exact h1 _ _ ih
  simpa using h l.reverse

def digit (c : UInt8) : Bool := decide (48 ≤ c.toNat) && decide (c.toNat ≤ 57)
def val (l : List UInt8) : Nat := l.foldl (fun n c => n * 10 + (c.toNat - 48)) 0
/-- one digit or more, ten at the most, no needless zero -/
def fits (l : List UInt8) : Bool := decide (1 ≤ l.length) && decide (l.length ≤ 10) && !(decide (1 < l.length) && decide (l.head? = some 48))
def digs (l : List UInt8) : Bool := fits l && l.all digit

theorem val_nil : val [] = 0 := rfl
theorem val_snoc (l : List UInt8) (c : UInt8) : val (l ++ [c]) = val l * 10 + (c.toNat - 48) := by simp [val]
theorem all_snoc (l : List UInt8) (c : UInt8) : (l ++ [c]).all digit = (l.all digit && digit c) := by simp
theorem digit_iff {c : UInt8} : digit c = true ↔ 48 ≤ c.toNat ∧ c.toNat ≤ 57 := by simp [digit]
theorem val_lt : ∀ (l : List UInt8), l.all digit = true → val l < 10 ^ l.length := by
  refine snoc_ind ?_ ?_
  · intro _; simp [val]
  · intro l c ih h
    rw [all_snoc, Bool.and_eq_true] at h
    obtain ⟨h1, h2⟩ := digit_iff.1 h.2
    have := ih h.1
    rw [val_snoc, List.length_append, List.length_singleton, Nat.pow_succ]
    omega
theorem pow_ten {k : Nat} (h : k ≤ 10) : 10 ^ k ≤ 10000000000 := by
  have : 10 ^ k ≤ 10 ^ 10 := Nat.pow_le_pow_right (by decide) h
  omega
theorem val_le {l : List UInt8} (h : l.all digit = true) (hl : l.length ≤ 10) : val l < 10000000000 := Nat.lt_of_lt_of_le (val_lt l h) (pow_ten hl)

/-- a number's digits are read as the number, and written as they were -/
theorem dec_val : ∀ (l : List UInt8), l.all digit = true → 1 ≤ l.length → ¬ (1 < l.length ∧ l.head? = some 48) → Lib.decDigits (val l) = l := by
  refine snoc_ind ?_ ?_
  · intro _ h; simp at h
  · intro l c ih h _ hz
    rw [all_snoc, Bool.and_eq_true] at h
    obtain ⟨h1, h2⟩ := digit_iff.1 h.2
    rw [val_snoc]
    rcases Nat.eq_zero_or_pos l.length with h0 | h0
    · have : l = [] := List.length_eq_zero_iff.1 h0
      subst this
      simp only [val_nil, List.nil_append]
      rw [Lib.decDigits, dif_pos (by omega)]
      congr 1
      apply UInt8.toNat_inj.1
      simp
      omega
    · have hhd : (l ++ [c]).head? = l.head? := by cases l with | nil => simp at h0 | cons a r => rfl
      have hne : ¬ l.head? = some 48 := fun e => hz ⟨by simp; omega, by rw [hhd]; exact e⟩
      have hl := ih h.1 h0 (fun e => hne e.2)
      have hv : 0 < val l := by
        rcases Nat.eq_zero_or_pos (val l) with e | e
        · rw [e] at hl
          rw [Lib.decDigits, dif_pos (by decide)] at hl
          rw [← hl] at hne
          exact absurd rfl hne
        · exact e
      rw [Lib.decDigits, dif_neg (by omega)]
      have e1 : (val l * 10 + (c.toNat - 48)) / 10 = val l := by omega
      have e2 : (val l * 10 + (c.toNat - 48)) % 10 = c.toNat - 48 := by omega
      rw [e1, e2, hl]
      congr 2
      apply UInt8.toNat_inj.1
      simp
      omega
theorem fits_iff {l : List UInt8} : fits l = true ↔ 1 ≤ l.length ∧ l.length ≤ 10 ∧ ¬ (1 < l.length ∧ l.head? = some 48) := by
  simp only [fits, Bool.and_eq_true, decide_eq_true_eq, Bool.not_eq_true', Bool.and_eq_false_iff, decide_eq_false_iff_not]
  constructor
  · rintro ⟨⟨a, b⟩, c⟩; exact ⟨a, b, fun h => by rcases c with c | c; exact c h.1; exact c h.2⟩
  · rintro ⟨a, b, c⟩; exact ⟨⟨a, b⟩, by by_cases h : 1 < l.length; exact Or.inr (fun e => c ⟨h, e⟩); exact Or.inl h⟩
theorem dec_digs {l : List UInt8} (h : digs l = true) : Lib.decDigits (val l) = l := by
  unfold digs at h
  rw [Bool.and_eq_true] at h
  obtain ⟨a, _, c⟩ := fits_iff.1 h.1
  exact dec_val l h.2 a c

theorem take_snoc (s : ByteArray) (k : Nat) (h : k < s.size) : s.data.toList.take (k + 1) = s.data.toList.take k ++ [s[k]] := by
  rw [List.take_succ_eq_append_getElem (by simpa using h)]; rfl
end Go.Proofs.YtdilieoobkldhabDoor

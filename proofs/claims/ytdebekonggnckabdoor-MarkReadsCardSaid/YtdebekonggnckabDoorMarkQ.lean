/-
  The reader of marks as plain mathematics.
-/
import Derived.Test.YtdebekonggnckabDoorMarkM
namespace Go.Proofs.YtdebekonggnckabDoor

/-- Bytes that end a name; bytes that do not stand for themselves in a value. -/
def eB (c : UInt8) : Bool := c == 32 || c == 61 || c == 34 || c == 60 || c == 62 || c == 47
def mB (c : UInt8) : Bool := c == 60 || c == 62 || c == 38 || c == 34
/-- Up to the first byte that ends a name, and from there on; the same for values. -/
def tkE (s : Bs) : Bs := s.takeWhile (fun c => !eB c)
def drE (s : Bs) : Bs := s.dropWhile (fun c => !eB c)
def tkM (s : Bs) : Bs := s.takeWhile (fun c => !mB c)
def drM (s : Bs) : Bs := s.dropWhile (fun c => !mB c)
/-- The byte that a word ahead stands for, and what is behind it. -/
def mkW (u : Bs) : Option (UInt8 × Bs) :=
  if [38, 108, 116, 59].isPrefixOf u = true then some (60, u.drop 4)
  else if [38, 103, 116, 59].isPrefixOf u = true then some (62, u.drop 4)
  else if [38, 97, 109, 112, 59].isPrefixOf u = true then some (38, u.drop 5)
  else if [38, 113, 117, 111, 116, 59].isPrefixOf u = true then some (34, u.drop 6)
  else none
def preV (a : Bs) : Option (Bs × Bs) → Option (Bs × Bs)
  | none => none
  | some p => some (a ++ p.1, p.2)
/-- A value, up to the mark that ends it. -/
def rdV : Nat → Bs → Option (Bs × Bs)
  | 0, _ => none
  | f + 1, s => if [34].isPrefixOf (drM s) = true then some (tkM s, (drM s).drop 1) else match mkW (drM s) with
    | none => none
    | some p => preV (tkM s ++ [p.1]) (rdV f p.2)
def preA (a : List (Bs × Bs)) : Option (List (Bs × Bs) × Bs) → Option (List (Bs × Bs) × Bs)
  | none => none
  | some p => some (a ++ p.1, p.2)
/-- One attribute, behind its blank. -/
def rdA1 (r : Bs) : Option ((Bs × Bs) × Bs) :=
  if tkE r = [] then none
  else if [61, 34].isPrefixOf (drE r) = true then match rdV (((drE r).drop 2).length + 1) ((drE r).drop 2) with
    | none => none
    | some p => some ((tkE r, p.1), p.2)
  else none
/-- Attributes. -/
def rdA : Nat → Bs → Option (List (Bs × Bs) × Bs)
  | 0, _ => none
  | f + 1, s => if [32].isPrefixOf s = true then match rdA1 (s.drop 1) with
      | none => none
      | some p => preA [p.1] (rdA f p.2)
    else some ([], s)
def preK (a : List Nd) : Option (List Nd × Bs) → Option (List Nd × Bs)
  | none => none
  | some p => some (a ++ p.1, p.2)
/-- Children, by a reader of one. -/
def rdK (el : Bs → Option (Nd × Bs)) : Nat → Bs → Option (List Nd × Bs)
  | 0, _ => none
  | f + 1, s => if [60].isPrefixOf s = true ∧ [60, 47].isPrefixOf s = false then match el s with
      | none => none
      | some p => preK [p.1] (rdK el f p.2)
    else some ([], s)
/-- What ends an element. -/
def endT (nm : Bs) : Bs := [60, 47] ++ nm ++ [62]
/-- An element. -/
def rdN : Nat → Bs → Option (Nd × Bs)
  | 0, _ => none
  | f + 1, s => if [60].isPrefixOf s = true then
      if tkE (s.drop 1) = [] then none
      else match rdA ((drE (s.drop 1)).length + 1) (drE (s.drop 1)) with
        | none => none
        | some a => if [47, 62].isPrefixOf a.2 = true then some (.mk (tkE (s.drop 1)) a.1 [], a.2.drop 2)
          else if [62].isPrefixOf a.2 = true then match rdK (rdN f) ((a.2.drop 1).length + 1) (a.2.drop 1) with
            | none => none
            | some k => if (endT (tkE (s.drop 1))).isPrefixOf k.2 = true then some (.mk (tkE (s.drop 1)) a.1 k.1, k.2.drop (endT (tkE (s.drop 1))).length) else none
          else none
    else none

theorem preV_nil (o : Option (Bs × Bs)) : preV [] o = o := by cases o <;> rfl
theorem preV_app (a b : Bs) (o : Option (Bs × Bs)) : preV a (preV b o) = preV (a ++ b) o := by cases o <;> simp [preV]
theorem preA_nil (o : Option (List (Bs × Bs) × Bs)) : preA [] o = o := by cases o <;> rfl
theorem preA_app (a b : List (Bs × Bs)) (o : Option (List (Bs × Bs) × Bs)) : preA a (preA b o) = preA (a ++ b) o := by cases o <;> simp [preA]
theorem preK_nil (o : Option (List Nd × Bs)) : preK [] o = o := by cases o <;> rfl
theorem preK_app (a b : List Nd) (o : Option (List Nd × Bs)) : preK a (preK b o) = preK (a ++ b) o := by cases o <;> simp [preK]

theorem tk_dr_len (P : UInt8 → Bool) (s : Bs) : (s.takeWhile P).length + (s.dropWhile P).length = s.length := by
  rw [← List.length_append, List.takeWhile_append_dropWhile]
theorem tkE_len (s : Bs) : (tkE s).length + (drE s).length = s.length := tk_dr_len _ s
theorem tkM_len (s : Bs) : (tkM s).length + (drM s).length = s.length := tk_dr_len _ s
theorem pre_len {w s : Bs} (h : w.isPrefixOf s = true) : w.length + (s.drop w.length).length = s.length := by
  have := (List.isPrefixOf_iff_prefix.1 h).length_le
  rw [List.length_drop]; omega
theorem mkW_len {u : Bs} {c : UInt8} {r : Bs} (h : mkW u = some (c, r)) : r.length + 4 ≤ u.length := by
  unfold mkW at h
  split at h
  · rename_i k; cases h; have := pre_len k; simp at this ⊢; omega
  split at h
  · rename_i k; cases h; have := pre_len k; simp at this ⊢; omega
  split at h
  · rename_i k; cases h; have := pre_len k; simp at this ⊢; omega
  split at h
  · rename_i k; cases h; have := pre_len k; simp at this ⊢; omega
  · cases h
theorem preV_some {a : Bs} {o : Option (Bs × Bs)} {p : Bs × Bs} (h : preV a o = some p) : ∃ q, o = some q ∧ p = (a ++ q.1, q.2) := by
  cases o with
  | none => cases h
  | some q => cases h; exact ⟨q, rfl, rfl⟩
theorem preA_some {a : List (Bs × Bs)} {o : Option (List (Bs × Bs) × Bs)} {p : List (Bs × Bs) × Bs} (h : preA a o = some p) : ∃ q, o = some q ∧ p = (a ++ q.1, q.2) := by
  cases o with
  | none => cases h
  | some q => cases h; exact ⟨q, rfl, rfl⟩
theorem preK_some {a : List Nd} {o : Option (List Nd × Bs)} {p : List Nd × Bs} (h : preK a o = some p) : ∃ q, o = some q ∧ p = (a ++ q.1, q.2) := by
  cases o with
  | none => cases h
  | some q => cases h; exact ⟨q, rfl, rfl⟩
theorem rdV_len : ∀ (f : Nat) (s : Bs) (p : Bs × Bs), rdV f s = some p → p.1.length + p.2.length + 1 ≤ s.length
  | 0, _, _, h => by cases h
  | f + 1, s, p, h => by
    have ht := tkM_len s
    rw [rdV] at h
    split at h
    · rename_i k
      cases h
      have := pre_len k
      simp at this ⊢
      omega
    · cases hm : mkW (drM s) with
      | none => rw [hm] at h; cases h
      | some q =>
        rw [hm] at h
        obtain ⟨q', hq, rfl⟩ := preV_some h
        have h1 := rdV_len f _ _ hq
        have h2 := mkW_len hm
        simp
        omega
theorem rdA1_len {r : Bs} {p : (Bs × Bs) × Bs} (h : rdA1 r = some p) : p.1.1.length + p.1.2.length + p.2.length + 3 ≤ r.length := by
  unfold rdA1 at h
  have ht := tkE_len r
  split at h
  · cases h
  split at h
  · rename_i k
    have hl := pre_len k
    split at h
    · cases h
    · rename_i q hq
      cases h
      have := rdV_len _ _ _ hq
      simp at hl this ⊢
      omega
  · cases h
theorem rdA_len : ∀ (f : Nat) (s : Bs) (p : List (Bs × Bs) × Bs), rdA f s = some p → p.2.length + 4 * p.1.length ≤ s.length ∧ ∀ a ∈ p.1, a.1.length ≤ s.length ∧ a.2.length ≤ s.length
  | 0, _, _, h => by cases h
  | f + 1, s, p, h => by
    rw [rdA] at h
    split at h
    · rename_i k
      have hl := pre_len k
      split at h
      · cases h
      · rename_i q hq
        have h1 := rdA1_len hq
        obtain ⟨q', hq', rfl⟩ := preA_some h
        have h2 := rdA_len f _ _ hq'
        simp at hl h1
        refine ⟨by simp; omega, fun a ha => ?_⟩
        simp at ha
        rcases ha with rfl | ha
        · omega
        · have := h2.2 a ha; omega
    · cases h
      simp
theorem rdK_len {el : Bs → Option (Nd × Bs)} (hel : ∀ s p, el s = some p → p.2.length + 1 ≤ s.length) : ∀ (f : Nat) (s : Bs) (p : List Nd × Bs), rdK el f s = some p → p.2.length + p.1.length ≤ s.length
  | 0, _, _, h => by cases h
  | f + 1, s, p, h => by
    rw [rdK] at h
    split at h
    · split at h
      · cases h
      · rename_i q hq
        have h1 := hel _ _ hq
        obtain ⟨q', hq', rfl⟩ := preK_some h
        have h2 := rdK_len hel f _ _ hq'
        simp
        omega
    · cases h
      simp
theorem rdN_len : ∀ (f : Nat) (s : Bs) (p : Nd × Bs), rdN f s = some p → p.2.length + 1 ≤ s.length
  | 0, _, _, h => by cases h
  | f + 1, s, p, h => by
    rw [rdN] at h
    split at h
    · rename_i k
      have hl := pre_len k
      have ht := tkE_len (s.drop 1)
      split at h
      · cases h
      split at h
      · cases h
      · rename_i a ha
        have h1 := (rdA_len _ _ _ ha).1
        split at h
        · cases h; simp at hl ht h1 ⊢; omega
        split at h
        · split at h
          · cases h
          · rename_i q hq
            have h2 := rdK_len (rdN_len f) _ _ _ hq
            split at h
            · cases h; simp at hl ht h1 h2 ⊢; omega
            · cases h
        · cases h
    · cases h

end Go.Proofs.YtdebekonggnckabDoor

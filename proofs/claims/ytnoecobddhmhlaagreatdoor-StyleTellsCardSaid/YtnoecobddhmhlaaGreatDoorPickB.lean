/-
  What the library's functions on texts answer, in the words of selectors.
-/
import Derived.Test.YtnoecobddhmhlaaGreatDoorJ1
import Derived.Lib.LastIndexByte
import Derived.Lib.Strings
import Derived.Lib.IndexAny
namespace Go.Proofs.YtnoecobddhmhlaaGreatDoor

theorem ba_at (s : Bs) (j : Nat) (c : UInt8) (h : s[j]? = some c) : ((⟨s.toArray⟩ : ByteArray).data[j]!) = c := by
  have hj := (List.getElem?_eq_some_iff.1 h).1
  have h2 := (List.getElem?_eq_some_iff.1 h).2
  simp [getElem!_pos, hj, h2]
theorem ba_size (s : Bs) : (⟨s.toArray⟩ : ByteArray).size = s.length := by simp [ByteArray.size]
theorem last_none {s : Bs} (h : lastB s = none) : Lib.lastIndexByte ⟨s.toArray⟩ 32 = -1 := by
  rcases Lib.lastIndexByte_spec ⟨s.toArray⟩ 32 with ⟨h1, -⟩ | ⟨i, hi, h1, h2, -⟩
  · exact h1
  · exfalso
    rw [ba_size] at hi
    have h3 : s[i]? = some s[i] := List.getElem?_eq_getElem hi
    rw [ba_at s i _ h3] at h2
    have h4 : s[i] = 32 := by
      rw [← UInt8.toNat_inj]
      have : ((32 : UInt8).toNat : Int) = 32 := rfl
      omega
    exact lastB_none h (by rw [← h4]; exact List.getElem_mem hi)
theorem last_some {s a b : Bs} (h : lastB s = some (a, b)) : Lib.lastIndexByte ⟨s.toArray⟩ 32 = a.length := by
  obtain ⟨h1, h2⟩ := lastB_some h
  have ha : s[a.length]? = some 32 := by rw [h1]; simp
  rcases Lib.lastIndexByte_spec ⟨s.toArray⟩ 32 with ⟨-, h3⟩ | ⟨i, hi, h3, h4, h5⟩
  · exfalso
    have h6 := h3 a.length (by rw [ba_size, h1]; simp)
    rw [ba_at s _ _ ha] at h6
    exact h6 rfl
  · rw [h3]
    rw [ba_size] at hi h5
    have h6 : s[i]? = some s[i] := List.getElem?_eq_getElem hi
    rw [ba_at s i _ h6] at h4
    have h7 : s[i] = 32 := by
      rw [← UInt8.toNat_inj]
      have : ((32 : UInt8).toNat : Int) = 32 := rfl
      omega
    rcases Nat.lt_trichotomy i a.length with hlt | heq | hgt
    · exfalso
      have h8 := h5 a.length hlt (by rw [h1]; simp)
      rw [ba_at s _ _ ha] at h8
      exact h8 rfl
    · rw [heq]
    · exfalso
      rw [h7, h1, List.getElem?_append_right (by omega)] at h6
      obtain ⟨k, hk⟩ : ∃ k, i - a.length = k + 1 := ⟨i - a.length - 1, by omega⟩
      rw [hk, List.getElem?_cons_succ] at h6
      exact h2 (List.mem_of_getElem? h6)
theorem suf_iff (a p : Bs) : Lib.hasSuffix a p = decide (a.drop (a.length - p.length) = p) := by
  unfold Lib.hasSuffix
  rw [Bool.eq_iff_iff, decide_eq_true_eq, List.isSuffixOf_iff_suffix]
  constructor
  · rintro ⟨t, rfl⟩
    rw [List.length_append, Nat.add_sub_cancel, List.drop_left]
  · intro h
    refine ⟨a.take (a.length - p.length), ?_⟩
    have h2 := List.take_append_drop (a.length - p.length) a
    rw [h] at h2
    exact h2
theorem suf_off (a : Bs) : Lib.hasSuffix a [32, 62] = (offG a).isSome ∧ Lib.trimSuffix a [32, 62] = (offG a).getD a := by
  unfold Lib.trimSuffix
  rw [suf_iff]
  unfold offG
  show (decide (a.drop (a.length - 2) = [32, 62]) = _) ∧ (if decide (a.drop (a.length - 2) = [32, 62]) = true then a.take (a.length - 2) else a) = _
  by_cases h : a.drop (a.length - 2) = [32, 62]
  · rw [if_pos h, if_pos (decide_eq_true h), decide_eq_true h]
    exact ⟨rfl, rfl⟩
  · rw [if_neg h, if_neg (by simpa using h), decide_eq_false h]
    exact ⟨rfl, rfl⟩
theorem any_mk (c : UInt8) : ([35, 46, 91] : List UInt8).contains c = isMk c := by
  unfold isMk
  rw [List.contains_cons, List.contains_cons, List.contains_cons, List.contains_nil, Bool.or_false, Bool.or_assoc]
theorem any_none : ∀ {s : Bs}, firstMk s = none → Lib.indexAny s [35, 46, 91] = -1
  | [], _ => rfl
  | c :: s, h => by
    rw [firstMk] at h
    split at h
    · cases h
    · rename_i hc
      have hs : firstMk s = none := by
        cases hs : firstMk s with
        | none => rfl
        | some x => rw [hs] at h; cases h
      rw [Lib.indexAny, any_mk, if_neg hc, any_none hs]
      rfl
theorem any_some : ∀ {s a r : Bs} {m : UInt8}, firstMk s = some (a, m, r) → Lib.indexAny s [35, 46, 91] = a.length
  | [], _, _, _, h => by simp [firstMk] at h
  | c :: s, a, r, m, h => by
    rw [firstMk] at h
    split at h
    · rename_i hc
      cases h
      rw [Lib.indexAny, any_mk, if_pos hc]
      rfl
    · rename_i hc
      cases hs : firstMk s with
      | none => rw [hs] at h; cases h
      | some x =>
        obtain ⟨x1, x2, x3⟩ := x
        rw [hs] at h
        cases h
        have h1 := any_some hs
        rw [Lib.indexAny, any_mk, if_neg hc, h1, if_neg (by rw [beq_iff_eq]; omega)]
        show (x1.length : Int) + 1 = ((c :: x1 : Bs).length : Int)
        rw [List.length_cons]
        omega

end Go.Proofs.YtnoecobddhmhlaaGreatDoor

/-
  Names that are counted, as plain mathematics.
-/
import Derived.Test.YtmbdojcljgicaaaGreatDoorPaintM
import Derived.Sort.KeysCollected
namespace Go.Proofs.YtmbdojcljgicaaaGreatDoor
open Go.Sort

abbrev By := List UInt8
/-- each once -/
def ded : List By → List By
  | [] => []
  | x :: l => if x ∈ l then ded l else x :: ded l
theorem ded_mem : ∀ (l : List By) (s : By), s ∈ ded l ↔ s ∈ l
  | [], s => Iff.rfl
  | x :: l, s => by
    rw [ded]
    by_cases h : x ∈ l
    · rw [if_pos h, ded_mem l s, List.mem_cons]
      constructor
      · exact .inr
      · rintro (rfl | h')
        · exact h
        · exact h'
    · rw [if_neg h, List.mem_cons, List.mem_cons, ded_mem l s]
theorem ded_nodup : ∀ l : List By, (ded l).Nodup
  | [] => List.nodup_nil
  | x :: l => by
    rw [ded]
    by_cases h : x ∈ l
    · rw [if_pos h]; exact ded_nodup l
    · rw [if_neg h, List.nodup_cons]
      exact ⟨fun h' => h ((ded_mem l x).1 h'), ded_nodup l⟩
/-- how often these stand there in all -/
def sumC (T : List By) : List By → Nat
  | [] => 0
  | s :: l => T.count s + sumC T l
theorem sumC_app (T : List By) (a b : List By) : sumC T (a ++ b) = sumC T a + sumC T b := by
  induction a with
  | nil => simp [sumC]
  | cons s a ih => rw [List.cons_append, sumC, sumC, ih]; omega
theorem sumC_perm (T : List By) {a b : List By} (h : a.Perm b) : sumC T a = sumC T b := by
  induction h with
  | nil => rfl
  | cons x _ ih => rw [sumC, sumC, ih]
  | swap x y l => simp only [sumC]; omega
  | trans _ _ h1 h2 => exact h1.trans h2
theorem sumC_other (x : By) (T : List By) : ∀ l : List By, x ∉ l → sumC (x :: T) l = sumC T l
  | [], _ => rfl
  | s :: l, h => by
    rw [List.mem_cons, not_or] at h
    rw [sumC, sumC, sumC_other x T l h.2, List.count_cons_of_ne h.1]
theorem sumC_once (x : By) (T : List By) : ∀ l : List By, l.Nodup → x ∈ l → sumC (x :: T) l = sumC T l + 1
  | [], _, h => by cases h
  | s :: l, hn, h => by
    rw [List.nodup_cons] at hn
    rw [sumC, sumC]
    by_cases e : x = s
    · subst e
      rw [List.count_cons_self, sumC_other x T l hn.1]
      omega
    · rcases List.mem_cons.1 h with h | h
      · exact absurd h e
      · rw [sumC_once x T l hn.2 h, List.count_cons_of_ne e]
        omega
theorem sumC_ded : ∀ T : List By, sumC T (ded T) = T.length
  | [] => rfl
  | x :: l => by
    rw [ded]
    by_cases h : x ∈ l
    · rw [if_pos h, sumC_once x l (ded l) (ded_nodup l) ((ded_mem l x).2 h), sumC_ded l, List.length_cons]
    · rw [if_neg h, sumC, List.count_cons_self, List.count_eq_zero.2 h, sumC_other x l (ded l) (fun h' => h ((ded_mem l x).1 h')), sumC_ded l, List.length_cons]
      omega
/-- What is told of names: rising, each that stands there once, counted. -/
structure NamesOf (T : List By) (N : List By) : Prop where
  perm : N.Perm (ded T)
  rise : N.Pairwise fun x y => x ≤ y
theorem NamesOf.mem {T N : List By} (h : NamesOf T N) {s : By} (hs : s ∈ N) : s ∈ T := (ded_mem T s).1 (h.perm.mem_iff.1 hs)
theorem NamesOf.sum {T N : List By} (h : NamesOf T N) : sumC T N = T.length := (sumC_perm T h.perm).trans (sumC_ded T)
theorem NamesOf.nodup {T N : List By} (h : NamesOf T N) : N.Nodup := h.perm.nodup_iff.2 (ded_nodup T)
theorem NamesOf.pos {T N : List By} (h : NamesOf T N) {s : By} (hs : s ∈ N) : 0 < T.count s := List.count_pos_iff.2 (h.mem hs)
theorem NamesOf.lt {T N : List By} (h : NamesOf T N) {i : Nat} {x y : By} (hx : N[i]? = some x) (hy : N[i + 1]? = some y) : ¬ y ≤ x := by
  obtain ⟨hi, ex⟩ := List.getElem?_eq_some_iff.1 hx
  obtain ⟨hj, ey⟩ := List.getElem?_eq_some_iff.1 hy
  have h1 : x ≤ y := by
    have := List.pairwise_iff_getElem.1 h.rise i (i + 1) hi hj (by omega)
    rw [ex, ey] at this
    exact this
  intro h2
  have e : x = y := List.le_antisymm h1 h2
  have := List.pairwise_iff_getElem.1 h.nodup i (i + 1) hi hj (by omega)
  rw [ex, ey] at this
  exact this e
theorem names_sorted {T ss : List By} (h : ss.Perm (ded T)) : NamesOf T (ss.mergeSort leB) := by
  refine ⟨(List.mergeSort_perm ss leB).trans h, ?_⟩
  have := List.pairwise_mergeSort (le := leB) (fun a b c hab hbc => by simp only [leB, decide_eq_true_eq] at *; exact List.le_trans hab hbc) (fun a b => by simp only [leB, Bool.or_eq_true, decide_eq_true_eq]; exact List.le_total a b) ss
  exact this.imp (fun h => by simpa [leB] using h)
end Go.Proofs.YtmbdojcljgicaaaGreatDoor

/-
  The document's FracText, FracMake and FracCmp (leadlightref1), walked.
-/
import Derived.Test.YtdeahgbjkogjgaaDoorDec1
import Derived.Test.YtdeahgbjkogjgaaDoorRef2
namespace Go.Proofs.YtdeahgbjkogjgaaDoor
open Go.RowKit

theorem Decimal_at (n : Int) (s : ByteArray) (w : World) (hn : I64 n) (hs : (⟨(Lib.itoa n).toArray⟩ : ByteArray) = s) :
    Calls Tryd.prog 37 #[.int .i64 n] w fun e w' => e = .returned (.string s) ∧ Below w.heap.size w w' := by
  subst hs; exact Decimal_any n w hn

set_option maxHeartbeats 1000000 in
theorem FracText_any (n d : Int) (w : World) (hn : I64 n) (hd : I64 d) :
    Calls Tryd.prog 18 #[.agg #[.int .i64 n, .int .i64 d]] w fun e w' => e = .returned (.string ⟨(txt n d).toArray⟩) ∧ Below w.heap.size w w' := by
  by_cases hd1 : d = 1
  · subst hd1
    have ht : txt n 1 = Lib.itoa n := by unfold txt; rw [if_pos rfl]
    rw [ht]
    go_enter Tryd.func18, Tryd.ntmps18
    go_wp2_with (go_at_call 37; refine (Decimal_any _ _ hn).mono ?_; rintro e w1 ⟨rfl, hb⟩)
    go_ret
    exact ⟨rfl, ((Below.refl _ _).alloc (Nat.le_refl _) _).trans (hb.mono (by simp))⟩
  · obtain ⟨sn, en, zn, ln⟩ := itoa_some n hn
    obtain ⟨sd, ed, zd, ld⟩ := itoa_some d hd
    have ht : (⟨(txt n d).toArray⟩ : ByteArray) = sn ++ ⟨#[47]⟩ ++ sd := by
      unfold txt
      rw [if_neg hd1, ← en, ← ed]
      apply ByteArray.ext
      simp
    rw [ht]
    have EN : Hid ((⟨(Lib.itoa n).toArray⟩ : ByteArray) = sn) := en
    have ED : Hid ((⟨(Lib.itoa d).toArray⟩ : ByteArray) = sd) := ed
    have hA : ¬ 9223372036854775807 < sn.size + 1 := by omega
    have hB : ¬ 9223372036854775807 < sn.size + 1 + sd.size := by omega
    clear ht en ed ln ld
    go_enter Tryd.func18, Tryd.ntmps18
    go_wp2
    go_region_held3 (fun w' => w'.cell? ⟨w.heap.size, 0, none⟩ = some (.int .i64 n) ∧ w'.cell? ⟨w.heap.size, 1, none⟩ = some (.int .i64 d)) (go_keep) (first | (go_at_call_of 37 (Value.int IntKind.i64 n); refine (Decimal_at _ sn _ hn EN.out).mono ?_; rintro e w1 ⟨rfl, hb⟩; obtain ⟨s1, s2, s3, s4⟩ := Two.below ((Two.new w _ _ _).drewN 1) hb (Nat.le_refl _)) | (go_at_call_of 37 (Value.int IntKind.i64 d); have hgd := hb; clear hgd; refine (Decimal_at _ sd _ hd ED.out).mono ?_; rintro e w2 ⟨rfl, hb2⟩; obtain ⟨u1, u2, u3, u4⟩ := Two.below ⟨s1, s2, s3, s4⟩ hb2 (Nat.le_refl _)))
    go_wp2
    go_ret
    exact ⟨rfl, (((Below.refl _ _).alloc (Nat.le_refl _) _).drew.trans (hb.mono (by simp))).trans (hb2.mono (by have := hb.size; simp at this; omega))⟩

set_option maxHeartbeats 1000000 in
theorem FracMake_any (n d : Int) (w : World) (hn : I64 n) (hd : I64 d) :
    Calls Tryd.prog 14 #[.int .i64 n, .int .i64 d] w fun e w' => e = .returned (.tuple #[.agg #[.int .i64 (mk n d).n, .int .i64 (mk n d).d], .int .i64 (mk n d).c]) ∧ Below w.heap.size w w' := by
  obtain ⟨n1, n2⟩ := hn
  obtain ⟨d1, d2⟩ := hd
  by_cases hd0 : d = 0
  · subst hd0
    have hm : mk n 0 = ⟨0, 0, 11⟩ := by unfold mk; rw [if_pos rfl]
    rw [hm]; clear hm
    go_enter Tryd.func14, Tryd.ntmps14
    go_wp2
    refine bodyPost_ret (v := .tuple #[.agg #[.int .i64 0, .int .i64 0], .int .i64 11]) (by simp [results, Tryd.results14, go_sem]) rfl ⟨rfl, ?_⟩
    exact (Below.refl _ _).alloc (Nat.le_refl _) _
  rcases Bool.eq_false_or_eq_true (isBig n) with b1 | b1
  · have hm : mk n d = ⟨0, 0, 2⟩ := by unfold mk; rw [if_neg hd0, if_pos (Or.inl b1)]
    rw [hm]; clear hm
    go_enter Tryd.func14, Tryd.ntmps14
    go_wp2_with (go_at_call 32; refine (isSmall_any _ _).mono ?_; rintro e w' ⟨rfl, rfl⟩)
    refine bodyPost_ret (v := .tuple #[.agg #[.int .i64 0, .int .i64 0], .int .i64 2]) (by simp [results, Tryd.results14, go_sem]) rfl ⟨rfl, ?_⟩
    exact (Below.refl _ _).alloc (Nat.le_refl _) _
  rcases Bool.eq_false_or_eq_true (isBig d) with b2 | b2
  · have hm : mk n d = ⟨0, 0, 2⟩ := by unfold mk; rw [if_neg hd0, if_pos (Or.inr b2)]
    rw [hm]; clear hm
    go_enter Tryd.func14, Tryd.ntmps14
    go_wp2_with (go_at_call 32; refine (isSmall_any _ _).mono ?_; rintro e w' ⟨rfl, rfl⟩)
    refine bodyPost_ret (v := .tuple #[.agg #[.int .i64 0, .int .i64 0], .int .i64 2]) (by simp [results, Tryd.results14, go_sem]) rfl ⟨rfl, ?_⟩
    exact (Below.refl _ _).alloc (Nat.le_refl _) _
  have hm : mk n d = low n d := by unfold mk; rw [if_neg hd0, if_neg (by simp [b1, b2])]
  rw [hm]; clear hm
  have l1 := isBig_false.1 b1
  have l2 := isBig_false.1 b2
  have l11 : -1073741824 ≤ n := by omega
  have l12 : n ≤ 1073741824 := by omega
  have l21 : -1073741824 ≤ d := by omega
  have l22 : d ≤ 1073741824 := by omega
  clear l1 l2
  go_enter Tryd.func14, Tryd.ntmps14
  go_wp2_with (first | (go_at_call 32; refine (isSmall_any _ _).mono ?_; rintro e w' ⟨rfl, rfl⟩) | (go_at_call 33; refine (rlowest_any _ _ _ (by omega) (by omega) hd0 (by omega) (by omega)).mono ?_; rintro e w2 ⟨rfl, hb2⟩; obtain ⟨s1, s2, s3, s4⟩ := Two.below (Two.new w _ _ _) hb2 (Nat.le_refl _)))
  refine bodyPost_ret (v := .tuple #[.agg #[.int .i64 (low n d).n, .int .i64 (low n d).d], .int .i64 (low n d).c]) (by simp [results, Tryd.results14, go_sem, s1, s2]) rfl ⟨rfl, ?_⟩
  exact ((((Below.refl _ _).alloc (Nat.le_refl _) _).trans (hb2.mono (by simp))).setCell (Nat.le_refl _) _).setCell (Nat.le_refl _) _

set_option maxHeartbeats 1000000 in
theorem FracCmp_any (an ad bn bd : Int) (w : World) (ha : chk an ad = 0) (hb : chk bn bd = 0) :
    Calls Tryd.prog 22 #[.agg #[.int .i64 an, .int .i64 ad], .agg #[.int .i64 bn, .int .i64 bd]] w fun e w' => e = .returned (.int .i64 (cmpF an ad bn bd)) ∧ Below w.heap.size w w' := by
  obtain ⟨a1, _, a3, a4⟩ := chk_zero.1 ha
  obtain ⟨b1, _, b3, b4⟩ := chk_zero.1 hb
  obtain ⟨m11, m12⟩ := mul_bound a3 b4
  obtain ⟨m31, m32⟩ := mul_bound b3 a4
  have hB : ∀ o o', Below w.heap.size w ((w.alloc o).alloc o') := fun o o' => ((Below.refl _ _).alloc (Nat.le_refl _) o).alloc (by simp) o'
  have HB : Hid (∀ o o', Below w.heap.size w ((w.alloc o).alloc o')) := hB
  unfold cmpF
  clear ha hb a1 a3 a4 b1 b3 b4 hB
  rcases Int.lt_trichotomy (an * bd - bn * ad) 0 with h | h | h
  · have e : sgn (an * bd - bn * ad) = -1 := by unfold sgn; rw [if_pos h]
    rw [e]; clear e
    go_enter Tryd.func22, Tryd.ntmps22
    go_wp2
    go_ret
    exact ⟨rfl, HB.out _ _⟩
  · have e : sgn (an * bd - bn * ad) = 0 := by rw [h]; rfl
    rw [e]; clear e
    have h1 : ¬ an * bd - bn * ad < 0 := by omega
    have h2 : ¬ 0 < an * bd - bn * ad := by omega
    clear h
    go_enter Tryd.func22, Tryd.ntmps22
    go_wp2
    go_ret
    exact ⟨rfl, HB.out _ _⟩
  · have e : sgn (an * bd - bn * ad) = 1 := by unfold sgn; rw [if_neg (by omega), if_pos h]
    rw [e]; clear e
    go_enter Tryd.func22, Tryd.ntmps22
    go_wp2
    go_ret
    exact ⟨rfl, HB.out _ _⟩
end Go.Proofs.YtdeahgbjkogjgaaDoor

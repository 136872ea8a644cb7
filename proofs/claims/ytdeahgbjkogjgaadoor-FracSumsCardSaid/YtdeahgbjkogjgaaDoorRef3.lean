/-
  The document's answer for fractions (leadlightref1), walked: FracDo, for each of its four signs.
-/
import Derived.Test.YtdeahgbjkogjgaaDoorRef2
namespace Go.Proofs.YtdeahgbjkogjgaaDoor
open Go.RowKit

theorem rlowest_at (n d : Int) (r : R3) (w : World) (n1 : -9223372036854775807 ≤ n) (n2 : n ≤ 9223372036854775807) (d0 : d ≠ 0) (d1 : -9223372036854775807 ≤ d) (d2 : d ≤ 9223372036854775807) (hr : low n d = r) :
    Calls Tryd.prog 33 #[.int .i64 n, .int .i64 d] w fun e w' => e = .returned (.tuple #[.agg #[.int .i64 r.n, .int .i64 r.d], .int .i64 r.c]) ∧ Below w.heap.size w w' := by
  subst hr; exact rlowest_any n d w n1 n2 d0 d1 d2

set_option maxHeartbeats 2000000 in
theorem FracDo_add (an ad bn bd : Int) (w : World) (i1 : I64 an) (i2 : I64 ad) (i3 : I64 bn) (i4 : I64 bd) :
    Calls Tryd.prog 27 #[.int .u8 43, .agg #[.int .i64 an, .int .i64 ad], .agg #[.int .i64 bn, .int .i64 bd]] w fun e w' => e = .returned (.tuple #[.agg #[.int .i64 (add an ad bn bd).n, .int .i64 (add an ad bn bd).d], .int .i64 (add an ad bn bd).c]) ∧ Below w.heap.size w w' := by
  have hn1 : ¬ w.heap.size + 1 + 1 = w.heap.size := by omega
  have hn2 : ¬ w.heap.size = w.heap.size + 1 + 1 := by omega
  by_cases ha : chk an ad = 0
  · have HA : Hid (chk an ad = 0) := ha
    by_cases hb : chk bn bd = 0
    · have HB : Hid (chk bn bd = 0) := hb
      have hop : add an ad bn bd = low (an * bd + bn * ad) (ad * bd) := by unfold add; rw [if_neg (by simp [ha]), if_neg (by simp [hb])]
      rw [hop]
      obtain ⟨a1, _, a3, a4⟩ := chk_zero.1 ha
      obtain ⟨b1, _, b3, b4⟩ := chk_zero.1 hb
      obtain ⟨m01, m02⟩ := mul_bound a3 b4
      obtain ⟨m11, m12⟩ := mul_bound b3 a4
      obtain ⟨m21, m22⟩ := mul_bound a4 b4
      have m0 : ad * bd ≠ 0 := Int.mul_ne_zero (by omega) (by omega)
      obtain ⟨r, hr⟩ : ∃ r, low (an * bd + bn * ad) (ad * bd) = r := ⟨_, rfl⟩
      rw [hr]
      have HL : Hid (low (an * bd + bn * ad) (ad * bd) = r) := hr
      clear ha hb hop hr a1 a3 a4 b1 b3 b4
      go_enter Tryd.func27, Tryd.ntmps27
      go_wp2_with (first | (go_at_call 33; refine (rlowest_at _ _ r _ (by omega) (by omega) m0 (by omega) (by omega) HL.out).mono ?_; rintro e w3 ⟨rfl, hb3⟩; obtain ⟨t1, t2, t3, t4⟩ := Two.below ⟨s1, s2, s3, s4⟩ hb3 (Nat.le_refl _)) | (go_at_call 16; have hgd := hz; clear hgd; refine (FracError_at _ _ 0 _ i3 i4 HB.out).mono ?_; rintro e w2 ⟨rfl, hb2⟩; obtain ⟨u1, u2, u3, u4⟩ := Two.below ⟨p1, p2, p3, p4⟩ hb2 (Nat.le_refl _); obtain ⟨v1, v2, v3, v4⟩ := Two.below ⟨q1, q2, q3, q4⟩ hb2 (Nat.le_refl _); obtain ⟨s1, s2, s3, s4⟩ := Two.below ⟨r1, r2, r3, r4⟩ hb2 (Nat.le_refl _); clear p1 p2 p3 p4 q1 q2 q3 q4 r1 r2 r3 r4) | (go_at_call 16; refine (FracError_at _ _ 0 _ i1 i2 HA.out).mono ?_; rintro e w1 ⟨rfl, hb⟩; obtain ⟨⟨p1, p2, p3, p4⟩, ⟨q1, q2, q3, q4⟩, ⟨r1, r2, r3, r4⟩, hw, hz⟩ := three hb; clear hb))
      refine bodyPost_ret (v := .tuple #[.agg #[.int .i64 r.n, .int .i64 r.d], .int .i64 r.c]) (by simp [results, Tryd.results27, go_sem, t1, t2]) rfl ⟨rfl, ?_⟩
      exact (((hw.trans (hb2.mono (by omega))).trans (hb3.mono (by have := hb2.size; omega))).setCell (by simp; omega) _).setCell (by simp; omega) _
    · have hop := add_err (an := an) (ad := ad) (bn := bn) (bd := bd) (fun h => hb h.2)
      have hc2 : chk2 an ad bn bd = chk bn bd := by unfold chk2; rw [if_neg (by simp [ha])]
      rw [hop, hc2]
      obtain ⟨c, hc, hc'⟩ : ∃ c : Nat, chk bn bd = c ∧ (c = 2 ∨ c = 3) := ⟨_, rfl, by rcases chk_cases bn bd with h | h | h <;> simp_all⟩
      rw [hc]
      have HB : Hid (chk bn bd = c) := hc
      clear ha hb hop hc2 hc
      rcases hc' with rfl | rfl
      · go_enter Tryd.func27, Tryd.ntmps27
        go_wp2_with (first | (go_at_call 16; have hgd := hz; clear hgd; refine (FracError_at _ _ 2 _ i3 i4 HB.out).mono ?_; rintro e w2 ⟨rfl, hb2⟩; obtain ⟨u1, u2, u3, u4⟩ := Two.below ⟨p1, p2, p3, p4⟩ hb2 (Nat.le_refl _); obtain ⟨v1, v2, v3, v4⟩ := Two.below ⟨q1, q2, q3, q4⟩ hb2 (Nat.le_refl _); obtain ⟨s1, s2, s3, s4⟩ := Two.below ⟨r1, r2, r3, r4⟩ hb2 (Nat.le_refl _); clear p1 p2 p3 p4 q1 q2 q3 q4 r1 r2 r3 r4) | (go_at_call 16; refine (FracError_at _ _ 0 _ i1 i2 HA.out).mono ?_; rintro e w1 ⟨rfl, hb⟩; obtain ⟨⟨p1, p2, p3, p4⟩, ⟨q1, q2, q3, q4⟩, ⟨r1, r2, r3, r4⟩, hw, hz⟩ := three hb; clear hb))
        refine bodyPost_ret (v := .tuple #[.agg #[.int .i64 0, .int .i64 0], .int .i64 2]) (by simp [results, Tryd.results27, go_sem, s1, s2]) rfl ⟨rfl, ?_⟩
        exact ((hw.trans (hb2.mono (by omega))).setCell (by simp; omega) _).setCell (by simp; omega) _
      · go_enter Tryd.func27, Tryd.ntmps27
        go_wp2_with (first | (go_at_call 16; have hgd := hz; clear hgd; refine (FracError_at _ _ 3 _ i3 i4 HB.out).mono ?_; rintro e w2 ⟨rfl, hb2⟩; obtain ⟨u1, u2, u3, u4⟩ := Two.below ⟨p1, p2, p3, p4⟩ hb2 (Nat.le_refl _); obtain ⟨v1, v2, v3, v4⟩ := Two.below ⟨q1, q2, q3, q4⟩ hb2 (Nat.le_refl _); obtain ⟨s1, s2, s3, s4⟩ := Two.below ⟨r1, r2, r3, r4⟩ hb2 (Nat.le_refl _); clear p1 p2 p3 p4 q1 q2 q3 q4 r1 r2 r3 r4) | (go_at_call 16; refine (FracError_at _ _ 0 _ i1 i2 HA.out).mono ?_; rintro e w1 ⟨rfl, hb⟩; obtain ⟨⟨p1, p2, p3, p4⟩, ⟨q1, q2, q3, q4⟩, ⟨r1, r2, r3, r4⟩, hw, hz⟩ := three hb; clear hb))
        refine bodyPost_ret (v := .tuple #[.agg #[.int .i64 0, .int .i64 0], .int .i64 3]) (by simp [results, Tryd.results27, go_sem, s1, s2]) rfl ⟨rfl, ?_⟩
        exact ((hw.trans (hb2.mono (by omega))).setCell (by simp; omega) _).setCell (by simp; omega) _
  · have hop := add_err (an := an) (ad := ad) (bn := bn) (bd := bd) (fun h => ha h.1)
    have hc2 : chk2 an ad bn bd = chk an ad := by unfold chk2; rw [if_pos ha]
    rw [hop, hc2]
    obtain ⟨c, hc, hc'⟩ : ∃ c : Nat, chk an ad = c ∧ (c = 2 ∨ c = 3) := ⟨_, rfl, by rcases chk_cases an ad with h | h | h <;> simp_all⟩
    rw [hc]
    have HA : Hid (chk an ad = c) := hc
    clear ha hop hc2 hc
    rcases hc' with rfl | rfl
    · go_enter Tryd.func27, Tryd.ntmps27
      go_wp2_with (go_at_call 16; refine (FracError_at _ _ 2 _ i1 i2 HA.out).mono ?_; rintro e w1 ⟨rfl, hb⟩; obtain ⟨⟨p1, p2, p3, p4⟩, ⟨q1, q2, q3, q4⟩, ⟨r1, r2, r3, r4⟩, hw, hz⟩ := three hb; clear hb)
      refine bodyPost_ret (v := .tuple #[.agg #[.int .i64 0, .int .i64 0], .int .i64 2]) (by simp [results, Tryd.results27, go_sem, r1, r2]) rfl ⟨rfl, ?_⟩
      exact (hw.setCell (by simp; omega) _).setCell (by simp; omega) _
    · go_enter Tryd.func27, Tryd.ntmps27
      go_wp2_with (go_at_call 16; refine (FracError_at _ _ 3 _ i1 i2 HA.out).mono ?_; rintro e w1 ⟨rfl, hb⟩; obtain ⟨⟨p1, p2, p3, p4⟩, ⟨q1, q2, q3, q4⟩, ⟨r1, r2, r3, r4⟩, hw, hz⟩ := three hb; clear hb)
      refine bodyPost_ret (v := .tuple #[.agg #[.int .i64 0, .int .i64 0], .int .i64 3]) (by simp [results, Tryd.results27, go_sem, r1, r2]) rfl ⟨rfl, ?_⟩
      exact (hw.setCell (by simp; omega) _).setCell (by simp; omega) _

set_option maxHeartbeats 2000000 in
theorem FracDo_sub (an ad bn bd : Int) (w : World) (i1 : I64 an) (i2 : I64 ad) (i3 : I64 bn) (i4 : I64 bd) :
    Calls Tryd.prog 27 #[.int .u8 45, .agg #[.int .i64 an, .int .i64 ad], .agg #[.int .i64 bn, .int .i64 bd]] w fun e w' => e = .returned (.tuple #[.agg #[.int .i64 (sub an ad bn bd).n, .int .i64 (sub an ad bn bd).d], .int .i64 (sub an ad bn bd).c]) ∧ Below w.heap.size w w' := by
  have hn1 : ¬ w.heap.size + 1 + 1 = w.heap.size := by omega
  have hn2 : ¬ w.heap.size = w.heap.size + 1 + 1 := by omega
  by_cases ha : chk an ad = 0
  · have HA : Hid (chk an ad = 0) := ha
    by_cases hb : chk bn bd = 0
    · have HB : Hid (chk bn bd = 0) := hb
      have hop : sub an ad bn bd = low (an * bd - bn * ad) (ad * bd) := by unfold sub; rw [if_neg (by simp [ha]), if_neg (by simp [hb])]
      rw [hop]
      obtain ⟨a1, _, a3, a4⟩ := chk_zero.1 ha
      obtain ⟨b1, _, b3, b4⟩ := chk_zero.1 hb
      obtain ⟨m01, m02⟩ := mul_bound a3 b4
      obtain ⟨m11, m12⟩ := mul_bound b3 a4
      obtain ⟨m21, m22⟩ := mul_bound a4 b4
      have m0 : ad * bd ≠ 0 := Int.mul_ne_zero (by omega) (by omega)
      obtain ⟨r, hr⟩ : ∃ r, low (an * bd - bn * ad) (ad * bd) = r := ⟨_, rfl⟩
      rw [hr]
      have HL : Hid (low (an * bd - bn * ad) (ad * bd) = r) := hr
      clear ha hb hop hr a1 a3 a4 b1 b3 b4
      go_enter Tryd.func27, Tryd.ntmps27
      go_wp2_with (first | (go_at_call 33; refine (rlowest_at _ _ r _ (by omega) (by omega) m0 (by omega) (by omega) HL.out).mono ?_; rintro e w3 ⟨rfl, hb3⟩; obtain ⟨t1, t2, t3, t4⟩ := Two.below ⟨s1, s2, s3, s4⟩ hb3 (Nat.le_refl _)) | (go_at_call 16; have hgd := hz; clear hgd; refine (FracError_at _ _ 0 _ i3 i4 HB.out).mono ?_; rintro e w2 ⟨rfl, hb2⟩; obtain ⟨u1, u2, u3, u4⟩ := Two.below ⟨p1, p2, p3, p4⟩ hb2 (Nat.le_refl _); obtain ⟨v1, v2, v3, v4⟩ := Two.below ⟨q1, q2, q3, q4⟩ hb2 (Nat.le_refl _); obtain ⟨s1, s2, s3, s4⟩ := Two.below ⟨r1, r2, r3, r4⟩ hb2 (Nat.le_refl _); clear p1 p2 p3 p4 q1 q2 q3 q4 r1 r2 r3 r4) | (go_at_call 16; refine (FracError_at _ _ 0 _ i1 i2 HA.out).mono ?_; rintro e w1 ⟨rfl, hb⟩; obtain ⟨⟨p1, p2, p3, p4⟩, ⟨q1, q2, q3, q4⟩, ⟨r1, r2, r3, r4⟩, hw, hz⟩ := three hb; clear hb))
      refine bodyPost_ret (v := .tuple #[.agg #[.int .i64 r.n, .int .i64 r.d], .int .i64 r.c]) (by simp [results, Tryd.results27, go_sem, t1, t2]) rfl ⟨rfl, ?_⟩
      exact (((hw.trans (hb2.mono (by omega))).trans (hb3.mono (by have := hb2.size; omega))).setCell (by simp; omega) _).setCell (by simp; omega) _
    · have hop := sub_err (an := an) (ad := ad) (bn := bn) (bd := bd) (fun h => hb h.2)
      have hc2 : chk2 an ad bn bd = chk bn bd := by unfold chk2; rw [if_neg (by simp [ha])]
      rw [hop, hc2]
      obtain ⟨c, hc, hc'⟩ : ∃ c : Nat, chk bn bd = c ∧ (c = 2 ∨ c = 3) := ⟨_, rfl, by rcases chk_cases bn bd with h | h | h <;> simp_all⟩
      rw [hc]
      have HB : Hid (chk bn bd = c) := hc
      clear ha hb hop hc2 hc
      rcases hc' with rfl | rfl
      · go_enter Tryd.func27, Tryd.ntmps27
        go_wp2_with (first | (go_at_call 16; have hgd := hz; clear hgd; refine (FracError_at _ _ 2 _ i3 i4 HB.out).mono ?_; rintro e w2 ⟨rfl, hb2⟩; obtain ⟨u1, u2, u3, u4⟩ := Two.below ⟨p1, p2, p3, p4⟩ hb2 (Nat.le_refl _); obtain ⟨v1, v2, v3, v4⟩ := Two.below ⟨q1, q2, q3, q4⟩ hb2 (Nat.le_refl _); obtain ⟨s1, s2, s3, s4⟩ := Two.below ⟨r1, r2, r3, r4⟩ hb2 (Nat.le_refl _); clear p1 p2 p3 p4 q1 q2 q3 q4 r1 r2 r3 r4) | (go_at_call 16; refine (FracError_at _ _ 0 _ i1 i2 HA.out).mono ?_; rintro e w1 ⟨rfl, hb⟩; obtain ⟨⟨p1, p2, p3, p4⟩, ⟨q1, q2, q3, q4⟩, ⟨r1, r2, r3, r4⟩, hw, hz⟩ := three hb; clear hb))
        refine bodyPost_ret (v := .tuple #[.agg #[.int .i64 0, .int .i64 0], .int .i64 2]) (by simp [results, Tryd.results27, go_sem, s1, s2]) rfl ⟨rfl, ?_⟩
        exact ((hw.trans (hb2.mono (by omega))).setCell (by simp; omega) _).setCell (by simp; omega) _
      · go_enter Tryd.func27, Tryd.ntmps27
        go_wp2_with (first | (go_at_call 16; have hgd := hz; clear hgd; refine (FracError_at _ _ 3 _ i3 i4 HB.out).mono ?_; rintro e w2 ⟨rfl, hb2⟩; obtain ⟨u1, u2, u3, u4⟩ := Two.below ⟨p1, p2, p3, p4⟩ hb2 (Nat.le_refl _); obtain ⟨v1, v2, v3, v4⟩ := Two.below ⟨q1, q2, q3, q4⟩ hb2 (Nat.le_refl _); obtain ⟨s1, s2, s3, s4⟩ := Two.below ⟨r1, r2, r3, r4⟩ hb2 (Nat.le_refl _); clear p1 p2 p3 p4 q1 q2 q3 q4 r1 r2 r3 r4) | (go_at_call 16; refine (FracError_at _ _ 0 _ i1 i2 HA.out).mono ?_; rintro e w1 ⟨rfl, hb⟩; obtain ⟨⟨p1, p2, p3, p4⟩, ⟨q1, q2, q3, q4⟩, ⟨r1, r2, r3, r4⟩, hw, hz⟩ := three hb; clear hb))
        refine bodyPost_ret (v := .tuple #[.agg #[.int .i64 0, .int .i64 0], .int .i64 3]) (by simp [results, Tryd.results27, go_sem, s1, s2]) rfl ⟨rfl, ?_⟩
        exact ((hw.trans (hb2.mono (by omega))).setCell (by simp; omega) _).setCell (by simp; omega) _
  · have hop := sub_err (an := an) (ad := ad) (bn := bn) (bd := bd) (fun h => ha h.1)
    have hc2 : chk2 an ad bn bd = chk an ad := by unfold chk2; rw [if_pos ha]
    rw [hop, hc2]
    obtain ⟨c, hc, hc'⟩ : ∃ c : Nat, chk an ad = c ∧ (c = 2 ∨ c = 3) := ⟨_, rfl, by rcases chk_cases an ad with h | h | h <;> simp_all⟩
    rw [hc]
    have HA : Hid (chk an ad = c) := hc
    clear ha hop hc2 hc
    rcases hc' with rfl | rfl
    · go_enter Tryd.func27, Tryd.ntmps27
      go_wp2_with (go_at_call 16; refine (FracError_at _ _ 2 _ i1 i2 HA.out).mono ?_; rintro e w1 ⟨rfl, hb⟩; obtain ⟨⟨p1, p2, p3, p4⟩, ⟨q1, q2, q3, q4⟩, ⟨r1, r2, r3, r4⟩, hw, hz⟩ := three hb; clear hb)
      refine bodyPost_ret (v := .tuple #[.agg #[.int .i64 0, .int .i64 0], .int .i64 2]) (by simp [results, Tryd.results27, go_sem, r1, r2]) rfl ⟨rfl, ?_⟩
      exact (hw.setCell (by simp; omega) _).setCell (by simp; omega) _
    · go_enter Tryd.func27, Tryd.ntmps27
      go_wp2_with (go_at_call 16; refine (FracError_at _ _ 3 _ i1 i2 HA.out).mono ?_; rintro e w1 ⟨rfl, hb⟩; obtain ⟨⟨p1, p2, p3, p4⟩, ⟨q1, q2, q3, q4⟩, ⟨r1, r2, r3, r4⟩, hw, hz⟩ := three hb; clear hb)
      refine bodyPost_ret (v := .tuple #[.agg #[.int .i64 0, .int .i64 0], .int .i64 3]) (by simp [results, Tryd.results27, go_sem, r1, r2]) rfl ⟨rfl, ?_⟩
      exact (hw.setCell (by simp; omega) _).setCell (by simp; omega) _

set_option maxHeartbeats 2000000 in
theorem FracDo_mul (an ad bn bd : Int) (w : World) (i1 : I64 an) (i2 : I64 ad) (i3 : I64 bn) (i4 : I64 bd) :
    Calls Tryd.prog 27 #[.int .u8 42, .agg #[.int .i64 an, .int .i64 ad], .agg #[.int .i64 bn, .int .i64 bd]] w fun e w' => e = .returned (.tuple #[.agg #[.int .i64 (mul an ad bn bd).n, .int .i64 (mul an ad bn bd).d], .int .i64 (mul an ad bn bd).c]) ∧ Below w.heap.size w w' := by
  have hn1 : ¬ w.heap.size + 1 + 1 = w.heap.size := by omega
  have hn2 : ¬ w.heap.size = w.heap.size + 1 + 1 := by omega
  by_cases ha : chk an ad = 0
  · have HA : Hid (chk an ad = 0) := ha
    by_cases hb : chk bn bd = 0
    · have HB : Hid (chk bn bd = 0) := hb
      have hop : mul an ad bn bd = low (an * bn) (ad * bd) := by unfold mul; rw [if_neg (by simp [ha]), if_neg (by simp [hb])]
      rw [hop]
      obtain ⟨a1, _, a3, a4⟩ := chk_zero.1 ha
      obtain ⟨b1, _, b3, b4⟩ := chk_zero.1 hb
      obtain ⟨m01, m02⟩ := mul_bound a3 b3
      obtain ⟨m11, m12⟩ := mul_bound a4 b4
      have m0 : ad * bd ≠ 0 := Int.mul_ne_zero (by omega) (by omega)
      obtain ⟨r, hr⟩ : ∃ r, low (an * bn) (ad * bd) = r := ⟨_, rfl⟩
      rw [hr]
      have HL : Hid (low (an * bn) (ad * bd) = r) := hr
      clear ha hb hop hr a1 a3 a4 b1 b3 b4
      go_enter Tryd.func27, Tryd.ntmps27
      go_wp2_with (first | (go_at_call 33; refine (rlowest_at _ _ r _ (by omega) (by omega) m0 (by omega) (by omega) HL.out).mono ?_; rintro e w3 ⟨rfl, hb3⟩; obtain ⟨t1, t2, t3, t4⟩ := Two.below ⟨s1, s2, s3, s4⟩ hb3 (Nat.le_refl _)) | (go_at_call 16; have hgd := hz; clear hgd; refine (FracError_at _ _ 0 _ i3 i4 HB.out).mono ?_; rintro e w2 ⟨rfl, hb2⟩; obtain ⟨u1, u2, u3, u4⟩ := Two.below ⟨p1, p2, p3, p4⟩ hb2 (Nat.le_refl _); obtain ⟨v1, v2, v3, v4⟩ := Two.below ⟨q1, q2, q3, q4⟩ hb2 (Nat.le_refl _); obtain ⟨s1, s2, s3, s4⟩ := Two.below ⟨r1, r2, r3, r4⟩ hb2 (Nat.le_refl _); clear p1 p2 p3 p4 q1 q2 q3 q4 r1 r2 r3 r4) | (go_at_call 16; refine (FracError_at _ _ 0 _ i1 i2 HA.out).mono ?_; rintro e w1 ⟨rfl, hb⟩; obtain ⟨⟨p1, p2, p3, p4⟩, ⟨q1, q2, q3, q4⟩, ⟨r1, r2, r3, r4⟩, hw, hz⟩ := three hb; clear hb))
      refine bodyPost_ret (v := .tuple #[.agg #[.int .i64 r.n, .int .i64 r.d], .int .i64 r.c]) (by simp [results, Tryd.results27, go_sem, t1, t2]) rfl ⟨rfl, ?_⟩
      exact (((hw.trans (hb2.mono (by omega))).trans (hb3.mono (by have := hb2.size; omega))).setCell (by simp; omega) _).setCell (by simp; omega) _
    · have hop := mul_err (an := an) (ad := ad) (bn := bn) (bd := bd) (fun h => hb h.2)
      have hc2 : chk2 an ad bn bd = chk bn bd := by unfold chk2; rw [if_neg (by simp [ha])]
      rw [hop, hc2]
      obtain ⟨c, hc, hc'⟩ : ∃ c : Nat, chk bn bd = c ∧ (c = 2 ∨ c = 3) := ⟨_, rfl, by rcases chk_cases bn bd with h | h | h <;> simp_all⟩
      rw [hc]
      have HB : Hid (chk bn bd = c) := hc
      clear ha hb hop hc2 hc
      rcases hc' with rfl | rfl
      · go_enter Tryd.func27, Tryd.ntmps27
        go_wp2_with (first | (go_at_call 16; have hgd := hz; clear hgd; refine (FracError_at _ _ 2 _ i3 i4 HB.out).mono ?_; rintro e w2 ⟨rfl, hb2⟩; obtain ⟨u1, u2, u3, u4⟩ := Two.below ⟨p1, p2, p3, p4⟩ hb2 (Nat.le_refl _); obtain ⟨v1, v2, v3, v4⟩ := Two.below ⟨q1, q2, q3, q4⟩ hb2 (Nat.le_refl _); obtain ⟨s1, s2, s3, s4⟩ := Two.below ⟨r1, r2, r3, r4⟩ hb2 (Nat.le_refl _); clear p1 p2 p3 p4 q1 q2 q3 q4 r1 r2 r3 r4) | (go_at_call 16; refine (FracError_at _ _ 0 _ i1 i2 HA.out).mono ?_; rintro e w1 ⟨rfl, hb⟩; obtain ⟨⟨p1, p2, p3, p4⟩, ⟨q1, q2, q3, q4⟩, ⟨r1, r2, r3, r4⟩, hw, hz⟩ := three hb; clear hb))
        refine bodyPost_ret (v := .tuple #[.agg #[.int .i64 0, .int .i64 0], .int .i64 2]) (by simp [results, Tryd.results27, go_sem, s1, s2]) rfl ⟨rfl, ?_⟩
        exact ((hw.trans (hb2.mono (by omega))).setCell (by simp; omega) _).setCell (by simp; omega) _
      · go_enter Tryd.func27, Tryd.ntmps27
        go_wp2_with (first | (go_at_call 16; have hgd := hz; clear hgd; refine (FracError_at _ _ 3 _ i3 i4 HB.out).mono ?_; rintro e w2 ⟨rfl, hb2⟩; obtain ⟨u1, u2, u3, u4⟩ := Two.below ⟨p1, p2, p3, p4⟩ hb2 (Nat.le_refl _); obtain ⟨v1, v2, v3, v4⟩ := Two.below ⟨q1, q2, q3, q4⟩ hb2 (Nat.le_refl _); obtain ⟨s1, s2, s3, s4⟩ := Two.below ⟨r1, r2, r3, r4⟩ hb2 (Nat.le_refl _); clear p1 p2 p3 p4 q1 q2 q3 q4 r1 r2 r3 r4) | (go_at_call 16; refine (FracError_at _ _ 0 _ i1 i2 HA.out).mono ?_; rintro e w1 ⟨rfl, hb⟩; obtain ⟨⟨p1, p2, p3, p4⟩, ⟨q1, q2, q3, q4⟩, ⟨r1, r2, r3, r4⟩, hw, hz⟩ := three hb; clear hb))
        refine bodyPost_ret (v := .tuple #[.agg #[.int .i64 0, .int .i64 0], .int .i64 3]) (by simp [results, Tryd.results27, go_sem, s1, s2]) rfl ⟨rfl, ?_⟩
        exact ((hw.trans (hb2.mono (by omega))).setCell (by simp; omega) _).setCell (by simp; omega) _
  · have hop := mul_err (an := an) (ad := ad) (bn := bn) (bd := bd) (fun h => ha h.1)
    have hc2 : chk2 an ad bn bd = chk an ad := by unfold chk2; rw [if_pos ha]
    rw [hop, hc2]
    obtain ⟨c, hc, hc'⟩ : ∃ c : Nat, chk an ad = c ∧ (c = 2 ∨ c = 3) := ⟨_, rfl, by rcases chk_cases an ad with h | h | h <;> simp_all⟩
    rw [hc]
    have HA : Hid (chk an ad = c) := hc
    clear ha hop hc2 hc
    rcases hc' with rfl | rfl
    · go_enter Tryd.func27, Tryd.ntmps27
      go_wp2_with (go_at_call 16; refine (FracError_at _ _ 2 _ i1 i2 HA.out).mono ?_; rintro e w1 ⟨rfl, hb⟩; obtain ⟨⟨p1, p2, p3, p4⟩, ⟨q1, q2, q3, q4⟩, ⟨r1, r2, r3, r4⟩, hw, hz⟩ := three hb; clear hb)
      refine bodyPost_ret (v := .tuple #[.agg #[.int .i64 0, .int .i64 0], .int .i64 2]) (by simp [results, Tryd.results27, go_sem, r1, r2]) rfl ⟨rfl, ?_⟩
      exact (hw.setCell (by simp; omega) _).setCell (by simp; omega) _
    · go_enter Tryd.func27, Tryd.ntmps27
      go_wp2_with (go_at_call 16; refine (FracError_at _ _ 3 _ i1 i2 HA.out).mono ?_; rintro e w1 ⟨rfl, hb⟩; obtain ⟨⟨p1, p2, p3, p4⟩, ⟨q1, q2, q3, q4⟩, ⟨r1, r2, r3, r4⟩, hw, hz⟩ := three hb; clear hb)
      refine bodyPost_ret (v := .tuple #[.agg #[.int .i64 0, .int .i64 0], .int .i64 3]) (by simp [results, Tryd.results27, go_sem, r1, r2]) rfl ⟨rfl, ?_⟩
      exact (hw.setCell (by simp; omega) _).setCell (by simp; omega) _

set_option maxHeartbeats 2000000 in
theorem FracDo_div (an ad bn bd : Int) (w : World) (i1 : I64 an) (i2 : I64 ad) (i3 : I64 bn) (i4 : I64 bd) :
    Calls Tryd.prog 27 #[.int .u8 47, .agg #[.int .i64 an, .int .i64 ad], .agg #[.int .i64 bn, .int .i64 bd]] w fun e w' => e = .returned (.tuple #[.agg #[.int .i64 (div an ad bn bd).n, .int .i64 (div an ad bn bd).d], .int .i64 (div an ad bn bd).c]) ∧ Below w.heap.size w w' := by
  have hn1 : ¬ w.heap.size + 1 + 1 = w.heap.size := by omega
  have hn2 : ¬ w.heap.size = w.heap.size + 1 + 1 := by omega
  by_cases ha : chk an ad = 0
  · have HA : Hid (chk an ad = 0) := ha
    by_cases hb : chk bn bd = 0
    · have HB : Hid (chk bn bd = 0) := hb
      by_cases hz0 : bn = 0
      · subst hz0
        have hop : div an ad 0 bd = ⟨0, 0, 11⟩ := by unfold div; rw [if_neg (by simp [ha]), if_neg (by simp [hb]), if_pos rfl]
        rw [hop]
        clear ha hb hop
        go_enter Tryd.func27, Tryd.ntmps27
        go_wp2_with (first | (go_at_call 16; have hgd := hz; clear hgd; refine (FracError_at _ _ 0 _ i3 i4 HB.out).mono ?_; rintro e w2 ⟨rfl, hb2⟩; obtain ⟨u1, u2, u3, u4⟩ := Two.below ⟨p1, p2, p3, p4⟩ hb2 (Nat.le_refl _); obtain ⟨v1, v2, v3, v4⟩ := Two.below ⟨q1, q2, q3, q4⟩ hb2 (Nat.le_refl _); obtain ⟨s1, s2, s3, s4⟩ := Two.below ⟨r1, r2, r3, r4⟩ hb2 (Nat.le_refl _); clear p1 p2 p3 p4 q1 q2 q3 q4 r1 r2 r3 r4) | (go_at_call 16; refine (FracError_at _ _ 0 _ i1 i2 HA.out).mono ?_; rintro e w1 ⟨rfl, hb⟩; obtain ⟨⟨p1, p2, p3, p4⟩, ⟨q1, q2, q3, q4⟩, ⟨r1, r2, r3, r4⟩, hw, hz⟩ := three hb; clear hb))
        refine bodyPost_ret (v := .tuple #[.agg #[.int .i64 0, .int .i64 0], .int .i64 11]) (by simp [results, Tryd.results27, go_sem, s1, s2]) rfl ⟨rfl, ?_⟩
        exact ((hw.trans (hb2.mono (by omega))).setCell (by simp; omega) _).setCell (by simp; omega) _
      have hop : div an ad bn bd = low (an * bd) (ad * bn) := by unfold div; rw [if_neg (by simp [ha]), if_neg (by simp [hb]), if_neg hz0]
      rw [hop]
      obtain ⟨a1, _, a3, a4⟩ := chk_zero.1 ha
      obtain ⟨b1, _, b3, b4⟩ := chk_zero.1 hb
      obtain ⟨m01, m02⟩ := mul_bound a3 b4
      obtain ⟨m11, m12⟩ := mul_bound a4 b3
      have m0 : ad * bn ≠ 0 := Int.mul_ne_zero (by omega) hz0
      obtain ⟨r, hr⟩ : ∃ r, low (an * bd) (ad * bn) = r := ⟨_, rfl⟩
      rw [hr]
      have HL : Hid (low (an * bd) (ad * bn) = r) := hr
      clear ha hb hop hr a1 a3 a4 b1 b3 b4
      go_enter Tryd.func27, Tryd.ntmps27
      go_wp2_with (first | (go_at_call 33; refine (rlowest_at _ _ r _ (by omega) (by omega) m0 (by omega) (by omega) HL.out).mono ?_; rintro e w3 ⟨rfl, hb3⟩; obtain ⟨t1, t2, t3, t4⟩ := Two.below ⟨s1, s2, s3, s4⟩ hb3 (Nat.le_refl _)) | (go_at_call 16; have hgd := hz; clear hgd; refine (FracError_at _ _ 0 _ i3 i4 HB.out).mono ?_; rintro e w2 ⟨rfl, hb2⟩; obtain ⟨u1, u2, u3, u4⟩ := Two.below ⟨p1, p2, p3, p4⟩ hb2 (Nat.le_refl _); obtain ⟨v1, v2, v3, v4⟩ := Two.below ⟨q1, q2, q3, q4⟩ hb2 (Nat.le_refl _); obtain ⟨s1, s2, s3, s4⟩ := Two.below ⟨r1, r2, r3, r4⟩ hb2 (Nat.le_refl _); clear p1 p2 p3 p4 q1 q2 q3 q4 r1 r2 r3 r4) | (go_at_call 16; refine (FracError_at _ _ 0 _ i1 i2 HA.out).mono ?_; rintro e w1 ⟨rfl, hb⟩; obtain ⟨⟨p1, p2, p3, p4⟩, ⟨q1, q2, q3, q4⟩, ⟨r1, r2, r3, r4⟩, hw, hz⟩ := three hb; clear hb))
      refine bodyPost_ret (v := .tuple #[.agg #[.int .i64 r.n, .int .i64 r.d], .int .i64 r.c]) (by simp [results, Tryd.results27, go_sem, t1, t2]) rfl ⟨rfl, ?_⟩
      exact (((hw.trans (hb2.mono (by omega))).trans (hb3.mono (by have := hb2.size; omega))).setCell (by simp; omega) _).setCell (by simp; omega) _
    · have hop := div_err (an := an) (ad := ad) (bn := bn) (bd := bd) (fun h => hb h.2)
      have hc2 : chk2 an ad bn bd = chk bn bd := by unfold chk2; rw [if_neg (by simp [ha])]
      rw [hop, hc2]
      obtain ⟨c, hc, hc'⟩ : ∃ c : Nat, chk bn bd = c ∧ (c = 2 ∨ c = 3) := ⟨_, rfl, by rcases chk_cases bn bd with h | h | h <;> simp_all⟩
      rw [hc]
      have HB : Hid (chk bn bd = c) := hc
      clear ha hb hop hc2 hc
      rcases hc' with rfl | rfl
      · go_enter Tryd.func27, Tryd.ntmps27
        go_wp2_with (first | (go_at_call 16; have hgd := hz; clear hgd; refine (FracError_at _ _ 2 _ i3 i4 HB.out).mono ?_; rintro e w2 ⟨rfl, hb2⟩; obtain ⟨u1, u2, u3, u4⟩ := Two.below ⟨p1, p2, p3, p4⟩ hb2 (Nat.le_refl _); obtain ⟨v1, v2, v3, v4⟩ := Two.below ⟨q1, q2, q3, q4⟩ hb2 (Nat.le_refl _); obtain ⟨s1, s2, s3, s4⟩ := Two.below ⟨r1, r2, r3, r4⟩ hb2 (Nat.le_refl _); clear p1 p2 p3 p4 q1 q2 q3 q4 r1 r2 r3 r4) | (go_at_call 16; refine (FracError_at _ _ 0 _ i1 i2 HA.out).mono ?_; rintro e w1 ⟨rfl, hb⟩; obtain ⟨⟨p1, p2, p3, p4⟩, ⟨q1, q2, q3, q4⟩, ⟨r1, r2, r3, r4⟩, hw, hz⟩ := three hb; clear hb))
        refine bodyPost_ret (v := .tuple #[.agg #[.int .i64 0, .int .i64 0], .int .i64 2]) (by simp [results, Tryd.results27, go_sem, s1, s2]) rfl ⟨rfl, ?_⟩
        exact ((hw.trans (hb2.mono (by omega))).setCell (by simp; omega) _).setCell (by simp; omega) _
      · go_enter Tryd.func27, Tryd.ntmps27
        go_wp2_with (first | (go_at_call 16; have hgd := hz; clear hgd; refine (FracError_at _ _ 3 _ i3 i4 HB.out).mono ?_; rintro e w2 ⟨rfl, hb2⟩; obtain ⟨u1, u2, u3, u4⟩ := Two.below ⟨p1, p2, p3, p4⟩ hb2 (Nat.le_refl _); obtain ⟨v1, v2, v3, v4⟩ := Two.below ⟨q1, q2, q3, q4⟩ hb2 (Nat.le_refl _); obtain ⟨s1, s2, s3, s4⟩ := Two.below ⟨r1, r2, r3, r4⟩ hb2 (Nat.le_refl _); clear p1 p2 p3 p4 q1 q2 q3 q4 r1 r2 r3 r4) | (go_at_call 16; refine (FracError_at _ _ 0 _ i1 i2 HA.out).mono ?_; rintro e w1 ⟨rfl, hb⟩; obtain ⟨⟨p1, p2, p3, p4⟩, ⟨q1, q2, q3, q4⟩, ⟨r1, r2, r3, r4⟩, hw, hz⟩ := three hb; clear hb))
        refine bodyPost_ret (v := .tuple #[.agg #[.int .i64 0, .int .i64 0], .int .i64 3]) (by simp [results, Tryd.results27, go_sem, s1, s2]) rfl ⟨rfl, ?_⟩
        exact ((hw.trans (hb2.mono (by omega))).setCell (by simp; omega) _).setCell (by simp; omega) _
  · have hop := div_err (an := an) (ad := ad) (bn := bn) (bd := bd) (fun h => ha h.1)
    have hc2 : chk2 an ad bn bd = chk an ad := by unfold chk2; rw [if_pos ha]
    rw [hop, hc2]
    obtain ⟨c, hc, hc'⟩ : ∃ c : Nat, chk an ad = c ∧ (c = 2 ∨ c = 3) := ⟨_, rfl, by rcases chk_cases an ad with h | h | h <;> simp_all⟩
    rw [hc]
    have HA : Hid (chk an ad = c) := hc
    clear ha hop hc2 hc
    rcases hc' with rfl | rfl
    · go_enter Tryd.func27, Tryd.ntmps27
      go_wp2_with (go_at_call 16; refine (FracError_at _ _ 2 _ i1 i2 HA.out).mono ?_; rintro e w1 ⟨rfl, hb⟩; obtain ⟨⟨p1, p2, p3, p4⟩, ⟨q1, q2, q3, q4⟩, ⟨r1, r2, r3, r4⟩, hw, hz⟩ := three hb; clear hb)
      refine bodyPost_ret (v := .tuple #[.agg #[.int .i64 0, .int .i64 0], .int .i64 2]) (by simp [results, Tryd.results27, go_sem, r1, r2]) rfl ⟨rfl, ?_⟩
      exact (hw.setCell (by simp; omega) _).setCell (by simp; omega) _
    · go_enter Tryd.func27, Tryd.ntmps27
      go_wp2_with (go_at_call 16; refine (FracError_at _ _ 3 _ i1 i2 HA.out).mono ?_; rintro e w1 ⟨rfl, hb⟩; obtain ⟨⟨p1, p2, p3, p4⟩, ⟨q1, q2, q3, q4⟩, ⟨r1, r2, r3, r4⟩, hw, hz⟩ := three hb; clear hb)
      refine bodyPost_ret (v := .tuple #[.agg #[.int .i64 0, .int .i64 0], .int .i64 3]) (by simp [results, Tryd.results27, go_sem, r1, r2]) rfl ⟨rfl, ?_⟩
      exact (hw.setCell (by simp; omega) _).setCell (by simp; omega) _
end Go.Proofs.YtdeahgbjkogjgaaDoor

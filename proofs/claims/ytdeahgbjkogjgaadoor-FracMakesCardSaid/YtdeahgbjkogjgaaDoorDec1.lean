/-
  The document's Byte, below, Decimal (leadlightref1), walked: the decimal digits of every number.
-/
import Derived.Test.YtdeahgbjkogjgaaDoorRead1
import Derived.Test.YtdeahgbjkogjgaaDoorFrac6
namespace Go.Proofs.YtdeahgbjkogjgaaDoor
open Go.RowKit

set_option maxHeartbeats 400000 in
theorem Byte_any (c : UInt8) (n : Int) (w : World) (hn : (c.toNat : Int) = n) :
    Calls Tryd.prog 63 #[.int .i64 n] w fun e w' => e = .returned (.string ⟨#[c]⟩) ∧ Below w.heap.size w w' := by
  have hb := byte_lt c
  have h0 : (0 : Int) ≤ (c.toNat : Int) := by omega
  subst hn
  have hcv := run_convert_bytes_back (P := Tryd.prog) (w.alloc (.cells #[.int .u8 c.toNat] 5)) 115 9 5 ⟨w.heap.size, 0, none⟩ 1 [c] Tryd.underlying115 Tryd.underlying5 Tryd.underlying9 (fun j hj => by
    have : j = 0 := by simp at hj; exact hj
    subst this
    simp [Addr.add])
  simp only [List.length_cons, List.length_nil, Nat.zero_add] at hcv
  go_enter Tryd.func63, Tryd.ntmps63
  go_wp2
  go_ret
  exact ⟨rfl, (Below.refl _ _).alloc (Nat.le_refl _) _⟩

theorem dec_short (k : Nat) (h : k ≤ 9223372036854775807) : (Lib.decDigits k).length ≤ 21 := by
  have := Lib.itoa_length_le (k : Int) (by omega) (by omega)
  rwa [Lib.itoa_nonneg] at this

set_option maxHeartbeats 1000000 in
theorem below_any : ∀ (u : Nat) (n : Int) (w : World), n.natAbs = u → -9223372036854775808 ≤ n → n ≤ 0 →
    Calls Tryd.prog 56 #[.int .i64 n] w fun e w' => e = .returned (.string ⟨(Lib.decDigits u).toArray⟩) ∧ Below w.heap.size w w' := by
  intro u
  induction u using Nat.strongRecOn with
  | ind u ih =>
    intro n w hu h1 h2
    by_cases hs : -10 < n
    · have hd : Lib.decDigits u = [UInt8.ofNat (48 + u)] := by rw [Lib.decDigits, dif_pos (by omega)]
      rw [hd]
      have hc : ((UInt8.ofNat (48 + u)).toNat : Int) = 48 - n := by simp; omega
      have HC : Hid (((UInt8.ofNat (48 + u)).toNat : Int) = 48 - n) := hc
      generalize UInt8.ofNat (48 + u) = c at HC ⊢
      clear hc hd ih hu
      go_enter Tryd.func56, Tryd.ntmps56
      go_wp2_with (go_at_call 63; refine (Byte_any _ _ _ HC.out).mono ?_; rintro e w1 ⟨rfl, hb⟩)
      go_ret
      exact ⟨rfl, hb⟩
    · obtain ⟨q, hq⟩ : ∃ q, n.tdiv 10 = q := ⟨_, rfl⟩
      obtain ⟨r, hr⟩ : ∃ r, n.tmod 10 = r := ⟨_, rfl⟩
      have eq1 : q.natAbs = u / 10 := by rw [← hq, Int.natAbs_tdiv, hu]; rfl
      have er1 : r.natAbs = u % 10 := by rw [← hr, Int.natAbs_tmod]; simp [hu]
      have hq2 : q ≤ 0 := by rw [← hq]; have h := Int.neg_tdiv n 10; have h' : 0 ≤ (-n).tdiv 10 := Int.tdiv_nonneg (by omega) (by decide); omega
      have hr2 : r ≤ 0 := by rw [← hr]; have h := Int.neg_tmod n 10; have h' : 0 ≤ (-n).tmod 10 := Int.tmod_nonneg _ (by omega); omega
      have hu2 : u ≤ 9223372036854775808 := by omega
      have hq1 : -9223372036854775808 ≤ q := by omega
      have hr1 : -10 < r := by omega
      have hd : Lib.decDigits u = Lib.decDigits (u / 10) ++ [UInt8.ofNat (48 + u % 10)] := by rw [Lib.decDigits, dif_neg (by omega)]
      have hc : ((UInt8.ofNat (48 + u % 10)).toNat : Int) = 48 - r := by simp; omega
      obtain ⟨s, hs1⟩ : ∃ s : ByteArray, (⟨(Lib.decDigits (u / 10)).toArray⟩ : ByteArray) = s := ⟨_, rfl⟩
      have hz : s.size ≤ 21 := by
        rw [← hs1]
        have := dec_short (u / 10) (by omega)
        simpa [ByteArray.size] using this
      have hA : ¬ 9223372036854775807 < s.size + 1 := by omega
      have hres : (⟨(Lib.decDigits u).toArray⟩ : ByteArray) = s ++ ⟨#[UInt8.ofNat (48 + u % 10)]⟩ := by
        rw [hd, ← hs1]
        apply ByteArray.ext
        simp
      rw [hres]
      have HI : Hid (∀ W, Calls Tryd.prog 56 #[.int .i64 q] W fun e w' => e = .returned (.string s) ∧ Below W.heap.size W w') := by
        intro W
        have := ih (u / 10) (by omega) q W eq1 hq1 hq2
        rw [hs1] at this
        exact this
      have HC : Hid (((UInt8.ofNat (48 + u % 10)).toNat : Int) = 48 - r) := hc
      generalize UInt8.ofNat (48 + u % 10) = c at HC ⊢
      clear hc hd ih hu eq1 er1 hs1 hres
      go_enter Tryd.func56, Tryd.ntmps56
      go_wp2_with (first | (go_at_call 56; refine (HI.out _).mono ?_; rintro e w1 ⟨rfl, hb⟩) | (go_at_call 63; refine (Byte_any c _ _ HC.out).mono ?_; rintro e w2 ⟨rfl, hb2⟩))
      go_ret
      exact ⟨rfl, hb.trans (hb2.mono hb.size)⟩

set_option maxHeartbeats 400000 in
theorem Decimal_any (n : Int) (w : World) (hn : I64 n) :
    Calls Tryd.prog 37 #[.int .i64 n] w fun e w' => e = .returned (.string ⟨(Lib.itoa n).toArray⟩) ∧ Below w.heap.size w w' := by
  obtain ⟨n1, n2⟩ := hn
  by_cases h0 : n < 0
  · obtain ⟨s, hs⟩ : ∃ s : ByteArray, (⟨(Lib.decDigits n.natAbs).toArray⟩ : ByteArray) = s := ⟨_, rfl⟩
    have hz : s.size ≤ 30 := by
      rw [← hs]
      have := Lib.itoa_length_le n n1 n2
      unfold Lib.itoa at this
      rw [if_pos h0, List.length_cons] at this
      simp [ByteArray.size]; omega
    have hA : ¬ 9223372036854775807 < 1 + s.size := by omega
    have hres : (⟨(Lib.itoa n).toArray⟩ : ByteArray) = ⟨#[45]⟩ ++ s := by
      unfold Lib.itoa
      rw [if_pos h0, ← hs]
      apply ByteArray.ext
      simp
    rw [hres]
    have HB : Hid (∀ W, Calls Tryd.prog 56 #[.int .i64 n] W fun e w' => e = .returned (.string s) ∧ Below W.heap.size W w') := by
      intro W
      have := below_any n.natAbs n W rfl n1 (by omega)
      rw [hs] at this
      exact this
    clear hs hres
    go_enter Tryd.func37, Tryd.ntmps37
    go_wp2_with (go_at_call 56; refine (HB.out _).mono ?_; rintro e w1 ⟨rfl, hb⟩)
    go_ret
    exact ⟨rfl, hb⟩
  · have hres : Lib.itoa n = Lib.decDigits n.natAbs := by unfold Lib.itoa; rw [if_neg h0]; congr 1; omega
    rw [hres]
    have HB : Hid (∀ W, Calls Tryd.prog 56 #[.int .i64 (-n)] W fun e w' => e = .returned (.string ⟨(Lib.decDigits n.natAbs).toArray⟩) ∧ Below W.heap.size W w') := fun W => below_any n.natAbs (-n) W (by omega) (by omega) (by omega)
    clear hres
    go_enter Tryd.func37, Tryd.ntmps37
    go_wp2_with (go_at_call 56; refine (HB.out _).mono ?_; rintro e w1 ⟨rfl, hb⟩)
    go_ret
    exact ⟨rfl, hb⟩
end Go.Proofs.YtdeahgbjkogjgaaDoor

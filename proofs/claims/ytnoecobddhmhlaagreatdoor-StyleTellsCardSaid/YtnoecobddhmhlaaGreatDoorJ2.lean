/-
  The small functions of package mark: bytes, names, values, and the word that stands for a byte.
-/
import Derived.Test.YtnoecobddhmhlaaGreatDoorMarkM
import Derived.Test.YtnoecobddhmhlaaGreatDoorChecked
import Derived.WalkKit
namespace Go.Proofs.YtnoecobddhmhlaaGreatDoor
open Go.RowKit

theorem m_len (s : ByteArray) : s.data.toList.length = s.size := Array.length_toList
theorem m_get (s : ByteArray) (i : Nat) (h : i < s.size) : s.data.toList[i]'(by rw [m_len]; exact h) = s[i] := by simp [ByteArray.getElem_eq_getElem_data]
theorem m_le (c d : UInt8) : (c ≤ d) ↔ ((c.toNat : Int) ≤ (d.toNat : Int)) := by rw [UInt8.le_iff_toNat_le]; omega
theorem m_lt (c d : UInt8) : (c < d) ↔ ((c.toNat : Int) < (d.toNat : Int)) := by rw [UInt8.lt_iff_toNat_lt]; omega
theorem m_eq (c d : UInt8) : (c = d) ↔ ((c.toNat : Int) = (d.toNat : Int)) := by rw [← UInt8.toNat_inj]; omega
theorem m_lt255 (c : UInt8) : (c.toNat : Int) ≤ 255 := by have := c.toNat_lt; omega
theorem m_empty {s : ByteArray} (h : 0 < s.size) : s.toList.isEmpty = false := by
  rw [ByteArray.toList_eq, List.isEmpty_eq_false_iff]
  intro e
  have := m_len s
  rw [e] at this; simp at this; omega

theorem letB_iff (c : UInt8) : letB c = true ↔ 97 ≤ (c.toNat : Int) ∧ (c.toNat : Int) ≤ 122 := by
  simp only [letB, Bool.and_eq_true, decide_eq_true_eq, m_le]; rfl
theorem digB_iff (c : UInt8) : digB c = true ↔ 48 ≤ (c.toNat : Int) ∧ (c.toNat : Int) ≤ 57 := by
  simp only [digB, Bool.and_eq_true, decide_eq_true_eq, m_le]; rfl

set_option maxHeartbeats 1000000 in
theorem isLetter_any (c : UInt8) (w : World) : Calls Tryz.prog 105 #[.int .u8 c.toNat] w fun e w' => e = .returned (.bool (letB c)) ∧ w' = w := by
  have hb := m_lt255 c
  have hL := letB_iff c
  generalize letB c = b at hL ⊢
  by_cases h1 : 97 ≤ (c.toNat : Int)
  · by_cases h2 : (c.toNat : Int) ≤ 122
    · obtain rfl : b = true := hL.2 ⟨h1, h2⟩
      clear hL
      go_enter Tryz.func105, Tryz.ntmps105
      go_wp2
      go_ret
      exact ⟨rfl, rfl⟩
    · obtain rfl : b = false := by cases b with
        | false => rfl
        | true => exact (h2 (hL.1 rfl).2).elim
      clear hL
      go_enter Tryz.func105, Tryz.ntmps105
      go_wp2
      go_ret
      exact ⟨rfl, rfl⟩
  · obtain rfl : b = false := by cases b with
      | false => rfl
      | true => exact (h1 (hL.1 rfl).1).elim
    clear hL
    go_enter Tryz.func105, Tryz.ntmps105
    go_wp2
    go_ret
    exact ⟨rfl, rfl⟩
set_option maxHeartbeats 1000000 in
theorem isDigit_any (c : UInt8) (w : World) : Calls Tryz.prog 106 #[.int .u8 c.toNat] w fun e w' => e = .returned (.bool (digB c)) ∧ w' = w := by
  have hb := m_lt255 c
  have hL := digB_iff c
  generalize digB c = b at hL ⊢
  by_cases h1 : 48 ≤ (c.toNat : Int)
  · by_cases h2 : (c.toNat : Int) ≤ 57
    · obtain rfl : b = true := hL.2 ⟨h1, h2⟩
      clear hL
      go_enter Tryz.func106, Tryz.ntmps106
      go_wp2
      go_ret
      exact ⟨rfl, rfl⟩
    · obtain rfl : b = false := by cases b with
        | false => rfl
        | true => exact (h2 (hL.1 rfl).2).elim
      clear hL
      go_enter Tryz.func106, Tryz.ntmps106
      go_wp2
      go_ret
      exact ⟨rfl, rfl⟩
  · obtain rfl : b = false := by cases b with
      | false => rfl
      | true => exact (h1 (hL.1 rfl).1).elim
    clear hL
    go_enter Tryz.func106, Tryz.ntmps106
    go_wp2
    go_ret
    exact ⟨rfl, rfl⟩

/-- Is it a name, byte by byte? -/
theorem isNm_get (s : ByteArray) : isNm s.data.toList = true ↔ ∃ h0 : 0 < s.size, s.size ≤ 12 ∧ letB s[0] = true ∧ ∀ i (h : i < s.size), 1 ≤ i → nmB s[i] = true := by
  have hl := m_len s
  have hg := fun i h => m_get s i h
  constructor
  · intro h
    cases hs : s.data.toList with
    | nil => rw [hs] at h; simp [isNm] at h
    | cons c r =>
      rw [hs] at h hl
      simp only [isNm, Bool.and_eq_true, decide_eq_true_eq, List.all_eq_true] at h
      have h0 : 0 < s.size := by rw [← hl]; simp
      refine ⟨h0, by rw [← hl]; exact h.1.1, ?_, fun i hi h1 => ?_⟩
      · rw [← hg 0 h0]; simp only [hs, List.getElem_cons_zero]; exact h.1.2
      · obtain ⟨j, rfl⟩ : ∃ j, i = j + 1 := ⟨i - 1, by omega⟩
        rw [← hg _ hi]
        simp only [hs, List.getElem_cons_succ]
        exact h.2 _ (List.getElem_mem _)
  · rintro ⟨h0, h1, h2, h3⟩
    cases hs : s.data.toList with
    | nil => rw [hs] at hl; simp at hl; omega
    | cons c r =>
      rw [hs] at hl
      simp only [isNm, Bool.and_eq_true, decide_eq_true_eq, List.all_eq_true]
      refine ⟨⟨by rw [hl]; exact h1, ?_⟩, fun d hd => ?_⟩
      · have := hg 0 h0; simp only [hs, List.getElem_cons_zero] at this; rw [this]; exact h2
      · obtain ⟨i, hi, rfl⟩ := List.mem_iff_getElem.1 hd
        have hlt : i + 1 < s.size := by rw [← hl]; simp; exact hi
        have := hg (i + 1) hlt
        simp only [hs, List.getElem_cons_succ] at this
        rw [this]
        exact h3 _ hlt (by omega)

set_option maxHeartbeats 2000000 in
theorem IsName_any (s : ByteArray) (hs : s.size ≤ 9223372036854775807) (w : World) : Calls Tryz.prog 57 #[.string s] w fun e w' => e = .returned (.bool (isNm s.data.toList)) ∧ w' = w := by
  have hN := isNm_get s
  generalize isNm s.data.toList = b at hN ⊢
  have NO : Hid ((¬ ∃ h0 : 0 < s.size, s.size ≤ 12 ∧ letB s[0] = true ∧ ∀ i (h : i < s.size), 1 ≤ i → nmB s[i] = true) → b = false) := fun h => by
    cases b with
    | false => rfl
    | true => exact (h (hN.1 rfl)).elim
  have YES : Hid ((∃ h0 : 0 < s.size, s.size ≤ 12 ∧ letB s[0] = true ∧ ∀ i (h : i < s.size), 1 ≤ i → nmB s[i] = true) → b = true) := hN.2
  clear hN
  have hmax : (s.size : Int) ≤ 9223372036854775807 := by omega
  by_cases h0 : 0 < s.size
  · have hE := m_empty h0
    have hE' : ¬ s.toList = [] := by intro e; rw [e] at hE; simp at hE
    have hz : (0 : Int) < (s.size : Int) := by omega
    by_cases h1 : s.size ≤ 12
    · have h1' : (s.size : Int) ≤ 12 := by omega
      cases h2 : letB s[0] with
      | false =>
        obtain rfl := NO.out (fun ⟨_, _, h, _⟩ => by rw [h2] at h; cases h)
        clear NO YES
        go_enter Tryz.func57, Tryz.ntmps57
        go_wp2_with (go_at_call 105; refine (isLetter_any s[0] _).mono ?_; rw [h2]; rintro e w1 ⟨rfl, rfl⟩)
        go_ret
        exact ⟨rfl, rfl⟩
      | true =>
        go_enter Tryz.func57, Tryz.ntmps57
        go_wp2_with (go_at_call 105; refine (isLetter_any s[0] _).mono ?_; rw [h2]; rintro e w1 ⟨rfl, rfl⟩)
        go_loop [3] (fun y => ∃ k : Nat, k ≤ s.size ∧ 1 ≤ k ∧ y = .int .i64 k ∧ ∀ i (h : i < s.size), 1 ≤ i → i < k → nmB s[i] = true) (fun y => s.size - (intOf y).toNat)
        case atStart => exact ⟨1, by omega, by omega, rfl, fun i _ a b => by omega⟩
        case round =>
          obtain ⟨k, hk, hk1, rfl, hall⟩ := hrel
          have HA : Hid (∀ i (h : i < s.size), 1 ≤ i → i < k → nmB s[i] = true) := hall
          clear hall
          by_cases hlt : k < s.size
          · have hlt' : (k : Int) < (s.size : Int) := by omega
            have hb := m_lt255 s[k]
            cases hl : letB s[k] with
            | true =>
              go_wp2_with (go_at_call 105; refine (isLetter_any s[k] _).mono ?_; rw [hl]; rintro e w2 ⟨rfl, rfl⟩)
              go_round
              case rel => exact ⟨k + 1, by omega, by omega, by go_num, fun i h a b => by
                by_cases e : i < k
                · exact HA.out i h a e
                · obtain rfl : i = k := by omega
                  simp [nmB, hl]⟩
              case measure => simp [intOf]; omega
            | false =>
              cases hd : digB s[k] with
              | true =>
                go_wp2_with (first | (go_at_call 105; refine (isLetter_any s[k] _).mono ?_; rw [hl]; rintro e w2 ⟨rfl, rfl⟩) | (go_at_call 106; refine (isDigit_any s[k] _).mono ?_; rw [hd]; rintro e w3 ⟨rfl, rfl⟩))
                go_round
                case rel => exact ⟨k + 1, by omega, by omega, by go_num, fun i h a b => by
                  by_cases e : i < k
                  · exact HA.out i h a e
                  · obtain rfl : i = k := by omega
                    simp [nmB, hd]⟩
                case measure => simp [intOf]; omega
              | false =>
                by_cases h45 : (s[k].toNat : Int) = 45
                · have L45 : ∀ w, Calls Tryz.prog 105 #[.int .u8 45] w fun e w' => e = .returned (.bool false) ∧ w' = w := fun w => by have := isLetter_any 45 w; rwa [show letB 45 = false from by decide, show (((45 : UInt8).toNat : Nat) : Int) = 45 from by decide] at this
                  have D45 : ∀ w, Calls Tryz.prog 106 #[.int .u8 45] w fun e w' => e = .returned (.bool false) ∧ w' = w := fun w => by have := isDigit_any 45 w; rwa [show digB 45 = false from by decide, show (((45 : UInt8).toNat : Nat) : Int) = 45 from by decide] at this
                  have e45 : Hid (nmB s[k] = true) := (by have : s[k] = 45 := (m_eq _ _).2 (h45.trans (by decide)); simp [nmB, this] : nmB s[k] = true)
                  go_wp2_with (first | (go_at_call 105; refine (L45 _).mono ?_; rintro e w2 ⟨rfl, rfl⟩) | (go_at_call 106; refine (D45 _).mono ?_; rintro e w3 ⟨rfl, rfl⟩))
                  go_round
                  case rel => exact ⟨k + 1, by omega, by omega, by go_num, fun i h a b => by
                    by_cases e : i < k
                    · exact HA.out i h a e
                    · obtain rfl : i = k := by omega
                      exact e45.out⟩
                  case measure => simp [intOf]; omega
                · have hn : nmB s[k] = false := by
                    have : ¬ s[k] = 45 := fun e => h45 (((m_eq _ _).1 e).trans (by decide))
                    simp [nmB, hl, hd, this]
                  obtain rfl := NO.out (fun ⟨_, _, _, h⟩ => by have := h k hlt hk1; rw [hn] at this; cases this)
                  clear NO YES HA hn
                  go_wp2_with (first | (go_at_call 105; refine (isLetter_any s[k] _).mono ?_; rw [hl]; rintro e w2 ⟨rfl, rfl⟩) | (go_at_call 106; refine (isDigit_any s[k] _).mono ?_; rw [hd]; rintro e w3 ⟨rfl, rfl⟩))
                  go_ret
                  exact ⟨rfl, rfl⟩
          · obtain rfl := YES.out ⟨h0, h1, h2, fun i h a => HA.out i h a (by omega)⟩
            clear NO YES HA
            have hge : ¬ (k : Int) < (s.size : Int) := by omega
            go_wp2_with fail
            go_ret
            exact ⟨rfl, rfl⟩
    · obtain rfl := NO.out (fun ⟨_, h, _⟩ => h1 h)
      clear NO YES
      have h1' : 12 < (s.size : Int) := by omega
      go_enter Tryz.func57, Tryz.ntmps57
      go_wp2_with fail
      go_ret
      exact ⟨rfl, rfl⟩
  · obtain rfl := NO.out (fun ⟨h, _⟩ => h0 h)
    clear NO YES
    have hE : s.toList.isEmpty = true := by
      rw [ByteArray.toList_eq, List.isEmpty_iff]
      exact List.length_eq_zero_iff.1 (by rw [m_len]; omega)
    have hE' : s.toList = [] := List.isEmpty_iff.1 hE
    go_enter Tryz.func57, Tryz.ntmps57
    go_wp2_with fail
    go_ret
    exact ⟨rfl, rfl⟩

end Go.Proofs.YtnoecobddhmhlaaGreatDoor

namespace Go.Proofs.YtnoecobddhmhlaaGreatDoor
open Go.RowKit

theorem isVal_get (s : ByteArray) : isVal s.data.toList = true ↔ s.size ≤ 200 ∧ ∀ i (h : i < s.size), 32 ≤ (s[i].toNat : Int) ∧ (s[i].toNat : Int) ≤ 126 := by
  have hl := m_len s
  simp only [isVal, Bool.and_eq_true, decide_eq_true_eq, List.all_eq_true, hl, Bool.not_eq_true', decide_eq_false_iff_not]
  refine and_congr_right fun _ => ⟨fun h i hi => ?_, fun h c hc => ?_⟩
  · have := h s[i] (by rw [← m_get s i hi]; exact List.getElem_mem _)
    rw [m_lt, m_lt] at this
    have e1 : (((32 : UInt8).toNat : Nat) : Int) = 32 := by decide
    have e2 : (((126 : UInt8).toNat : Nat) : Int) = 126 := by decide
    rw [e1, e2] at this
    omega
  · obtain ⟨i, hi, rfl⟩ := List.mem_iff_getElem.1 hc
    rw [hl] at hi
    have := h i hi
    rw [m_get s i hi, m_lt, m_lt]
    have e1 : (((32 : UInt8).toNat : Nat) : Int) = 32 := by decide
    have e2 : (((126 : UInt8).toNat : Nat) : Int) = 126 := by decide
    rw [e1, e2]
    omega

set_option maxHeartbeats 2000000 in
theorem IsValue_any (s : ByteArray) (hs : s.size ≤ 9223372036854775807) (w : World) : Calls Tryz.prog 70 #[.string s] w fun e w' => e = .returned (.bool (isVal s.data.toList)) ∧ w' = w := by
  have hN := isVal_get s
  generalize isVal s.data.toList = b at hN ⊢
  have NO : Hid ((¬ (s.size ≤ 200 ∧ ∀ i (h : i < s.size), 32 ≤ (s[i].toNat : Int) ∧ (s[i].toNat : Int) ≤ 126)) → b = false) := fun h => by
    cases b with
    | false => rfl
    | true => exact (h (hN.1 rfl)).elim
  have YES : Hid ((s.size ≤ 200 ∧ ∀ i (h : i < s.size), 32 ≤ (s[i].toNat : Int) ∧ (s[i].toNat : Int) ≤ 126) → b = true) := hN.2
  clear hN
  have hmax : (s.size : Int) ≤ 9223372036854775807 := by omega
  by_cases h1 : s.size ≤ 200
  · have h1' : (s.size : Int) ≤ 200 := by omega
    go_enter Tryz.func70, Tryz.ntmps70
    go_wp2_with fail
    go_loop [3] (fun y => ∃ k : Nat, k ≤ s.size ∧ y = .int .i64 k ∧ ∀ i (h : i < s.size), i < k → 32 ≤ (s[i].toNat : Int) ∧ (s[i].toNat : Int) ≤ 126) (fun y => s.size - (intOf y).toNat)
    case atStart => exact ⟨0, by omega, rfl, fun i _ b => by omega⟩
    case round =>
      obtain ⟨k, hk, rfl, hall⟩ := hrel
      have HA : Hid (∀ i (h : i < s.size), i < k → 32 ≤ (s[i].toNat : Int) ∧ (s[i].toNat : Int) ≤ 126) := hall
      clear hall
      by_cases hlt : k < s.size
      · have hlt' : (k : Int) < (s.size : Int) := by omega
        have hb := m_lt255 s[k]
        by_cases c1 : (s[k].toNat : Int) < 32
        · obtain rfl := NO.out (fun h => by have := (h.2 k hlt).1; omega)
          clear NO YES HA
          go_wp2_with fail
          go_ret
          exact ⟨rfl, rfl⟩
        · by_cases c2 : 126 < (s[k].toNat : Int)
          · obtain rfl := NO.out (fun h => by have := (h.2 k hlt).2; omega)
            clear NO YES HA
            go_wp2_with fail
            go_ret
            exact ⟨rfl, rfl⟩
          · have HK : Hid (32 ≤ (s[k].toNat : Int) ∧ (s[k].toNat : Int) ≤ 126) := ⟨by omega, by omega⟩
            go_wp2_with fail
            go_round
            case rel => exact ⟨k + 1, by omega, by go_num, fun i h b => by
              by_cases e : i < k
              · exact HA.out i h e
              · obtain rfl : i = k := by omega
                exact HK.out⟩
            case measure => simp [intOf]; omega
      · obtain rfl := YES.out ⟨h1, fun i h => HA.out i h (by omega)⟩
        clear NO YES HA
        have hge : ¬ (k : Int) < (s.size : Int) := by omega
        go_wp2_with fail
        go_ret
        exact ⟨rfl, rfl⟩
  · obtain rfl := NO.out (fun h => h1 h.1)
    clear NO YES
    have h1' : 200 < (s.size : Int) := by omega
    go_enter Tryz.func70, Tryz.ntmps70
    go_wp2_with fail
    go_ret
    exact ⟨rfl, rfl⟩

end Go.Proofs.YtnoecobddhmhlaaGreatDoor

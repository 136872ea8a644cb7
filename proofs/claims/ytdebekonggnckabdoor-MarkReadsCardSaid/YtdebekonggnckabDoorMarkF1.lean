/-
  Names and values, as the document's answer tells them.
-/
import Derived.Test.YtdebekonggnckabDoorMark2
namespace Go.Proofs.YtdebekonggnckabDoor
open Go.RowKit

theorem nmB_iff (c : UInt8) : nmB c = true ↔ (97 ≤ (c.toNat : Int) ∧ (c.toNat : Int) ≤ 122) ∨ (48 ≤ (c.toNat : Int) ∧ (c.toNat : Int) ≤ 57) ∨ (c.toNat : Int) = 45 := by
  unfold nmB
  simp only [Bool.or_eq_true, beq_iff_eq, letB_iff, digB_iff]
  have e : c = 45 ↔ (c.toNat : Int) = 45 := ⟨fun h => ((m_eq _ _).1 h).trans (by decide), fun h => (m_eq _ _).2 (h.trans (by decide))⟩
  rw [e, or_assoc]

set_option maxHeartbeats 2000000 in
theorem RIsName_any (s : ByteArray) (hs : s.size ≤ 9223372036854775807) (w : World) : Calls Tryd.prog 31 #[.string s] w fun e w' => e = .returned (.bool (isNm s.data.toList)) ∧ w' = w := by
  have hN := isNm_get s
  generalize isNm s.data.toList = b at hN ⊢
  have NO : Hid ((¬ ∃ h0 : 0 < s.size, s.size ≤ 12 ∧ letB s[0] = true ∧ ∀ i (h : i < s.size), 1 ≤ i → nmB s[i] = true) → b = false) := fun h => by
    cases b with
    | false => rfl
    | true => exact (h (hN.1 rfl)).elim
  have YES : Hid ((∃ h0 : 0 < s.size, s.size ≤ 12 ∧ letB s[0] = true ∧ ∀ i (h : i < s.size), 1 ≤ i → nmB s[i] = true) → b = true) := hN.2
  clear hN
  have hmax : (s.size : Int) ≤ 9223372036854775807 := by omega
  by_cases h0 : 0 < s.size
  · have hz : ¬ (s.size : Int) < 1 := by omega
    by_cases h1 : s.size ≤ 12
    · have h1' : ¬ 12 < (s.size : Int) := by omega
      go_enter Tryd.func31, Tryd.ntmps31
      go_wp2_with fail
      go_loop [3] (fun y => ∃ k : Nat, k ≤ s.size ∧ y = .int .i64 k ∧ (0 < k → letB s[0] = true) ∧ ∀ i (h : i < s.size), 1 ≤ i → i < k → nmB s[i] = true) (fun y => s.size - (intOf y).toNat)
      case atStart => exact ⟨0, by omega, rfl, fun h => absurd h (Nat.lt_irrefl _), fun i _ a b => by omega⟩
      case round =>
        obtain ⟨k, hk, rfl, hfst, hall⟩ := hrel
        have HA : Hid (∀ i (h : i < s.size), 1 ≤ i → i < k → nmB s[i] = true) := hall
        have HF : Hid (0 < k → letB s[0] = true) := hfst
        clear hall hfst
        by_cases hlt : k < s.size
        · have hlt' : (k : Int) < (s.size : Int) := by omega
          have hb := m_lt255 s[k]
          by_cases hl : 97 ≤ (s[k].toNat : Int) ∧ (s[k].toNat : Int) ≤ 122
          · have hl1 := hl.1
            have hl2 := hl.2
            have HL : Hid (letB s[k] = true) := (letB_iff _).2 hl
            have HM : Hid (nmB s[k] = true) := (nmB_iff _).2 (.inl hl)
            clear hl
            go_wp2_with fail
            go_round
            case rel => exact ⟨k + 1, by omega, by go_num, fun _ => by
              by_cases e : 0 < k
              · exact HF.out e
              · obtain rfl : k = 0 := by omega
                exact HL.out, fun i h a b => by
                by_cases e : i < k
                · exact HA.out i h a e
                · obtain rfl : i = k := by omega
                  exact HM.out⟩
            case measure => simp [intOf]; omega
          · have HL : Hid (letB s[k] = false) := (by rw [← Bool.not_eq_true, letB_iff]; exact hl : letB s[k] = false)
            by_cases hk0 : k = 0
            · subst hk0
              obtain rfl := NO.out (fun ⟨_, _, h, _⟩ => by have := HL.out; rw [h] at this; cases this)
              clear NO YES HA HF HL
              by_cases l1 : 97 ≤ (s[0].toNat : Int)
              · have l2 : ¬ (s[0].toNat : Int) ≤ 122 := fun h => hl ⟨l1, h⟩
                clear hl
                go_wp2_with fail
                all_goals go_ret
                all_goals exact ⟨rfl, rfl⟩
              · clear hl
                go_wp2_with fail
                all_goals go_ret
                all_goals exact ⟨rfl, rfl⟩
            · have hk1 : ¬ (k : Int) = 0 := by omega
              have hk2 : ((k : Int) == 0) = false := by rw [beq_eq_false_iff_ne]; exact hk1
              by_cases hd : 48 ≤ (s[k].toNat : Int) ∧ (s[k].toNat : Int) ≤ 57
              · have d1 := hd.1
                have d2 := hd.2
                have d3 : ¬ 97 ≤ (s[k].toNat : Int) := by omega
                have HM : Hid (nmB s[k] = true) := (nmB_iff _).2 (.inr (.inl hd))
                clear hd hl
                go_wp2_with fail
                go_round
                case rel => exact ⟨k + 1, by omega, by go_num, fun _ => HF.out (by omega), fun i h a b => by
                  by_cases e : i < k
                  · exact HA.out i h a e
                  · obtain rfl : i = k := by omega
                    exact HM.out⟩
                case measure => simp [intOf]; omega
              · by_cases h45 : (s[k].toNat : Int) = 45
                · have HM : Hid (nmB s[k] = true) := (nmB_iff _).2 (.inr (.inr h45))
                  have d3 : ¬ 97 ≤ (s[k].toNat : Int) := by omega
                  have d4 : ¬ 48 ≤ (s[k].toNat : Int) := by omega
                  clear hd hl
                  go_wp2_with fail
                  go_round
                  case rel => exact ⟨k + 1, by omega, by go_num, fun _ => HF.out (by omega), fun i h a b => by
                    by_cases e : i < k
                    · exact HA.out i h a e
                    · obtain rfl : i = k := by omega
                      exact HM.out⟩
                  case measure => simp [intOf]; omega
                · have hn : nmB s[k] = false := by
                    rw [← Bool.not_eq_true, nmB_iff]
                    rintro (h | h | h)
                    · exact hl h
                    · exact hd h
                    · exact h45 h
                  obtain rfl := NO.out (fun ⟨_, _, _, h⟩ => by have := h k hlt (by omega); rw [hn] at this; cases this)
                  have h45' : ((s[k].toNat : Int) == 45) = false := by rw [beq_eq_false_iff_ne]; exact h45
                  clear NO YES HA HF HL hn
                  by_cases l1 : 97 ≤ (s[k].toNat : Int)
                  · have l2 : ¬ (s[k].toNat : Int) ≤ 122 := fun h => hl ⟨l1, h⟩
                    have l3 : ¬ (s[k].toNat : Int) ≤ 57 := by omega
                    clear hl hd
                    go_wp2_with fail
                    all_goals go_ret
                    all_goals exact ⟨rfl, rfl⟩
                  · by_cases l4 : 48 ≤ (s[k].toNat : Int)
                    · have l5 : ¬ (s[k].toNat : Int) ≤ 57 := fun h => hd ⟨l4, h⟩
                      clear hl hd
                      go_wp2_with fail
                      all_goals go_ret
                      all_goals exact ⟨rfl, rfl⟩
                    · clear hl hd
                      go_wp2_with fail
                      all_goals go_ret
                      all_goals exact ⟨rfl, rfl⟩
        · obtain rfl := YES.out ⟨h0, h1, HF.out (by omega), fun i h a => HA.out i h a (by omega)⟩
          clear NO YES HA HF
          have hge : ¬ (k : Int) < (s.size : Int) := by omega
          go_wp2_with fail
          go_ret
          exact ⟨rfl, rfl⟩
    · obtain rfl := NO.out (fun ⟨_, h, _⟩ => h1 h)
      clear NO YES
      have h1' : 12 < (s.size : Int) := by omega
      go_enter Tryd.func31, Tryd.ntmps31
      go_wp2_with fail
      go_ret
      exact ⟨rfl, rfl⟩
  · obtain rfl := NO.out (fun ⟨h, _⟩ => h0 h)
    clear NO YES
    have hz : (s.size : Int) < 1 := by omega
    go_enter Tryd.func31, Tryd.ntmps31
    go_wp2_with fail
    go_ret
    exact ⟨rfl, rfl⟩

set_option maxHeartbeats 2000000 in
theorem RIsValue_any (s : ByteArray) (hs : s.size ≤ 9223372036854775807) (w : World) : Calls Tryd.prog 32 #[.string s] w fun e w' => e = .returned (.bool (isVal s.data.toList)) ∧ w' = w := by
  have hN := isVal_get s
  generalize isVal s.data.toList = b at hN ⊢
  have NO : Hid ((¬ (s.size ≤ 200 ∧ ∀ i (h : i < s.size), 32 ≤ (s[i].toNat : Int) ∧ (s[i].toNat : Int) ≤ 126)) → b = false) := fun h => by
    cases b with
    | false => rfl
    | true => exact (h (hN.1 rfl)).elim
  have YES : Hid ((s.size ≤ 200 ∧ ∀ i (h : i < s.size), 32 ≤ (s[i].toNat : Int) ∧ (s[i].toNat : Int) ≤ 126) → b = true) := hN.2
  clear hN
  have hmax : (s.size : Int) ≤ 9223372036854775807 := by omega
  go_enter Tryd.func32, Tryd.ntmps32
  go_wp2_with fail
  go_loop [3] (fun y => ∃ k : Nat, k ≤ s.size ∧ y = .int .i64 k ∧ ∀ i (h : i < s.size), i < k → 32 ≤ (s[i].toNat : Int) ∧ (s[i].toNat : Int) ≤ 126) (fun y => s.size - (intOf y).toNat)
  case atStart => exact ⟨0, by omega, rfl, fun i _ b => by omega⟩
  case round =>
    obtain ⟨k, hk, rfl, hall⟩ := hrel
    have HA : Hid (∀ i (h : i < s.size), i < k → 32 ≤ (s[i].toNat : Int) ∧ (s[i].toNat : Int) ≤ 126) := hall
    clear hall
    by_cases hlt : k < s.size
    · have hlt' : (k : Int) < (s.size : Int) := by omega
      have hb := m_lt255 s[k]
      by_cases c1 : (s[k].toNat : Int) < 32
      · obtain rfl := NO.out (fun h => by have := (h.2 k hlt).1; omega)
        clear NO YES HA
        go_wp2_with fail
        go_ret
        exact ⟨rfl, rfl⟩
      · by_cases c2 : 126 < (s[k].toNat : Int)
        · obtain rfl := NO.out (fun h => by have := (h.2 k hlt).2; omega)
          clear NO YES HA
          go_wp2_with fail
          go_ret
          exact ⟨rfl, rfl⟩
        · have HK : Hid (32 ≤ (s[k].toNat : Int) ∧ (s[k].toNat : Int) ≤ 126) := ⟨by omega, by omega⟩
          go_wp2_with fail
          go_round
          case rel => exact ⟨k + 1, by omega, by go_num, fun i h b => by
            by_cases e : i < k
            · exact HA.out i h e
            · obtain rfl : i = k := by omega
              exact HK.out⟩
          case measure => simp [intOf]; omega
    · have hge : ¬ (k : Int) < (s.size : Int) := by omega
      by_cases h1 : s.size ≤ 200
      · obtain rfl := YES.out ⟨h1, fun i h => HA.out i h (by omega)⟩
        have h1' : (s.size : Int) ≤ 200 := by omega
        clear NO YES HA
        go_wp2_with fail
        go_ret
        exact ⟨rfl, rfl⟩
      · obtain rfl := NO.out (fun h => h1 h.1)
        have h1' : ¬ (s.size : Int) ≤ 200 := by omega
        clear NO YES HA
        go_wp2_with fail
        go_ret
        first | exact ⟨rfl, rfl⟩ | exact ⟨by simp; omega, rfl⟩

end Go.Proofs.YtdebekonggnckabDoor

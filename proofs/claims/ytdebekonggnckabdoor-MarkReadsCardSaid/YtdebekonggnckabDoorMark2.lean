/-
  Values, and the words that stand for bytes of them.
-/
import Derived.Test.YtdebekonggnckabDoorMark1
namespace Go.Proofs.YtdebekonggnckabDoor
open Go.RowKit

theorem isVal_get (s : ByteArray) : isVal s.data.toList = true ↔ s.size ≤ 200 ∧ ∀ i (h : i < s.size), 32 ≤ (s[i].toNat : Int) ∧ (s[i].toNat : Int) ≤ 126 := by
  have hl := m_len s
  simp only [isVal, Bool.and_eq_true, decide_eq_true_eq, List.all_eq_true, hl, Bool.not_eq_true', decide_eq_false_iff_not]
  refine and_congr_right fun _ => ⟨fun h i hi => ?_, fun h c hc => ?_⟩
  · have := h s[i] (by rw [← m_get s i hi]; exact List.getElem_mem _)
    rw [m_lt, m_lt] at this
    have e1 : (((32 : UInt8).toNat : Nat) : Int) = 32 := by decide
    have e2 : (((126 : UInt8).toNat : Nat) : Int) = 126 := by decide
    rw [e1, e2] at this
    omega
  · obtain ⟨i, hi, rfl⟩ := List.mem_iff_getElem.1 hc
    rw [hl] at hi
    have := h i hi
    rw [m_get s i hi, m_lt, m_lt]
    have e1 : (((32 : UInt8).toNat : Nat) : Int) = 32 := by decide
    have e2 : (((126 : UInt8).toNat : Nat) : Int) = 126 := by decide
    rw [e1, e2]
    omega

set_option maxHeartbeats 2000000 in
theorem IsValue_any (s : ByteArray) (hs : s.size ≤ 9223372036854775807) (w : World) : Calls Tryd.prog 90 #[.string s] w fun e w' => e = .returned (.bool (isVal s.data.toList)) ∧ w' = w := by
  have hN := isVal_get s
  generalize isVal s.data.toList = b at hN ⊢
  have NO : Hid ((¬ (s.size ≤ 200 ∧ ∀ i (h : i < s.size), 32 ≤ (s[i].toNat : Int) ∧ (s[i].toNat : Int) ≤ 126)) → b = false) := fun h => by
    cases b with
    | false => rfl
    | true => exact (h (hN.1 rfl)).elim
  have YES : Hid ((s.size ≤ 200 ∧ ∀ i (h : i < s.size), 32 ≤ (s[i].toNat : Int) ∧ (s[i].toNat : Int) ≤ 126) → b = true) := hN.2
  clear hN
  have hmax : (s.size : Int) ≤ 9223372036854775807 := by omega
  by_cases h1 : s.size ≤ 200
  · have h1' : (s.size : Int) ≤ 200 := by omega
    go_enter Tryd.func90, Tryd.ntmps90
    go_wp2_with fail
    go_loop [3] (fun y => ∃ k : Nat, k ≤ s.size ∧ y = .int .i64 k ∧ ∀ i (h : i < s.size), i < k → 32 ≤ (s[i].toNat : Int) ∧ (s[i].toNat : Int) ≤ 126) (fun y => s.size - (intOf y).toNat)
    case atStart => exact ⟨0, by omega, rfl, fun i _ b => by omega⟩
    case round =>
      obtain ⟨k, hk, rfl, hall⟩ := hrel
      have HA : Hid (∀ i (h : i < s.size), i < k → 32 ≤ (s[i].toNat : Int) ∧ (s[i].toNat : Int) ≤ 126) := hall
      clear hall
      by_cases hlt : k < s.size
      · have hlt' : (k : Int) < (s.size : Int) := by omega
        have hb := m_lt255 s[k]
        by_cases c1 : (s[k].toNat : Int) < 32
        · obtain rfl := NO.out (fun h => by have := (h.2 k hlt).1; omega)
          clear NO YES HA
          go_wp2_with fail
          go_ret
          exact ⟨rfl, rfl⟩
        · by_cases c2 : 126 < (s[k].toNat : Int)
          · obtain rfl := NO.out (fun h => by have := (h.2 k hlt).2; omega)
            clear NO YES HA
            go_wp2_with fail
            go_ret
            exact ⟨rfl, rfl⟩
          · have HK : Hid (32 ≤ (s[k].toNat : Int) ∧ (s[k].toNat : Int) ≤ 126) := ⟨by omega, by omega⟩
            go_wp2_with fail
            go_round
            case rel => exact ⟨k + 1, by omega, by go_num, fun i h b => by
              by_cases e : i < k
              · exact HA.out i h e
              · obtain rfl : i = k := by omega
                exact HK.out⟩
            case measure => simp [intOf]; omega
      · obtain rfl := YES.out ⟨h1, fun i h => HA.out i h (by omega)⟩
        clear NO YES HA
        have hge : ¬ (k : Int) < (s.size : Int) := by omega
        go_wp2_with fail
        go_ret
        exact ⟨rfl, rfl⟩
  · obtain rfl := NO.out (fun h => h1 h.1)
    clear NO YES
    have h1' : 200 < (s.size : Int) := by omega
    go_enter Tryd.func90, Tryd.ntmps90
    go_wp2_with fail
    go_ret
    exact ⟨rfl, rfl⟩

/-- The word that stands for a byte; none, if it stands for itself. -/
def wordB (c : UInt8) : ByteArray := if c = 60 then ⟨#[38, 108, 116, 59]⟩ else if c = 62 then ⟨#[38, 103, 116, 59]⟩ else if c = 38 then ⟨#[38, 97, 109, 112, 59]⟩ else if c = 34 then ⟨#[38, 113, 117, 111, 116, 59]⟩ else ⟨#[]⟩
theorem wordB_esc (c : UInt8) : escB c = if (wordB c).size = 0 then [c] else (wordB c).data.toList := by
  unfold escB wordB
  repeat' split
  all_goals first | rfl | (rename_i h; exact absurd h (by decide)) | skip
  all_goals first | rfl | (rename_i h; exact absurd rfl h)

set_option maxHeartbeats 2000000 in
theorem wordOf_any (c : UInt8) (w : World) : Calls Tryd.prog 78 #[.int .u8 c.toNat] w fun e w' => e = .returned (.string (wordB c)) ∧ w' = w := by
  have hb := m_lt255 c
  have e60 : c = 60 ↔ (c.toNat : Int) = 60 := ⟨fun h => ((m_eq _ _).1 h).trans (by decide), fun h => (m_eq _ _).2 (h.trans (by decide))⟩
  have e62 : c = 62 ↔ (c.toNat : Int) = 62 := ⟨fun h => ((m_eq _ _).1 h).trans (by decide), fun h => (m_eq _ _).2 (h.trans (by decide))⟩
  have e38 : c = 38 ↔ (c.toNat : Int) = 38 := ⟨fun h => ((m_eq _ _).1 h).trans (by decide), fun h => (m_eq _ _).2 (h.trans (by decide))⟩
  have e34 : c = 34 ↔ (c.toNat : Int) = 34 := ⟨fun h => ((m_eq _ _).1 h).trans (by decide), fun h => (m_eq _ _).2 (h.trans (by decide))⟩
  unfold wordB
  simp only [e60, e62, e38, e34]
  clear e60 e62 e38 e34
  generalize (c.toNat : Int) = x at *
  by_cases h1 : x = 60
  · subst h1
    go_enter Tryd.func78, Tryd.ntmps78
    go_wp2
    go_ret
    exact ⟨rfl, rfl⟩
  · rw [if_neg h1]
    by_cases h2 : x = 62
    · subst h2
      go_enter Tryd.func78, Tryd.ntmps78
      go_wp2
      go_ret
      exact ⟨rfl, rfl⟩
    · rw [if_neg h2]
      by_cases h3 : x = 38
      · subst h3
        go_enter Tryd.func78, Tryd.ntmps78
        go_wp2
        go_ret
        exact ⟨rfl, rfl⟩
      · rw [if_neg h3]
        by_cases h4 : x = 34
        · subst h4
          go_enter Tryd.func78, Tryd.ntmps78
          go_wp2
          go_ret
          exact ⟨rfl, rfl⟩
        · rw [if_neg h4]
          go_enter Tryd.func78, Tryd.ntmps78
          go_wp2
          go_ret
          exact ⟨rfl, rfl⟩

end Go.Proofs.YtdebekonggnckabDoor

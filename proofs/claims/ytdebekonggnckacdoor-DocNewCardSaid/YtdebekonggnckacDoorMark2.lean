/-
  Values, and the words that stand for bytes of them.
-/
import Derived.Test.YtdebekonggnckacDoorMark1
namespace Go.Proofs.YtdebekonggnckacDoor
open Go.RowKit

theorem isVal_get (s : ByteArray) : isVal s.data.toList = true ↔ s.size ≤ 200 ∧ ∀ i (h : i < s.size), 32 ≤ (s[i].toNat : Int) ∧ (s[i].toNat : Int) ≤ 126 := by
  have hl := m_len s
  simp only [isVal, Bool.and_eq_true, decide_eq_true_eq, List.all_eq_true, hl, Bool.not_eq_true', decide_eq_false_iff_not]
  refine and_congr_right fun _ => ⟨fun h i hi => ?_, fun h c hc => ?_⟩
  · have := h s[i] (by rw [← m_get s i hi]; exact List.getElem_mem _)
    rw [m_lt, m_lt] at this
    have e1 : (((32 : UInt8).toNat : Nat) : Int) = 32 := by decide
    have e2 : (((126 : UInt8).toNat : Nat) : Int) = 126 := by decide
    rw [e1, e2] at this
    omega
  · obtain ⟨i, hi, rfl⟩ := List.mem_iff_getElem.1 hc
    rw [hl] at hi
    have := h i hi
    rw [m_get s i hi, m_lt, m_lt]
    have e1 : (((32 : UInt8).toNat : Nat) : Int) = 32 := by decide
    have e2 : (((126 : UInt8).toNat : Nat) : Int) = 126 := by decide
    rw [e1, e2]
    omega

set_option maxHeartbeats 2000000 in
theorem IsValue_any (s : ByteArray) (hs : s.size ≤ 9223372036854775807) (w : World) : Calls Tryd.prog 95 #[.string s] w fun e w' => e = .returned (.bool (isVal s.data.toList)) ∧ w' = w := by
  have hN := isVal_get s
  generalize isVal s.data.toList = b at hN ⊢
  have NO : Hid ((¬ (s.size ≤ 200 ∧ ∀ i (h : i < s.size), 32 ≤ (s[i].toNat : Int) ∧ (s[i].toNat : Int) ≤ 126)) → b = false) := fun h => by
    cases b with
    | false => rfl
    | true => exact (h (hN.1 rfl)).elim
  have YES : Hid ((s.size ≤ 200 ∧ ∀ i (h : i < s.size), 32 ≤ (s[i].toNat : Int) ∧ (s[i].toNat : Int) ≤ 126) → b = true) := hN.2
  clear hN
  have hmax : (s.size : Int) ≤ 9223372036854775807 := by omega
  by_cases h1 : s.size ≤ 200
  · have h1' : (s.size : Int) ≤ 200 := by omega
    go_enter Tryd.func95, Tryd.ntmps95
    go_wp2_with fail
    go_loop [3] (fun y => ∃ k : Nat, k ≤ s.size ∧ y = .int .i64 k ∧ ∀ i (h : i < s.size), i < k → 32 ≤ (s[i].toNat : Int) ∧ (s[i].toNat : Int) ≤ 126) (fun y => s.size - (intOf y).toNat)
    case atStart => exact ⟨0, by omega, rfl, fun i _ b => by omega⟩
    case round =>
      obtain ⟨k, hk, rfl, hall⟩ := hrel
      have HA : Hid (∀ i (h : i < s.size), i < k → 32 ≤ (s[i].toNat : Int) ∧ (s[i].toNat : Int) ≤ 126) := hall
      clear hall
      by_cases hlt : k < s.size
      · have hlt' : (k : Int) < (s.size : Int) := by omega
        have hb := m_lt255 s[k]
        by_cases c1 : (s[k].toNat : Int) < 32
        · obtain rfl := NO.out (fun h => by have := (h.2 k hlt).1; omega)
          clear NO YES HA
          go_wp2_with fail
          go_ret
          exact ⟨rfl, rfl⟩
        · by_cases c2 : 126 < (s[k].toNat : Int)
          · obtain rfl := NO.out (fun h => by have := (h.2 k hlt).2; omega)
            clear NO YES HA
            go_wp2_with fail
            go_ret
            exact ⟨rfl, rfl⟩
          · have HK : Hid (32 ≤ (s[k].toNat : Int) ∧ (s[k].toNat : Int) ≤ 126) := ⟨by omega, by omega⟩
            go_wp2_with fail
            go_round
            case rel => exact ⟨k + 1, by omega, by go_num, fun i h b => by
              by_cases e : i < k
              · exact HA.out i h e
              · obtain rfl : i = k := by omega
                exact HK.out⟩
            case measure => simp [intOf]; omega
      · obtain rfl := YES.out ⟨h1, fun i h => HA.out i h (by omega)⟩
        clear NO YES HA
        have hge : ¬ (k : Int) < (s.size : Int) := by omega
        go_wp2_with fail
        go_ret
        exact ⟨rfl, rfl⟩
  · obtain rfl := NO.out (fun h => h1 h.1)
    clear NO YES
    have h1' : 200 < (s.size : Int) := by omega
    go_enter Tryd.func95, Tryd.ntmps95
    go_wp2_with fail
    go_ret
    exact ⟨rfl, rfl⟩

end Go.Proofs.YtdebekonggnckacDoor

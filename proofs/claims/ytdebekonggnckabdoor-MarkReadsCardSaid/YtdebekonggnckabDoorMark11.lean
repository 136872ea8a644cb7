/-
  A value as text.
-/
import Derived.Test.YtdebekonggnckabDoorMarkB
namespace Go.Proofs.YtdebekonggnckabDoor
open Go.RowKit

/-- The word that stands for a byte, as a list; none, if it stands for itself. -/
def wl (c : UInt8) : Bs := if c = 60 then [38, 108, 116, 59] else if c = 62 then [38, 103, 116, 59] else if c = 38 then [38, 97, 109, 112, 59] else if c = 34 then [38, 113, 117, 111, 116, 59] else []
theorem wordB_wl (c : UInt8) : wordB c = ⟨(wl c).toArray⟩ := by
  unfold wordB wl
  repeat' split
  all_goals rfl
theorem escB_wl (c : UInt8) : escB c = if wl c = [] then [c] else wl c := by
  unfold escB wl
  repeat' split
  all_goals first | rfl | simp_all
theorem wl_len (c : UInt8) : (wl c).length ≤ 6 := by
  unfold wl
  repeat' split
  all_goals decide
theorem escB_len (c : UInt8) : (escB c).length ≤ 6 := by
  unfold escB
  repeat' split
  all_goals (simp)
theorem escV_append : ∀ (a b : Bs), escV (a ++ b) = escV a ++ escV b
  | [], b => rfl
  | c :: a, b => by simp [escV, escV_append a b]
theorem escV_len : ∀ v : Bs, (escV v).length ≤ 6 * v.length
  | [] => by simp [escV]
  | c :: v => by have := escB_len c; have := escV_len v; simp [escV]; omega
theorem take_more (s : ByteArray) (k : Nat) (h : k < s.size) : s.data.toList.take (k + 1) = s.data.toList.take k ++ [s[k]] := by
  rw [List.take_add_one, List.getElem?_eq_getElem (by rw [m_len]; exact h), m_get s k h]; rfl
theorem esc_more (s : ByteArray) (k : Nat) (h : k < s.size) : escV (s.data.toList.take (k + 1)) = escV (s.data.toList.take k) ++ escB s[k] := by
  rw [take_more s k h, escV_append]; simp [escV]
theorem esc_take (s : ByteArray) (k : Nat) (h : k ≤ s.size) : (escV (s.data.toList.take k)).length ≤ 6 * s.size := by
  have := escV_len (s.data.toList.take k)
  rw [List.length_take, m_len] at this
  omega

set_option maxRecDepth 20000 in
set_option maxHeartbeats 4000000 in
theorem writeValue_any (B b : Nat) (l : Bs) (s : ByteArray) (W : World) (h : Bd B b l W) (hl : l.length ≤ 100000000) (hs : s.size ≤ 1000) (hB : B ≤ W.heap.size) :
    Calls Tryd.prog 57 #[.pointer (some ⟨b, 0, none⟩), .string s] W fun e w' => e = .returned (.tuple #[]) ∧ Bd B b (l ++ escV s.data.toList) w' ∧ BKp B b W w' := by
  have hs' : (s.size : Int) ≤ 1000 := by omega
  have HB0 : Hid (Bd B b l W) := h
  clear h
  go_enter Tryd.func57, Tryd.ntmps57
  go_wp2_with fail
  go_loopw [4] (fun y wr => ∃ k : Nat, k ≤ s.size ∧ y = .int .i64 k ∧ Bd B b (l ++ escV (s.data.toList.take k)) wr ∧ BKp B b W wr) (fun y _ => s.size - (intOf y).toNat)
  case atStart => exact ⟨0, Nat.zero_le _, rfl, by simpa [escV] using HB0.out, BKp.refl _ _ _⟩
  case round =>
    obtain ⟨k, hk, rfl, hbd, hkp⟩ := hrel
    have HBd : Hid (Bd B b (l ++ escV (s.data.toList.take k)) wr) := hbd
    clear hbd
    have hBr : B ≤ wr.heap.size := Nat.le_trans hB hkp.low.size
    by_cases hlt : k < s.size
    · have hlt' : (k : Int) < (s.size : Int) := by omega
      have hc := m_lt255 s[k]
      have HW := wordOf_any s[k]
      have hlen : (l ++ escV (s.data.toList.take k)).length ≤ 100006000 := by have := esc_take s k hk; rw [List.length_append]; omega
      by_cases hw : wl s[k] = []
      · have e0 : wordB s[k] = ⟨#[]⟩ := by rw [wordB_wl, hw]
        rw [e0] at HW
        have HWB := WriteByte_any B b _ s[k] wr HBd.out (by omega) hBr
        have hes : Hid (escV (s.data.toList.take (k + 1)) = escV (s.data.toList.take k) ++ [s[k]]) := (by rw [esc_more s k hlt, escB_wl, if_pos hw] : escV (s.data.toList.take (k + 1)) = escV (s.data.toList.take k) ++ [s[k]])
        clear e0 hw
        go_wp2_with (first | (go_at_call 78; refine (HW _).mono ?_; rintro e w1 ⟨rfl, rfl⟩) | (go_at_call 79; refine HWB.mono ?_; rintro e w2 ⟨rfl, hbd2, hk2⟩))
        go_roundw
        case rel => exact ⟨k + 1, by omega, by go_num, by rw [hes.out, ← List.append_assoc]; exact hbd2, hkp.trans hk2⟩
        case measure => simp [intOf]; omega
      · have e0 : wordB s[k] = ⟨(wl s[k]).toArray⟩ := wordB_wl _
        rw [e0] at HW
        have hwl := wl_len s[k]
        have HWS := WriteString_any B b _ (wl s[k]) wr HBd.out (by omega) hBr
        have hes : Hid (escV (s.data.toList.take (k + 1)) = escV (s.data.toList.take k) ++ wl s[k]) := (by rw [esc_more s k hlt, escB_wl, if_neg hw] : escV (s.data.toList.take (k + 1)) = escV (s.data.toList.take k) ++ wl s[k])
        have h1 : (wl s[k]).isEmpty = false := by rw [List.isEmpty_eq_false_iff]; exact hw
        have h2 : (wl s[k] == []) = false := by rw [beq_eq_false_iff_ne]; exact hw
        clear e0
        generalize wl s[k] = wd at *
        go_wp2_with (first | (go_at_call 78; refine (HW _).mono ?_; rintro e w1 ⟨rfl, rfl⟩) | (go_at_call 56; refine HWS.mono ?_; rintro e w2 ⟨rfl, hbd2, hk2⟩))
        go_roundw
        case rel => exact ⟨k + 1, by omega, by go_num, by rw [hes.out, ← List.append_assoc]; exact hbd2, hkp.trans hk2⟩
        case measure => simp [intOf]; omega
    · obtain rfl : k = s.size := by omega
      have he : Hid (s.data.toList.take s.size = s.data.toList) := (by rw [← m_len, List.take_length] : s.data.toList.take s.size = s.data.toList)
      go_wp2_with fail
      go_end0
      exact ⟨rfl, by have := HBd.out; rwa [he.out] at this, hkp⟩

end Go.Proofs.YtdebekonggnckabDoor

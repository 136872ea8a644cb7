/-
  The small functions of package mark: bytes, names, values, and the word that stands for a byte.
-/
import Derived.Test.YtmlajdhkkcmjnacDoorMarkM
import Derived.Test.YtmlajdhkkcmjnacDoorChecked
import Derived.WalkKit
import Derived.ChangeArms
import Derived.ChangeMaps5
import Derived.ChangeSame
namespace Go.Proofs.YtmlajdhkkcmjnacDoor
open Go.RowKit

theorem m_len (s : ByteArray) : s.data.toList.length = s.size := Array.length_toList
theorem m_get (s : ByteArray) (i : Nat) (h : i < s.size) : s.data.toList[i]'(by rw [m_len]; exact h) = s[i] := by simp [ByteArray.getElem_eq_getElem_data]
theorem m_le (c d : UInt8) : (c ≤ d) ↔ ((c.toNat : Int) ≤ (d.toNat : Int)) := by rw [UInt8.le_iff_toNat_le]; omega
theorem m_lt (c d : UInt8) : (c < d) ↔ ((c.toNat : Int) < (d.toNat : Int)) := by rw [UInt8.lt_iff_toNat_lt]; omega
theorem m_eq (c d : UInt8) : (c = d) ↔ ((c.toNat : Int) = (d.toNat : Int)) := by rw [← UInt8.toNat_inj]; omega
theorem m_lt255 (c : UInt8) : (c.toNat : Int) ≤ 255 := by have := c.toNat_lt; omega
theorem m_empty {s : ByteArray} (h : 0 < s.size) : s.toList.isEmpty = false := by
  rw [ByteArray.toList_eq, List.isEmpty_eq_false_iff]
  intro e
  have := m_len s
  rw [e] at this; simp at this; omega

theorem letB_iff (c : UInt8) : letB c = true ↔ 97 ≤ (c.toNat : Int) ∧ (c.toNat : Int) ≤ 122 := by
  simp only [letB, Bool.and_eq_true, decide_eq_true_eq, m_le]; rfl
theorem digB_iff (c : UInt8) : digB c = true ↔ 48 ≤ (c.toNat : Int) ∧ (c.toNat : Int) ≤ 57 := by
  simp only [digB, Bool.and_eq_true, decide_eq_true_eq, m_le]; rfl

set_option maxHeartbeats 1000000 in
theorem isLetter_any (c : UInt8) (w : World) : Calls Tryd.prog 55 #[.int .u8 c.toNat] w fun e w' => e = .returned (.bool (letB c)) ∧ w' = w := by
  have hb := m_lt255 c
  have hL := letB_iff c
  generalize letB c = b at hL ⊢
  by_cases h1 : 97 ≤ (c.toNat : Int)
  · by_cases h2 : (c.toNat : Int) ≤ 122
    · obtain rfl : b = true := hL.2 ⟨h1, h2⟩
      clear hL
      go_enter Tryd.func55, Tryd.ntmps55
      go_wp2
      go_ret
      exact ⟨rfl, rfl⟩
    · obtain rfl : b = false := by cases b with
        | false => rfl
        | true => exact (h2 (hL.1 rfl).2).elim
      clear hL
      go_enter Tryd.func55, Tryd.ntmps55
      go_wp2
      go_ret
      exact ⟨rfl, rfl⟩
  · obtain rfl : b = false := by cases b with
      | false => rfl
      | true => exact (h1 (hL.1 rfl).1).elim
    clear hL
    go_enter Tryd.func55, Tryd.ntmps55
    go_wp2
    go_ret
    exact ⟨rfl, rfl⟩
set_option maxHeartbeats 1000000 in
theorem isDigit_any (c : UInt8) (w : World) : Calls Tryd.prog 56 #[.int .u8 c.toNat] w fun e w' => e = .returned (.bool (digB c)) ∧ w' = w := by
  have hb := m_lt255 c
  have hL := digB_iff c
  generalize digB c = b at hL ⊢
  by_cases h1 : 48 ≤ (c.toNat : Int)
  · by_cases h2 : (c.toNat : Int) ≤ 57
    · obtain rfl : b = true := hL.2 ⟨h1, h2⟩
      clear hL
      go_enter Tryd.func56, Tryd.ntmps56
      go_wp2
      go_ret
      exact ⟨rfl, rfl⟩
    · obtain rfl : b = false := by cases b with
        | false => rfl
        | true => exact (h2 (hL.1 rfl).2).elim
      clear hL
      go_enter Tryd.func56, Tryd.ntmps56
      go_wp2
      go_ret
      exact ⟨rfl, rfl⟩
  · obtain rfl : b = false := by cases b with
      | false => rfl
      | true => exact (h1 (hL.1 rfl).1).elim
    clear hL
    go_enter Tryd.func56, Tryd.ntmps56
    go_wp2
    go_ret
    exact ⟨rfl, rfl⟩

/-- Is it a name, byte by byte? -/
theorem isNm_get (s : ByteArray) : isNm s.data.toList = true ↔ ∃ h0 : 0 < s.size, s.size ≤ 12 ∧ letB s[0] = true ∧ ∀ i (h : i < s.size), 1 ≤ i → nmB s[i] = true := by
  have hl := m_len s
  have hg := fun i h => m_get s i h
  constructor
  · intro h
    cases hs : s.data.toList with
    | nil => rw [hs] at h; simp [isNm] at h
    | cons c r =>
      rw [hs] at h hl
      simp only [isNm, Bool.and_eq_true, decide_eq_true_eq, List.all_eq_true] at h
      have h0 : 0 < s.size := by rw [← hl]; simp
      refine ⟨h0, by rw [← hl]; exact h.1.1, ?_, fun i hi h1 => ?_⟩
      · rw [← hg 0 h0]; simp only [hs, List.getElem_cons_zero]; exact h.1.2
      · obtain ⟨j, rfl⟩ : ∃ j, i = j + 1 := ⟨i - 1, by omega⟩
        rw [← hg _ hi]
        simp only [hs, List.getElem_cons_succ]
        exact h.2 _ (List.getElem_mem _)
  · rintro ⟨h0, h1, h2, h3⟩
    cases hs : s.data.toList with
    | nil => rw [hs] at hl; simp at hl; omega
    | cons c r =>
      rw [hs] at hl
      simp only [isNm, Bool.and_eq_true, decide_eq_true_eq, List.all_eq_true]
      refine ⟨⟨by rw [hl]; exact h1, ?_⟩, fun d hd => ?_⟩
      · have := hg 0 h0; simp only [hs, List.getElem_cons_zero] at this; rw [this]; exact h2
      · obtain ⟨i, hi, rfl⟩ := List.mem_iff_getElem.1 hd
        have hlt : i + 1 < s.size := by rw [← hl]; simp; exact hi
        have := hg (i + 1) hlt
        simp only [hs, List.getElem_cons_succ] at this
        rw [this]
        exact h3 _ hlt (by omega)

set_option maxHeartbeats 2000000 in
theorem IsName_any (s : ByteArray) (hs : s.size ≤ 9223372036854775807) (w : World) : Calls Tryd.prog 31 #[.string s] w fun e w' => e = .returned (.bool (isNm s.data.toList)) ∧ w' = w := by
  have hN := isNm_get s
  generalize isNm s.data.toList = b at hN ⊢
  have NO : Hid ((¬ ∃ h0 : 0 < s.size, s.size ≤ 12 ∧ letB s[0] = true ∧ ∀ i (h : i < s.size), 1 ≤ i → nmB s[i] = true) → b = false) := fun h => by
    cases b with
    | false => rfl
    | true => exact (h (hN.1 rfl)).elim
  have YES : Hid ((∃ h0 : 0 < s.size, s.size ≤ 12 ∧ letB s[0] = true ∧ ∀ i (h : i < s.size), 1 ≤ i → nmB s[i] = true) → b = true) := hN.2
  clear hN
  have hmax : (s.size : Int) ≤ 9223372036854775807 := by omega
  by_cases h0 : 0 < s.size
  · have hE := m_empty h0
    have hE' : ¬ s.toList = [] := by intro e; rw [e] at hE; simp at hE
    have hz : (0 : Int) < (s.size : Int) := by omega
    by_cases h1 : s.size ≤ 12
    · have h1' : (s.size : Int) ≤ 12 := by omega
      cases h2 : letB s[0] with
      | false =>
        obtain rfl := NO.out (fun ⟨_, _, h, _⟩ => by rw [h2] at h; cases h)
        clear NO YES
        go_enter Tryd.func31, Tryd.ntmps31
        go_wp2_with (go_at_call 55; refine (isLetter_any s[0] _).mono ?_; rw [h2]; rintro e w1 ⟨rfl, rfl⟩)
        go_ret
        exact ⟨rfl, rfl⟩
      | true =>
        go_enter Tryd.func31, Tryd.ntmps31
        go_wp2_with (go_at_call 55; refine (isLetter_any s[0] _).mono ?_; rw [h2]; rintro e w1 ⟨rfl, rfl⟩)
        go_loop [3] (fun y => ∃ k : Nat, k ≤ s.size ∧ 1 ≤ k ∧ y = .int .i64 k ∧ ∀ i (h : i < s.size), 1 ≤ i → i < k → nmB s[i] = true) (fun y => s.size - (intOf y).toNat)
        case atStart => exact ⟨1, by omega, by omega, rfl, fun i _ a b => by omega⟩
        case round =>
          obtain ⟨k, hk, hk1, rfl, hall⟩ := hrel
          have HA : Hid (∀ i (h : i < s.size), 1 ≤ i → i < k → nmB s[i] = true) := hall
          clear hall
          by_cases hlt : k < s.size
          · have hlt' : (k : Int) < (s.size : Int) := by omega
            have hb := m_lt255 s[k]
            cases hl : letB s[k] with
            | true =>
              go_wp2_with (go_at_call 55; refine (isLetter_any s[k] _).mono ?_; rw [hl]; rintro e w2 ⟨rfl, rfl⟩)
              go_round
              case rel => exact ⟨k + 1, by omega, by omega, by go_num, fun i h a b => by
                by_cases e : i < k
                · exact HA.out i h a e
                · obtain rfl : i = k := by omega
                  simp [nmB, hl]⟩
              case measure => simp [intOf]; omega
            | false =>
              cases hd : digB s[k] with
              | true =>
                go_wp2_with (first | (go_at_call 55; refine (isLetter_any s[k] _).mono ?_; rw [hl]; rintro e w2 ⟨rfl, rfl⟩) | (go_at_call 56; refine (isDigit_any s[k] _).mono ?_; rw [hd]; rintro e w3 ⟨rfl, rfl⟩))
                go_round
                case rel => exact ⟨k + 1, by omega, by omega, by go_num, fun i h a b => by
                  by_cases e : i < k
                  · exact HA.out i h a e
                  · obtain rfl : i = k := by omega
                    simp [nmB, hd]⟩
                case measure => simp [intOf]; omega
              | false =>
                by_cases h45 : (s[k].toNat : Int) = 45
                · have L45 : ∀ w, Calls Tryd.prog 55 #[.int .u8 45] w fun e w' => e = .returned (.bool false) ∧ w' = w := fun w => by have := isLetter_any 45 w; rwa [show letB 45 = false from by decide, show (((45 : UInt8).toNat : Nat) : Int) = 45 from by decide] at this
                  have D45 : ∀ w, Calls Tryd.prog 56 #[.int .u8 45] w fun e w' => e = .returned (.bool false) ∧ w' = w := fun w => by have := isDigit_any 45 w; rwa [show digB 45 = false from by decide, show (((45 : UInt8).toNat : Nat) : Int) = 45 from by decide] at this
                  have e45 : Hid (nmB s[k] = true) := (by have : s[k] = 45 := (m_eq _ _).2 (h45.trans (by decide)); simp [nmB, this] : nmB s[k] = true)
                  go_wp2_with (first | (go_at_call 55; refine (L45 _).mono ?_; rintro e w2 ⟨rfl, rfl⟩) | (go_at_call 56; refine (D45 _).mono ?_; rintro e w3 ⟨rfl, rfl⟩))
                  go_round
                  case rel => exact ⟨k + 1, by omega, by omega, by go_num, fun i h a b => by
                    by_cases e : i < k
                    · exact HA.out i h a e
                    · obtain rfl : i = k := by omega
                      exact e45.out⟩
                  case measure => simp [intOf]; omega
                · have hn : nmB s[k] = false := by
                    have : ¬ s[k] = 45 := fun e => h45 (((m_eq _ _).1 e).trans (by decide))
                    simp [nmB, hl, hd, this]
                  obtain rfl := NO.out (fun ⟨_, _, _, h⟩ => by have := h k hlt hk1; rw [hn] at this; cases this)
                  clear NO YES HA hn
                  go_wp2_with (first | (go_at_call 55; refine (isLetter_any s[k] _).mono ?_; rw [hl]; rintro e w2 ⟨rfl, rfl⟩) | (go_at_call 56; refine (isDigit_any s[k] _).mono ?_; rw [hd]; rintro e w3 ⟨rfl, rfl⟩))
                  go_ret
                  exact ⟨rfl, rfl⟩
          · obtain rfl := YES.out ⟨h0, h1, h2, fun i h a => HA.out i h a (by omega)⟩
            clear NO YES HA
            have hge : ¬ (k : Int) < (s.size : Int) := by omega
            go_wp2_with fail
            go_ret
            exact ⟨rfl, rfl⟩
    · obtain rfl := NO.out (fun ⟨_, h, _⟩ => h1 h)
      clear NO YES
      have h1' : 12 < (s.size : Int) := by omega
      go_enter Tryd.func31, Tryd.ntmps31
      go_wp2_with fail
      go_ret
      exact ⟨rfl, rfl⟩
  · obtain rfl := NO.out (fun ⟨h, _⟩ => h0 h)
    clear NO YES
    have hE : s.toList.isEmpty = true := by
      rw [ByteArray.toList_eq, List.isEmpty_iff]
      exact List.length_eq_zero_iff.1 (by rw [m_len]; omega)
    have hE' : s.toList = [] := List.isEmpty_iff.1 hE
    go_enter Tryd.func31, Tryd.ntmps31
    go_wp2_with fail
    go_ret
    exact ⟨rfl, rfl⟩

end Go.Proofs.YtmlajdhkkcmjnacDoor

namespace Go.Proofs.YtmlajdhkkcmjnacDoor
open Go.RowKit

theorem isVal_get (s : ByteArray) : isVal s.data.toList = true ↔ s.size ≤ 200 ∧ ∀ i (h : i < s.size), 32 ≤ (s[i].toNat : Int) ∧ (s[i].toNat : Int) ≤ 126 := by
  have hl := m_len s
  simp only [isVal, Bool.and_eq_true, decide_eq_true_eq, List.all_eq_true, hl, Bool.not_eq_true', decide_eq_false_iff_not]
  refine and_congr_right fun _ => ⟨fun h i hi => ?_, fun h c hc => ?_⟩
  · have := h s[i] (by rw [← m_get s i hi]; exact List.getElem_mem _)
    rw [m_lt, m_lt] at this
    have e1 : (((32 : UInt8).toNat : Nat) : Int) = 32 := by decide
    have e2 : (((126 : UInt8).toNat : Nat) : Int) = 126 := by decide
    rw [e1, e2] at this
    omega
  · obtain ⟨i, hi, rfl⟩ := List.mem_iff_getElem.1 hc
    rw [hl] at hi
    have := h i hi
    rw [m_get s i hi, m_lt, m_lt]
    have e1 : (((32 : UInt8).toNat : Nat) : Int) = 32 := by decide
    have e2 : (((126 : UInt8).toNat : Nat) : Int) = 126 := by decide
    rw [e1, e2]
    omega

set_option maxHeartbeats 2000000 in
theorem IsValue_any (s : ByteArray) (hs : s.size ≤ 9223372036854775807) (w : World) : Calls Tryd.prog 95 #[.string s] w fun e w' => e = .returned (.bool (isVal s.data.toList)) ∧ w' = w := by
  have hN := isVal_get s
  generalize isVal s.data.toList = b at hN ⊢
  have NO : Hid ((¬ (s.size ≤ 200 ∧ ∀ i (h : i < s.size), 32 ≤ (s[i].toNat : Int) ∧ (s[i].toNat : Int) ≤ 126)) → b = false) := fun h => by
    cases b with
    | false => rfl
    | true => exact (h (hN.1 rfl)).elim
  have YES : Hid ((s.size ≤ 200 ∧ ∀ i (h : i < s.size), 32 ≤ (s[i].toNat : Int) ∧ (s[i].toNat : Int) ≤ 126) → b = true) := hN.2
  clear hN
  have hmax : (s.size : Int) ≤ 9223372036854775807 := by omega
  by_cases h1 : s.size ≤ 200
  · have h1' : (s.size : Int) ≤ 200 := by omega
    go_enter Tryd.func95, Tryd.ntmps95
    go_wp2_with fail
    go_loop [3] (fun y => ∃ k : Nat, k ≤ s.size ∧ y = .int .i64 k ∧ ∀ i (h : i < s.size), i < k → 32 ≤ (s[i].toNat : Int) ∧ (s[i].toNat : Int) ≤ 126) (fun y => s.size - (intOf y).toNat)
    case atStart => exact ⟨0, by omega, rfl, fun i _ b => by omega⟩
    case round =>
      obtain ⟨k, hk, rfl, hall⟩ := hrel
      have HA : Hid (∀ i (h : i < s.size), i < k → 32 ≤ (s[i].toNat : Int) ∧ (s[i].toNat : Int) ≤ 126) := hall
      clear hall
      by_cases hlt : k < s.size
      · have hlt' : (k : Int) < (s.size : Int) := by omega
        have hb := m_lt255 s[k]
        by_cases c1 : (s[k].toNat : Int) < 32
        · obtain rfl := NO.out (fun h => by have := (h.2 k hlt).1; omega)
          clear NO YES HA
          go_wp2_with fail
          go_ret
          exact ⟨rfl, rfl⟩
        · by_cases c2 : 126 < (s[k].toNat : Int)
          · obtain rfl := NO.out (fun h => by have := (h.2 k hlt).2; omega)
            clear NO YES HA
            go_wp2_with fail
            go_ret
            exact ⟨rfl, rfl⟩
          · have HK : Hid (32 ≤ (s[k].toNat : Int) ∧ (s[k].toNat : Int) ≤ 126) := ⟨by omega, by omega⟩
            go_wp2_with fail
            go_round
            case rel => exact ⟨k + 1, by omega, by go_num, fun i h b => by
              by_cases e : i < k
              · exact HA.out i h e
              · obtain rfl : i = k := by omega
                exact HK.out⟩
            case measure => simp [intOf]; omega
      · obtain rfl := YES.out ⟨h1, fun i h => HA.out i h (by omega)⟩
        clear NO YES HA
        have hge : ¬ (k : Int) < (s.size : Int) := by omega
        go_wp2_with fail
        go_ret
        exact ⟨rfl, rfl⟩
  · obtain rfl := NO.out (fun h => h1 h.1)
    clear NO YES
    have h1' : 200 < (s.size : Int) := by omega
    go_enter Tryd.func95, Tryd.ntmps95
    go_wp2_with fail
    go_ret
    exact ⟨rfl, rfl⟩

end Go.Proofs.YtmlajdhkkcmjnacDoor

namespace Go.Proofs.YtmlajdhkkcmjnacDoor
open Go.RowKit

/-- A text's value. -/
def strV (s : Bs) : Value := .string ⟨s.toArray⟩
theorem strV_of (s : ByteArray) : Value.string s = strV s.data.toList := by cases s; rfl
theorem strV_size (s : Bs) : (⟨s.toArray⟩ : ByteArray).size = s.length := by simp [ByteArray.size]

/-- Attributes in memory. -/
def AtsAt (w : World) (o : Option Addr) (ats : List (Bs × Bs)) : Prop := ∀ i x, ats[i]? = some x → ∃ b off, o = some ⟨b, off, none⟩ ∧ w.cell? ⟨b, off + i * 2, none⟩ = some (strV x.1) ∧ w.cell? ⟨b, off + i * 2 + 1, none⟩ = some (strV x.2) ∧ x.1.length ≤ maxLen ∧ x.2.length ≤ maxLen
def AtsIn (w : World) (v : Value) (ats : List (Bs × Bs)) : Prop := ∃ o cap, v = .slice o ats.length cap ∧ ats.length ≤ cap ∧ cap ≤ maxLen ∧ (o = none → cap = 0) ∧ AtsAt w o ats
mutual
/-- A node in memory, by its three cells. -/
def NdC (w : World) (c0 c1 c2 : Value) : Nd → Prop
  | .mk nm ats ks => c0 = strV nm ∧ nm.length ≤ maxLen ∧ AtsIn w c1 ats ∧ ∃ o cap, c2 = .slice o ks.length cap ∧ ks.length ≤ cap ∧ cap ≤ maxLen ∧ (o = none → cap = 0) ∧ KdsAt w o 0 ks
def KdsAt (w : World) (o : Option Addr) (i : Nat) : List Nd → Prop
  | [] => True
  | k :: l => (∃ b off c0 c1 c2, o = some ⟨b, off, none⟩ ∧ w.cell? ⟨b, off + i * 3, none⟩ = some c0 ∧ w.cell? ⟨b, off + i * 3 + 1, none⟩ = some c1 ∧ w.cell? ⟨b, off + i * 3 + 2, none⟩ = some c2 ∧ NdC w c0 c1 c2 k) ∧ KdsAt w o (i + 1) l
end

theorem cell_lt3 {w : World} {a : Addr} {v : Value} (h : w.cell? a = some v) : a.block < w.heap.size := by
  rcases Nat.lt_or_ge a.block w.heap.size with h' | h'
  · exact h'
  · simp [World.cell?, Array.getElem?_eq_none h'] at h
theorem AtsAt.below {w w' : World} {o : Option Addr} {ats : List (Bs × Bs)} (h : AtsAt w o ats) (hb : Below w.heap.size w w') : AtsAt w' o ats := fun i x hx => by
  obtain ⟨b, off, h1, h2, h3, h4⟩ := h i x hx
  exact ⟨b, off, h1, (hb.cell (cell_lt3 h2)).trans h2, (hb.cell (cell_lt3 h3)).trans h3, h4⟩
theorem AtsIn.below {w w' : World} {v : Value} {ats : List (Bs × Bs)} (h : AtsIn w v ats) (hb : Below w.heap.size w w') : AtsIn w' v ats := by
  obtain ⟨o, cap, h1, h2, h3, h5, h4⟩ := h
  exact ⟨o, cap, h1, h2, h3, h5, h4.below hb⟩
mutual
theorem NdC.below {w w' : World} (hb : Below w.heap.size w w') : ∀ {c0 c1 c2 : Value} (n : Nd), NdC w c0 c1 c2 n → NdC w' c0 c1 c2 n
  | _, _, _, .mk _ _ ks, h => by
    unfold NdC at h ⊢
    obtain ⟨h1, h2, h3, o, cap, h4, h5, h6, h8, h7⟩ := h
    exact ⟨h1, h2, h3.below hb, o, cap, h4, h5, h6, h8, KdsAt.below hb ks h7⟩
theorem KdsAt.below {w w' : World} (hb : Below w.heap.size w w') : ∀ {o : Option Addr} {i : Nat} (l : List Nd), KdsAt w o i l → KdsAt w' o i l
  | _, _, [], _ => by unfold KdsAt; trivial
  | _, _, k :: l, h => by
    unfold KdsAt at h ⊢
    obtain ⟨⟨b, off, c0, c1, c2, h1, h2, h3, h4, h5⟩, h6⟩ := h
    exact ⟨⟨b, off, c0, c1, c2, h1, (hb.cell (cell_lt3 h2)).trans h2, (hb.cell (cell_lt3 h3)).trans h3, (hb.cell (cell_lt3 h4)).trans h4, NdC.below hb k h5⟩, KdsAt.below hb l h6⟩
end
theorem KdsAt.get {w : World} {o : Option Addr} : ∀ {l : List Nd} {i j : Nat} {k : Nd}, KdsAt w o i l → l[j]? = some k → ∃ b off c0 c1 c2, o = some ⟨b, off, none⟩ ∧ w.cell? ⟨b, off + (i + j) * 3, none⟩ = some c0 ∧ w.cell? ⟨b, off + (i + j) * 3 + 1, none⟩ = some c1 ∧ w.cell? ⟨b, off + (i + j) * 3 + 2, none⟩ = some c2 ∧ NdC w c0 c1 c2 k
  | [], _, _, _, _, hk => by simp at hk
  | k :: l, i, j, k', h, hk => by
    unfold KdsAt at h
    cases j with
    | zero => simp at hk; subst hk; exact h.1
    | succ j =>
      have := KdsAt.get (i := i + 1) (j := j) h.2 (by simpa using hk)
      rw [show i + 1 + j = i + (j + 1) from by omega] at this
      exact this
theorem kdsAt_of {w : World} {o : Option Addr} : ∀ {l : List Nd} {i : Nat}, (∀ j k, l[j]? = some k → ∃ b off c0 c1 c2, o = some ⟨b, off, none⟩ ∧ w.cell? ⟨b, off + (i + j) * 3, none⟩ = some c0 ∧ w.cell? ⟨b, off + (i + j) * 3 + 1, none⟩ = some c1 ∧ w.cell? ⟨b, off + (i + j) * 3 + 2, none⟩ = some c2 ∧ NdC w c0 c1 c2 k) → KdsAt w o i l
  | [], _, _ => by unfold KdsAt; trivial
  | k :: l, i, h => by
    unfold KdsAt
    refine ⟨h 0 k rfl, kdsAt_of fun j k' hk => ?_⟩
    have := h (j + 1) k' (by simpa using hk)
    rw [show i + (j + 1) = i + 1 + j from by omega] at this
    exact this

/-- One of each, in a list. -/
theorem list_of {α : Type} {P : Nat → α → Prop} : ∀ (n : Nat), (∀ i, i < n → ∃ x, P i x) → ∃ l : List α, l.length = n ∧ ∀ i x, l[i]? = some x → P i x
  | 0, _ => ⟨[], rfl, fun i x h => by simp at h⟩
  | n + 1, h => by
    obtain ⟨l, hl, hP⟩ := list_of n (fun i hi => h i (by omega))
    obtain ⟨x, hx⟩ := h n (by omega)
    refine ⟨l ++ [x], by simp [hl], fun i y hy => ?_⟩
    rcases Nat.lt_or_ge i n with hi | hi
    · rw [List.getElem?_append_left (by omega)] at hy; exact hP i y hy
    · rw [List.getElem?_append_right (by omega)] at hy
      have : i - l.length = 0 := by
        rcases Nat.eq_zero_or_pos (i - l.length) with e | e
        · exact e
        · rw [List.getElem?_eq_none (by simp; omega)] at hy; cases hy
      rw [this] at hy
      simp at hy
      subst hy
      obtain rfl : i = n := by omega
      exact hx
theorem cells_two {w : World} {base : Nat} {a : Addr} {cs : List Value} (h : w.cells? base a 2 = some cs) : ∃ b off c0 c1, a = ⟨b, off, none⟩ ∧ cs = [c0, c1] ∧ w.cell? ⟨b, off, none⟩ = some c0 ∧ w.cell? ⟨b, off + 1, none⟩ = some c1 := by
  unfold World.cells? at h
  split at h
  · simp only [List.range_succ, List.range_zero, List.nil_append, List.cons_append, List.mapM_cons, List.mapM_nil] at h
    cases h0 : w.cell? (a.add 0) with
    | none => simp [h0] at h
    | some c0 =>
      cases h1 : w.cell? (a.add 1) with
      | none => simp [h0, h1] at h
      | some c1 =>
        simp [h0, h1] at h
        obtain ⟨b, off, sp⟩ := a
        cases sp with
        | some s =>
          simp [Addr.add, World.cell?] at h0
          split at h0 <;> cases h0
        | none => exact ⟨b, off, c0, c1, rfl, h.symm, by simpa [Addr.add] using h0, by simpa [Addr.add] using h1⟩
  · cases h
theorem cells_three {w : World} {base : Nat} {a : Addr} {cs : List Value} (h : w.cells? base a 3 = some cs) : ∃ b off c0 c1 c2, a = ⟨b, off, none⟩ ∧ cs = [c0, c1, c2] ∧ w.cell? ⟨b, off, none⟩ = some c0 ∧ w.cell? ⟨b, off + 1, none⟩ = some c1 ∧ w.cell? ⟨b, off + 2, none⟩ = some c2 := by
  unfold World.cells? at h
  split at h
  · simp only [List.range_succ, List.range_zero, List.nil_append, List.cons_append, List.mapM_cons, List.mapM_nil] at h
    cases h0 : w.cell? (a.add 0) with
    | none => simp [h0] at h
    | some c0 =>
      cases h1 : w.cell? (a.add 1) with
      | none => simp [h0, h1] at h
      | some c1 =>
        cases h2 : w.cell? (a.add 2) with
        | none => simp [h0, h1, h2] at h
        | some c2 =>
          simp [h0, h1, h2] at h
          obtain ⟨b, off, sp⟩ := a
          cases sp with
          | some s =>
            simp [Addr.add, World.cell?] at h0
            split at h0 <;> cases h0
          | none => exact ⟨b, off, c0, c1, c2, rfl, h.symm, by simpa [Addr.add] using h0, by simpa [Addr.add] using h1, by simpa [Addr.add] using h2⟩
  · cases h

end Go.Proofs.YtmlajdhkkcmjnacDoor

namespace Go.Proofs.YtmlajdhkkcmjnacDoor
open Go.RowKit

theorem cellsAttr : Tryd.prog.cellsOf 65 = 2 := by kernel_rfl
theorem cellsNode : Tryd.prog.cellsOf 25 = 3 := by kernel_rfl
theorem cellsStr : Tryd.prog.cellsOf 9 = 1 := by kernel_rfl
theorem cellsAttrs : Tryd.prog.cellsOf 22 = 1 := by kernel_rfl
theorem cellsKids : Tryd.prog.cellsOf 23 = 1 := by kernel_rfl
section
variable {H : Type} {enc : TypeId × Value → H} {w : World} {base : Nat} {spare : Nat → Bool} {held : Bool}

theorem trod_str {fuel : Nat} {c : Value} {x : DataW H × List MemPlace} (h : DataW.trod enc Tryd.prog w base spare held fuel 9 [c] = some x) : ∃ s : Bs, c = strV s ∧ s.length ≤ maxLen := by
  obtain ⟨s', h1, _, hs⟩ := DataW.trod_string Tryd.underlying9 h
  simp at h1
  subst h1
  exact ⟨s'.data.toList, strV_of s', by rw [m_len]; exact hs⟩
theorem open_ats {fuel : Nat} {cs : List Value} {x : DataW H × List MemPlace} (h : DataW.trod enc Tryd.prog w base spare held fuel 22 cs = some x) : ∃ v ats, cs = [v] ∧ AtsIn w v ats := by
  rcases DataW.trod_slice Tryd.underlying22 h with ⟨rfl, _⟩ | ⟨a, len, cap, elems, rest, n, _, rfl, _, _, hl, hc, hlen, hel, _⟩
  · exact ⟨_, [], rfl, none, 0, rfl, Nat.le_refl _, by decide, fun _ => rfl, fun i x hx => by simp at hx⟩
  · simp only [cellsAttr] at hel
    obtain ⟨l, hll, hP⟩ := list_of (α := Bs × Bs) (P := fun i x => ∃ b off, some a = some ⟨b, off, none⟩ ∧ w.cell? ⟨b, off + i * 2, none⟩ = some (strV x.1) ∧ w.cell? ⟨b, off + i * 2 + 1, none⟩ = some (strV x.2) ∧ x.1.length ≤ maxLen ∧ x.2.length ≤ maxLen) len (fun i hi => by
      have hE := hel i hi
      obtain ⟨y, hy⟩ : ∃ y, elems[i]? = some y := ⟨elems[i], List.getElem?_eq_getElem (by omega)⟩
      rw [hy] at hE
      simp only [Option.bind_eq_some_iff] at hE
      obtain ⟨c, hc1, hc2⟩ := hE
      obtain ⟨b, off, c0, c1, ha, rfl, h0, h1⟩ := cells_two hc1
      obtain ⟨y0, y1, m, _, _, f0, f1⟩ := Go.ChangeShapes.trod_struct2 Tryd.underlying65 hc2
      simp only [cellsStr] at f0 f1
      obtain ⟨s0, rfl, l0⟩ := trod_str f0
      obtain ⟨s1, rfl, l1⟩ := trod_str f1
      obtain ⟨ab, ao, asp⟩ := a
      have : asp = none := by
        cases i with
        | zero => simp [Addr.add] at ha; exact ha.2.2
        | succ i => 
          have h00 := hel 0 (by omega)
          obtain ⟨y0, hy0⟩ : ∃ y, elems[0]? = some y := ⟨elems[0], List.getElem?_eq_getElem (by omega)⟩
          rw [hy0] at h00
          simp only [Option.bind_eq_some_iff] at h00
          obtain ⟨_, hd1, _⟩ := h00
          obtain ⟨_, _, _, _, hb, _⟩ := cells_two hd1
          simp [Addr.add] at hb
          exact hb.2.2
      subst this
      have e : b = ab ∧ off = ao + i * 2 := by
        unfold Addr.add at ha
        split at ha <;> simp at ha <;> exact ⟨ha.1.symm, by omega⟩
      obtain ⟨rfl, rfl⟩ := e
      exact ⟨(s0, s1), _, ao, rfl, h0, h1, l0, l1⟩)
    exact ⟨_, l, rfl, some a, cap, by rw [hll], by omega, hc, (fun e => nomatch e), hP⟩

theorem trod_three {t : TypeId} {f0 f1 f2 : Field} {fuel : Nat} {cs : List Value} {x : DataW H × List MemPlace} {P : Program} (ht : P.underlying t = some (.struct #[f0, f1, f2])) (h : DataW.trod enc P w base spare held fuel t cs = some x) :
    ∃ y0 y1 y2 n, fuel = n + 1 ∧ cs.length = P.cellsOf t ∧ DataW.trod enc P w base spare held n f0.type ((cs.drop f0.offset).take (P.cellsOf f0.type)) = some y0 ∧
      DataW.trod enc P w base spare held n f1.type ((cs.drop f1.offset).take (P.cellsOf f1.type)) = some y1 ∧ DataW.trod enc P w base spare held n f2.type ((cs.drop f2.offset).take (P.cellsOf f2.type)) = some y2 := by
  obtain ⟨xs, n, hn, rfl, hl, hlen, hf⟩ := DataW.trod_struct ht h
  match xs, hlen with
  | [y0, y1, y2], _ => exact ⟨y0, y1, y2, n, hn, hl, by simpa using hf 0 f0 rfl, by simpa using hf 1 f1 rfl, by simpa using hf 2 f2 rfl⟩

theorem open_nd : ∀ (fuel : Nat) {cs : List Value} {x : DataW H × List MemPlace}, DataW.trod enc Tryd.prog w base spare held fuel 25 cs = some x → ∃ c0 c1 c2 n, cs = [c0, c1, c2] ∧ NdC w c0 c1 c2 n
  | fuel, cs, x, h => by
    obtain ⟨y0, y1, y2, m, rfl, hcl, f0, f1, f2⟩ := trod_three Tryd.underlying25 h
    rw [cellsNode] at hcl
    obtain ⟨c0, c1, c2, rfl⟩ : ∃ c0 c1 c2, cs = [c0, c1, c2] := by
      rcases cs with _ | ⟨c0, _ | ⟨c1, _ | ⟨c2, _ | ⟨c3, cs⟩⟩⟩⟩
      all_goals first | exact ⟨_, _, _, rfl⟩ | simp at hcl
    simp only [cellsStr, cellsAttrs, cellsKids] at f0 f1 f2
    obtain ⟨s0, rfl, l0⟩ := trod_str f0
    obtain ⟨v1, ats, e1, ha⟩ := open_ats f1
    simp at e1
    subst e1
    suffices hk : ∃ ks : List Nd, ∃ o cap, c2 = .slice o ks.length cap ∧ ks.length ≤ cap ∧ cap ≤ maxLen ∧ (o = none → cap = 0) ∧ KdsAt w o 0 ks by
      obtain ⟨ks, hk⟩ := hk
      exact ⟨_, _, _, .mk s0 ats ks, rfl, by unfold NdC; exact ⟨rfl, l0, ha, hk⟩⟩
    rcases DataW.trod_slice Tryd.underlying23 f2 with ⟨e2, _⟩ | ⟨a, len, cap, elems, rest, q, hq, e2, _, _, hl, hc, hlen, hel, _⟩
    · simp at e2
      subst e2
      exact ⟨[], none, 0, rfl, Nat.le_refl _, by decide, fun _ => rfl, by unfold KdsAt; trivial⟩
    · simp at e2
      subst e2
      simp only [cellsNode] at hel
      have sp : 0 < len → a.spot = none := fun h0 => by
        have h00 := hel 0 h0
        obtain ⟨y0, hy0⟩ : ∃ y, elems[0]? = some y := ⟨elems[0], List.getElem?_eq_getElem (by omega)⟩
        rw [hy0] at h00
        simp only [Option.bind_eq_some_iff] at h00
        obtain ⟨_, hd1, _⟩ := h00
        obtain ⟨_, _, _, _, _, hb, _⟩ := cells_three hd1
        simp [Addr.add] at hb
        rw [hb]
      obtain ⟨l, hll, hP⟩ := list_of (α := Nd) (P := fun i k => ∃ b off c0 c1 c2, some a = some ⟨b, off, none⟩ ∧ w.cell? ⟨b, off + i * 3, none⟩ = some c0 ∧ w.cell? ⟨b, off + i * 3 + 1, none⟩ = some c1 ∧ w.cell? ⟨b, off + i * 3 + 2, none⟩ = some c2 ∧ NdC w c0 c1 c2 k) len (fun i hi => by
        have hE := hel i hi
        obtain ⟨y, hy⟩ : ∃ y, elems[i]? = some y := ⟨elems[i], List.getElem?_eq_getElem (by omega)⟩
        rw [hy] at hE
        simp only [Option.bind_eq_some_iff] at hE
        obtain ⟨c, hc1, hc2⟩ := hE
        obtain ⟨b, off, d0, d1, d2, hb, rfl, h0, h1, h2⟩ := cells_three hc1
        obtain ⟨e0, e1, e2, k, he, hk⟩ := open_nd q hc2
        simp at he
        obtain ⟨rfl, rfl, rfl⟩ := he
        have hs := sp (by omega)
        obtain ⟨ab, ao, asp⟩ := a
        simp at hs
        subst hs
        have e : b = ab ∧ off = ao + i * 3 := by
          unfold Addr.add at hb
          split at hb <;> simp at hb <;> exact ⟨hb.1.symm, by omega⟩
        obtain ⟨rfl, rfl⟩ := e
        exact ⟨k, _, ao, d0, d1, d2, rfl, h0, h1, h2, hk⟩)
      exact ⟨l, some a, cap, by rw [hll], by omega, hc, (fun e => nomatch e), kdsAt_of (fun j k hk => by rw [show 0 + j = j from by omega]; exact hP j k hk)⟩
  termination_by fuel => fuel
  decreasing_by omega
end

end Go.Proofs.YtmlajdhkkcmjnacDoor

/-
  The reader's small steps: a word that is skipped, bytes that are taken.
-/
import Derived.Test.YtdebekonggnckabDoorMark17
import Derived.Test.YtdebekonggnckabDoorShelfR
namespace Go.Proofs.YtdebekonggnckabDoor
open Go.RowKit

/-- What is left behind a word that is skipped. -/
def cutW (wd s : Bs) : Bs := if wd.isPrefixOf s = true then s.drop wd.length else s
theorem cutW_yes {wd s : Bs} (h : wd.isPrefixOf s = true) : cutW wd s = s.drop wd.length := if_pos h
theorem cutW_no {wd s : Bs} (h : wd.isPrefixOf s = false) : cutW wd s = s := if_neg (by rw [h]; simp)
theorem CutPrefix_bs (s p : Bs) (w : World) : Calls Tryd.prog 91 #[.string ⟨s.toArray⟩, .string ⟨p.toArray⟩] w fun e w' => e = .returned (.tuple #[.string ⟨(cutW p s).toArray⟩, .bool (p.isPrefixOf s)]) ∧ w' = w := by
  have := Tryd.strings_CutPrefix ⟨s.toArray⟩ ⟨p.toArray⟩ w
  exact this

set_option maxHeartbeats 1000000 in
theorem skip_any (R : Nat) (s wd : Bs) (W : World) (h : RD R s W) : Calls Tryd.prog 62 #[.pointer (some ⟨R, 0, none⟩), .string ⟨wd.toArray⟩] W fun e w' => e = .returned (.bool (wd.isPrefixOf s)) ∧ RD R (cutW wd s) w' ∧ Keep R W w' := by
  have c := h.cell
  have f := h.froz
  go_enter Tryd.func62, Tryd.ntmps62
  go_wp2_with (go_at_call 91; refine (CutPrefix_bs s wd _).mono ?_; rintro e w1 ⟨rfl, rfl⟩)
  go_ret
  exact ⟨rfl, h.set, (Keep.of_below (Below.refl _ _)).setCell _⟩

set_option maxHeartbeats 1000000 in
theorem noneOf_any (ends : Bs) (W : World) : Calls Tryd.prog 64 #[.string ⟨ends.toArray⟩] W fun e w' => e = .returned (.func (.func 92) #[] #[.pointer (some ⟨W.heap.size, 0, none⟩)]) ∧ w' = W.alloc (.cells #[.string ⟨ends.toArray⟩] 9) := by
  go_enter Tryd.func64, Tryd.ntmps64
  go_wp2
  go_ret
  exact ⟨rfl, rfl⟩

/-- Does a byte fit? -/
def ftB (ends : Bs) (c : UInt8) : Bool := decide (Lib.indexByte ends c < 0)
theorem ftB_iff {ends : Bs} {c : UInt8} : ftB ends c = true ↔ Lib.indexByte ends c < 0 := decide_eq_true_iff
theorem ft_not (ends : Bs) (c : UInt8) : ftB ends c = !(ends.any (fun b => b == c)) := by
  unfold ftB
  induction ends with
  | nil => rfl
  | cons b l ih =>
    have hr : -1 ≤ Lib.indexByte l c := by
      clear ih
      induction l with
      | nil => exact Int.le_refl _
      | cons d l ih => unfold Lib.indexByte; split; decide; split; decide; omega
    rw [List.any_cons]
    unfold Lib.indexByte
    by_cases hb : (b == c) = true
    · rw [if_pos hb, hb]; rfl
    · rw [if_neg hb, Bool.eq_false_iff.2 hb, Bool.false_or, ← ih]
      by_cases h1 : (Lib.indexByte l c == -1) = true
      · rw [if_pos h1, eq_of_beq h1]
      · rw [if_neg h1]
        have : Lib.indexByte l c ≠ -1 := fun e => h1 (by rw [e]; rfl)
        rw [decide_eq_false (by omega), decide_eq_false (by omega)]
theorem ft_eB : ftB [32, 61, 34, 60, 62, 47] = fun c => !eB c := by
  funext c
  rw [ft_not]
  simp [eB, Bool.beq_comm, Bool.or_assoc]
theorem ft_mB : ftB [60, 62, 38, 34] = fun c => !mB c := by
  funext c
  rw [ft_not]
  simp [mB, Bool.beq_comm, Bool.or_assoc]
theorem IndexByte_bs (ends : Bs) (c : UInt8) (w : World) : Calls Tryd.prog 93 #[.string ⟨ends.toArray⟩, .int .u8 c.toNat] w fun e w' => e = .returned (.int .i64 (Lib.indexByte ends c)) ∧ w' = w := by
  have := Tryd.strings_IndexByte ⟨ends.toArray⟩ c.toNat w
  rw [show ((c.toNat : Int)).toNat.toUInt8 = c from by simp] at this
  exact this

set_option maxHeartbeats 1000000 in
theorem fits_any (ends : Bs) (c : UInt8) (B : Nat) (W : World) (h : W.cell? ⟨B, 0, none⟩ = some (.string ⟨ends.toArray⟩)) : Calls Tryd.prog 92 #[.int .u8 c.toNat, .pointer (some ⟨B, 0, none⟩)] W fun e w' => e = .returned (.bool (ftB ends c)) ∧ w' = W := by
  go_enter Tryd.func92, Tryd.ntmps92
  go_wp2_with (go_at_call 93; refine (IndexByte_bs ends c _).mono ?_; rintro e w1 ⟨rfl, rfl⟩)
  go_ret
  exact ⟨rfl, rfl⟩

theorem tw_more {P : UInt8 → Bool} {s : Bs} {i : Nat} (h : ∀ j c, j < i → s[j]? = some c → P c = true) (he : ∀ c, s[i]? = some c → P c = false) : s.takeWhile P = s.take i ∧ s.dropWhile P = s.drop i := by
  have h1 : ∀ c ∈ s.take i, P c = true := fun c hc => by
    obtain ⟨j, hj⟩ := List.mem_iff_getElem?.1 hc
    rw [List.getElem?_take] at hj
    split at hj
    · exact h j c (by assumption) hj
    · cases hj
  have h2 : (s.drop i).takeWhile P = [] ∧ (s.drop i).dropWhile P = s.drop i := by
    cases hd : s.drop i with
    | nil => exact ⟨rfl, rfl⟩
    | cons c r =>
      have : s[i]? = some c := by have := congrArg List.head? hd; simpa using this
      have := he c this
      exact ⟨List.takeWhile_cons_of_neg (by simp [this]), List.dropWhile_cons_of_neg (by simp [this])⟩
  have e : s = s.take i ++ s.drop i := (List.take_append_drop i s).symm
  constructor
  · conv => lhs; rw [e]
    rw [List.takeWhile_append_of_pos h1, h2.1, List.append_nil]
  · conv => lhs; rw [e]
    rw [List.dropWhile_append_of_pos h1, h2.2]
theorem bs_get (s : Bs) (i : Nat) (h : i < (⟨s.toArray⟩ : ByteArray).size) : s[i]? = some ((⟨s.toArray⟩ : ByteArray)[i]) := by
  rw [← m_get ⟨s.toArray⟩ i h]
  exact List.getElem?_eq_getElem _
theorem bs_take (s : Bs) (i : Nat) : (⟨s.toArray⟩ : ByteArray).extract 0 i = ⟨(s.take i).toArray⟩ := by
  have h := Lib.extract_data ⟨s.toArray⟩ 0 i
  cases he : (⟨s.toArray⟩ : ByteArray).extract 0 i with
  | mk d =>
    rw [he] at h
    simp at h
    rw [← h]
theorem bs_drop (s : Bs) (i : Nat) : (⟨s.toArray⟩ : ByteArray).extract i s.length = ⟨(s.drop i).toArray⟩ := by
  have h := Lib.extract_to_end ⟨s.toArray⟩ i
  rw [strV_size] at h
  cases he : (⟨s.toArray⟩ : ByteArray).extract i s.length with
  | mk d =>
    rw [he] at h
    simp at h
    rw [← h]

set_option maxRecDepth 20000 in
set_option maxHeartbeats 4000000 in
theorem take_any (R : Nat) (s ends : Bs) (B : Nat) (W : World) (h : RD R s W) (hB : W.heap[B]? = some (.cells #[.string ⟨ends.toArray⟩] 9)) (hl : s.length ≤ 100000) :
    Calls Tryd.prog 63 #[.pointer (some ⟨R, 0, none⟩), .func (.func 92) #[] #[.pointer (some ⟨B, 0, none⟩)]] W fun e w' => e = .returned (.string ⟨(s.takeWhile (ftB ends)).toArray⟩) ∧ RD R (s.dropWhile (ftB ends)) w' ∧ Keep R W w' := by
  have c := h.cell
  have f := h.froz
  have hb := bcell hB 0 _ rfl
  have hsz := strV_size s
  have hl' : (s.length : Int) ≤ 100000 := by omega
  go_enter Tryd.func63, Tryd.ntmps63
  go_wp2_with fail
  go_loopw [5] (fun y wr => ∃ i : Nat, y = .int .i64 i ∧ i ≤ s.length ∧ (∀ j c, j < i → s[j]? = some c → ftB ends c = true) ∧ wr = W) (fun y _ => s.length - (intOf y).toNat)
  case atStart => exact ⟨0, rfl, Nat.zero_le _, fun j _ h => absurd h (Nat.not_lt_zero _), rfl⟩
  case round =>
    obtain ⟨i, rfl, hi, hsm, rfl⟩ := hrel
    have HS : Hid (∀ j c, j < i → s[j]? = some c → ftB ends c = true) := hsm
    clear hsm
    by_cases hlt : i < s.length
    · have hlt' : (i : Int) < (s.length : Int) := by omega
      have hget := bs_get s i (by rw [hsz]; exact hlt)
      have hlt2 : i < (⟨s.toArray⟩ : ByteArray).size := by rw [hsz]; exact hlt
      obtain ⟨c1, hc1⟩ : ∃ c1, (⟨s.toArray⟩ : ByteArray)[i] = c1 := ⟨_, rfl⟩
      rw [hc1] at hget
      cases hft : ftB ends c1 with
      | true =>
        have HN : Hid (∀ j c, j < i + 1 → s[j]? = some c → ftB ends c = true) := (fun j c hj hc => by
          by_cases e : j < i
          · exact HS.out j c e hc
          · obtain rfl : j = i := by omega
            rw [hget] at hc; cases hc; exact hft : ∀ j c, j < i + 1 → s[j]? = some c → ftB ends c = true)
        have HF := fits_any ends c1 B wr hb
        rw [hft] at HF
        clear hget hft
        go_wp2_with (go_at_call 92; refine HF.mono ?_; rintro e w1 ⟨rfl, rfl⟩)
        go_roundw
        case rel => exact ⟨i + 1, by go_num, by omega, HN.out, trivial⟩
        case measure => simp [intOf]; omega
      | false =>
        have HT : Hid (s.takeWhile (ftB ends) = s.take i ∧ s.dropWhile (ftB ends) = s.drop i) := tw_more HS.out (fun c hc => by rw [hget] at hc; cases hc; exact hft)
        have HF := fits_any ends c1 B wr hb
        rw [hft] at HF
        clear hget hft
        go_wp2_with (go_at_call 92; refine HF.mono ?_; rintro e w1 ⟨rfl, rfl⟩)
        go_ret
        refine ⟨by rw [HT.out.1, ← bs_take]; rfl, ?_, (Keep.of_below (Below.refl _ _)).setCell _⟩
        have q := RD.set (t := s.drop i) h
        rw [← bs_drop] at q
        rw [HT.out.2]
        exact q
    · obtain rfl : i = s.length := by omega
      have HT : Hid (s.takeWhile (ftB ends) = s.take s.length ∧ s.dropWhile (ftB ends) = s.drop s.length) := tw_more HS.out (fun c hc => by rw [List.getElem?_eq_none (Nat.le_refl _)] at hc; cases hc)
      go_wp2_with fail
      go_ret
      refine ⟨by rw [HT.out.1, ← bs_take]; rfl, ?_, (Keep.of_below (Below.refl _ _)).setCell _⟩
      rw [HT.out.2, List.drop_length]
      exact RD.set (t := []) h

end Go.Proofs.YtdebekonggnckabDoor

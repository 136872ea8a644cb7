/-
  The walks of strings.Cut at a slash, of package frac's readNum; the text of a fraction in plain lists.
-/
import Derived.Test.YtdilieoobkldhabDoorRead1
import Derived.Test.YtdilieoobkldhabDoorShelf
import Derived.Test.YtdilieoobkldhabDoorShelf2
namespace Go.Proofs.YtdilieoobkldhabDoor
open Go.RowKit

/-- what lies ahead of the first such byte, and behind it -/
def ahead (c : UInt8) : List UInt8 → List UInt8
  | [] => []
  | b :: l => if b = c then [] else b :: ahead c l
def behind (c : UInt8) : List UInt8 → Option (List UInt8)
  | [] => none
  | b :: l => if b = c then some l else behind c l
theorem index_none (c : UInt8) : ∀ l : List UInt8, behind c l = none → Lib.indexByte l c = -1 ∧ ahead c l = l
  | [], _ => ⟨rfl, rfl⟩
  | b :: l, h => by
    unfold behind at h
    split at h
    · cases h
    · rename_i hb
      obtain ⟨h1, h2⟩ := index_none c l h
      unfold Lib.indexByte ahead
      simp [hb, h1, h2]
theorem index_some (c : UInt8) : ∀ (l r : List UInt8), behind c l = some r → ∃ i : Nat, Lib.indexByte l c = i ∧ i < l.length ∧ l.take i = ahead c l ∧ l.drop (i + 1) = r
  | [], _, h => by cases h
  | b :: l, r, h => by
    unfold behind at h
    split at h
    · rename_i hb
      subst hb
      cases h
      exact ⟨0, by unfold Lib.indexByte; simp, by simp, by unfold ahead; simp, rfl⟩
    · rename_i hb
      obtain ⟨i, h1, h2, h3, h4⟩ := index_some c l r h
      refine ⟨i + 1, ?_, by simpa using h2, ?_, by simpa using h4⟩
      · unfold Lib.indexByte
        have : ((i : Int) == -1) = false := by rw [beq_eq_false_iff_ne]; omega
        simp [hb, h1, this]
      · unfold ahead
        simp [hb, h3]

theorem ext_list {s t : ByteArray} (h : s.data.toList = t.data.toList) : s = t := by
  apply ByteArray.ext; exact Array.toList_inj.1 h

set_option maxHeartbeats 400000 in
theorem cut_none (s : ByteArray) (w : World) (h : behind 47 s.data.toList = none) :
    Calls Tryd.prog 126 #[.string s, .string ⟨#[47]⟩] w fun e w' => e = .returned (.tuple #[.string s, .string ⟨#[]⟩, .bool false]) ∧ ∃ k, w' = w.drewN k := by
  obtain ⟨hi, _⟩ := index_none 47 _ h
  have HI := Tryd.stringslite_Index_one s 47
  rw [hi] at HI
  have HH : Hid (∀ w, Calls Tryd.prog 117 #[.string s, .string ⟨#[47]⟩] w fun e w' => e = .returned (.int .i64 (-1)) ∧ w' = w) := HI
  clear HI hi h
  go_enter Tryd.func126, Tryd.ntmps126
  go_wp2_with (go_at_call 117; refine (HH.out _).mono ?_; rintro e w' ⟨rfl, rfl⟩)
  go_ret3
  exact ⟨rfl, 0, rfl⟩
set_option maxHeartbeats 400000 in
theorem cut_some (s a b : ByteArray) (w : World) (hb : behind 47 s.data.toList = some b.data.toList) (ha : ahead 47 s.data.toList = a.data.toList) (hm : s.size ≤ 9223372036854775807) :
    Calls Tryd.prog 126 #[.string s, .string ⟨#[47]⟩] w fun e w' => e = .returned (.tuple #[.string a, .string b, .bool true]) ∧ ∃ k, w' = w.drewN k := by
  obtain ⟨i, hi, hl, h3, h4⟩ := index_some 47 _ _ hb
  rw [len_eq] at hl
  have HI := Tryd.stringslite_Index_one s 47
  rw [hi] at HI
  have HH : Hid (∀ w, Calls Tryd.prog 117 #[.string s, .string ⟨#[47]⟩] w fun e w' => e = .returned (.int .i64 i) ∧ w' = w) := HI
  have e1 : s.extract 0 i = a := ext_list (by rw [Lib.extract_data]; simpa [ha] using h3)
  have e2 : s.extract (i + 1) s.size = b := ext_list (by rw [Lib.extract_to_end]; exact h4)
  clear HI hi h3 h4 ha hb
  have hl1 : (i : Int) < (s.size : Int) := by omega
  have hl2 : (i : Int) + 1 ≤ (s.size : Int) := by omega
  have h0 : (0 : Int) ≤ (i : Int) := by omega
  go_enter Tryd.func126, Tryd.ntmps126
  go_wp2_with (go_at_call 117; refine (HH.out _).mono ?_; rintro e w' ⟨rfl, rfl⟩)
  go_quiet (fail)
  go_wp2
  go_ret3
  exact ⟨rfl, _, rfl⟩

set_option maxHeartbeats 400000 in
theorem Cut_none (s : ByteArray) (w : World) (h : behind 47 s.data.toList = none) :
    Calls Tryd.prog 118 #[.string s, .string ⟨#[47]⟩] w fun e w' => e = .returned (.tuple #[.string s, .string ⟨#[]⟩, .bool false]) ∧ ∃ k, w' = w.drewN k := by
  have HB : Hid (behind 47 s.data.toList = none) := h
  clear h
  go_enter Tryd.func118, Tryd.ntmps118
  go_wp2_with (go_at_call 126; refine (cut_none s _ HB.out).mono ?_; rintro e w' ⟨rfl, k, rfl⟩)
  go_ret3
  exact ⟨rfl, _, rfl⟩
set_option maxHeartbeats 400000 in
theorem Cut_some (s a b : ByteArray) (w : World) (hb : behind 47 s.data.toList = some b.data.toList) (ha : ahead 47 s.data.toList = a.data.toList) (hm : s.size ≤ 9223372036854775807) :
    Calls Tryd.prog 118 #[.string s, .string ⟨#[47]⟩] w fun e w' => e = .returned (.tuple #[.string a, .string b, .bool true]) ∧ ∃ k, w' = w.drewN k := by
  have HB : Hid (behind 47 s.data.toList = some b.data.toList) := hb
  have HA : Hid (ahead 47 s.data.toList = a.data.toList) := ha
  clear ha hb
  go_enter Tryd.func118, Tryd.ntmps118
  go_wp2_with (go_at_call 126; refine (cut_some s a b _ HB.out HA.out hm).mono ?_; rintro e w' ⟨rfl, k, rfl⟩)
  go_ret3
  exact ⟨rfl, _, rfl⟩

/-- a whole number in a text: perhaps a minus, but not of 0 -/
def numTxt (l : List UInt8) : Option Int :=
  if digs (Lib.trimPrefix l [45]) = true ∧ ¬ (Lib.hasPrefix l [45] = true ∧ val (Lib.trimPrefix l [45]) = 0) then some (if Lib.hasPrefix l [45] = true then -(val (Lib.trimPrefix l [45]) : Int) else val (Lib.trimPrefix l [45])) else none
theorem digs_bound {l : List UInt8} (h : digs l = true) : (val l : Int) < 10000000000 := by
  unfold digs at h
  rw [Bool.and_eq_true] at h
  have := val_le h.2 (fits_iff.1 h.1).2.1
  omega
theorem digits_at (s : ByteArray) (b : Bool) (v : Int) (w : World) (hb : digs s.data.toList = b) (hv : (if b = true then (val s.data.toList : Int) else 0) = v) :
    Calls Tryd.prog 120 #[.string s] w fun e w' => e = .returned (.tuple #[.int .i64 v, .bool b]) ∧ w' = w := by
  subst hb; subst hv; exact readDigits_any s w
theorem CutPrefix_at (s t : ByteArray) (b : Bool) (w : World) (ht : Lib.trimPrefix s.data.toList [45] = t.data.toList) (hb : Lib.hasPrefix s.data.toList [45] = b) :
    Calls Tryd.prog 91 #[.string s, .string ⟨#[45]⟩] w fun e w' => e = .returned (.tuple #[.string t, .bool b]) ∧ w' = w := by
  have := Tryd.strings_CutPrefix s ⟨#[45]⟩ w
  have e : (⟨(Lib.trimPrefix s.data.toList [45]).toArray⟩ : ByteArray) = t := ext_list (by rw [ht])
  subst hb
  rw [← e]
  exact this

set_option maxHeartbeats 1000000 in
theorem readNum_any (s : ByteArray) (b : Bool) (v : Int) (w : World) (h : numTxt s.data.toList = none ∧ b = false ∧ v = 0 ∨ numTxt s.data.toList = some v ∧ b = true) :
    Calls Tryd.prog 119 #[.string s] w fun e w' => e = .returned (.tuple #[.int .i64 v, .bool b]) ∧ w' = w := by
  obtain ⟨t, ht⟩ : ∃ t : ByteArray, Lib.trimPrefix s.data.toList [45] = t.data.toList := ⟨⟨(Lib.trimPrefix s.data.toList [45]).toArray⟩, by simp⟩
  obtain ⟨neg, hn⟩ : ∃ neg, Lib.hasPrefix s.data.toList [45] = neg := ⟨_, rfl⟩
  obtain ⟨d, hd⟩ : ∃ d, digs t.data.toList = d := ⟨_, rfl⟩
  have h' := h
  unfold numTxt at h'
  rw [ht, hn, hd] at h'
  have HT : Hid (Lib.trimPrefix s.data.toList [45] = t.data.toList) := ht
  have HN : Hid (Lib.hasPrefix s.data.toList [45] = neg) := hn
  clear h ht hn
  cases d with
  | false =>
    obtain ⟨rfl, rfl⟩ : b = false ∧ v = 0 := by rcases h' with ⟨_, a, c⟩ | ⟨a, _⟩; exact ⟨a, c⟩; simp at a
    have HD : Hid (digs t.data.toList = false) := hd
    clear h' hd
    go_enter Tryd.func119, Tryd.ntmps119
    go_wp2_with (first | (go_at_call 91; refine (CutPrefix_at s t neg _ HT.out HN.out).mono ?_; rintro e w' ⟨rfl, rfl⟩) | (go_at_call 120; refine (digits_at t false 0 _ HD.out (by simp)).mono ?_; rintro e w' ⟨rfl, rfl⟩))
    go_ret2
    exact ⟨rfl, rfl⟩
  | true =>
    have hv := digs_bound hd
    obtain ⟨m, hm⟩ : ∃ m : Nat, val t.data.toList = m := ⟨_, rfl⟩
    rw [hm] at h' hv
    have HD : Hid (digs t.data.toList = true) := hd
    have HM : Hid ((if true = true then (val t.data.toList : Int) else 0) = m) := by show _ = _; rw [if_pos rfl, hm]
    clear hd hm
    cases neg with
    | false =>
      obtain ⟨rfl, rfl⟩ : b = true ∧ v = m := by
        rcases h' with ⟨a, _, _⟩ | ⟨a, c⟩
        · simp at a
        · simp at a; exact ⟨c, a.symm⟩
      clear h'
      go_enter Tryd.func119, Tryd.ntmps119
      go_wp2_with (first | (go_at_call 91; refine (CutPrefix_at s t false _ HT.out HN.out).mono ?_; rintro e w' ⟨rfl, rfl⟩) | (go_at_call 120; refine (digits_at t true m _ HD.out HM.out).mono ?_; rintro e w' ⟨rfl, rfl⟩))
      go_ret2
      exact ⟨rfl, rfl⟩
    | true =>
      by_cases hz : m = 0
      · subst hz
        obtain ⟨rfl, rfl⟩ : b = false ∧ v = 0 := by
          rcases h' with ⟨_, a, c⟩ | ⟨a, _⟩
          · exact ⟨a, c⟩
          · simp at a
        clear h'
        go_enter Tryd.func119, Tryd.ntmps119
        go_wp2_with (first | (go_at_call 91; refine (CutPrefix_at s t true _ HT.out HN.out).mono ?_; rintro e w' ⟨rfl, rfl⟩) | (go_at_call 120; refine (digits_at t true 0 _ HD.out HM.out).mono ?_; rintro e w' ⟨rfl, rfl⟩))
        go_ret2
        exact ⟨rfl, rfl⟩
      · obtain ⟨rfl, rfl⟩ : b = true ∧ v = -(m : Int) := by
          rcases h' with ⟨a, _, _⟩ | ⟨a, c⟩
          · simp [hz] at a
          · simp [hz] at a; exact ⟨c, a.symm⟩
        have hz' : ((m : Int) == 0) = false := by rw [beq_eq_false_iff_ne]; omega
        have hw : wrap64 (-(m : Int)) = -(m : Int) := IntWalk.wrap64_in _ ⟨by omega, by omega⟩
        have hm1 : -10000000000 < -(m : Int) := by omega
        have hm2 : (0 : Int) ≤ (m : Int) := by omega
        clear h' hz
        go_enter Tryd.func119, Tryd.ntmps119
        go_wp2_with (first | (go_at_call 91; refine (CutPrefix_at s t true _ HT.out HN.out).mono ?_; rintro e w' ⟨rfl, rfl⟩) | (go_at_call 120; refine (digits_at t true m _ HD.out HM.out).mono ?_; rintro e w' ⟨rfl, rfl⟩))
        go_ret2
        exact ⟨rfl, rfl⟩
end Go.Proofs.YtdilieoobkldhabDoor

/-
  Contracts of the library's functions that the program calls, at this program's own numbers (each by one application of the kit's theorem).
-/
import Derived.Shelf.Small.Wraps
import Derived.Shelf.Strings.Search1
import Derived.Shelf.Strings.Search2
import Derived.Shelf.Strings.Search3
import Derived.Shelf.Strings.Cut
import Derived.Shelf.Strings.Count
import Derived.Shelf.LaysM
import Derived.Shelf.Strings.Shaped
import Derived.Shelf.Strings.Prefix
import Derived.Shelf.Strings.Split
import Derived.Shelf.Bits.Mul64
import Derived.Shelf.Unicode.DecodeSlow
import Derived.Test.YtlnnpileegoglabGreatDoorProg
import Derived.Test.YtlnnpileegoglabGreatDoorJ6
import Derived.Test.YtlnnpileegoglabGreatDoorJ2
namespace Go.Proofs
open Go.Shelf
def Tryz.lays103_ren : Go.Shelf.Ren := ⟨fun | 103 => 100 | 210 => 103 | 206 => 104 | n => n, fun | 9 => 9 | 4 => 4 | 24 => 170 | 3 => 3 | n => n, fun | n => n⟩
theorem Tryz.lays103 : Go.Proofs.Lays.n103 Tryz.prog Tryz.lays103_ren := {
  mixed := by kernel_rfl
  f103 := Tryz.func100.trans (congrArg some (by kernel_rfl))
  f206 := Tryz.func104.trans (congrArg some (by kernel_rfl))
  f210 := Tryz.func103.trans (congrArg some (by kernel_rfl))
  t3 := Tryz.underlying3
  a3 := Tryz.isAgg3
  z3 := Tryz.sizeOf3
  v3 := Tryz.zeroValue3
  t4 := Tryz.underlying4
  a4 := Tryz.isAgg4
  z4 := Tryz.sizeOf4
  v4 := Tryz.zeroValue4
  t9 := Tryz.underlying9
  a9 := Tryz.isAgg9
  z9 := Tryz.sizeOf9
  v9 := Tryz.zeroValue9
  t24 := Tryz.underlying170
  a24 := Tryz.isAgg170
  z24 := Tryz.sizeOf170
  v24 := Tryz.zeroValue170 }
open Go.RowKit in
theorem Tryz.strings_CutPrefix (s p : ByteArray) (w : World) :
    Calls Tryz.prog 100 #[.string s, .string p] w fun e w' => e = .returned (.tuple #[.string ⟨(Lib.trimPrefix s.data.toList p.data.toList).toArray⟩, .bool (Lib.hasPrefix s.data.toList p.data.toList)]) ∧ w' = w := Any.strings_CutPrefix Tryz.lays103 s p w
def Tryz.lays145_ren : Go.Shelf.Ren := ⟨fun | 145 => 91 | 220 => 99 | 219 => 90 | 217 => 95 | 225 => 96 | 224 => 97 | 267 => 98 | 266 => 101 | 314 => 102 | n => n, fun | 9 => 9 | 4 => 4 | 59 => 165 | 3 => 3 | 5 => 5 | 46 => 143 | 146 => 177 | 51 => 176 | n => n, fun | 1 => 12 | n => n⟩
theorem Tryz.lays145 : Go.Proofs.Lays.n145 Tryz.prog Tryz.lays145_ren := {
  mixed := by kernel_rfl
  f145 := Tryz.func91.trans (congrArg some (by kernel_rfl))
  f217 := Tryz.func95.trans (congrArg some (by kernel_rfl))
  f219 := Tryz.func90.trans (congrArg some (by kernel_rfl))
  f220 := Tryz.func99.trans (congrArg some (by kernel_rfl))
  f224 := Tryz.func97.trans (congrArg some (by kernel_rfl))
  f225 := Tryz.func96.trans (congrArg some (by kernel_rfl))
  f266 := Tryz.func101.trans (congrArg some (by kernel_rfl))
  f267 := Tryz.func98.trans (congrArg some (by kernel_rfl))
  f314 := Tryz.func102.trans (congrArg some (by kernel_rfl))
  t3 := Tryz.underlying3
  a3 := Tryz.isAgg3
  z3 := Tryz.sizeOf3
  v3 := Tryz.zeroValue3
  t4 := Tryz.underlying4
  a4 := Tryz.isAgg4
  z4 := Tryz.sizeOf4
  v4 := Tryz.zeroValue4
  t5 := Tryz.underlying5
  a5 := Tryz.isAgg5
  z5 := Tryz.sizeOf5
  v5 := Tryz.zeroValue5
  t9 := Tryz.underlying9
  a9 := Tryz.isAgg9
  z9 := Tryz.sizeOf9
  v9 := Tryz.zeroValue9
  t46 := Tryz.underlying143
  a46 := Tryz.isAgg143
  z46 := Tryz.sizeOf143
  v46 := Tryz.zeroValue143
  t51 := Tryz.underlying176
  a51 := Tryz.isAgg176
  z51 := Tryz.sizeOf176
  v51 := Tryz.zeroValue176
  t59 := Tryz.underlying165
  a59 := Tryz.isAgg165
  z59 := Tryz.sizeOf165
  v59 := Tryz.zeroValue165
  t146 := Tryz.underlying177
  a146 := Tryz.isAgg177
  z146 := Tryz.sizeOf177
  v146 := Tryz.zeroValue177
  g1 := by kernel_rfl }
open Go.RowKit Go.Lib in
theorem Tryz.strings_Cut (s sep : ByteArray) (m : Int) (w : World) (hs : s.size < 4294967281) (hm : w.cell? ⟨12, 0, none⟩ = some (.int .i64 m)) :
    Calls Tryz.prog 91 #[.string s, .string sep] w fun e w' => e = .returned (.tuple #[.string ⟨(Lib.cut s.data.toList sep.data.toList).1.toArray⟩, .string ⟨(Lib.cut s.data.toList sep.data.toList).2.1.toArray⟩, .bool (Lib.cut s.data.toList sep.data.toList).2.2]) ∧ ∃ n, w' = w.drewN n := Any.strings_Cut Tryz.lays145 s sep m w hs hm
def Tryz.laysM145_ren : Go.Shelf.Ren := ⟨fun | 145 => 91 | 220 => 99 | 219 => 90 | 217 => 95 | 225 => 96 | 224 => 97 | 267 => 98 | 266 => 101 | 314 => 102 | n => n, fun | 9 => 9 | 4 => 4 | 59 => 165 | 3 => 3 | 5 => 5 | 46 => 143 | 146 => 177 | 51 => 176 | n => n, fun | 1 => 12 | n => n⟩
theorem Tryz.laysM145 : Go.Proofs.LaysM.n145 Tryz.prog Tryz.laysM145_ren := {
  mixed := by kernel_rfl
  f145 := Tryz.func91.trans (congrArg some (by kernel_rfl))
  f217 := Tryz.func95.trans (congrArg some (by kernel_rfl))
  f219 := Tryz.func90.trans (congrArg some (by kernel_rfl))
  f220 := Tryz.func99.trans (congrArg some (by kernel_rfl))
  f224 := Tryz.func97.trans (congrArg some (by kernel_rfl))
  f225 := Tryz.func96.trans (congrArg some (by kernel_rfl))
  f266 := Tryz.func101.trans (congrArg some (by kernel_rfl))
  f267 := Tryz.func98.trans (congrArg some (by kernel_rfl))
  f314 := Tryz.func102.trans (congrArg some (by kernel_rfl))
  t3 := Tryz.underlying3
  a3 := Tryz.isAgg3
  z3 := Tryz.sizeOf3
  v3 := Tryz.zeroValue3
  t4 := Tryz.underlying4
  a4 := Tryz.isAgg4
  z4 := Tryz.sizeOf4
  v4 := Tryz.zeroValue4
  t5 := Tryz.underlying5
  a5 := Tryz.isAgg5
  z5 := Tryz.sizeOf5
  v5 := Tryz.zeroValue5
  t9 := Tryz.underlying9
  a9 := Tryz.isAgg9
  z9 := Tryz.sizeOf9
  v9 := Tryz.zeroValue9
  t46 := Tryz.underlying143
  a46 := Tryz.isAgg143
  z46 := Tryz.sizeOf143
  v46 := Tryz.zeroValue143
  t51 := Tryz.underlying176
  a51 := Tryz.isAgg176
  z51 := Tryz.sizeOf176
  v51 := Tryz.zeroValue176
  t59 := Tryz.underlying165
  a59 := Tryz.isAgg165
  z59 := Tryz.sizeOf165
  v59 := Tryz.zeroValue165
  t146 := Tryz.underlying177
  a146 := Tryz.isAgg177
  z146 := Tryz.sizeOf177
  v146 := Tryz.zeroValue177
  g1 := by kernel_rfl
  i3 := by kernel_rfl
  i4 := by kernel_rfl
  i5 := by kernel_rfl
  i9 := by kernel_rfl
  i46 := by kernel_rfl
  i51 := by kernel_rfl
  i59 := by kernel_rfl
  i146 := by kernel_rfl
  m1 := by kernel_rfl
  s1_3 := fun w h => Go.Proofs.cell_of_shapedOpen_int (zero := #[.int .i64 0]) (t := 3) h (of_decide_eq_true (by kernel_rfl)) (by kernel_rfl) rfl (by kernel_rfl) (by kernel_rfl) Tryz.underlying3 }
open Go.RowKit Go.Lib in
theorem Tryz.strings_Cut_shaped (s sep : ByteArray) (w : World) (h : w.ShapedOpen Tryz.prog) (hs : s.size < 4294967281) :
    Calls Tryz.prog 91 #[.string s, .string sep] w fun e w' => e = .returned (.tuple #[.string ⟨(Lib.cut s.data.toList sep.data.toList).1.toArray⟩, .string ⟨(Lib.cut s.data.toList sep.data.toList).2.1.toArray⟩, .bool (Lib.cut s.data.toList sep.data.toList).2.2]) ∧ ∃ n, w' = w.drewN n := Any.strings_Cut_shaped Tryz.laysM145 s sep w h hs
end Go.Proofs

namespace Go.Proofs
open Go.Shelf
def Tryz.lays219_ren : Go.Shelf.Ren := ⟨fun | 219 => 90 | 217 => 95 | 225 => 96 | 224 => 97 | 267 => 98 | 266 => 101 | 314 => 102 | n => n, fun | 9 => 9 | 3 => 3 | 4 => 4 | 5 => 5 | 46 => 143 | 146 => 177 | 51 => 176 | n => n, fun | 1 => 12 | n => n⟩
theorem Tryz.lays219 : Go.Proofs.Lays.n219 Tryz.prog Tryz.lays219_ren := {
  mixed := by kernel_rfl
  f217 := Tryz.func95.trans (congrArg some (by kernel_rfl))
  f219 := Tryz.func90.trans (congrArg some (by kernel_rfl))
  f224 := Tryz.func97.trans (congrArg some (by kernel_rfl))
  f225 := Tryz.func96.trans (congrArg some (by kernel_rfl))
  f266 := Tryz.func101.trans (congrArg some (by kernel_rfl))
  f267 := Tryz.func98.trans (congrArg some (by kernel_rfl))
  f314 := Tryz.func102.trans (congrArg some (by kernel_rfl))
  t3 := Tryz.underlying3
  a3 := Tryz.isAgg3
  z3 := Tryz.sizeOf3
  v3 := Tryz.zeroValue3
  t4 := Tryz.underlying4
  a4 := Tryz.isAgg4
  z4 := Tryz.sizeOf4
  v4 := Tryz.zeroValue4
  t5 := Tryz.underlying5
  a5 := Tryz.isAgg5
  z5 := Tryz.sizeOf5
  v5 := Tryz.zeroValue5
  t9 := Tryz.underlying9
  a9 := Tryz.isAgg9
  z9 := Tryz.sizeOf9
  v9 := Tryz.zeroValue9
  t46 := Tryz.underlying143
  a46 := Tryz.isAgg143
  z46 := Tryz.sizeOf143
  v46 := Tryz.zeroValue143
  t51 := Tryz.underlying176
  a51 := Tryz.isAgg176
  z51 := Tryz.sizeOf176
  v51 := Tryz.zeroValue176
  t146 := Tryz.underlying177
  a146 := Tryz.isAgg177
  z146 := Tryz.sizeOf177
  v146 := Tryz.zeroValue177
  g1 := by kernel_rfl }
open Go.RowKit Go.Lib in
theorem Tryz.stringslite_Index_one (s : ByteArray) (c : UInt8) (w : World) :
    Calls Tryz.prog 90 #[.string s, .string ⟨#[c]⟩] w fun e w' => e = .returned (.int .i64 (Lib.indexByte s.data.toList c)) ∧ w' = w := Any.stringslite_Index_one Tryz.lays219 s c w
end Go.Proofs

namespace Go.Proofs.YtlnnpileegoglabGreatDoor
open Go.RowKit

/-- what lies ahead of the first such byte, and behind it -/
def ahead (c : UInt8) : List UInt8 → List UInt8
  | [] => []
  | b :: l => if b = c then [] else b :: ahead c l
def behind (c : UInt8) : List UInt8 → Option (List UInt8)
  | [] => none
  | b :: l => if b = c then some l else behind c l
theorem index_none (c : UInt8) : ∀ l : List UInt8, behind c l = none → Lib.indexByte l c = -1 ∧ ahead c l = l
  | [], _ => ⟨rfl, rfl⟩
  | b :: l, h => by
    unfold behind at h
    split at h
    · cases h
    · rename_i hb
      obtain ⟨h1, h2⟩ := index_none c l h
      unfold Lib.indexByte ahead
      simp [hb, h1, h2]
theorem index_some (c : UInt8) : ∀ (l r : List UInt8), behind c l = some r → ∃ i : Nat, Lib.indexByte l c = i ∧ i < l.length ∧ l.take i = ahead c l ∧ l.drop (i + 1) = r
  | [], _, h => by cases h
  | b :: l, r, h => by
    unfold behind at h
    split at h
    · rename_i hb
      subst hb
      cases h
      exact ⟨0, by unfold Lib.indexByte; simp, by simp, by unfold ahead; simp, rfl⟩
    · rename_i hb
      obtain ⟨i, h1, h2, h3, h4⟩ := index_some c l r h
      refine ⟨i + 1, ?_, by simpa using h2, ?_, by simpa using h4⟩
      · unfold Lib.indexByte
        have : ((i : Int) == -1) = false := by rw [beq_eq_false_iff_ne]; omega
        simp [hb, h1, this]
      · unfold ahead
        simp [hb, h3]

theorem ext_list {s t : ByteArray} (h : s.data.toList = t.data.toList) : s = t := by
  apply ByteArray.ext; exact Array.toList_inj.1 h

set_option maxHeartbeats 400000 in
theorem cut_none (s : ByteArray) (w : World) (h : behind 47 s.data.toList = none) :
    Calls Tryz.prog 99 #[.string s, .string ⟨#[47]⟩] w fun e w' => e = .returned (.tuple #[.string s, .string ⟨#[]⟩, .bool false]) ∧ ∃ k, w' = w.drewN k := by
  obtain ⟨hi, _⟩ := index_none 47 _ h
  have HI := Tryz.stringslite_Index_one s 47
  rw [hi] at HI
  have HH : Hid (∀ w, Calls Tryz.prog 90 #[.string s, .string ⟨#[47]⟩] w fun e w' => e = .returned (.int .i64 (-1)) ∧ w' = w) := HI
  clear HI hi h
  go_enter Tryz.func99, Tryz.ntmps99
  go_wp2_with (go_at_call 90; refine (HH.out _).mono ?_; rintro e w' ⟨rfl, rfl⟩)
  go_ret3
  exact ⟨rfl, 0, rfl⟩
set_option maxHeartbeats 400000 in
theorem cut_some (s a b : ByteArray) (w : World) (hb : behind 47 s.data.toList = some b.data.toList) (ha : ahead 47 s.data.toList = a.data.toList) (hm : s.size ≤ 9223372036854775807) :
    Calls Tryz.prog 99 #[.string s, .string ⟨#[47]⟩] w fun e w' => e = .returned (.tuple #[.string a, .string b, .bool true]) ∧ ∃ k, w' = w.drewN k := by
  obtain ⟨i, hi, hl, h3, h4⟩ := index_some 47 _ _ hb
  rw [len_eq] at hl
  have HI := Tryz.stringslite_Index_one s 47
  rw [hi] at HI
  have HH : Hid (∀ w, Calls Tryz.prog 90 #[.string s, .string ⟨#[47]⟩] w fun e w' => e = .returned (.int .i64 i) ∧ w' = w) := HI
  have e1 : s.extract 0 i = a := ext_list (by rw [Lib.extract_data]; simpa [ha] using h3)
  have e2 : s.extract (i + 1) s.size = b := ext_list (by rw [Lib.extract_to_end]; exact h4)
  clear HI hi h3 h4 ha hb
  have hl1 : (i : Int) < (s.size : Int) := by omega
  have hl2 : (i : Int) + 1 ≤ (s.size : Int) := by omega
  have h0 : (0 : Int) ≤ (i : Int) := by omega
  go_enter Tryz.func99, Tryz.ntmps99
  go_wp2_with (go_at_call 90; refine (HH.out _).mono ?_; rintro e w' ⟨rfl, rfl⟩)
  go_quiet (fail)
  go_wp2
  go_ret3
  exact ⟨rfl, _, rfl⟩

set_option maxHeartbeats 400000 in
theorem Cut_none (s : ByteArray) (w : World) (h : behind 47 s.data.toList = none) :
    Calls Tryz.prog 91 #[.string s, .string ⟨#[47]⟩] w fun e w' => e = .returned (.tuple #[.string s, .string ⟨#[]⟩, .bool false]) ∧ ∃ k, w' = w.drewN k := by
  have HB : Hid (behind 47 s.data.toList = none) := h
  clear h
  go_enter Tryz.func91, Tryz.ntmps91
  go_wp2_with (go_at_call 99; refine (cut_none s _ HB.out).mono ?_; rintro e w' ⟨rfl, k, rfl⟩)
  go_ret3
  exact ⟨rfl, _, rfl⟩
set_option maxHeartbeats 400000 in
theorem Cut_some (s a b : ByteArray) (w : World) (hb : behind 47 s.data.toList = some b.data.toList) (ha : ahead 47 s.data.toList = a.data.toList) (hm : s.size ≤ 9223372036854775807) :
    Calls Tryz.prog 91 #[.string s, .string ⟨#[47]⟩] w fun e w' => e = .returned (.tuple #[.string a, .string b, .bool true]) ∧ ∃ k, w' = w.drewN k := by
  have HB : Hid (behind 47 s.data.toList = some b.data.toList) := hb
  have HA : Hid (ahead 47 s.data.toList = a.data.toList) := ha
  clear ha hb
  go_enter Tryz.func91, Tryz.ntmps91
  go_wp2_with (go_at_call 99; refine (cut_some s a b _ HB.out HA.out hm).mono ?_; rintro e w' ⟨rfl, k, rfl⟩)
  go_ret3
  exact ⟨rfl, _, rfl⟩

/-- a whole number in a text: perhaps a minus, but not of 0 -/
def numTxt (l : List UInt8) : Option Int :=
  if digs (Lib.trimPrefix l [45]) = true ∧ ¬ (Lib.hasPrefix l [45] = true ∧ val (Lib.trimPrefix l [45]) = 0) then some (if Lib.hasPrefix l [45] = true then -(val (Lib.trimPrefix l [45]) : Int) else val (Lib.trimPrefix l [45])) else none
theorem digs_bound {l : List UInt8} (h : digs l = true) : (val l : Int) < 10000000000 := by
  unfold digs at h
  rw [Bool.and_eq_true] at h
  have := val_le h.2 (fits_iff.1 h.1).2.1
  omega
theorem digits_at (s : ByteArray) (b : Bool) (v : Int) (w : World) (hb : digs s.data.toList = b) (hv : (if b = true then (val s.data.toList : Int) else 0) = v) :
    Calls Tryz.prog 93 #[.string s] w fun e w' => e = .returned (.tuple #[.int .i64 v, .bool b]) ∧ w' = w := by
  subst hb; subst hv; exact readDigits_any s w
theorem CutPrefix_at (s t : ByteArray) (b : Bool) (w : World) (ht : Lib.trimPrefix s.data.toList [45] = t.data.toList) (hb : Lib.hasPrefix s.data.toList [45] = b) :
    Calls Tryz.prog 100 #[.string s, .string ⟨#[45]⟩] w fun e w' => e = .returned (.tuple #[.string t, .bool b]) ∧ w' = w := by
  have := Tryz.strings_CutPrefix s ⟨#[45]⟩ w
  have e : (⟨(Lib.trimPrefix s.data.toList [45]).toArray⟩ : ByteArray) = t := ext_list (by rw [ht])
  subst hb
  rw [← e]
  exact this

set_option maxHeartbeats 1000000 in
theorem readNum_any (s : ByteArray) (b : Bool) (v : Int) (w : World) (h : numTxt s.data.toList = none ∧ b = false ∧ v = 0 ∨ numTxt s.data.toList = some v ∧ b = true) :
    Calls Tryz.prog 92 #[.string s] w fun e w' => e = .returned (.tuple #[.int .i64 v, .bool b]) ∧ w' = w := by
  obtain ⟨t, ht⟩ : ∃ t : ByteArray, Lib.trimPrefix s.data.toList [45] = t.data.toList := ⟨⟨(Lib.trimPrefix s.data.toList [45]).toArray⟩, by simp⟩
  obtain ⟨neg, hn⟩ : ∃ neg, Lib.hasPrefix s.data.toList [45] = neg := ⟨_, rfl⟩
  obtain ⟨d, hd⟩ : ∃ d, digs t.data.toList = d := ⟨_, rfl⟩
  have h' := h
  unfold numTxt at h'
  rw [ht, hn, hd] at h'
  have HT : Hid (Lib.trimPrefix s.data.toList [45] = t.data.toList) := ht
  have HN : Hid (Lib.hasPrefix s.data.toList [45] = neg) := hn
  clear h ht hn
  cases d with
  | false =>
    obtain ⟨rfl, rfl⟩ : b = false ∧ v = 0 := by rcases h' with ⟨_, a, c⟩ | ⟨a, _⟩; exact ⟨a, c⟩; simp at a
    have HD : Hid (digs t.data.toList = false) := hd
    clear h' hd
    go_enter Tryz.func92, Tryz.ntmps92
    go_wp2_with (first | (go_at_call 100; refine (CutPrefix_at s t neg _ HT.out HN.out).mono ?_; rintro e w' ⟨rfl, rfl⟩) | (go_at_call 93; refine (digits_at t false 0 _ HD.out (by simp)).mono ?_; rintro e w' ⟨rfl, rfl⟩))
    go_ret2
    exact ⟨rfl, rfl⟩
  | true =>
    have hv := digs_bound hd
    obtain ⟨m, hm⟩ : ∃ m : Nat, val t.data.toList = m := ⟨_, rfl⟩
    rw [hm] at h' hv
    have HD : Hid (digs t.data.toList = true) := hd
    have HM : Hid ((if true = true then (val t.data.toList : Int) else 0) = m) := by show _ = _; rw [if_pos rfl, hm]
    clear hd hm
    cases neg with
    | false =>
      obtain ⟨rfl, rfl⟩ : b = true ∧ v = m := by
        rcases h' with ⟨a, _, _⟩ | ⟨a, c⟩
        · simp at a
        · simp at a; exact ⟨c, a.symm⟩
      clear h'
      go_enter Tryz.func92, Tryz.ntmps92
      go_wp2_with (first | (go_at_call 100; refine (CutPrefix_at s t false _ HT.out HN.out).mono ?_; rintro e w' ⟨rfl, rfl⟩) | (go_at_call 93; refine (digits_at t true m _ HD.out HM.out).mono ?_; rintro e w' ⟨rfl, rfl⟩))
      go_ret2
      exact ⟨rfl, rfl⟩
    | true =>
      by_cases hz : m = 0
      · subst hz
        obtain ⟨rfl, rfl⟩ : b = false ∧ v = 0 := by
          rcases h' with ⟨_, a, c⟩ | ⟨a, _⟩
          · exact ⟨a, c⟩
          · simp at a
        clear h'
        go_enter Tryz.func92, Tryz.ntmps92
        go_wp2_with (first | (go_at_call 100; refine (CutPrefix_at s t true _ HT.out HN.out).mono ?_; rintro e w' ⟨rfl, rfl⟩) | (go_at_call 93; refine (digits_at t true 0 _ HD.out HM.out).mono ?_; rintro e w' ⟨rfl, rfl⟩))
        go_ret2
        exact ⟨rfl, rfl⟩
      · obtain ⟨rfl, rfl⟩ : b = true ∧ v = -(m : Int) := by
          rcases h' with ⟨a, _, _⟩ | ⟨a, c⟩
          · simp [hz] at a
          · simp [hz] at a; exact ⟨c, a.symm⟩
        have hz' : ((m : Int) == 0) = false := by rw [beq_eq_false_iff_ne]; omega
        have hw : wrap64 (-(m : Int)) = -(m : Int) := IntWalk.wrap64_in _ ⟨by omega, by omega⟩
        have hm1 : -10000000000 < -(m : Int) := by omega
        have hm2 : (0 : Int) ≤ (m : Int) := by omega
        clear h' hz
        go_enter Tryz.func92, Tryz.ntmps92
        go_wp2_with (first | (go_at_call 100; refine (CutPrefix_at s t true _ HT.out HN.out).mono ?_; rintro e w' ⟨rfl, rfl⟩) | (go_at_call 93; refine (digits_at t true m _ HD.out HM.out).mono ?_; rintro e w' ⟨rfl, rfl⟩))
        go_ret2
        exact ⟨rfl, rfl⟩
end Go.Proofs.YtlnnpileegoglabGreatDoor

namespace Go.Proofs.YtlnnpileegoglabGreatDoor
open Go.RowKit

/-- a fraction that is read: the parts where they are right, else Check's error -/
def ck (n d : Int) : R3 := if chk n d = 0 then ⟨n, d, 0⟩ else ⟨0, 0, chk n d⟩
/-- a fraction's text: the answer, or an error's number -/
def rd (l : List UInt8) : R3 :=
  match numTxt (ahead 47 l) with
  | none => ⟨0, 0, 1⟩
  | some n => match behind 47 l with
    | none => ck n 1
    | some b => if digs b = true ∧ val b ≠ 1 then ck n (val b) else ⟨0, 0, 1⟩

/-- an error by its number, ErrText among them -/
def er4 (aT aB aS aZ : Addr) (c : Nat) : Value := if c = 1 then .iface 180 (.pointer (some aT)) else er aB aS aZ c

theorem numTxt_bound {l : List UInt8} {v : Int} (h : numTxt l = some v) : -10000000000 < v ∧ v < 10000000000 := by
  unfold numTxt at h
  split at h
  · rename_i hc
    have := digs_bound hc.1
    simp only [Option.some.injEq] at h
    split at h <;> omega
  · cases h

theorem num_none (s : ByteArray) (w : World) (h : numTxt s.data.toList = none) :
    Calls Tryz.prog 92 #[.string s] w fun e w' => e = .returned (.tuple #[.int .i64 0, .bool false]) ∧ w' = w := readNum_any s false 0 w (Or.inl ⟨h, rfl, rfl⟩)
theorem num_some (s : ByteArray) (v : Int) (w : World) (h : numTxt s.data.toList = some v) :
    Calls Tryz.prog 92 #[.string s] w fun e w' => e = .returned (.tuple #[.int .i64 v, .bool true]) ∧ w' = w := readNum_any s true v w (Or.inr ⟨h, rfl⟩)
theorem check_ok (aB aS aZ : Addr) (n d : Int) (w : World) (n1 : -9223372036854775808 ≤ n) (n2 : n ≤ 9223372036854775807) (d1 : -9223372036854775808 ≤ d) (d2 : d ≤ 9223372036854775807) (h : E3 aB aS aZ w) (hc : chk n d = 0) :
    Calls Tryz.prog 73 #[.int .i64 n, .int .i64 d] w fun e w' => e = .returned .nilIface ∧ ∃ k, w' = w.drewN k := by
  have := check_any aB aS aZ n d w n1 n2 d1 d2 h
  rw [hc] at this; exact this
theorem check_no (aB aS aZ : Addr) (n d : Int) (a : Addr) (w : World) (n1 : -9223372036854775808 ≤ n) (n2 : n ≤ 9223372036854775807) (d1 : -9223372036854775808 ≤ d) (d2 : d ≤ 9223372036854775807) (h : E3 aB aS aZ w) (hc : er aB aS aZ (chk n d) = .iface 180 (.pointer (some a))) :
    Calls Tryz.prog 73 #[.int .i64 n, .int .i64 d] w fun e w' => e = .returned (.iface 180 (.pointer (some a))) ∧ ∃ k, w' = w.drewN k := by
  rw [← hc]; exact check_any aB aS aZ n d w n1 n2 d1 d2 h
theorem er4_er (aT aB aS aZ : Addr) {c : Nat} (h : c ≠ 1) : er4 aT aB aS aZ c = er aB aS aZ c := by unfold er4; rw [if_neg h]

set_option maxHeartbeats 2000000 in
theorem Read_none (aT aB aS aZ : Addr) (s : ByteArray) (w : World) (h : E3 aB aS aZ w) (hT : w.cell? ⟨1, 0, none⟩ = some (.iface 180 (.pointer (some aT)))) (hb : behind 47 s.data.toList = none) :
    Calls Tryz.prog 86 #[.string s] w fun e w' => e = .returned (.tuple #[.agg #[.int .i64 (rd s.data.toList).n, .int .i64 (rd s.data.toList).d], er4 aT aB aS aZ (rd s.data.toList).c]) ∧ Below w.heap.size w w' := by
  have ha := (index_none 47 _ hb).2
  have HB : Hid (behind 47 s.data.toList = none) := hb
  have hlt := cell_lt hT
  simp only at hlt
  have hne : ¬ w.heap.size = 1 := by omega
  have hne' : ¬ 1 = w.heap.size := by omega
  have hcT : ∀ o, (w.alloc o).cell? ⟨1, 0, none⟩ = some (.iface 180 (.pointer (some aT))) := fun o => by
    rw [World.cell?_alloc_lt _ _ ⟨1, 0, none⟩ hlt]; exact hT
  cases hn : numTxt s.data.toList with
  | none =>
    have hr : rd s.data.toList = ⟨0, 0, 1⟩ := by unfold rd; rw [ha, hn]
    rw [hr]
    have HN : Hid (numTxt s.data.toList = none) := hn
    clear hn hr ha hb hT hlt
    go_enter Tryz.func86, Tryz.ntmps86
    go_wp2_with (first | (go_at_call 91; refine (Cut_none s _ HB.out).mono ?_; rintro e w' ⟨rfl, k, rfl⟩) | (go_at_call 92; refine (num_none s _ HN.out).mono ?_; rintro e w' ⟨rfl, rfl⟩))
    go_region
    go_wp2
    refine bodyPost_ret (v := .tuple #[.agg #[.int .i64 0, .int .i64 0], .iface 180 (.pointer (some aT))]) (by simp [results, Tryz.results86, go_sem]) rfl ⟨rfl, ?_⟩
    first | exact below_drewN ((Below.refl _ _).alloc (Nat.le_refl _) _) _ | exact ((below_drewN ((Below.refl _ _).alloc (Nat.le_refl _) _) _).setCell (by simp) _).setCell (by simp) _
  | some n =>
    have hr : rd s.data.toList = ck n 1 := by unfold rd; rw [ha, hn, hb]
    rw [hr]
    have HN : Hid (numTxt s.data.toList = some n) := hn
    obtain ⟨n1, n2⟩ := numTxt_bound hn
    clear hn hr ha hb hT hlt
    by_cases hc : chk n 1 = 0
    · have e : ck n 1 = ⟨n, 1, 0⟩ := by unfold ck; rw [if_pos hc]
      rw [e]
      have HC : Hid (chk n 1 = 0) := hc
      clear e hc
      go_enter Tryz.func86, Tryz.ntmps86
      go_wp2_with (first | (go_at_call 91; refine (Cut_none s _ HB.out).mono ?_; rintro e w' ⟨rfl, k, rfl⟩) | (go_at_call 92; refine (num_some s n _ HN.out).mono ?_; rintro e w' ⟨rfl, rfl⟩) | (go_at_call 73; refine (check_ok aB aS aZ _ _ _ (by omega) (by omega) (by omega) (by omega) ?_ HC.out).mono ?_; exact (h.alloc _).drewN _; rintro e w' ⟨rfl, k2, rfl⟩))
      refine bodyPost_ret (v := .tuple #[.agg #[.int .i64 n, .int .i64 1], .nilIface]) (by simp [results, Tryz.results86, go_sem]) rfl ⟨rfl, ?_⟩
      first | exact below_drewN ((Below.refl _ _).alloc (Nat.le_refl _) _) _ | exact ((below_drewN ((Below.refl _ _).alloc (Nat.le_refl _) _) _).setCell (by simp) _).setCell (by simp) _
    · have hc' : chk n 1 = 2 ∨ chk n 1 = 3 := by rcases chk_cases n 1 with e | e | e <;> simp_all
      have e : ck n 1 = ⟨0, 0, chk n 1⟩ := by unfold ck; rw [if_neg hc]
      obtain ⟨a, hera⟩ := er_cases aB aS aZ hc'
      rw [e]
      simp only
      rw [er4_er aT aB aS aZ (show chk n 1 ≠ 1 by omega), hera]
      have HC : Hid (er aB aS aZ (chk n 1) = .iface 180 (.pointer (some a))) := hera
      clear e hc hc' hera
      go_enter Tryz.func86, Tryz.ntmps86
      go_wp2_with (first | (go_at_call 91; refine (Cut_none s _ HB.out).mono ?_; rintro e w' ⟨rfl, k, rfl⟩) | (go_at_call 92; refine (num_some s n _ HN.out).mono ?_; rintro e w' ⟨rfl, rfl⟩) | (go_at_call 73; refine (check_no aB aS aZ _ _ a _ (by omega) (by omega) (by omega) (by omega) ?_ HC.out).mono ?_; exact (h.alloc _).drewN _; rintro e w' ⟨rfl, k2, rfl⟩))
      refine bodyPost_ret (v := .tuple #[.agg #[.int .i64 0, .int .i64 0], .iface 180 (.pointer (some a))]) (by simp [results, Tryz.results86, go_sem]) rfl ⟨rfl, ?_⟩
      first | exact below_drewN ((Below.refl _ _).alloc (Nat.le_refl _) _) _ | exact ((below_drewN ((Below.refl _ _).alloc (Nat.le_refl _) _) _).setCell (by simp) _).setCell (by simp) _

set_option maxHeartbeats 4000000 in
theorem Read_some (aT aB aS aZ : Addr) (s a b : ByteArray) (w : World) (h : E3 aB aS aZ w) (hT : w.cell? ⟨1, 0, none⟩ = some (.iface 180 (.pointer (some aT)))) (hb : behind 47 s.data.toList = some b.data.toList) (ha : ahead 47 s.data.toList = a.data.toList) (hm : s.size ≤ 9223372036854775807) :
    Calls Tryz.prog 86 #[.string s] w fun e w' => e = .returned (.tuple #[.agg #[.int .i64 (rd s.data.toList).n, .int .i64 (rd s.data.toList).d], er4 aT aB aS aZ (rd s.data.toList).c]) ∧ Below w.heap.size w w' := by
  have HB : Hid (behind 47 s.data.toList = some b.data.toList) := hb
  have HA : Hid (ahead 47 s.data.toList = a.data.toList) := ha
  have hlt := cell_lt hT
  simp only at hlt
  have hne : ¬ w.heap.size = 1 := by omega
  have hne' : ¬ 1 = w.heap.size := by omega
  have hcT : ∀ o, (w.alloc o).cell? ⟨1, 0, none⟩ = some (.iface 180 (.pointer (some aT))) := fun o => by
    rw [World.cell?_alloc_lt _ _ ⟨1, 0, none⟩ hlt]; exact hT
  cases hn : numTxt a.data.toList with
  | none =>
    have hr : rd s.data.toList = ⟨0, 0, 1⟩ := by unfold rd; rw [ha, hn]
    rw [hr]
    have HN : Hid (numTxt a.data.toList = none) := hn
    clear hn hr ha hb hT hlt
    go_enter Tryz.func86, Tryz.ntmps86
    go_wp2_with (first | (go_at_call 91; refine (Cut_some s a b _ HB.out HA.out hm).mono ?_; rintro e w' ⟨rfl, k, rfl⟩) | (go_at_call 92; refine (num_none a _ HN.out).mono ?_; rintro e w' ⟨rfl, rfl⟩))
    go_region
    go_wp2
    refine bodyPost_ret (v := .tuple #[.agg #[.int .i64 0, .int .i64 0], .iface 180 (.pointer (some aT))]) (by simp [results, Tryz.results86, go_sem]) rfl ⟨rfl, ?_⟩
    first | exact below_drewN ((Below.refl _ _).alloc (Nat.le_refl _) _) _ | exact ((below_drewN ((Below.refl _ _).alloc (Nat.le_refl _) _) _).setCell (by simp) _).setCell (by simp) _
  | some n =>
    have hr : rd s.data.toList = if digs b.data.toList = true ∧ val b.data.toList ≠ 1 then ck n (val b.data.toList) else ⟨0, 0, 1⟩ := by unfold rd; rw [ha, hn, hb]
    rw [hr]
    have HN : Hid (numTxt a.data.toList = some n) := hn
    obtain ⟨n1, n2⟩ := numTxt_bound hn
    clear hn hr ha hb hT hlt
    cases hd : digs b.data.toList with
    | false =>
      rw [if_neg (by simp)]
      have HD : Hid (digs b.data.toList = false) := hd
      clear hd
      go_enter Tryz.func86, Tryz.ntmps86
      go_wp2_with (first | (go_at_call 91; refine (Cut_some s a b _ HB.out HA.out hm).mono ?_; rintro e w' ⟨rfl, k, rfl⟩) | (go_at_call 92; refine (num_some a n _ HN.out).mono ?_; rintro e w' ⟨rfl, rfl⟩) | (go_at_call 93; refine (digits_at b false 0 _ HD.out (by simp)).mono ?_; rintro e w' ⟨rfl, rfl⟩))
      go_region
      go_wp2
      refine bodyPost_ret (v := .tuple #[.agg #[.int .i64 0, .int .i64 0], .iface 180 (.pointer (some aT))]) (by simp [results, Tryz.results86, go_sem]) rfl ⟨rfl, ?_⟩
      first | exact below_drewN ((Below.refl _ _).alloc (Nat.le_refl _) _) _ | exact ((below_drewN ((Below.refl _ _).alloc (Nat.le_refl _) _) _).setCell (by simp) _).setCell (by simp) _
    | true =>
      have hv := digs_bound hd
      obtain ⟨d, hdv⟩ : ∃ d : Nat, val b.data.toList = d := ⟨_, rfl⟩
      rw [hdv]
      rw [hdv] at hv
      have HD : Hid (digs b.data.toList = true) := hd
      have HV : Hid ((if true = true then (val b.data.toList : Int) else 0) = d) := by show _ = _; rw [if_pos rfl, hdv]
      clear hd hdv
      by_cases hd1 : d = 1
      · subst hd1
        rw [if_neg (by simp)]
        go_enter Tryz.func86, Tryz.ntmps86
        go_wp2_with (first | (go_at_call 91; refine (Cut_some s a b _ HB.out HA.out hm).mono ?_; rintro e w' ⟨rfl, k, rfl⟩) | (go_at_call 92; refine (num_some a n _ HN.out).mono ?_; rintro e w' ⟨rfl, rfl⟩) | (go_at_call 93; refine (digits_at b true 1 _ HD.out HV.out).mono ?_; rintro e w' ⟨rfl, rfl⟩))
        go_region
        go_wp2
        refine bodyPost_ret (v := .tuple #[.agg #[.int .i64 0, .int .i64 0], .iface 180 (.pointer (some aT))]) (by simp [results, Tryz.results86, go_sem]) rfl ⟨rfl, ?_⟩
        first | exact below_drewN ((Below.refl _ _).alloc (Nat.le_refl _) _) _ | exact ((below_drewN ((Below.refl _ _).alloc (Nat.le_refl _) _) _).setCell (by simp) _).setCell (by simp) _
      · rw [if_pos ⟨rfl, hd1⟩]
        have hd2 : ((d : Int) == 1) = false := by rw [beq_eq_false_iff_ne]; omega
        have hd3 : (0 : Int) ≤ (d : Int) := by omega
        clear hd1
        by_cases hc : chk n d = 0
        · have e : ck n d = ⟨n, d, 0⟩ := by unfold ck; rw [if_pos hc]
          rw [e]
          have HC : Hid (chk n d = 0) := hc
          clear e hc
          go_enter Tryz.func86, Tryz.ntmps86
          go_wp2_with (first | (go_at_call 91; refine (Cut_some s a b _ HB.out HA.out hm).mono ?_; rintro e w' ⟨rfl, k, rfl⟩) | (go_at_call 92; refine (num_some a n _ HN.out).mono ?_; rintro e w' ⟨rfl, rfl⟩) | (go_at_call 93; refine (digits_at b true d _ HD.out HV.out).mono ?_; rintro e w' ⟨rfl, rfl⟩) | (go_at_call 73; refine (check_ok aB aS aZ _ _ _ (by omega) (by omega) (by omega) (by omega) ?_ HC.out).mono ?_; exact (h.alloc _).drewN _; rintro e w' ⟨rfl, k2, rfl⟩))
          refine bodyPost_ret (v := .tuple #[.agg #[.int .i64 n, .int .i64 d], .nilIface]) (by simp [results, Tryz.results86, go_sem]) rfl ⟨rfl, ?_⟩
          first | exact below_drewN ((Below.refl _ _).alloc (Nat.le_refl _) _) _ | exact ((below_drewN ((Below.refl _ _).alloc (Nat.le_refl _) _) _).setCell (by simp) _).setCell (by simp) _
        · have hc' : chk n d = 2 ∨ chk n d = 3 := by rcases chk_cases n d with e | e | e <;> simp_all
          have e : ck n d = ⟨0, 0, chk n d⟩ := by unfold ck; rw [if_neg hc]
          obtain ⟨ae, hera⟩ := er_cases aB aS aZ hc'
          rw [e]
          simp only
          rw [er4_er aT aB aS aZ (show chk n d ≠ 1 by omega), hera]
          have HC : Hid (er aB aS aZ (chk n d) = .iface 180 (.pointer (some ae))) := hera
          clear e hc hc' hera
          go_enter Tryz.func86, Tryz.ntmps86
          go_wp2_with (first | (go_at_call 91; refine (Cut_some s a b _ HB.out HA.out hm).mono ?_; rintro e w' ⟨rfl, k, rfl⟩) | (go_at_call 92; refine (num_some a n _ HN.out).mono ?_; rintro e w' ⟨rfl, rfl⟩) | (go_at_call 93; refine (digits_at b true d _ HD.out HV.out).mono ?_; rintro e w' ⟨rfl, rfl⟩) | (go_at_call 73; refine (check_no aB aS aZ _ _ ae _ (by omega) (by omega) (by omega) (by omega) ?_ HC.out).mono ?_; exact (h.alloc _).drewN _; rintro e w' ⟨rfl, k2, rfl⟩))
          refine bodyPost_ret (v := .tuple #[.agg #[.int .i64 0, .int .i64 0], .iface 180 (.pointer (some ae))]) (by simp [results, Tryz.results86, go_sem]) rfl ⟨rfl, ?_⟩
          first | exact below_drewN ((Below.refl _ _).alloc (Nat.le_refl _) _) _ | exact ((below_drewN ((Below.refl _ _).alloc (Nat.le_refl _) _) _).setCell (by simp) _).setCell (by simp) _

theorem Read_any (aT aB aS aZ : Addr) (s : ByteArray) (w : World) (h : E3 aB aS aZ w) (hT : w.cell? ⟨1, 0, none⟩ = some (.iface 180 (.pointer (some aT)))) (hm : s.size ≤ 9223372036854775807) :
    Calls Tryz.prog 86 #[.string s] w fun e w' => e = .returned (.tuple #[.agg #[.int .i64 (rd s.data.toList).n, .int .i64 (rd s.data.toList).d], er4 aT aB aS aZ (rd s.data.toList).c]) ∧ Below w.heap.size w w' := by
  cases hb : behind 47 s.data.toList with
  | none => exact Read_none aT aB aS aZ s w h hT hb
  | some b => exact Read_some aT aB aS aZ s ⟨(ahead 47 s.data.toList).toArray⟩ ⟨b.toArray⟩ w h hT (by rw [hb]) rfl hm
end Go.Proofs.YtlnnpileegoglabGreatDoor

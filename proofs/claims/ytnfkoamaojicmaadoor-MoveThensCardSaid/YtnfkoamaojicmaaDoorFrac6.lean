/-
  The walks of package frac's Make and Text, and of the law's closed fact 'halved'.
-/
import Derived.Test.YtnfkoamaojicmaaDoorFrac5
import Derived.Test.YtnfkoamaojicmaaDoorShelf
import Derived.Lib.AppendIntMem
import Derived.Lib.ItoaLen
namespace Go.Proofs.YtnfkoamaojicmaaDoor
open Go.RowKit

def mk (n d : Int) : R3 := if d = 0 then ⟨0, 0, 11⟩ else if isBig n = true ∨ isBig d = true then ⟨0, 0, 2⟩ else low n d

/-- the three errors and the library's table of powers -/
structure G (aB aS aZ : Addr) (w : World) : Prop where
  e3 : E3 aB aS aZ w
  z : EZ aZ w
  tab : Lib.TabIs Tryd.prog w "internal/strconv.uint64pow10" .u64 Lib.pow10Tab
theorem gPow : Tryd.prog.globalNamed "internal/strconv.uint64pow10" = some 13 := by kernel_rfl
theorem tab_below {w w' : World} {B : Nat} (h : Lib.TabIs Tryd.prog w "internal/strconv.uint64pow10" .u64 Lib.pow10Tab) (hb : Below B w w') (hB : w.heap.size ≤ B) : Lib.TabIs Tryd.prog w' "internal/strconv.uint64pow10" .u64 Lib.pow10Tab :=
  var?_below hb gPow (Nat.lt_of_lt_of_le (cell_lt (h.cell gPow 0 (by simp [Lib.pow10Tab]))) hB) h
theorem G.below {aB aS aZ : Addr} {w w' : World} {B : Nat} (h : G aB aS aZ w) (hb : Below B w w') (hB : w.heap.size ≤ B) : G aB aS aZ w' := ⟨h.e3.below hb hB, h.z.below hb hB, tab_below h.tab hb hB⟩
theorem G.alloc {aB aS aZ : Addr} {w : World} (h : G aB aS aZ w) (o : Obj) : G aB aS aZ (w.alloc o) :=
  h.below ((Below.refl w.heap.size w).alloc (Nat.le_refl _) o) (Nat.le_refl _)
theorem G.drewN {aB aS aZ : Addr} {w : World} (h : G aB aS aZ w) (k : Nat) : G aB aS aZ (w.drewN k) := h.below (below_drewN (Below.refl w.heap.size w) k) (Nat.le_refl _)

set_option maxHeartbeats 1000000 in
theorem Make_any (aB aS aZ : Addr) (n d : Int) (w : World) (hn : I64 n) (hd : I64 d) (h : E3 aB aS aZ w) (hZ : EZ aZ w) :
    Calls Tryd.prog 14 #[.int .i64 n, .int .i64 d] w fun e w' => e = .returned (.tuple #[.agg #[.int .i64 (mk n d).n, .int .i64 (mk n d).d], er aB aS aZ (mk n d).c]) ∧ Below w.heap.size w w' := by
  obtain ⟨n1, n2⟩ := hn
  obtain ⟨d1, d2⟩ := hd
  have hlt := cell_lt hZ.z
  have hlt' := cell_lt h.b
  simp only at hlt hlt'
  have hne : ¬ w.heap.size = 10 := by omega
  have hne' : ¬ 10 = w.heap.size := by omega
  have hne1 : ¬ w.heap.size = 1 := by omega
  have hne1' : ¬ 1 = w.heap.size := by omega
  have hcZ := (hZ.alloc (.cells #[.int .i64 0, .int .i64 0] 36)).z
  have hcB := (h.alloc (.cells #[.int .i64 0, .int .i64 0] 36)).b
  clear hlt hlt'
  by_cases hd0 : d = 0
  · subst hd0
    have hm : mk n 0 = ⟨0, 0, 11⟩ := by unfold mk; rw [if_pos rfl]
    rw [hm]; clear hm
    go_enter Tryd.func14, Tryd.ntmps14
    go_wp2
    go_region
    go_wp2
    refine bodyPost_ret (v := .tuple #[.agg #[.int .i64 0, .int .i64 0], .iface 70 (.pointer (some aZ))]) (by simp [results, Tryd.results14, go_sem]) rfl ⟨rfl, ?_⟩
    exact ((Below.refl _ _).alloc (Nat.le_refl _) _).drew
  by_cases b1 : isBig n = true
  · have hm : mk n d = ⟨0, 0, 2⟩ := by unfold mk; rw [if_neg hd0, if_pos (Or.inl b1)]
    rw [hm]; clear hm
    go_enter Tryd.func14, Tryd.ntmps14
    go_wp2_with (go_at_call 36; refine (tooGreat_any _ _ (by omega) (by omega)).mono ?_; rintro e w' ⟨rfl, rfl⟩)
    go_region
    go_wp2
    refine bodyPost_ret (v := .tuple #[.agg #[.int .i64 0, .int .i64 0], .iface 70 (.pointer (some aB))]) (by simp [results, Tryd.results14, go_sem]) rfl ⟨rfl, ?_⟩
    exact ((Below.refl _ _).alloc (Nat.le_refl _) _).drew
  have b1 : isBig n = false := by simpa using b1
  by_cases b2 : isBig d = true
  · have hm : mk n d = ⟨0, 0, 2⟩ := by unfold mk; rw [if_neg hd0, if_pos (Or.inr b2)]
    rw [hm]; clear hm
    go_enter Tryd.func14, Tryd.ntmps14
    go_wp2_with (go_at_call 36; refine (tooGreat_any _ _ (by omega) (by omega)).mono ?_; rintro e w' ⟨rfl, rfl⟩)
    go_region
    go_wp2
    refine bodyPost_ret (v := .tuple #[.agg #[.int .i64 0, .int .i64 0], .iface 70 (.pointer (some aB))]) (by simp [results, Tryd.results14, go_sem]) rfl ⟨rfl, ?_⟩
    exact ((Below.refl _ _).alloc (Nat.le_refl _) _).drew
  have b2 : isBig d = false := by simpa using b2
  have hm : mk n d = low n d := by unfold mk; rw [if_neg hd0, if_neg (by simp [b1, b2])]
  rw [hm]; clear hm
  have l1 := isBig_false.1 b1
  have l2 := isBig_false.1 b2
  have l11 : -1073741824 ≤ n := by omega
  have l12 : n ≤ 1073741824 := by omega
  have l21 : -1073741824 ≤ d := by omega
  have l22 : d ≤ 1073741824 := by omega
  clear l1 l2
  go_enter Tryd.func14, Tryd.ntmps14
  go_wp2_with (first | (go_at_call 36; refine (tooGreat_any _ _ (by omega) (by omega)).mono ?_; rintro e w' ⟨rfl, rfl⟩) | (go_at_call 37; refine (lowest_any aB aS aZ _ _ _ (by omega) (by omega) hd0 (by omega) (by omega) ?_).mono ?_; exact h.alloc _; rintro e w2 ⟨rfl, hb2⟩; obtain ⟨s1, s2, s3, s4⟩ := Two.below (Two.new w _ _ _) hb2 (Nat.le_refl _)))
  refine bodyPost_ret (v := .tuple #[.agg #[.int .i64 (low n d).n, .int .i64 (low n d).d], er aB aS aZ (low n d).c]) (by simp [results, Tryd.results14, go_sem, s1, s2]) rfl ⟨rfl, ?_⟩
  exact ((((Below.refl _ _).alloc (Nat.le_refl _) _).trans (hb2.mono (by simp))).setCell (by exact Nat.le_refl _) _).setCell (by exact Nat.le_refl _) _

theorem Itoa_any (n : Int) (w : World) (hn : I64 n) (htab : Lib.TabIs Tryd.prog w "internal/strconv.uint64pow10" .u64 Lib.pow10Tab) :
    Calls Tryd.prog 42 #[.int .i64 n] w fun e w' => e = .returned (.string ⟨(Lib.itoa n).toArray⟩) ∧ Below w.heap.size w w' := by
  refine (Tryd.strconv_Itoa n hn.1 hn.2 w htab).mono ?_
  rintro e w' ⟨rfl, k, os, rfl⟩
  exact ⟨rfl, Lib.below_grow _ _ (Nat.le_refl _) k os⟩

theorem Itoa_at (n : Int) (s : ByteArray) (w : World) (hn : I64 n) (hs : (⟨(Lib.itoa n).toArray⟩ : ByteArray) = s) (htab : Lib.TabIs Tryd.prog w "internal/strconv.uint64pow10" .u64 Lib.pow10Tab) :
    Calls Tryd.prog 42 #[.int .i64 n] w fun e w' => e = .returned (.string s) ∧ Below w.heap.size w w' := by
  subst hs; exact Itoa_any n w hn htab
theorem itoa_some (n : Int) (hn : I64 n) : ∃ s : ByteArray, (⟨(Lib.itoa n).toArray⟩ : ByteArray) = s ∧ s.size ≤ 21 ∧ s.data.toList = Lib.itoa n :=
  ⟨_, rfl, by have := Lib.itoa_length_le n hn.1 hn.2; simpa [ByteArray.size] using this, by simp⟩

def txt (n d : Int) : List UInt8 := if d = 1 then Lib.itoa n else Lib.itoa n ++ 47 :: Lib.itoa d

set_option maxHeartbeats 1000000 in
theorem Text_any (aB aS aZ : Addr) (n d : Int) (w : World) (hn : I64 n) (hd : I64 d) (h : G aB aS aZ w) :
    Calls Tryd.prog 18 #[.agg #[.int .i64 n, .int .i64 d]] w fun e w' => e = .returned (.string ⟨(txt n d).toArray⟩) ∧ Below w.heap.size w w' := by
  by_cases hd1 : d = 1
  · subst hd1
    have ht : txt n 1 = Lib.itoa n := by unfold txt; rw [if_pos rfl]
    rw [ht]
    go_enter Tryd.func18, Tryd.ntmps18
    go_wp2_with (go_at_call 42; refine (Itoa_any _ _ hn ?_).mono ?_; exact (h.alloc _).tab; rintro e w1 ⟨rfl, hb⟩)
    go_ret
    exact ⟨rfl, ((Below.refl _ _).alloc (Nat.le_refl _) _).trans (hb.mono (by simp))⟩
  · obtain ⟨sn, en, zn, ln⟩ := itoa_some n hn
    obtain ⟨sd, ed, zd, ld⟩ := itoa_some d hd
    have ht : (⟨(txt n d).toArray⟩ : ByteArray) = sn ++ ⟨#[47]⟩ ++ sd := by
      unfold txt
      rw [if_neg hd1, ← en, ← ed]
      apply ByteArray.ext
      simp
    rw [ht]
    have EN : Hid ((⟨(Lib.itoa n).toArray⟩ : ByteArray) = sn) := en
    have ED : Hid ((⟨(Lib.itoa d).toArray⟩ : ByteArray) = sd) := ed
    have hA : ¬ 9223372036854775807 < sn.size + 1 := by omega
    have hB : ¬ 9223372036854775807 < sn.size + 1 + sd.size := by omega
    clear ht en ed ln ld
    go_enter Tryd.func18, Tryd.ntmps18
    go_wp2
    go_region_held3 (fun w' => w'.cell? ⟨w.heap.size, 0, none⟩ = some (.int .i64 n) ∧ w'.cell? ⟨w.heap.size, 1, none⟩ = some (.int .i64 d)) (go_keep) (first | (go_at_call_of 42 (Value.int IntKind.i64 n); refine (Itoa_at _ sn _ hn EN.out ?_).mono ?_; exact ((h.alloc _).drewN 1).tab; rintro e w1 ⟨rfl, hb⟩; obtain ⟨s1, s2, s3, s4⟩ := Two.below ((Two.new w _ _ _).drewN 1) hb (Nat.le_refl _)) | (go_at_call_of 42 (Value.int IntKind.i64 d); refine (Itoa_at _ sd _ hd ED.out ?_).mono ?_; exact (((h.alloc _).drewN 1).below hb (Nat.le_refl _)).tab; rintro e w2 ⟨rfl, hb2⟩; obtain ⟨u1, u2, u3, u4⟩ := Two.below ⟨s1, s2, s3, s4⟩ hb2 (Nat.le_refl _)))
    go_wp2
    go_ret
    exact ⟨rfl, (((Below.refl _ _).alloc (Nat.le_refl _) _).drew.trans (hb.mono (by simp))).trans (hb2.mono (by have := hb.size; simp at this; omega))⟩
end Go.Proofs.YtnfkoamaojicmaaDoor

/-
  The walks of package frac's small functions, for every number: size, divisor, tooGreat, check, Check, checkBoth, times, lowest.
-/
import Derived.Test.YtmbdojcljgicaaaGreatDoorProg
import Derived.Test.YtmbdojcljgicaaaGreatDoorFracM
import Derived.WalkKit
import Derived.WalkSpells
import Derived.WalkLawsBesides
import Derived.Deep.QuietTactic
import Derived.BigQuiet
namespace Go.Proofs.YtmbdojcljgicaaaGreatDoor
open Go.RowKit

theorem ret_int {k : IntKind} {a b : Int} (h : a = b) : Ending.returned (.int k a) = .returned (.int k b) := by rw [h]
theorem ret_bool {a b : Bool} (h : a = b) : Ending.returned (.bool a) = .returned (.bool b) := by rw [h]

/-- what the three error variables of package frac hold: pointers of errors.New's make -/
structure E3 (aB aS aZ : Addr) (w : World) : Prop where
  b : w.cell? ⟨0, 0, none⟩ = some (.iface 165 (.pointer (some aB)))
  s : w.cell? ⟨3, 0, none⟩ = some (.iface 165 (.pointer (some aS)))
  q : aZ = aZ
theorem cell_lt {w : World} {a : Addr} {v : Value} (h : w.cell? a = some v) : a.block < w.heap.size := by
  rcases Nat.lt_or_ge a.block w.heap.size with h' | h'
  · exact h'
  · simp [World.cell?, Array.getElem?_eq_none h'] at h
theorem E3.below {aB aS aZ : Addr} {w w' : World} {B : Nat} (h : E3 aB aS aZ w) (hb : Below B w w') (hB : w.heap.size ≤ B) : E3 aB aS aZ w' :=
  ⟨(hb.cell (Nat.lt_of_lt_of_le (cell_lt h.b) hB)).trans h.b, (hb.cell (Nat.lt_of_lt_of_le (cell_lt h.s) hB)).trans h.s, rfl⟩
theorem E3.drewN {aB aS aZ : Addr} {w : World} (h : E3 aB aS aZ w) (k : Nat) : E3 aB aS aZ (w.drewN k) := ⟨h.b, h.s, rfl⟩
theorem E3.alloc {aB aS aZ : Addr} {w : World} (h : E3 aB aS aZ w) (o : Obj) : E3 aB aS aZ (w.alloc o) :=
  h.below ((Below.refl w.heap.size w).alloc (Nat.le_refl _) o) (Nat.le_refl _)
/-- an error by its number -/
def er (aB aS aZ : Addr) : Nat → Value
  | 2 => .iface 165 (.pointer (some aB))
  | 3 => .iface 165 (.pointer (some aS))
  | 11 => .iface 165 (.pointer (some aZ))
  | _ => .nilIface

set_option maxHeartbeats 400000 in
theorem size_any (n : Int) (w : World) (h1 : -9223372036854775808 ≤ n) (h2 : n ≤ 9223372036854775807) :
    Calls Tryz.prog 76 #[.int .i64 n] w fun e w' => e = .returned (.int .u64 n.natAbs) ∧ w' = w := by
  by_cases h : n < 0
  · go_enter Tryz.func76, Tryz.ntmps76
    go_wp2
    go_ret
    exact ⟨ret_int (by rw [IntKind.wrap_u64, IntKind.wrap_u64]; omega), rfl⟩
  · go_enter Tryz.func76, Tryz.ntmps76
    go_wp2
    go_ret
    exact ⟨ret_int (by omega), rfl⟩

set_option maxHeartbeats 400000 in
theorem divisor_any (a b : Nat) (w : World) (ha : a ≤ 18446744073709551615) (hb : b ≤ 18446744073709551615) :
    Calls Tryz.prog 75 #[.int .u64 a, .int .u64 b] w fun e w' => e = .returned (.int .u64 (Nat.gcd a b : Nat)) ∧ ∃ k, w' = w.drewN k := by
  go_enter Tryz.func75, Tryz.ntmps75
  go_wp2
  go_loopw [0, 1] (fun x y wr => ∃ p q : Nat, p ≤ 18446744073709551615 ∧ q ≤ 18446744073709551615 ∧ x = .int .u64 p ∧ y = .int .u64 q ∧ Nat.gcd p q = Nat.gcd a b ∧ ∃ k, wr = w.drewN k) (fun _ y _ => (intOf y).toNat)
  case atStart => exact ⟨a, b, ha, hb, rfl, rfl, rfl, 0, rfl⟩
  case round =>
    obtain ⟨p, q, hp, hq, rfl, rfl, hg, k, rfl⟩ := hrel
    have HG : Hid (Nat.gcd p q = Nat.gcd a b) := hg
    clear hg
    by_cases h0 : q = 0
    · subst h0
      go_wp2
      go_ret
      exact ⟨ret_int (by have := HG.out; simp at this; omega), k, rfl⟩
    · have hlt := Nat.mod_lt p (Nat.pos_of_ne_zero h0)
      have HL : Hid (p % q < q) := hlt
      clear hlt
      go_wp2
      go_quiet (fail)
      go_wp2
      go_roundw
      case rel => exact ⟨q, p % q, hq, by have := HL.out; omega, rfl, by go_num, by rw [← HG.out, Nat.gcd_comm p q, Nat.gcd_comm q (p % q)]; exact (Nat.gcd_rec _ _).symm, _, World.drewN_drewN _ _ _⟩
      case measure => have := HL.out; simp [intOf]; omega

set_option maxHeartbeats 400000 in
theorem tooGreat_any (n : Int) (w : World) (h1 : -9223372036854775808 ≤ n) (h2 : n ≤ 9223372036854775807) :
    Calls Tryz.prog 77 #[.int .i64 n] w fun e w' => e = .returned (.bool (isBig n)) ∧ w' = w := by
  go_enter Tryz.func77, Tryz.ntmps77
  go_wp2_with (go_at_call 76; refine (size_any _ _ h1 h2).mono ?_; rintro e w' ⟨rfl, rfl⟩)
  go_ret
  exact ⟨ret_bool (by unfold isBig; rw [decide_eq_decide]; omega), rfl⟩


set_option maxHeartbeats 1000000 in
theorem check_any (aB aS aZ : Addr) (n d : Int) (w : World) (n1 : -9223372036854775808 ≤ n) (n2 : n ≤ 9223372036854775807) (d1 : -9223372036854775808 ≤ d) (d2 : d ≤ 9223372036854775807) (h : E3 aB aS aZ w) :
    Calls Tryz.prog 55 #[.int .i64 n, .int .i64 d] w fun e w' => e = .returned (er aB aS aZ (chk n d)) ∧ ∃ k, w' = w.drewN k := by
  obtain ⟨hB, hS, _⟩ := h
  by_cases hd : d < 1
  · have hc : chk n d = 3 := by unfold chk; rw [if_pos (Or.inl hd)]
    rw [hc]
    go_enter Tryz.func55, Tryz.ntmps55
    go_wp2
    go_ret
    exact ⟨rfl, 0, rfl⟩
  by_cases hg : gcdI n d = 1
  · have hgi : ((Nat.gcd n.natAbs d.natAbs : Nat) : Int) = 1 := by unfold gcdI at hg; omega
    by_cases b1 : isBig n = true
    · have hc : chk n d = 2 := by unfold chk; rw [if_neg (by rintro (h | h); exact hd h; exact h hg), if_pos (Or.inl b1)]
      rw [hc]
      clear hc hg
      go_enter Tryz.func55, Tryz.ntmps55
      go_wp2_with (first | (go_at_call 76; refine (size_any _ _ (by assumption) (by assumption)).mono ?_; rintro e w' ⟨rfl, rfl⟩) | (go_at_call 75; refine (divisor_any _ _ _ (by omega) (by omega)).mono ?_; rintro e w' ⟨rfl, k, rfl⟩) | (go_at_call 77; refine (tooGreat_any _ _ (by assumption) (by assumption)).mono ?_; rintro e w' ⟨rfl, rfl⟩))
      go_ret
      exact ⟨rfl, _, rfl⟩
    · have b1 : isBig n = false := by simpa using b1
      by_cases b2 : isBig d = true
      · have hc : chk n d = 2 := by unfold chk; rw [if_neg (by rintro (h | h); exact hd h; exact h hg), if_pos (Or.inr b2)]
        rw [hc]
        clear hc hg
        go_enter Tryz.func55, Tryz.ntmps55
        go_wp2_with (first | (go_at_call 76; refine (size_any _ _ (by assumption) (by assumption)).mono ?_; rintro e w' ⟨rfl, rfl⟩) | (go_at_call 75; refine (divisor_any _ _ _ (by omega) (by omega)).mono ?_; rintro e w' ⟨rfl, k, rfl⟩) | (go_at_call 77; refine (tooGreat_any _ _ (by assumption) (by assumption)).mono ?_; rintro e w' ⟨rfl, rfl⟩))
        go_ret
        exact ⟨rfl, _, rfl⟩
      · have b2 : isBig d = false := by simpa using b2
        have hc : chk n d = 0 := by unfold chk; rw [if_neg (by rintro (h | h); exact hd h; exact h hg), if_neg (by simp [b1, b2])]
        rw [hc]
        clear hc hg
        go_enter Tryz.func55, Tryz.ntmps55
        go_wp2_with (first | (go_at_call 76; refine (size_any _ _ (by assumption) (by assumption)).mono ?_; rintro e w' ⟨rfl, rfl⟩) | (go_at_call 75; refine (divisor_any _ _ _ (by omega) (by omega)).mono ?_; rintro e w' ⟨rfl, k, rfl⟩) | (go_at_call 77; refine (tooGreat_any _ _ (by assumption) (by assumption)).mono ?_; rintro e w' ⟨rfl, rfl⟩))
        go_ret
        exact ⟨rfl, _, rfl⟩
  · have hc : chk n d = 3 := by unfold chk; rw [if_pos (Or.inr hg)]
    have hgi : ((((Nat.gcd n.natAbs d.natAbs : Nat) : Int)) != 1) = true := by unfold gcdI at hg; simp; omega
    rw [hc]
    clear hc hg
    go_enter Tryz.func55, Tryz.ntmps55
    go_wp2_with (first | (go_at_call 76; refine (size_any _ _ (by assumption) (by assumption)).mono ?_; rintro e w' ⟨rfl, rfl⟩) | (go_at_call 75; refine (divisor_any _ _ _ (by omega) (by omega)).mono ?_; rintro e w' ⟨rfl, k, rfl⟩) | (go_at_call 77; refine (tooGreat_any _ _ (by assumption) (by assumption)).mono ?_; rintro e w' ⟨rfl, rfl⟩))
    go_ret
    exact ⟨rfl, _, rfl⟩
end Go.Proofs.YtmbdojcljgicaaaGreatDoor

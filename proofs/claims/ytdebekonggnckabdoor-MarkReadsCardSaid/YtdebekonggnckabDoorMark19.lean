/-
  The byte that a word stands for; a value.
-/
import Derived.Test.YtdebekonggnckabDoorMark18
namespace Go.Proofs.YtdebekonggnckabDoor
open Go.RowKit

theorem Keep.grown {b : Nat} {A B : World} (h : Keep b A B) : A.grownBy B (some b) := ⟨h.os, h.tape, h.output, h.size, fun k hk hne => h.block k hk (fun e => hne (by rw [e]))⟩
theorem Keep.refl (b : Nat) (A : World) : Keep b A A := Keep.of_below (Below.refl _ _)
theorem Keep.low {b : Nat} {A B C : World} (h : Keep b A B) (k : Below A.heap.size B C) : Keep b A C := ⟨k.os.trans h.os, k.tape.trans h.tape, k.output.trans h.output, Nat.le_trans h.size k.size, fun i hi hb => (k.block i hi).trans (h.block i hi hb)⟩
theorem Bd.keep {B b R : Nat} {l : Bs} {w w' : World} (h : Bd B b l w) (k : Keep R w w') (hR : R < B) : Bd B b l w' := by
  have aux : ∀ p, Lib.BuilderAtF 85 5 B b p (Lib.byteCells l) w → Lib.BuilderAtF 85 5 B b p (Lib.byteCells l) w' := fun p ⟨hB, v, hb, ho, hne⟩ =>
    ⟨hB, v, by rw [k.block b (heap_lt hb) (by omega)]; exact hb, ho.kept k.grown (.inr fun e => by have := (ho.lt R e).1; omega), hne⟩
  exact h.elim (fun x => .inl (aux _ x)) (fun x => .inr (aux _ x))
theorem Keep.blk {b : Nat} {A B : World} (h : Keep b A B) {N : Nat} {o : Obj} (hN : A.heap[N]? = some o) (hne : N ≠ b) : B.heap[N]? = some o := by
  rw [h.block N (heap_lt hN) hne]; exact hN

/-- The four bytes that have a word. -/
theorem mkW_step (u : Bs) : mkW u = if (wl 60).isPrefixOf u = true then some (60, u.drop (wl 60).length) else if (wl 62).isPrefixOf u = true then some (62, u.drop (wl 62).length) else if (wl 38).isPrefixOf u = true then some (38, u.drop (wl 38).length) else if (wl 34).isPrefixOf u = true then some (34, u.drop (wl 34).length) else none := rfl
/-- What the reader of a word tells. -/
def MkR (R : Nat) (u : Bs) (e : Ending) (w : World) : Prop := (mkW u = none ∧ e = .returned (.tuple #[.int .u8 0, .bool false])) ∨ ∃ c r, mkW u = some (c, r) ∧ e = .returned (.tuple #[.int .u8 (UInt8.toNat c), .bool true]) ∧ RD R r w

set_option maxRecDepth 20000 in
set_option maxHeartbeats 4000000 in
theorem mark_any (R : Nat) (u : Bs) (W : World) (h : RD R u W) :
    Calls Tryd.prog 112 #[.pointer (some ⟨R, 0, none⟩)] W fun e w' => Keep R W w' ∧ MkR R u e w' := by
  have HW := mkW_step u
  have w60 := wordOf_any 60
  have w62 := wordOf_any 62
  have w38 := wordOf_any 38
  have w34 := wordOf_any 34
  rw [wordB_wl] at w60 w62 w38 w34
  go_enter Tryd.func112, Tryd.ntmps112
  go_wp2_with fail
  go_loopw [4] (fun y wr => ∃ i : Nat, y = .int .i64 i ∧ i ≤ 4 ∧ (∀ j c, j < i → ([60, 62, 38, 34] : Bs)[j]? = some c → (wl c).isPrefixOf u = false) ∧ RD R u wr ∧ Keep R W wr) (fun y _ => 4 - (intOf y).toNat)
  case atStart => exact ⟨0, rfl, Nat.zero_le _, fun j _ h => absurd h (Nat.not_lt_zero _), h, Keep.refl _ _⟩
  case round =>
    obtain ⟨i, rfl, hi, hsm, hrd, hkp⟩ := hrel
    have HS : Hid (∀ j c, j < i → ([60, 62, 38, 34] : Bs)[j]? = some c → (wl c).isPrefixOf u = false) := hsm
    clear hsm
    have HM : Hid (mkW u = if (wl 60).isPrefixOf u = true then some (60, u.drop (wl 60).length) else if (wl 62).isPrefixOf u = true then some (62, u.drop (wl 62).length) else if (wl 38).isPrefixOf u = true then some (38, u.drop (wl 38).length) else if (wl 34).isPrefixOf u = true then some (34, u.drop (wl 34).length) else none) := HW
    clear HW
    rcases i with _ | _ | _ | _ | _ | i
    · cases hp : (wl 60).isPrefixOf u with
      | true =>
        have SK := skip_any R u (wl 60) wr hrd
        rw [hp, cutW_yes hp] at SK
        have HZ : Hid (mkW u = some (60, u.drop (wl 60).length)) := (by rw [HM.out, if_pos hp] : mkW u = some (60, u.drop (wl 60).length))
        clear hp
        go_wp2_with (first | (go_at_call 78; refine (w60 _).mono ?_; rintro e w1 ⟨rfl, rfl⟩) | (go_at_call 62; refine SK.mono ?_; rintro e w1 ⟨rfl, hr1, hk1⟩))
        go_ret2
        exact ⟨hkp.trans hk1, .inr ⟨60, _, HZ.out, rfl, hr1⟩⟩
      | false =>
        have SK := skip_any R u (wl 60) wr hrd
        rw [hp, cutW_no hp] at SK
        have HZ : Hid ((wl 60).isPrefixOf u = false) := hp
        clear hp
        go_wp2_with (first | (go_at_call 78; refine (w60 _).mono ?_; rintro e w1 ⟨rfl, rfl⟩) | (go_at_call 62; refine SK.mono ?_; rintro e w1 ⟨rfl, hr1, hk1⟩))
        go_roundw
        case rel => exact ⟨1, by go_num, by omega, fun j c hj hc => by
          by_cases e : j < 0
          · exact HS.out j c (by omega) hc
          · obtain rfl : j = 0 := by omega
            simp at hc
            subst hc
            exact HZ.out, hr1, hkp.trans hk1⟩
        case measure => simp [intOf]
    · cases hp : (wl 62).isPrefixOf u with
      | true =>
        have SK := skip_any R u (wl 62) wr hrd
        rw [hp, cutW_yes hp] at SK
        have HZ : Hid (mkW u = some (62, u.drop (wl 62).length)) := (by rw [HM.out, if_neg (by rw [HS.out 0 60 (by omega) rfl]; simp), if_pos hp] : mkW u = some (62, u.drop (wl 62).length))
        clear hp
        go_wp2_with (first | (go_at_call 78; refine (w62 _).mono ?_; rintro e w1 ⟨rfl, rfl⟩) | (go_at_call 62; refine SK.mono ?_; rintro e w1 ⟨rfl, hr1, hk1⟩))
        go_ret2
        exact ⟨hkp.trans hk1, .inr ⟨62, _, HZ.out, rfl, hr1⟩⟩
      | false =>
        have SK := skip_any R u (wl 62) wr hrd
        rw [hp, cutW_no hp] at SK
        have HZ : Hid ((wl 62).isPrefixOf u = false) := hp
        clear hp
        go_wp2_with (first | (go_at_call 78; refine (w62 _).mono ?_; rintro e w1 ⟨rfl, rfl⟩) | (go_at_call 62; refine SK.mono ?_; rintro e w1 ⟨rfl, hr1, hk1⟩))
        go_roundw
        case rel => exact ⟨2, by go_num, by omega, fun j c hj hc => by
          by_cases e : j < 1
          · exact HS.out j c (by omega) hc
          · obtain rfl : j = 1 := by omega
            simp at hc
            subst hc
            exact HZ.out, hr1, hkp.trans hk1⟩
        case measure => simp [intOf]
    · cases hp : (wl 38).isPrefixOf u with
      | true =>
        have SK := skip_any R u (wl 38) wr hrd
        rw [hp, cutW_yes hp] at SK
        have HZ : Hid (mkW u = some (38, u.drop (wl 38).length)) := (by rw [HM.out, if_neg (by rw [HS.out 0 60 (by omega) rfl]; simp), if_neg (by rw [HS.out 1 62 (by omega) rfl]; simp), if_pos hp] : mkW u = some (38, u.drop (wl 38).length))
        clear hp
        go_wp2_with (first | (go_at_call 78; refine (w38 _).mono ?_; rintro e w1 ⟨rfl, rfl⟩) | (go_at_call 62; refine SK.mono ?_; rintro e w1 ⟨rfl, hr1, hk1⟩))
        go_ret2
        exact ⟨hkp.trans hk1, .inr ⟨38, _, HZ.out, rfl, hr1⟩⟩
      | false =>
        have SK := skip_any R u (wl 38) wr hrd
        rw [hp, cutW_no hp] at SK
        have HZ : Hid ((wl 38).isPrefixOf u = false) := hp
        clear hp
        go_wp2_with (first | (go_at_call 78; refine (w38 _).mono ?_; rintro e w1 ⟨rfl, rfl⟩) | (go_at_call 62; refine SK.mono ?_; rintro e w1 ⟨rfl, hr1, hk1⟩))
        go_roundw
        case rel => exact ⟨3, by go_num, by omega, fun j c hj hc => by
          by_cases e : j < 2
          · exact HS.out j c (by omega) hc
          · obtain rfl : j = 2 := by omega
            simp at hc
            subst hc
            exact HZ.out, hr1, hkp.trans hk1⟩
        case measure => simp [intOf]
    · cases hp : (wl 34).isPrefixOf u with
      | true =>
        have SK := skip_any R u (wl 34) wr hrd
        rw [hp, cutW_yes hp] at SK
        have HZ : Hid (mkW u = some (34, u.drop (wl 34).length)) := (by rw [HM.out, if_neg (by rw [HS.out 0 60 (by omega) rfl]; simp), if_neg (by rw [HS.out 1 62 (by omega) rfl]; simp), if_neg (by rw [HS.out 2 38 (by omega) rfl]; simp), if_pos hp] : mkW u = some (34, u.drop (wl 34).length))
        clear hp
        go_wp2_with (first | (go_at_call 78; refine (w34 _).mono ?_; rintro e w1 ⟨rfl, rfl⟩) | (go_at_call 62; refine SK.mono ?_; rintro e w1 ⟨rfl, hr1, hk1⟩))
        go_ret2
        exact ⟨hkp.trans hk1, .inr ⟨34, _, HZ.out, rfl, hr1⟩⟩
      | false =>
        have SK := skip_any R u (wl 34) wr hrd
        rw [hp, cutW_no hp] at SK
        have HZ : Hid ((wl 34).isPrefixOf u = false) := hp
        clear hp
        go_wp2_with (first | (go_at_call 78; refine (w34 _).mono ?_; rintro e w1 ⟨rfl, rfl⟩) | (go_at_call 62; refine SK.mono ?_; rintro e w1 ⟨rfl, hr1, hk1⟩))
        go_roundw
        case rel => exact ⟨4, by go_num, by omega, fun j c hj hc => by
          by_cases e : j < 3
          · exact HS.out j c (by omega) hc
          · obtain rfl : j = 3 := by omega
            simp at hc
            subst hc
            exact HZ.out, hr1, hkp.trans hk1⟩
        case measure => simp [intOf]
    · have HZ : Hid (mkW u = none) := (by rw [HM.out, if_neg (by rw [HS.out 0 60 (by omega) rfl]; simp), if_neg (by rw [HS.out 1 62 (by omega) rfl]; simp), if_neg (by rw [HS.out 2 38 (by omega) rfl]; simp), if_neg (by rw [HS.out 3 34 (by omega) rfl]; simp)] : mkW u = none)
      go_wp2_with fail
      go_ret2
      exact ⟨hkp, .inl ⟨HZ.out, rfl⟩⟩
    · omega

end Go.Proofs.YtdebekonggnckabDoor

/-
  The laws' small ones on documents: coded, docked.
-/
import Derived.Test.YtmlajdhkkcmjnacDoorDocM3
import Derived.Test.YtmlajdhkkcmjnacDoorJ13
import Derived.Test.YtmlajdhkkcmjnacDoorDocE
namespace Go.Proofs.YtmlajdhkkcmjnacDoor
open Go.RowKit

set_option maxHeartbeats 1000000 in
theorem coded_at {E : Nat → Addr} (c : Nat) (h0 : 1 ≤ c) (hc : c ≤ 11) (w : World) (h : EE E w) :
    Calls Tryd.prog 18 #[eV (E c), .int .i64 c] w fun e w' => e = .returned (.bool true) ∧ Below w.heap.size w w' := by
  go_enter Tryd.func18, Tryd.ntmps18
  go_wp2_with (go_at_call 40; refine (Code_at c h0 hc _ h).mono ?_; rintro e w' ⟨rfl, hb⟩)
  go_ret
  exact ⟨rfl, hb⟩
theorem New_yes (E : Nat → Addr) (n : Nd) (c0 c1 c2 : Value) (W : World) (hE : CE E W) (hn : NdC W c0 c1 c2 n) (hs : szN n ≤ 1000000) (hc : (ckN n 1 0).1 = 0) :
    Calls Tryd.prog 9 #[.agg #[c0, c1, c2]] W fun e w' => Below W.heap.size W w' ∧ ∃ DB MB tg p, e = .returned (.tuple #[.pointer (some ⟨DB, 0, none⟩), .nilIface]) ∧ DocW W.heap.size tg w' DB MB p (newD n) (szN n) (szN n) := (New_any E n c0 c1 c2 W hE hn hs).mono fun e w' h => ⟨h.1, by
  rcases h.2 with h2 | h2
  · exact absurd hc h2.1
  · exact h2.2⟩
theorem New_no (E : Nat → Addr) (n : Nd) (c0 c1 c2 : Value) (W : World) (hE : CE E W) (hn : NdC W c0 c1 c2 n) (hs : szN n ≤ 1000000) (hc : (ckN n 1 0).1 ≠ 0) :
    Calls Tryd.prog 9 #[.agg #[c0, c1, c2]] W fun e w' => Below W.heap.size W w' ∧ ∃ pb, e = .returned (.tuple #[.pointer none, .iface 102 (.pointer (some ⟨pb, 0, none⟩))]) := (New_any E n c0 c1 c2 W hE hn hs).mono fun e w' h => ⟨h.1, by
  rcases h.2 with ⟨-, pb, h2, -⟩ | h2
  · exact ⟨pb, h2⟩
  · exact absurd h2.1 hc⟩
theorem nd_one (W : World) : NdC W (.string ⟨#[97]⟩) (.slice none 0 0) (.slice none 0 0) (.mk [97] [] []) := by
  unfold NdC
  refine ⟨rfl, by rw [maxLen_eq]; decide, ⟨none, 0, rfl, Nat.le_refl _, Nat.zero_le _, fun _ => rfl, fun i x h => by simp at h⟩, none, 0, rfl, Nat.le_refl _, Nat.zero_le _, fun _ => rfl, ?_⟩
  unfold KdsAt
  trivial
set_option maxRecDepth 20000 in
set_option maxHeartbeats 4000000 in
theorem docked_any {E : Nat → Addr} (W : World) (hE : DE E W) :
    Calls Tryd.prog 7 #[] W fun e w' => e = .returned (.bool true) ∧ Below W.heap.size W w' := by
  have NW := New_yes E (.mk [97] [] []) _ _ _ W hE.ce (nd_one W) (by decide) (by decide)
  go_enter Tryd.func7, Tryd.ntmps7
  go_upto_region 4 with (go_at_call 9; refine NW.mono ?_; rintro e w1 ⟨b1, DB, MB, tg, p, rfl, d1⟩)
  have AD : Calls Tryd.prog 10 #[.pointer (some ⟨DB, 0, none⟩), .int .i64 0, .int .i64 0, .string ⟨#[98]⟩] w1 fun r w' => r = .returned (.tuple #[.int .i64 1, .nilIface]) ∧ Below W.heap.size w1 w' ∧ ∃ tg' p', DocW W.heap.size tg' w' DB MB p' (putE (putE (newD (.mk [97] [] [])) 1 ⟨[98], [], 0, []⟩) 0 ⟨[97], [], -1, [1]⟩) 2 2 :=
    (Add_doc d1 0 0 [98] ⟨[97], [], -1, []⟩ rfl (Nat.le_refl _) (by decide) 1 ⟨_, rfl, rfl⟩ (by decide) (by decide) (by decide) (by decide) b1.size).mono fun r w' h => ⟨h.1, h.2.1.below (fun b t ht => (d1.low b t ht).1) b1.size, by
      obtain ⟨tg', p', -, h3⟩ := h.2.2
      exact ⟨tg', p', h3⟩⟩
  go_upto_region 5 with (go_at_call 10; refine AD.mono ?_; rintro e w2 ⟨rfl, b2, tg2, p2, d2⟩)
  have CT : Calls Tryd.prog 17 #[.pointer (some ⟨DB, 0, none⟩)] w2 fun r w' => r = .returned (.int .i64 2) ∧ w' = w2 := Count_doc d2
  have PA : Calls Tryd.prog 12 #[.pointer (some ⟨DB, 0, none⟩), .int .i64 1] w2 fun r w' => r = .returned (.int .i64 0) ∧ w' = w2 := Parent_doc d2 1 (by decide)
  have NA : Calls Tryd.prog 19 #[.pointer (some ⟨DB, 0, none⟩), .int .i64 1] w2 fun r w' => r = .returned (.string ⟨#[98]⟩) ∧ w' = w2 := Name_doc d2 1 (by decide)
  clear d2 AD d1
  go_wp2_with (first | (go_at_call 17; refine CT.mono ?_; rintro r w3 ⟨rfl, rfl⟩) | (go_at_call 12; refine PA.mono ?_; rintro r w3 ⟨rfl, rfl⟩) | (go_at_call 19; refine NA.mono ?_; rintro r w3 ⟨rfl, rfl⟩))
  go_ret
  exact ⟨rfl, b1.trans b2⟩

end Go.Proofs.YtmlajdhkkcmjnacDoor

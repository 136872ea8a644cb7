/-
  Package pick: does a selector fit an element?
-/
import Derived.Test.YtnoecobddhmhlaaGreatDoorPick8
import Derived.Test.YtnoecobddhmhlaaGreatDoorJ21
namespace Go.Proofs.YtnoecobddhmhlaaGreatDoor
open Go.RowKit Go.Shelf

section
variable {B : Nat} {tg : Tags} {W : World} {DB MB : Nat} {p : Int → Option Nat} {M : Dm} {nx c : Nat} {r : Int → Nat}
theorem above_some {M : Dm} {k : Nat} {m : Int} {e : Elm} (he : M m = some e) : aboveM M (k + 1) m = if e.parent < 0 then [] else e.parent :: aboveM M k e.parent := by
  rw [aboveM, he]
theorem above_any (g : Int → Bool) {k : Nat} {m : Int} {e : Elm} (he : M m = some e) : (aboveM M (k + 1) m).any g = (decide (0 ≤ e.parent) && (g e.parent || (aboveM M k e.parent).any g)) := by
  rw [above_some he]
  by_cases hp : e.parent < 0
  · rw [if_pos hp, decide_eq_false (by omega)]
    rfl
  · rw [if_neg hp, decide_eq_true (by omega)]
    simp
def mz (r : Int → Nat) (x : Int) : Nat := if 0 ≤ x then r x + 1 else 0
theorem mz_pos {r : Int → Nat} {x : Int} (h : 0 ≤ x) : mz r x = r x + 1 := by unfold mz; rw [if_pos h]
theorem mz_neg {r : Int → Nat} {x : Int} (h : ¬ 0 ≤ x) : mz r x = 0 := by unfold mz; rw [if_neg h]
set_option maxRecDepth 20000 in
set_option maxHeartbeats 4000000 in
theorem someAbove_doc (h : DocW B tg W DB MB p M nx c) (hw : Wd M r) (n : Int) (hn : Wf64 n) (g : Int → Bool) (lb : Array Value) (PT PA : Nat) (hlb : lb = #[.pointer (some ⟨PT, 0, none⟩), .pointer (some ⟨PA, 0, none⟩)])
    (hg : ∀ m V, Wf64 m → Below W.heap.size W V → Calls Tryz.prog 88 #[.int .i64 m, .pointer (some ⟨PT, 0, none⟩), .pointer (some ⟨PA, 0, none⟩)] V fun e w' => e = .returned (.bool (g m)) ∧ Below V.heap.size V w') :
    Calls Tryz.prog 87 #[.pointer (some ⟨DB, 0, none⟩), .int .i64 n, .func (.func 88) #[] lb] W fun e w' => e = .returned (.bool ((aboveM M 11 n).any g)) ∧ Below W.heap.size W w' := by
  subst hlb
  have PN := Parent_par h n hn
  have HW : Hid (Wd M r) := hw
  have HG : Hid (∀ m V, Wf64 m → Below W.heap.size W V → Calls Tryz.prog 88 #[.int .i64 m, .pointer (some ⟨PT, 0, none⟩), .pointer (some ⟨PA, 0, none⟩)] V fun e w' => e = .returned (.bool (g m)) ∧ Below V.heap.size V w') := hg
  have HH : Hid (DocW B tg W DB MB p M nx c) := h
  have hwp : Wf64 (parD M n) := by
    unfold parD
    cases hm : M n with
    | none => exact WalkArith.wf_i64 (by decide)
    | some e => exact (h.wf n e hm).1
  have h0 : (aboveM M 11 n).any g = (decide (0 ≤ parD M n) && (g (parD M n) || (aboveM M 10 (parD M n)).any g)) ∧ (0 ≤ parD M n → ∃ e, M (parD M n) = some e ∧ r (parD M n) ≤ 10) := by
    unfold parD
    cases hm : M n with
    | none =>
      refine ⟨?_, fun hh => absurd hh (by decide)⟩
      rw [aboveM, hm]
      rfl
    | some e =>
      refine ⟨above_any g hm, fun hh => ?_⟩
      by_cases hn0 : n = 0
      · subst hn0
        obtain ⟨e0, h1, h2⟩ := hw.root
        rw [hm] at h1
        cases h1
        have hh' : 0 ≤ e.parent := hh
        omega
      · obtain ⟨q, hq, -, -⟩ := hw.up n e hm hn0
        exact ⟨q, hq, (hw.rb _ q hq).2⟩
  obtain ⟨T, hT⟩ : ∃ T, (aboveM M 11 n).any g = T := ⟨_, rfl⟩
  rw [hT] at h0 ⊢
  have HT0 : Hid (T = (decide (0 ≤ parD M n) && (g (parD M n) || (aboveM M 10 (parD M n)).any g)) ∧ (0 ≤ parD M n → ∃ e, M (parD M n) = some e ∧ r (parD M n) ≤ 10)) := h0
  clear hT h0 hg hw h
  go_enter Tryz.func87, Tryz.ntmps87
  go_wp2_with (go_at_call 45; refine PN.mono ?_; rintro e w1 ⟨rfl, h1⟩; rw [h1]; clear h1)
  go_loopw [1] (fun y wr => ∃ (m : Int) (k : Nat), y = .int .i64 m ∧ T = (decide (0 ≤ m) && (g m || (aboveM M k m).any g)) ∧ (0 ≤ m → ∃ e, M m = some e ∧ r m ≤ k) ∧ Wf64 m ∧ Below W.heap.size W wr) (fun y _ => mz r (intOf y))
  case atStart => exact ⟨parD M n, 10, rfl, HT0.out.1, HT0.out.2, hwp, Below.refl _ _⟩
  case round =>
    obtain ⟨m, k, rfl, hT, hk, hwm, hb⟩ := hrel
    by_cases hm0 : 0 ≤ m
    · obtain ⟨e, he, hrk⟩ := hk hm0
      have hrb := (HW.out.rb m e he).1
      obtain ⟨k', rfl⟩ : ∃ k', k = k' + 1 := ⟨k - 1, by omega⟩
      have GM := HG.out m wr hwm hb
      have hdoc := HH.out.below hb
      have PM := fun V (hv : Below wr.heap.size wr V) => Parent_par (hdoc.below hv) m hwm
      have hpe : parD M m = e.parent := by unfold parD; rw [he]
      rw [hpe] at PM
      have hwe := (hdoc.wf m e he).1
      rw [decide_eq_true hm0, above_any g he] at hT
      have hup : 0 ≤ e.parent → ∃ q, M e.parent = some q ∧ r e.parent ≤ k' ∧ r e.parent < r m := fun hh => by
        by_cases hz : m = 0
        · subst hz
          obtain ⟨e0, h1, h2⟩ := HW.out.root
          rw [he] at h1
          cases h1
          omega
        · obtain ⟨q, hq, -, hr⟩ := HW.out.up m e he hz
          exact ⟨q, hq, by omega, by omega⟩
      have HUP : Hid (0 ≤ e.parent → ∃ q, M e.parent = some q ∧ r e.parent ≤ k' ∧ r e.parent < r m) := hup
      cases hgm : g m with
      | true =>
        rw [hgm] at GM hT
        have HT : Hid (T = true) := (by rw [hT]; rfl : T = true)
        clear hT hk hup
        go_wp2_with (go_at_call 88; refine GM.mono ?_; rintro e' w2 ⟨rfl, b2⟩)
        go_ret
        exact ⟨by rw [HT.out]; rfl, mbel hb b2⟩
      | false =>
        rw [hgm] at GM hT
        have HT : Hid (T = (decide (0 ≤ e.parent) && (g e.parent || (aboveM M k' e.parent).any g))) := (by rw [hT]; simp : T = (decide (0 ≤ e.parent) && (g e.parent || (aboveM M k' e.parent).any g)))
        clear hT hk hup hpe
        go_wp2_with (first | (go_at_call 88; refine GM.mono ?_; rintro e' w2 ⟨rfl, b2⟩) | (go_at_call 45; refine (PM _ b2).mono ?_; rintro e' w3 ⟨rfl, h3⟩; rw [h3]; clear h3))
        go_roundw
        case rel => exact ⟨e.parent, k', rfl, HT.out, fun hh => by obtain ⟨q, h1, h2, -⟩ := HUP.out hh; exact ⟨q, h1, h2⟩, hwe, mbel hb b2⟩
        case measure =>
          show mz r e.parent < mz r m
          rw [mz_pos hm0]
          by_cases hpp : 0 ≤ e.parent
          · obtain ⟨q, -, -, h3⟩ := HUP.out hpp
            rw [mz_pos hpp]
            omega
          · rw [mz_neg hpp]
            omega
    · rw [decide_eq_false hm0] at hT
      have HT : Hid (T = false) := (by rw [hT]; rfl : T = false)
      clear hT hk
      go_wp2_with fail
      go_ret
      exact ⟨by rw [HT.out]; rfl, hb⟩
end

end Go.Proofs.YtnoecobddhmhlaaGreatDoor

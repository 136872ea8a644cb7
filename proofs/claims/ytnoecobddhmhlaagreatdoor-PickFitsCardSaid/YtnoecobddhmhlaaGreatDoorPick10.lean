/-
  Package pick: does a selector fit an element? The steps are tried.
-/
import Derived.Test.YtnoecobddhmhlaaGreatDoorPick9
namespace Go.Proofs.YtnoecobddhmhlaaGreatDoor
open Go.RowKit Go.Shelf

abbrev tryV (PD PT : Nat) : Value := .func (.func 84) #[] #[.pointer (some ⟨PD, 0, none⟩), .pointer (some ⟨PT, 0, none⟩)]
/-- What must be so beside the last step. -/
def restM (M : Dm) (f : Nat) (a : Bs) (n : Int) : Lk → Bool
  | .no => true
  | .right => fitM M f a (parD M n)
  | .below => (aboveM M 11 n).any (fitM M f a)
theorem fitM_succ (M : Dm) (f : Nat) {t a b : Bs} {k : Lk} (h : cutM t = (a, k, b)) (n : Int) : fitM M (f + 1) t n = (fitSt M b n && restM M f a n k) := by
  rw [fitM, h]
  cases k <;> rfl
section
variable {B : Nat} {tg : Tags} {W : World} {DB MB : Nat} {p : Int → Option Nat} {M : Dm} {nx c : Nat} {r : Int → Nat}
set_option maxHeartbeats 2000000 in
theorem inner_any (PD PT PA : Nat) (a : Bs) (m : Int) (V : World) (res : Bool) (h1 : V.cell? ⟨PT, 0, none⟩ = some (tryV PD PT)) (h2 : V.cell? ⟨PA, 0, none⟩ = some (bV a))
    (IH : Calls Tryz.prog 84 #[bV a, .int .i64 m, .pointer (some ⟨PD, 0, none⟩), .pointer (some ⟨PT, 0, none⟩)] V fun e w' => e = .returned (.bool res) ∧ Below V.heap.size V w') :
    Calls Tryz.prog 88 #[.int .i64 m, .pointer (some ⟨PT, 0, none⟩), .pointer (some ⟨PA, 0, none⟩)] V fun e w' => e = .returned (.bool res) ∧ Below V.heap.size V w' := by
  go_enter Tryz.func88, Tryz.ntmps88
  go_wp2_with (go_at_call 84; refine IH.mono ?_; rintro e w1 ⟨rfl, hb1⟩)
  go_ret
  exact ⟨rfl, hb1⟩
set_option maxRecDepth 20000 in
set_option maxHeartbeats 4000000 in
theorem try_doc (h : DocW B tg W DB MB p M nx c) (hw : Wd M r) (hF : FitD M) (PD PT : Nat) (h1 : W.cell? ⟨PD, 0, none⟩ = some (.pointer (some ⟨DB, 0, none⟩))) (h2 : W.cell? ⟨PT, 0, none⟩ = some (tryV PD PT)) :
    ∀ (f : Nat) (t : Bs) (n : Int) (V : World), t.length < f → t.length ≤ 1000000 → Wf64 n → Below W.heap.size W V →
    Calls Tryz.prog 84 #[bV t, .int .i64 n, .pointer (some ⟨PD, 0, none⟩), .pointer (some ⟨PT, 0, none⟩)] V fun e w' => e = .returned (.bool (fitM M f t n)) ∧ Below V.heap.size V w'
  | 0, _, _, _, hf, _, _, _ => by omega
  | f + 1, t, n, V, hf, htl, hn, hb => by
    have HIH : Hid (∀ (t : Bs) (n : Int) (V : World), t.length < f → t.length ≤ 1000000 → Wf64 n → Below W.heap.size W V → Calls Tryz.prog 84 #[bV t, .int .i64 n, .pointer (some ⟨PD, 0, none⟩), .pointer (some ⟨PT, 0, none⟩)] V fun e w' => e = .returned (.bool (fitM M f t n)) ∧ Below V.heap.size V w') := try_doc h hw hF PD PT h1 h2 f
    obtain ⟨a, k, b, hc⟩ : ∃ a k b, cutM t = (a, k, b) := ⟨_, _, _, rfl⟩
    have hbl : b.length ≤ 1000000 := Nat.le_trans (cutM_step hc) htl
    have CU := cut_any t a b k hc htl V
    rw [fitM_succ M f hc]
    have HH : Hid (DocW B tg W DB MB p M nx c) := h
    have SF := fun X (hx : Below W.heap.size W X) => stepFits_doc (HH.out.below hx) hF n hn b hbl
    obtain ⟨fs, hfs⟩ : ∃ fs, fitSt M b n = fs := ⟨_, rfl⟩
    rw [hfs] at SF ⊢
    have HAL : Hid (k ≠ .no → a.length < f ∧ a.length ≤ 1000000) := (fun hk => by have := cutM_len hc hk; omega : k ≠ .no → a.length < f ∧ a.length ≤ 1000000)
    have HB : Hid (Below W.heap.size W V) := hb
    clear hfs hc h hb
    cases fs with
    | false =>
      go_enter Tryz.func84, Tryz.ntmps84
      go_wp2_with (first | (go_at_call 85; refine CU.mono ?_; rintro e w1 ⟨rfl, b1⟩; have b2 := b1.alloc b1.size (.cells #[bV a] 9); have B2 := HB.out.trans (b2.mono HB.out.size); have q1 := (B2.cell (cell_lt3 h1)).trans h1) | (go_at_call 86; refine (SF _ B2).mono ?_; rintro e w2 ⟨rfl, b3⟩))
      go_ret
      exact ⟨rfl, mbel b2 b3⟩
    | true =>
      go_enter Tryz.func84, Tryz.ntmps84
      go_upto_region 4 with (first | (go_at_call 85; refine CU.mono ?_; rintro e w1 ⟨rfl, b1⟩; have b2 := b1.alloc b1.size (.cells #[bV a] 9); have B2 := HB.out.trans (b2.mono HB.out.size); have q1 := (B2.cell (cell_lt3 h1)).trans h1) | (go_at_call 86; refine (SF _ B2).mono ?_; rintro e w2 ⟨rfl, b3⟩))
      have hA := World.alloc_heap_new w1 (.cells #[bV a] 9)
      have hA2 := bel_blk b3 hA
      have cA := cell_one hA2
      have b4 := mbel b2 b3
      have B4 := HB.out.trans (b4.mono HB.out.size)
      have q2 := (B4.cell (cell_lt3 h1)).trans h1
      have q3 := (B4.cell (cell_lt3 h2)).trans h2
      obtain ⟨PA, hPA⟩ : ∃ PA, w1.heap.size = PA := ⟨_, rfl⟩
      rw [hPA] at cA ⊢
      clear hA hA2 hPA b3 q1
      cases k with
      | no =>
        go_wp2_with fail
        go_ret
        exact ⟨rfl, b4⟩
      | right =>
        have PN := fun X (hx : Below W.heap.size W X) => Parent_par (HH.out.below hx) n hn
        have hwp : Wf64 (parD M n) := by
          unfold parD
          cases hm : M n with
          | none => exact WalkArith.wf_i64 (by decide)
          | some e => exact (HH.out.wf n e hm).1
        have hal := HAL.out (by simp)
        have PW := PN w2.drew B4.drew
        have IH := HIH.out a (parD M n) w2.drew hal.1 hal.2 hwp B4.drew
        go_upto_region 6 with fail
        go_region_with ((first | (go_at_call 45; refine PW.mono ?_; rintro e w3 ⟨rfl, h3⟩; rw [h3]; clear h3) | (go_at_call 84; refine IH.mono ?_; rintro e w4 ⟨rfl, b5⟩)))
        all_goals go_wp2_with fail
        all_goals go_ret
        all_goals exact ⟨by rw [Bool.true_and]; rfl, mbel b4.drew b5⟩
      | below =>
        have hal := HAL.out (by simp)
        have SA := someAbove_doc (HH.out.below B4) hw n hn (fitM M f a) _ PT PA rfl (fun m X hm hx => inner_any PD PT PA a m X _ ((hx.cell (cell_lt3 q3)).trans q3) ((hx.cell (cell_lt3 cA)).trans cA) (HIH.out a m X hal.1 hal.2 hm (B4.trans (hx.mono B4.size))))
        go_wp2_with (go_at_call 87; refine SA.mono ?_; rintro e w3 ⟨rfl, b5⟩)
        go_ret
        exact ⟨by rw [Bool.true_and]; rfl, mbel b4 b5⟩
end

end Go.Proofs.YtnoecobddhmhlaaGreatDoor

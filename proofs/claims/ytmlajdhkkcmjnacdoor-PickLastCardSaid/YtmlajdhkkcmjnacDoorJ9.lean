/-
  Package pick: does a selector fit an element?
-/
import Derived.Test.YtmlajdhkkcmjnacDoorPick8
import Derived.Test.YtmlajdhkkcmjnacDoorDoc24
import Derived.Test.YtmlajdhkkcmjnacDoorDoc13
namespace Go.Proofs.YtmlajdhkkcmjnacDoor
open Go.RowKit Go.Shelf

section
variable {B : Nat} {tg : Tags} {W : World} {DB MB : Nat} {p : Int → Option Nat} {M : Dm} {nx c : Nat} {r : Int → Nat}
theorem above_some {M : Dm} {k : Nat} {m : Int} {e : Elm} (he : M m = some e) : aboveM M (k + 1) m = if e.parent < 0 then [] else e.parent :: aboveM M k e.parent := by
  rw [aboveM, he]
theorem above_any (g : Int → Bool) {k : Nat} {m : Int} {e : Elm} (he : M m = some e) : (aboveM M (k + 1) m).any g = (decide (0 ≤ e.parent) && (g e.parent || (aboveM M k e.parent).any g)) := by
  rw [above_some he]
  by_cases hp : e.parent < 0
  · rw [if_pos hp, decide_eq_false (by omega)]
    rfl
  · rw [if_neg hp, decide_eq_true (by omega)]
    simp
def mz (r : Int → Nat) (x : Int) : Nat := if 0 ≤ x then r x + 1 else 0
theorem mz_pos {r : Int → Nat} {x : Int} (h : 0 ≤ x) : mz r x = r x + 1 := by unfold mz; rw [if_pos h]
theorem mz_neg {r : Int → Nat} {x : Int} (h : ¬ 0 ≤ x) : mz r x = 0 := by unfold mz; rw [if_neg h]
set_option maxRecDepth 20000 in
set_option maxHeartbeats 4000000 in
theorem someAbove_doc (h : DocW B tg W DB MB p M nx c) (hw : Wd M r) (n : Int) (hn : Wf64 n) (g : Int → Bool) (lb : Array Value) (PT PA : Nat) (hlb : lb = #[.pointer (some ⟨PT, 0, none⟩), .pointer (some ⟨PA, 0, none⟩)])
    (hg : ∀ m V, Wf64 m → Below W.heap.size W V → Calls Tryd.prog 50 #[.int .i64 m, .pointer (some ⟨PT, 0, none⟩), .pointer (some ⟨PA, 0, none⟩)] V fun e w' => e = .returned (.bool (g m)) ∧ Below V.heap.size V w') :
    Calls Tryd.prog 49 #[.pointer (some ⟨DB, 0, none⟩), .int .i64 n, .func (.func 50) #[] lb] W fun e w' => e = .returned (.bool ((aboveM M 11 n).any g)) ∧ Below W.heap.size W w' := by
  subst hlb
  have PN := Parent_par h n hn
  have HW : Hid (Wd M r) := hw
  have HG : Hid (∀ m V, Wf64 m → Below W.heap.size W V → Calls Tryd.prog 50 #[.int .i64 m, .pointer (some ⟨PT, 0, none⟩), .pointer (some ⟨PA, 0, none⟩)] V fun e w' => e = .returned (.bool (g m)) ∧ Below V.heap.size V w') := hg
  have HH : Hid (DocW B tg W DB MB p M nx c) := h
  have hwp : Wf64 (parD M n) := by
    unfold parD
    cases hm : M n with
    | none => exact WalkArith.wf_i64 (by decide)
    | some e => exact (h.wf n e hm).1
  have h0 : (aboveM M 11 n).any g = (decide (0 ≤ parD M n) && (g (parD M n) || (aboveM M 10 (parD M n)).any g)) ∧ (0 ≤ parD M n → ∃ e, M (parD M n) = some e ∧ r (parD M n) ≤ 10) := by
    unfold parD
    cases hm : M n with
    | none =>
      refine ⟨?_, fun hh => absurd hh (by decide)⟩
      rw [aboveM, hm]
      rfl
    | some e =>
      refine ⟨above_any g hm, fun hh => ?_⟩
      by_cases hn0 : n = 0
      · subst hn0
        obtain ⟨e0, h1, h2⟩ := hw.root
        rw [hm] at h1
        cases h1
        have hh' : 0 ≤ e.parent := hh
        omega
      · obtain ⟨q, hq, -, -⟩ := hw.up n e hm hn0
        exact ⟨q, hq, (hw.rb _ q hq).2⟩
  obtain ⟨T, hT⟩ : ∃ T, (aboveM M 11 n).any g = T := ⟨_, rfl⟩
  rw [hT] at h0 ⊢
  have HT0 : Hid (T = (decide (0 ≤ parD M n) && (g (parD M n) || (aboveM M 10 (parD M n)).any g)) ∧ (0 ≤ parD M n → ∃ e, M (parD M n) = some e ∧ r (parD M n) ≤ 10)) := h0
  clear hT h0 hg hw h
  go_enter Tryd.func49, Tryd.ntmps49
  go_wp2_with (go_at_call 12; refine PN.mono ?_; rintro e w1 ⟨rfl, h1⟩; rw [h1]; clear h1)
  go_loopw [1] (fun y wr => ∃ (m : Int) (k : Nat), y = .int .i64 m ∧ T = (decide (0 ≤ m) && (g m || (aboveM M k m).any g)) ∧ (0 ≤ m → ∃ e, M m = some e ∧ r m ≤ k) ∧ Wf64 m ∧ Below W.heap.size W wr) (fun y _ => mz r (intOf y))
  case atStart => exact ⟨parD M n, 10, rfl, HT0.out.1, HT0.out.2, hwp, Below.refl _ _⟩
  case round =>
    obtain ⟨m, k, rfl, hT, hk, hwm, hb⟩ := hrel
    by_cases hm0 : 0 ≤ m
    · obtain ⟨e, he, hrk⟩ := hk hm0
      have hrb := (HW.out.rb m e he).1
      obtain ⟨k', rfl⟩ : ∃ k', k = k' + 1 := ⟨k - 1, by omega⟩
      have GM := HG.out m wr hwm hb
      have hdoc := HH.out.below hb
      have PM := fun V (hv : Below wr.heap.size wr V) => Parent_par (hdoc.below hv) m hwm
      have hpe : parD M m = e.parent := by unfold parD; rw [he]
      rw [hpe] at PM
      have hwe := (hdoc.wf m e he).1
      rw [decide_eq_true hm0, above_any g he] at hT
      have hup : 0 ≤ e.parent → ∃ q, M e.parent = some q ∧ r e.parent ≤ k' ∧ r e.parent < r m := fun hh => by
        by_cases hz : m = 0
        · subst hz
          obtain ⟨e0, h1, h2⟩ := HW.out.root
          rw [he] at h1
          cases h1
          omega
        · obtain ⟨q, hq, -, hr⟩ := HW.out.up m e he hz
          exact ⟨q, hq, by omega, by omega⟩
      have HUP : Hid (0 ≤ e.parent → ∃ q, M e.parent = some q ∧ r e.parent ≤ k' ∧ r e.parent < r m) := hup
      cases hgm : g m with
      | true =>
        rw [hgm] at GM hT
        have HT : Hid (T = true) := (by rw [hT]; rfl : T = true)
        clear hT hk hup
        go_wp2_with (go_at_call 50; refine GM.mono ?_; rintro e' w2 ⟨rfl, b2⟩)
        go_ret
        exact ⟨by rw [HT.out]; rfl, mbel hb b2⟩
      | false =>
        rw [hgm] at GM hT
        have HT : Hid (T = (decide (0 ≤ e.parent) && (g e.parent || (aboveM M k' e.parent).any g))) := (by rw [hT]; simp : T = (decide (0 ≤ e.parent) && (g e.parent || (aboveM M k' e.parent).any g)))
        clear hT hk hup hpe
        go_wp2_with (first | (go_at_call 50; refine GM.mono ?_; rintro e' w2 ⟨rfl, b2⟩) | (go_at_call 12; refine (PM _ b2).mono ?_; rintro e' w3 ⟨rfl, h3⟩; rw [h3]; clear h3))
        go_roundw
        case rel => exact ⟨e.parent, k', rfl, HT.out, fun hh => by obtain ⟨q, h1, h2, -⟩ := HUP.out hh; exact ⟨q, h1, h2⟩, hwe, mbel hb b2⟩
        case measure =>
          show mz r e.parent < mz r m
          rw [mz_pos hm0]
          by_cases hpp : 0 ≤ e.parent
          · obtain ⟨q, -, -, h3⟩ := HUP.out hpp
            rw [mz_pos hpp]
            omega
          · rw [mz_neg hpp]
            omega
    · rw [decide_eq_false hm0] at hT
      have HT : Hid (T = false) := (by rw [hT]; rfl : T = false)
      clear hT hk
      go_wp2_with fail
      go_ret
      exact ⟨by rw [HT.out]; rfl, hb⟩
end

end Go.Proofs.YtmlajdhkkcmjnacDoor

namespace Go.Proofs.YtmlajdhkkcmjnacDoor
open Go.RowKit Go.Shelf

abbrev tryV (PD PT : Nat) : Value := .func (.func 46) #[] #[.pointer (some ⟨PD, 0, none⟩), .pointer (some ⟨PT, 0, none⟩)]
/-- What must be so beside the last step. -/
def restM (M : Dm) (f : Nat) (a : Bs) (n : Int) : Lk → Bool
  | .no => true
  | .right => fitM M f a (parD M n)
  | .below => (aboveM M 11 n).any (fitM M f a)
theorem fitM_succ (M : Dm) (f : Nat) {t a b : Bs} {k : Lk} (h : cutM t = (a, k, b)) (n : Int) : fitM M (f + 1) t n = (fitSt M b n && restM M f a n k) := by
  rw [fitM, h]
  cases k <;> rfl
section
variable {B : Nat} {tg : Tags} {W : World} {DB MB : Nat} {p : Int → Option Nat} {M : Dm} {nx c : Nat} {r : Int → Nat}
set_option maxHeartbeats 2000000 in
theorem inner_any (PD PT PA : Nat) (a : Bs) (m : Int) (V : World) (res : Bool) (h1 : V.cell? ⟨PT, 0, none⟩ = some (tryV PD PT)) (h2 : V.cell? ⟨PA, 0, none⟩ = some (bV a))
    (IH : Calls Tryd.prog 46 #[bV a, .int .i64 m, .pointer (some ⟨PD, 0, none⟩), .pointer (some ⟨PT, 0, none⟩)] V fun e w' => e = .returned (.bool res) ∧ Below V.heap.size V w') :
    Calls Tryd.prog 50 #[.int .i64 m, .pointer (some ⟨PT, 0, none⟩), .pointer (some ⟨PA, 0, none⟩)] V fun e w' => e = .returned (.bool res) ∧ Below V.heap.size V w' := by
  go_enter Tryd.func50, Tryd.ntmps50
  go_wp2_with (go_at_call 46; refine IH.mono ?_; rintro e w1 ⟨rfl, hb1⟩)
  go_ret
  exact ⟨rfl, hb1⟩
set_option maxRecDepth 20000 in
set_option maxHeartbeats 4000000 in
theorem try_doc (h : DocW B tg W DB MB p M nx c) (hw : Wd M r) (hF : FitD M) (PD PT : Nat) (h1 : W.cell? ⟨PD, 0, none⟩ = some (.pointer (some ⟨DB, 0, none⟩))) (h2 : W.cell? ⟨PT, 0, none⟩ = some (tryV PD PT)) :
    ∀ (f : Nat) (t : Bs) (n : Int) (V : World), t.length < f → t.length ≤ 1000000 → Wf64 n → Below W.heap.size W V →
    Calls Tryd.prog 46 #[bV t, .int .i64 n, .pointer (some ⟨PD, 0, none⟩), .pointer (some ⟨PT, 0, none⟩)] V fun e w' => e = .returned (.bool (fitM M f t n)) ∧ Below V.heap.size V w'
  | 0, _, _, _, hf, _, _, _ => by omega
  | f + 1, t, n, V, hf, htl, hn, hb => by
    have HIH : Hid (∀ (t : Bs) (n : Int) (V : World), t.length < f → t.length ≤ 1000000 → Wf64 n → Below W.heap.size W V → Calls Tryd.prog 46 #[bV t, .int .i64 n, .pointer (some ⟨PD, 0, none⟩), .pointer (some ⟨PT, 0, none⟩)] V fun e w' => e = .returned (.bool (fitM M f t n)) ∧ Below V.heap.size V w') := try_doc h hw hF PD PT h1 h2 f
    obtain ⟨a, k, b, hc⟩ : ∃ a k b, cutM t = (a, k, b) := ⟨_, _, _, rfl⟩
    have hbl : b.length ≤ 1000000 := Nat.le_trans (cutM_step hc) htl
    have CU := cut_any t a b k hc htl V
    rw [fitM_succ M f hc]
    have HH : Hid (DocW B tg W DB MB p M nx c) := h
    have SF := fun X (hx : Below W.heap.size W X) => stepFits_doc (HH.out.below hx) hF n hn b hbl
    obtain ⟨fs, hfs⟩ : ∃ fs, fitSt M b n = fs := ⟨_, rfl⟩
    rw [hfs] at SF ⊢
    have HAL : Hid (k ≠ .no → a.length < f ∧ a.length ≤ 1000000) := (fun hk => by have := cutM_len hc hk; omega : k ≠ .no → a.length < f ∧ a.length ≤ 1000000)
    have HB : Hid (Below W.heap.size W V) := hb
    clear hfs hc h hb
    cases fs with
    | false =>
      go_enter Tryd.func46, Tryd.ntmps46
      go_wp2_with (first | (go_at_call 47; refine CU.mono ?_; rintro e w1 ⟨rfl, b1⟩; have b2 := b1.alloc b1.size (.cells #[bV a] 9); have B2 := HB.out.trans (b2.mono HB.out.size); have q1 := (B2.cell (cell_lt3 h1)).trans h1) | (go_at_call 48; refine (SF _ B2).mono ?_; rintro e w2 ⟨rfl, b3⟩))
      go_ret
      exact ⟨rfl, mbel b2 b3⟩
    | true =>
      go_enter Tryd.func46, Tryd.ntmps46
      go_upto_region 4 with (first | (go_at_call 47; refine CU.mono ?_; rintro e w1 ⟨rfl, b1⟩; have b2 := b1.alloc b1.size (.cells #[bV a] 9); have B2 := HB.out.trans (b2.mono HB.out.size); have q1 := (B2.cell (cell_lt3 h1)).trans h1) | (go_at_call 48; refine (SF _ B2).mono ?_; rintro e w2 ⟨rfl, b3⟩))
      have hA := World.alloc_heap_new w1 (.cells #[bV a] 9)
      have hA2 := bel_blk b3 hA
      have cA := cell_one hA2
      have b4 := mbel b2 b3
      have B4 := HB.out.trans (b4.mono HB.out.size)
      have q2 := (B4.cell (cell_lt3 h1)).trans h1
      have q3 := (B4.cell (cell_lt3 h2)).trans h2
      obtain ⟨PA, hPA⟩ : ∃ PA, w1.heap.size = PA := ⟨_, rfl⟩
      rw [hPA] at cA ⊢
      clear hA hA2 hPA b3 q1
      cases k with
      | no =>
        go_wp2_with fail
        go_ret
        exact ⟨rfl, b4⟩
      | right =>
        have PN := fun X (hx : Below W.heap.size W X) => Parent_par (HH.out.below hx) n hn
        have hwp : Wf64 (parD M n) := by
          unfold parD
          cases hm : M n with
          | none => exact WalkArith.wf_i64 (by decide)
          | some e => exact (HH.out.wf n e hm).1
        have hal := HAL.out (by simp)
        have PW := PN w2.drew B4.drew
        have IH := HIH.out a (parD M n) w2.drew hal.1 hal.2 hwp B4.drew
        go_upto_region 6 with fail
        go_region_with ((first | (go_at_call 12; refine PW.mono ?_; rintro e w3 ⟨rfl, h3⟩; rw [h3]; clear h3) | (go_at_call 46; refine IH.mono ?_; rintro e w4 ⟨rfl, b5⟩)))
        all_goals go_wp2_with fail
        all_goals go_ret
        all_goals exact ⟨by rw [Bool.true_and]; rfl, mbel b4.drew b5⟩
      | below =>
        have hal := HAL.out (by simp)
        have SA := someAbove_doc (HH.out.below B4) hw n hn (fitM M f a) _ PT PA rfl (fun m X hm hx => inner_any PD PT PA a m X _ ((hx.cell (cell_lt3 q3)).trans q3) ((hx.cell (cell_lt3 cA)).trans cA) (HIH.out a m X hal.1 hal.2 hm (B4.trans (hx.mono B4.size))))
        go_wp2_with (go_at_call 49; refine SA.mono ?_; rintro e w3 ⟨rfl, b5⟩)
        go_ret
        exact ⟨by rw [Bool.true_and]; rfl, mbel b4 b5⟩
end

end Go.Proofs.YtmlajdhkkcmjnacDoor

namespace Go.Proofs.YtmlajdhkkcmjnacDoor
open Go.RowKit Go.Shelf

theorem run_store_fn (P : Program) (w : World) (a : Addr) (f : Fn) (x y : Array Value) (m : Mode) : (store a (.func f x y) m).run P w = stored P w a (.func f x y) m := run_store P w a _ m rfl
attribute [local go_sem] run_store_fn
section
variable {B : Nat} {tg : Tags} {W : World} {DB MB : Nat} {p : Int → Option Nat} {M : Dm} {nx c : Nat} {r : Int → Nat}
set_option maxRecDepth 20000 in
set_option maxHeartbeats 4000000 in
theorem Fits_doc (h : DocW B tg W DB MB p M nx c) (hw : Wd M r) (hF : FitD M) (s : Bs) (hs : s.length ≤ 1000000) (hs0 : s ≠ []) (n : Int) (hn : Wf64 n) :
    Calls Tryd.prog 23 #[.agg #[bV s], .pointer (some ⟨DB, 0, none⟩), .int .i64 n] W fun e w' => e = .returned (.bool (fitsM M s n)) ∧ Below W.heap.size W w' := by
  have hem : s.isEmpty = false := by
    cases s with
    | nil => exact absurd rfl hs0
    | cons _ _ => rfl
  obtain ⟨hS0, hD0, hT0, hsz0, b0⟩ := three_blocks W (.cells #[bV s] 55) (.cells #[.pointer (some ⟨DB, 0, none⟩)] 30) (.cells #[.nilFunc] 91)
  go_enter Tryd.func23, Tryd.ntmps23
  go_upto_region 4 with fail
  obtain ⟨U, hU⟩ : ∃ U, (((W.alloc (.cells #[bV s] 55)).alloc (.cells #[.pointer (some ⟨DB, 0, none⟩)] 30)).alloc (.cells #[.nilFunc] 91)) = U := ⟨_, rfl⟩
  rw [hU] at hS0 hD0 hT0 hsz0 b0 ⊢
  clear hU
  have c1 := cell_one hT0
  have f1 := froz_one hT0
  have hT1 := set_one hT0 (tryV (W.heap.size + 1) (W.heap.size + 1 + 1))
  have hD1 : (U.setCell ⟨W.heap.size + 1 + 1, 0, none⟩ (tryV (W.heap.size + 1) (W.heap.size + 1 + 1))).heap[W.heap.size + 1]? = some (.cells #[.pointer (some ⟨DB, 0, none⟩)] 30) := (Below.heap_setCell _ _ _ _ (by simp only; omega)).trans hD0
  have hS1 : (U.setCell ⟨W.heap.size + 1 + 1, 0, none⟩ (tryV (W.heap.size + 1) (W.heap.size + 1 + 1))).heap[W.heap.size]? = some (.cells #[bV s] 55) := (Below.heap_setCell _ _ _ _ (by simp only; omega)).trans hS0
  have b1 : Below W.heap.size W (U.setCell ⟨W.heap.size + 1 + 1, 0, none⟩ (tryV (W.heap.size + 1) (W.heap.size + 1 + 1))) := b0.setCell (by simp only; omega) _
  go_upto_region 5 with fail
  obtain ⟨U1, hU1⟩ : ∃ U1, U.setCell ⟨W.heap.size + 1 + 1, 0, none⟩ (tryV (W.heap.size + 1) (W.heap.size + 1 + 1)) = U1 := ⟨_, rfl⟩
  rw [hU1] at hT1 hD1 hS1 b1 ⊢
  clear hU1
  have d1 := cell_one hT1
  have d2 := cell_one hD1
  have d3 := cell_one hS1
  have TR := try_doc (h.below b1) hw hF (W.heap.size + 1) (W.heap.size + 1 + 1) d2 d1 (s.length + 1) s n U1 (by omega) hs hn (Below.refl _ _)
  go_wp2_with (go_at_call 46; refine TR.mono ?_; rintro e w2 ⟨rfl, b2⟩)
  go_ret
  exact ⟨rfl, mbel b1 b2⟩
set_option maxHeartbeats 2000000 in
/-- A row of numbers: where none is to be struck, it is looked through. -/
theorem IndexNone (L : List Int) (B0 PS PD : Nat) (v : Value) (W : World) (h : W.ownsRow B0 3 1 v L.length (intsV L))
    (hg : ∀ m V, m ∈ L → Below W.heap.size W V → Calls Tryd.prog 45 #[.int .i64 m, .pointer (some ⟨PS, 0, none⟩), .pointer (some ⟨PD, 0, none⟩)] V fun e w' => e = .returned (.bool false) ∧ Below V.heap.size V w') :
    Calls Tryd.prog 68 #[v, .func (.func 45) #[] #[.pointer (some ⟨PS, 0, none⟩), .pointer (some ⟨PD, 0, none⟩)]] W fun e w' => e = .returned (.int .i64 (-1)) ∧ Below W.heap.size W w' := by
  obtain ⟨o, cap, hvo, h1, h2, h3, h5⟩ := row_slice h
  have hlen : (L.length : Int) ≤ 9223372036854775807 := by rw [maxLen_eq] at h2; omega
  have hcap : (L.length : Int) ≤ (cap : Int) := by omega
  have HR : Hid (W.ownsRow B0 3 1 v L.length (intsV L)) := h
  have HG : Hid (∀ m V, m ∈ L → Below W.heap.size W V → Calls Tryd.prog 45 #[.int .i64 m, .pointer (some ⟨PS, 0, none⟩), .pointer (some ⟨PD, 0, none⟩)] V fun e w' => e = .returned (.bool false) ∧ Below V.heap.size V w') := hg
  have H5 : Hid (∀ g, v.ownBlock = some g → o = some ⟨g, 0, none⟩) := h5
  subst hvo
  clear h hg h5 h3
  go_enter Tryd.func68, Tryd.ntmps68
  go_wp2_with fail
  go_loopw [8] (fun y wr => ∃ k : Nat, k ≤ L.length ∧ y = .int .i64 k ∧ Below W.heap.size W wr) (fun y _ => L.length - (intOf y).toNat)
  case atStart => exact ⟨0, Nat.zero_le _, rfl, Below.refl _ _⟩
  case round =>
    obtain ⟨k, hk, rfl, hb⟩ := hrel
    by_cases hlt : k < L.length
    · have hlt' : (k : Int) < (L.length : Int) := by omega
      obtain ⟨x, hx⟩ : ∃ x, L[k]? = some x := ⟨_, List.getElem?_eq_getElem hlt⟩
      obtain ⟨g, hg, hc⟩ := row_get (own_bel HR.out hb) k _ (intsV_get hx)
      have hog := H5.out g hg
      subst hog
      have GM := HG.out x wr (List.mem_of_getElem? hx) hb
      clear hg hx
      go_wp2_with (go_at_call 45; refine GM.mono ?_; rintro e w1 ⟨rfl, hb1⟩)
      go_roundw
      case rel => exact ⟨k + 1, by omega, by go_num, mbel hb hb1⟩
      case measure => simp [intOf]; omega
    · have hge : ¬ (k : Int) < (L.length : Int) := by omega
      go_wp2_with fail
      go_ret
      exact ⟨rfl, hb⟩
end

end Go.Proofs.YtmlajdhkkcmjnacDoor

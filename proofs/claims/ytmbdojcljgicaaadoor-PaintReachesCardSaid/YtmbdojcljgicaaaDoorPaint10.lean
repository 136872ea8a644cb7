/-
  The laws over pictures: their helpers: painted, longPieces, asPieces, SameTexts.
-/
import Derived.Test.YtmbdojcljgicaaaDoorPaint9
namespace Go.Proofs.YtmbdojcljgicaaaDoor
open Go.RowKit

theorem pic_two : (picM reachM (sP []) 2 1).map Value.string = [.string ⟨#[46]⟩, .string ⟨#[46]⟩] := rfl
set_option maxRecDepth 20000 in
set_option maxHeartbeats 4000000 in
theorem painted_any (aB aS aZ aV : Addr) (w : World) (hE : EP aB aS aZ aV w) :
    Calls Tryd.prog 4 #[] w fun e W => e = .returned (.bool true) ∧ Below w.heap.size w W := by
  have PA := Paint_in aB aS aZ aV [] none 0 2 1 w (by decide) (by decide) (by decide) (by decide) (by decide) ⟨fun i x hx => by simp at hx, Nat.le_refl _, fun _ => rfl⟩ (fun x hx => by cases hx) hE
  go_enter Tryd.func4, Tryd.ntmps4
  go_upto_region 2 with (go_at_call 6; refine PA.mono ?_; rintro e w1 ⟨hp, b1⟩; obtain ⟨v, rfl, ow⟩ : ∃ v, e = .returned (.tuple #[.agg #[.int .i64 2, .int .i64 1, v], .nilIface]) ∧ w1.ownsRow w.heap.size 9 1 v (2 * 1) ((picM reachM (sP []) 2 1).map .string) := (by rcases hp with ⟨-, v, h1, h2⟩ | ⟨h1, -⟩; exact ⟨v, h1, h2⟩; exact absurd (fun x hx => by cases hx) h1); obtain ⟨g, cap, rfl, hg, hgl⟩ := ow.form (by decide))
  clear hp PA
  rw [pic_two] at ow
  have hcap : 2 ≤ cap := by
    rcases ow.2 with ⟨h, -⟩ | ⟨g', cap', cur, h, -, -, h2, -⟩
    · cases h
    · cases h; exact h2
  have n0 := own_news ow 0 _ rfl
  have n1 := own_news ow 1 _ rfl
  have n0 : w1.cell? ⟨g, 0, none⟩ = some (.string ⟨#[46]⟩) := n0
  have n1 : w1.cell? ⟨g, 1, none⟩ = some (.string ⟨#[46]⟩) := n1
  have b2 := mbelow w1 (.cells #[.int .i64 2, .int .i64 1, .slice (some ⟨g, 0, none⟩) 2 cap] 27)
  have TX := Text_two g cap (w1.alloc (.cells #[.int .i64 2, .int .i64 1, .slice (some ⟨g, 0, none⟩) 2 cap] 27)) hcap ((b2.cell (cell_lt n0)).trans n0) ((b2.cell (cell_lt n1)).trans n1)
  clear n0 n1 ow
  go_wp2_with (go_at_call 11; refine TX.mono ?_; rintro e w3 ⟨rfl, b3⟩)
  go_ret
  exact ⟨rfl, bel_more b1 (bel_more b2 b3)⟩

/-- Small enough for a statement. -/
def shortP (x : P5) : Prop := x.s.pts.length ≤ 40 ∧ x.s.fill.size ≤ 60 ∧ x.s.rule.size ≤ 60
/-- What longPieces answers. -/
def LongR (l : List P5) (e : Ending) : Prop := e = .returned (.bool true) ∨ (e = .returned (.bool false) ∧ l.length ≤ 8 ∧ ∀ x ∈ l, shortP x)
set_option maxRecDepth 20000 in
set_option maxHeartbeats 4000000 in
theorem longPieces_any (l : List P5) (o : Option Addr) (cap : Nat) (w : World) (h : P5sAt w o l) :
    Calls Tryd.prog 5 #[.slice o l.length cap] w fun e W => LongR l e ∧ Below w.heap.size w W := by
  by_cases h8 : 8 < l.length
  · have h8' : 8 < (l.length : Int) := by omega
    go_enter Tryd.func5, Tryd.ntmps5
    go_wp2
    go_ret
    exact ⟨.inl rfl, Below.refl _ _⟩
  have h8' : ¬ 8 < (l.length : Int) := by omega
  go_enter Tryd.func5, Tryd.ntmps5
  go_wp2
  go_loopw [3] (fun i wr => ∃ k : Nat, k ≤ l.length ∧ i = .int .i64 k ∧ (∀ x ∈ l.take k, shortP x) ∧ wr = w) (fun i _ => l.length - (intOf i).toNat)
  case atStart => exact ⟨0, Nat.zero_le _, rfl, (fun a ha => by simp at ha), rfl⟩
  case round =>
    obtain ⟨k, hk, rfl, hrt, hw⟩ := hrel
    rw [hw]
    by_cases hlt : k < l.length
    · have hlt' : (k : Int) < (l.length : Int) := by omega
      obtain ⟨x, hx⟩ : ∃ x, l[k]? = some x := ⟨_, List.getElem?_eq_getElem hlt⟩
      obtain ⟨b, off, rfl, c0, c1, c2, c3, c4⟩ := h k x hx
      have HX : Hid (l[k]? = some x) := hx
      clear hx hw
      by_cases g1 : 40 < x.s.pts.length
      · have g1' : 40 < (x.s.pts.length : Int) := by omega
        go_wp2_with fail
        go_ret
        exact ⟨.inl rfl, Below.refl _ _⟩
      have g1' : ¬ 40 < (x.s.pts.length : Int) := by omega
      by_cases g2 : 60 < x.s.fill.size
      · have g2' : 60 < (x.s.fill.size : Int) := by omega
        go_wp2_with fail
        go_ret
        exact ⟨.inl rfl, Below.refl _ _⟩
      have g2' : ¬ 60 < (x.s.fill.size : Int) := by omega
      by_cases g3 : 60 < x.s.rule.size
      · have g3' : 60 < (x.s.rule.size : Int) := by omega
        go_wp2_with fail
        go_ret
        exact ⟨.inl rfl, Below.refl _ _⟩
      have g3' : ¬ 60 < (x.s.rule.size : Int) := by omega
      go_wp2_with fail
      go_roundw
      case rel => exact ⟨k + 1, by omega, by go_num, fun y hy => by rw [List.take_add_one, HX.out] at hy; rcases List.mem_append.1 hy with hy | hy; exact hrt y hy; simp at hy; subst hy; exact ⟨by omega, by omega, by omega⟩, by simp⟩
      case measure => simp [intOf]; omega
    · obtain rfl : k = l.length := by omega
      go_wp2_with fail
      go_ret
      rw [List.take_length] at hrt
      exact ⟨.inr ⟨rfl, by omega, hrt⟩, Below.refl _ _⟩
end Go.Proofs.YtmbdojcljgicaaaDoor

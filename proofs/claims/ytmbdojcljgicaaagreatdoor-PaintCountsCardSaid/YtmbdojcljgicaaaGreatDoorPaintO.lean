/-
  One that fills a picture hides all others, as plain mathematics.
-/
import Derived.Test.YtmbdojcljgicaaaGreatDoorPaint3
import Derived.Test.YtmbdojcljgicaaaGreatDoorPaint2
import Derived.Test.YtmbdojcljgicaaaGreatDoorShape10
namespace Go.Proofs.YtmbdojcljgicaaaGreatDoor

def sqPm : Pm := ⟨sqL 12, ⟨#[122]⟩, ⟨#[119, 105, 110, 100]⟩⟩
theorem sq_rule : sqPm.rule.toList = lWind := by rw [ByteArray.toList_eq]; rfl
theorem sq_okPm : okPm sqPm := by
  have h0 : ∀ y ∈ sqL 12, errP y = 0 := by decide +kernel
  exact ⟨⟨by decide, h0⟩, .inl sq_rule⟩
theorem sq_reach {y : Int} (h1 : 0 ≤ y) (h2 : y < 12) : reachM (sqL 12) y = true := by
  unfold reachM
  rw [if_neg (by omega)]
  have ha : (sqL 12).all (fun a => decide (chk a.xn a.xd = 0) && decide (chk a.yn a.yd = 0)) = true := by decide +kernel
  rw [ha]
  simp only [overM, underM, sqL, List.any_cons, downI, Bool.true_and, Bool.and_eq_true, Bool.or_eq_true]
  exact ⟨.inl (decide_eq_true (by omega)), .inr (.inr (.inl (decide_eq_true (by omega))))⟩
theorem sq_hold {x y : Int} (h1 : 0 ≤ x) (h2 : x < 12) (h3 : 0 ≤ y) (h4 : y < 12) : holdB sqPm.pts sqPm.rule (cenQ x y) = true := by
  unfold holdB
  rw [if_pos sq_rule]
  have BW := box_wind (xn := 0) (xd := 1) (yn := 0) (yd := 1) (Xn := 12) (Xd := 1) (Yn := 12) (Yd := 1) (p := cenQ x y) (by decide) (by decide) (by decide) (by decide) (by simp [cenQ]) (by simp [cenQ]) (by decide) (by decide)
  have hin : inBox 0 1 0 1 12 1 12 1 (cenQ x y) := by
    simp only [inBox, cenQ]
    omega
  have := (BW.1 hin).1
  show (windE (turnI (cenQ x y)) (boxL 0 1 0 1 12 1 12 1) != 0) = true
  rw [this]
  rfl
/-- All cells show the last one. -/
theorem row_over (l : List Pm) (w : Nat) (y : Int) (hw : w ≤ 12) (h3 : 0 ≤ y) (h4 : y < 12) : rowM reachM (l ++ [sqPm]) w y = List.replicate w ⟨#[122]⟩ := by
  apply List.ext_getElem?
  intro i
  unfold rowM
  rw [List.getElem?_map, List.getElem?_replicate]
  by_cases hi : i < w
  · rw [List.getElem?_range hi, if_pos hi]
    simp only [Option.map_some]
    congr 1
    rw [List.filter_append]
    have hf : ([sqPm].filter fun s => reachM s.pts y) = [sqPm] := by
      rw [List.filter_cons, show reachM sqPm.pts y = true from sq_reach h3 h4]
      rfl
    rw [hf, shownM, List.reverse_append]
    show shownR (sqPm :: _) _ = _
    rw [shownR, sq_hold (by omega) (by omega) h3 h4]
    rfl
  · rw [if_neg hi, List.getElem?_eq_none (by simp; omega)]
    rfl
theorem pic_over (l : List Pm) (w : Nat) (hw : w ≤ 12) : ∀ h : Nat, h ≤ 12 → picM reachM (l ++ [sqPm]) w h = List.replicate (w * h) ⟨#[122]⟩
  | 0, _ => rfl
  | h + 1, hh => by
    rw [picM_succ, pic_over l w hw h (by omega), row_over l w h hw (by omega) (by omega), Nat.mul_succ, List.replicate_append_replicate]
/-- What is shown is a fill, or nothing. -/
theorem shown_of (l : List Pm) (c : Qt) : shownR l c = bDot ∨ ∃ s ∈ l, shownR l c = s.fill := by
  induction l with
  | nil => exact .inl rfl
  | cons s l ih =>
    rw [shownR]
    split
    · exact .inr ⟨s, List.mem_cons_self .., rfl⟩
    · rcases ih with h | ⟨t, ht, h⟩
      · exact .inl h
      · exact .inr ⟨t, List.mem_cons_of_mem _ ht, h⟩
theorem pic_short (l : List Pm) (w : Nat) (hl : ∀ s ∈ l, s.fill.size ≤ 60) : ∀ h : Nat, ∀ c ∈ picM reachM l w h, c.size ≤ 60
  | 0, c, hc => by cases hc
  | h + 1, c, hc => by
    rw [picM_succ] at hc
    rcases List.mem_append.1 hc with hc | hc
    · exact pic_short l w hl h c hc
    · obtain ⟨x, -, rfl⟩ := List.mem_map.1 hc
      rcases shown_of ((l.filter fun s => reachM s.pts (h : Int)).reverse) (cenQ (x : Int) h) with e | ⟨s, hs, e⟩
      · show (shownR _ _).size ≤ 60
        rw [e]
        decide
      · show (shownR _ _).size ≤ 60
        rw [e]
        exact hl s (List.mem_filter.1 (List.mem_reverse.1 hs)).1
end Go.Proofs.YtmbdojcljgicaaaGreatDoor

/-
  Selectors as the document's own answer reads them, as plain mathematics: words between blanks, from the first one on; they are the steps of package pick, turned around.
-/
import Derived.Test.YtnoecobddhmhlaaGreatDoorJ1
import Derived.Lib.IndexMore
namespace Go.Proofs.YtnoecobddhmhlaaGreatDoor

/-- The words of a text between blanks. -/
def pcs : Bs → List Bs
  | [] => [[]]
  | b :: l => if b = 32 then [] :: pcs l else match pcs l with
    | [] => [[b]]
    | p :: ps => (b :: p) :: ps
theorem pcs_ne : ∀ s : Bs, pcs s ≠ []
  | [] => by simp [pcs]
  | b :: l => by
    unfold pcs
    split
    · simp
    · split
      · simp
      · simp
theorem pcs_cons (b : UInt8) (l : Bs) : pcs (b :: l) = if b = 32 then [] :: pcs l else match pcs l with | [] => [[b]] | p :: ps => (b :: p) :: ps := by rw [pcs]
theorem pcs_none : ∀ {x : Bs}, (32 : UInt8) ∉ x → pcs x = [x]
  | [], _ => rfl
  | b :: l, h => by
    have h1 := pcs_none (x := l) (fun hm => h (List.mem_cons_of_mem _ hm))
    unfold pcs
    rw [if_neg (fun e => h (by rw [e]; exact List.mem_cons_self ..)), h1]
theorem pcs_app : ∀ (a b : Bs), pcs (a ++ 32 :: b) = pcs a ++ pcs b
  | [], b => by simp [pcs]
  | c :: a, b => by
    have ih := pcs_app a b
    rw [List.cons_append, pcs_cons, pcs_cons c a, ih]
    by_cases hc : c = 32
    · rw [if_pos hc, if_pos hc]; rfl
    · rw [if_neg hc, if_neg hc]
      cases hp : pcs a with
      | nil => exact absurd hp (pcs_ne a)
      | cons p ps => rfl
/-- The steps of words: each with whether `>` stands ahead; first: nothing stands ahead. -/
def sR : Bool → List Bs → Option (List (Bs × Bool))
  | _, [] => some []
  | _, [w] => if w = [62] then none else if isStM w then some [(w, false)] else none
  | fi, w :: x :: ws => if w = [62] then (if fi then none else if isStM x then (sR false ws).map ((x, true) :: ·) else none)
    else if isStM w then (sR false (x :: ws)).map ((w, false) :: ·) else none
theorem sR_gt {x : Bs} {ws : List Bs} : sR false ([62] :: x :: ws) = if isStM x then (sR false ws).map ((x, true) :: ·) else none := by
  rw [sR, if_pos rfl, if_neg (by simp)]
theorem sR_gt_end : sR false [[62]] = none := by
  rw [sR, if_pos rfl]
theorem sR_gt_first {ws : List Bs} : sR true ([62] :: ws) = none := by
  cases ws with
  | nil => rw [sR, if_pos rfl]
  | cons x ws => rw [sR, if_pos rfl, if_pos rfl]
theorem sR_word {fi : Bool} {w : Bs} {ws : List Bs} (h : w ≠ [62]) : sR fi (w :: ws) = if isStM w then (sR false ws).map ((w, false) :: ·) else none := by
  cases ws with
  | nil =>
    have e : sR fi [w] = if w = [62] then none else if isStM w then some [(w, false)] else none := by rw [sR]
    rw [e, if_neg h]
    rfl
  | cons x ws => rw [sR, if_neg h]
/-- One more word, where the last one isn't `>`. -/
theorem sR_snoc (b : Bs) : ∀ (n : Nat) (ws : List Bs) (fi : Bool), ws.length ≤ n → ws ≠ [] → ws.getLast? ≠ some [62] → sR fi (ws ++ [b]) = (sR fi ws).bind fun l => if isStM b then some (l ++ [(b, false)]) else none
  | 0, ws, _, hn, h0, _ => absurd (List.length_eq_zero_iff.1 (Nat.le_zero.1 hn)) h0
  | n + 1, [], _, _, h0, _ => absurd rfl h0
  | n + 1, [w], fi, _, _, hl => by
    have hw : w ≠ [62] := by simpa using hl
    rw [List.singleton_append, sR_word hw, sR_word hw]
    cases hs : isStM w with
    | false => rfl
    | true =>
      by_cases hb : b = [62]
      · subst hb
        rw [if_pos rfl, if_pos rfl, sR_gt_end, gt_no]
        rfl
      · rw [if_pos rfl, if_pos rfl, sR_word hb]
        cases isStM b with
        | false => rfl
        | true => rfl
  | n + 1, w :: y :: ws, fi, hn, _, hl => by
    have hl2 : (y :: ws).getLast? ≠ some [62] := by simpa [List.getLast?_cons_cons] using hl
    by_cases hw : w = [62]
    · subst hw
      cases fi with
      | true => rw [List.cons_append, sR_gt_first, sR_gt_first]; rfl
      | false =>
        rw [List.cons_append, List.cons_append, sR_gt, sR_gt]
        cases hs : isStM y with
        | false => rfl
        | true =>
          rw [if_pos rfl, if_pos rfl]
          cases ws with
          | nil =>
            by_cases hb : b = [62]
            · subst hb
              rw [List.nil_append, sR_gt_end, gt_no]
              rfl
            · rw [List.nil_append, sR_word hb]
              cases isStM b with
              | false => rfl
              | true => rfl
          | cons z ws =>
            rw [sR_snoc b n (z :: ws) false (by simp at hn ⊢; omega) (by simp) (by simpa [List.getLast?_cons_cons] using hl2)]
            cases sR false (z :: ws) with
            | none => rfl
            | some l =>
              cases isStM b with
              | false => rfl
              | true => rfl
    · rw [List.cons_append, sR_word hw, sR_word hw]
      cases hs : isStM w with
      | false => rfl
      | true =>
        rw [if_pos rfl, if_pos rfl, sR_snoc b n (y :: ws) false (by simp at hn ⊢; omega) (by simp) hl2]
        cases sR false (y :: ws) with
        | none => rfl
        | some l =>
          cases isStM b with
          | false => rfl
          | true => rfl
/-- `>` and one more word. -/
theorem sR_right (b : Bs) : ∀ (n : Nat) (ws : List Bs) (fi : Bool), ws.length ≤ n → ws ≠ [] → sR fi (ws ++ [[62], b]) = (sR fi ws).bind fun l => if isStM b then some (l ++ [(b, true)]) else none
  | 0, ws, _, hn, h0 => absurd (List.length_eq_zero_iff.1 (Nat.le_zero.1 hn)) h0
  | n + 1, [], _, _, h0 => absurd rfl h0
  | n + 1, [w], fi, _, _ => by
    by_cases hw : w = [62]
    · subst hw
      cases fi with
      | true => rw [List.singleton_append, sR_gt_first, sR_gt_first]; rfl
      | false => rw [List.singleton_append, sR_gt, sR_gt_end, gt_no]; rfl
    · rw [List.singleton_append, sR_word hw, sR_word hw]
      cases hs : isStM w with
      | false => rfl
      | true =>
        rw [if_pos rfl, if_pos rfl, sR_gt]
        cases isStM b with
        | false => rfl
        | true => rfl
  | n + 1, w :: y :: ws, fi, hn, _ => by
    by_cases hw : w = [62]
    · subst hw
      cases fi with
      | true => rw [List.cons_append, sR_gt_first, sR_gt_first]; rfl
      | false =>
        rw [List.cons_append, List.cons_append, sR_gt, sR_gt]
        cases hs : isStM y with
        | false => rfl
        | true =>
          rw [if_pos rfl, if_pos rfl]
          cases ws with
          | nil =>
            rw [List.nil_append, sR_gt]
            cases isStM b with
            | false => rfl
            | true => rfl
          | cons z ws =>
            rw [sR_right b n (z :: ws) false (by simp at hn ⊢; omega) (by simp)]
            cases sR false (z :: ws) with
            | none => rfl
            | some l =>
              cases isStM b with
              | false => rfl
              | true => rfl
    · rw [List.cons_append, sR_word hw, sR_word hw]
      cases hs : isStM w with
      | false => rfl
      | true =>
        rw [if_pos rfl, if_pos rfl, sR_right b n (y :: ws) false (by simp at hn ⊢; omega) (by simp)]
        cases sR false (y :: ws) with
        | none => rfl
        | some l =>
          cases isStM b with
          | false => rfl
          | true => rfl
/-- The steps of a text, the first one first, each with whether `>` stands ahead. -/
def lnkF : Nat → Bs → List (Bs × Bool)
  | 0, _ => []
  | f + 1, s => match cutM s with
    | (_, .no, b) => [(b, false)]
    | (a, .right, b) => lnkF f a ++ [(b, true)]
    | (a, .below, b) => lnkF f a ++ [(b, false)]
theorem cutM_no {s a b : Bs} (h : cutM s = (a, .no, b)) : b = s ∧ (32 : UInt8) ∉ s := by
  unfold cutM at h
  cases hs : lastB s with
  | none => rw [hs] at h; cases h; exact ⟨rfl, lastB_none hs⟩
  | some x =>
    obtain ⟨x1, x2⟩ := x
    rw [hs] at h
    simp only at h
    cases hg : offG x1 with
    | none => rw [hg] at h; cases h
    | some y => rw [hg] at h; cases h
theorem cutM_right {s a b : Bs} (h : cutM s = (a, .right, b)) : s = a ++ 32 :: 62 :: 32 :: b ∧ (32 : UInt8) ∉ b := by
  unfold cutM at h
  cases hs : lastB s with
  | none => rw [hs] at h; cases h
  | some x =>
    obtain ⟨x1, x2⟩ := x
    obtain ⟨h1, h2⟩ := lastB_some hs
    rw [hs] at h
    simp only at h
    cases hg : offG x1 with
    | none => rw [hg] at h; cases h
    | some y =>
      rw [hg] at h
      cases h
      exact ⟨by rw [h1, offG_some hg]; simp, h2⟩
theorem cutM_below {s a b : Bs} (h : cutM s = (a, .below, b)) : s = a ++ 32 :: b ∧ (32 : UInt8) ∉ b ∧ offG a = none := by
  unfold cutM at h
  cases hs : lastB s with
  | none => rw [hs] at h; cases h
  | some x =>
    obtain ⟨x1, x2⟩ := x
    obtain ⟨h1, h2⟩ := lastB_some hs
    rw [hs] at h
    simp only at h
    cases hg : offG x1 with
    | none => rw [hg] at h; cases h; exact ⟨h1, h2, hg⟩
    | some y => rw [hg] at h; cases h
/-- A text whose last word is `>` is just that, or ends with a blank and it. -/
theorem pcs_last {a : Bs} (h : (pcs a).getLast? = some [62]) : a = [62] ∨ ∃ x, a = x ++ [32, 62] := by
  cases hs : lastB a with
  | none =>
    rw [pcs_none (lastB_none hs)] at h
    simp at h
    exact .inl h
  | some x =>
    obtain ⟨x1, x2⟩ := x
    obtain ⟨h1, h2⟩ := lastB_some hs
    rw [h1, pcs_app, pcs_none h2, List.getLast?_append] at h
    simp at h
    exact .inr ⟨x1, by rw [h1, h]⟩
/-- The document's steps are those of package pick. -/
theorem sR_sts : ∀ (f : Nat) (s : Bs), s.length < f → sR true (pcs s) = if (stsOf s).all isStM then some (lnkF f s) else none
  | 0, _, h => absurd h (Nat.not_lt_zero _)
  | f + 1, s, hf => by
    obtain ⟨a, k, b, hc⟩ : ∃ a k b, cutM s = (a, k, b) := ⟨_, _, _, rfl⟩
    cases k with
    | no =>
      obtain ⟨rfl, hb⟩ := cutM_no hc
      rw [pcs_none hb, stsOf_no hc, lnkF, hc]
      by_cases hg : b = [62]
      · subst hg
        rw [sR_gt_first]
        simp [gt_no]
      · rw [sR_word hg]
        cases hs : isStM b with
        | false => simp [hs]
        | true => simp [hs, sR]
    | right =>
      obtain ⟨h1, hb⟩ := cutM_right hc
      have hl := cutM_len hc (by simp)
      have ih := sR_sts f a (by omega)
      have hp : pcs s = pcs a ++ [[62], b] := by
        rw [h1, pcs_app a (62 :: 32 :: b), show (62 :: 32 :: b : Bs) = [62] ++ 32 :: b from rfl, pcs_app, pcs_none hb, pcs_none (x := [62]) (by decide)]
        rfl
      rw [hp, sR_right b _ _ true (Nat.le_refl _) (pcs_ne a), ih, stsOf_more hc (by simp), lnkF, hc, List.all_cons]
      cases h2 : (stsOf a).all isStM with
      | false => simp
      | true =>
        cases hs : isStM b with
        | false => simp
        | true => simp
    | below =>
      obtain ⟨h1, hb, hg⟩ := cutM_below hc
      have hl := cutM_len hc (by simp)
      have ih := sR_sts f a (by omega)
      have hp : pcs s = pcs a ++ [b] := by rw [h1, pcs_app, pcs_none hb]
      rw [hp, stsOf_more hc (by simp), lnkF, hc, List.all_cons]
      by_cases hla : (pcs a).getLast? = some [62]
      · rcases pcs_last hla with rfl | ⟨x, rfl⟩
        · have e : stsOf [62] = [[62]] := rfl
          rw [e, pcs_none (x := [62]) (by decide), List.singleton_append, sR_gt_first]
          simp [gt_no]
        · rw [offG_app] at hg
          cases hg
      · rw [sR_snoc b _ _ true (Nat.le_refl _) (pcs_ne a) hla, ih]
        cases h2 : (stsOf a).all isStM with
        | false => simp
        | true =>
          cases hs : isStM b with
          | false => simp
          | true => simp
def lnk (s : Bs) : List (Bs × Bool) := lnkF (s.length + 1) s
theorem lnkF_fuel : ∀ (f g : Nat) (s : Bs), s.length < f → s.length < g → lnkF f s = lnkF g s
  | 0, _, _, h, _ => absurd h (Nat.not_lt_zero _)
  | _ + 1, 0, _, _, h => absurd h (Nat.not_lt_zero _)
  | f + 1, g + 1, s, hf, hg => by
    obtain ⟨a, k, b, hc⟩ : ∃ a k b, cutM s = (a, k, b) := ⟨_, _, _, rfl⟩
    rw [lnkF, lnkF, hc]
    cases k with
    | no => rfl
    | right =>
      have hl := cutM_len hc (by simp)
      simp only
      rw [lnkF_fuel f g a (by omega) (by omega)]
    | below =>
      have hl := cutM_len hc (by simp)
      simp only
      rw [lnkF_fuel f g a (by omega) (by omega)]
theorem lnk_no {s a b : Bs} (h : cutM s = (a, .no, b)) : lnk s = [(b, false)] := by rw [lnk, lnkF, h]
theorem lnk_right {s a b : Bs} (h : cutM s = (a, .right, b)) : lnk s = lnk a ++ [(b, true)] := by
  have hl := cutM_len h (by simp)
  rw [lnk, lnkF, h]
  simp only
  rw [lnkF_fuel s.length (a.length + 1) a hl (by omega)]
  rfl
theorem lnk_below {s a b : Bs} (h : cutM s = (a, .below, b)) : lnk s = lnk a ++ [(b, false)] := by
  have hl := cutM_len h (by simp)
  rw [lnk, lnkF, h]
  simp only
  rw [lnkF_fuel s.length (a.length + 1) a hl (by omega)]
  rfl
theorem lnk_sts : ∀ (n : Nat) (s : Bs), s.length ≤ n → (lnk s).map Prod.fst = (stsOf s).reverse
  | n, s, hn => by
    obtain ⟨a, k, b, hc⟩ : ∃ a k b, cutM s = (a, k, b) := ⟨_, _, _, rfl⟩
    cases k with
    | no => rw [lnk_no hc, stsOf_no hc]; rfl
    | right =>
      have hl := cutM_len hc (by simp)
      cases n with
      | zero => omega
      | succ n => rw [lnk_right hc, stsOf_more hc (by simp), List.map_append, lnk_sts n a (by omega), List.reverse_cons]; rfl
    | below =>
      have hl := cutM_len hc (by simp)
      cases n with
      | zero => omega
      | succ n => rw [lnk_below hc, stsOf_more hc (by simp), List.map_append, lnk_sts n a (by omega), List.reverse_cons]; rfl
theorem okSts_iff : ∀ (l : List Bs) (c : Nat), c ≤ 5 → okSts c l = (l.all isStM && decide (c + l.length ≤ 5))
  | [], c, h => by simp [okSts, h]
  | x :: l, c, h => by
    rw [okSts, List.all_cons, List.length_cons]
    by_cases h5 : c + 1 ≤ 5
    · rw [okSts_iff l (c + 1) h5, decide_eq_true h5, Bool.true_and, Bool.and_assoc]
      congr 2
      rw [decide_eq_decide]
      omega
    · rw [decide_eq_false h5, decide_eq_false (by omega : ¬ c + (l.length + 1) ≤ 5)]
      simp
/-- The document reads just the selectors, and their steps. -/
theorem sel_iff (s : Bs) : isSelM s = true ↔ ∃ l, sR true (pcs s) = some l ∧ l.length ≤ 5 := by
  have h1 := sR_sts (s.length + 1) s (Nat.lt_succ_self _)
  have h2 := congrArg List.length (lnk_sts s.length s (Nat.le_refl _))
  rw [List.length_map, List.length_reverse] at h2
  unfold isSelM
  rw [okSts_iff _ 0 (by decide), Bool.and_eq_true, decide_eq_true_eq, Nat.zero_add]
  constructor
  · rintro ⟨h3, h4⟩
    rw [h3, if_pos rfl] at h1
    exact ⟨_, h1, by show (lnk s).length ≤ 5; omega⟩
  · rintro ⟨l, h3, h4⟩
    rw [h3] at h1
    cases h5 : (stsOf s).all isStM with
    | false => rw [h5, if_neg (by simp)] at h1; cases h1
    | true =>
      rw [h5, if_pos rfl] at h1
      cases h1
      have h6 : (lnk s).length ≤ 5 := h4
      exact ⟨rfl, by omega⟩
theorem sel_steps {s : Bs} {l : List (Bs × Bool)} (h : sR true (pcs s) = some l) : l = lnk s ∧ (stsOf s).all isStM = true := by
  have h1 := sR_sts (s.length + 1) s (Nat.lt_succ_self _)
  rw [h] at h1
  cases h5 : (stsOf s).all isStM with
  | false => rw [h5, if_neg (by simp)] at h1; cases h1
  | true => rw [h5, if_pos rfl] at h1; cases h1; exact ⟨rfl, rfl⟩
/-- Which elements fit the steps so far, the last one of them first. -/
def fitR (M : Dm) : List (Bs × Bool) → Int → Bool
  | [], _ => false
  | [(b, _)], n => fitSt M b n
  | (b, fl) :: y :: l, n => fitSt M b n && (if fl then fitR M (y :: l) (parM M n) else (aboveM M 11 n).any (fitR M (y :: l)))
theorem lnk_ne (s : Bs) : lnk s ≠ [] := by
  obtain ⟨a, k, b, hc⟩ : ∃ a k b, cutM s = (a, k, b) := ⟨_, _, _, rfl⟩
  cases k with
  | no => rw [lnk_no hc]; simp
  | right => rw [lnk_right hc]; simp
  | below => rw [lnk_below hc]; simp
theorem fitR_cons {M : Dm} {b : Bs} {fl : Bool} {l : List (Bs × Bool)} (h : l ≠ []) (n : Int) : fitR M ((b, fl) :: l) n = (fitSt M b n && (if fl then fitR M l (parM M n) else (aboveM M 11 n).any (fitR M l))) := by
  cases l with
  | nil => exact absurd rfl h
  | cons y l => rw [fitR]
/-- What fits the document's steps is what fits the selector. -/
theorem fitR_fits (M : Dm) : ∀ (k : Nat) (s : Bs), s.length ≤ k → ∀ n, fitR M (lnk s).reverse n = fitsM M s n
  | k, s, hk, n => by
    obtain ⟨a, q, b, hc⟩ : ∃ a k b, cutM s = (a, k, b) := ⟨_, _, _, rfl⟩
    cases q with
    | no => rw [lnk_no hc, fitsM_no hc]; rfl
    | right =>
      have hl := cutM_len hc (by simp)
      cases k with
      | zero => omega
      | succ k =>
        rw [lnk_right hc, List.reverse_append, fitsM_right hc]
        show fitR M ((b, true) :: (lnk a).reverse) n = _
        rw [fitR_cons (by simp [lnk_ne]), if_pos rfl, fitR_fits M k a (by omega)]
    | below =>
      have hl := cutM_len hc (by simp)
      cases k with
      | zero => omega
      | succ k =>
        rw [lnk_below hc, List.reverse_append, fitsM_below hc]
        show fitR M ((b, false) :: (lnk a).reverse) n = _
        rw [fitR_cons (by simp [lnk_ne]), if_neg (by simp), show fitR M (lnk a).reverse = fitsM M a from funext fun y => fitR_fits M k a (by omega) y]
/-- A selector's weight, step by step. -/
theorem wt_lnk (s : Bs) : ((lnk s).map fun t => wtPts (ptsOf t.1)).sum = wtM s := by
  have h := lnk_sts s.length s (Nat.le_refl _)
  have e : (lnk s).map (fun t => wtPts (ptsOf t.1)) = ((lnk s).map Prod.fst).map (fun t => wtPts (ptsOf t)) := by rw [List.map_map]; rfl
  rw [e, h, List.map_reverse, List.sum_reverse]
  rfl

end Go.Proofs.YtnoecobddhmhlaaGreatDoor

namespace Go.Proofs.YtnoecobddhmhlaaGreatDoor

/-- A sign that ends a part's name. -/
def enB (c : UInt8) : Bool := isMk c || c == 93
/-- The parts of a step from a mark on; acc: those ahead. -/
def wantsR : Nat → List Bs → Bs → Option (List Bs)
  | 0, _, _ => none
  | _ + 1, acc, [] => some acc
  | f + 1, acc, m :: r => if isNm (r.takeWhile (fun c => !enB c)) && decide (acc.length < 8) then
      (match r.dropWhile (fun c => !enB c) with
      | [] => if m = 91 then none else some (acc ++ [m :: r.takeWhile (fun c => !enB c)])
      | c :: t => if c = 93 then (if m = 91 then (match t with
          | [] => some (acc ++ [m :: r.takeWhile (fun c => !enB c)])
          | d :: _ => if isMk d then wantsR f (acc ++ [m :: r.takeWhile (fun c => !enB c)]) t else none) else none)
        else if m = 91 then none else wantsR f (acc ++ [m :: r.takeWhile (fun c => !enB c)]) (c :: t))
    else none
theorem nm_no93 {s : Bs} (h : isNm s = true) : (93 : UInt8) ∉ s := fun hm => by
  have := isNm_all h 93 hm
  revert this
  decide
theorem en_no {a : Bs} (h : a.all (fun c => !isMk c) = true) (h93 : (93 : UInt8) ∉ a) : ∀ c ∈ a, (!enB c) = true := fun c hc => by
  have h1 := List.all_eq_true.1 h c hc
  unfold enB
  have h2 : (c == 93) = false := by
    rw [beq_eq_false_iff_ne]
    intro e
    exact h93 (by rw [← e]; exact hc)
  rw [h2]
  simpa using h1
theorem mk_not93 {m : UInt8} (h : isMk m = true) : m ≠ 93 := by
  intro e
  subst e
  revert h
  decide
theorem mk_not0 {m : UInt8} (h : isMk m = true) : m ≠ 0 := by
  intro e
  subst e
  revert h
  decide
theorem takeW_app {p : UInt8 → Bool} {a b : Bs} (h : ∀ c ∈ a, p c = true) : (a ++ b).takeWhile p = a ++ b.takeWhile p ∧ (a ++ b).dropWhile p = b.dropWhile p := by
  induction a with
  | nil => exact ⟨rfl, rfl⟩
  | cons c a ih =>
    obtain ⟨h1, h2⟩ := ih (fun x hx => h x (List.mem_cons_of_mem _ hx))
    have hc := h c (List.mem_cons_self ..)
    rw [List.cons_append, List.takeWhile_cons, List.dropWhile_cons, if_pos hc, if_pos hc, h1, h2]
    exact ⟨rfl, rfl⟩
theorem takeW_stop {p : UInt8 → Bool} {c : UInt8} {b : Bs} (h : p c = false) : (c :: b).takeWhile p = [] ∧ (c :: b).dropWhile p = c :: b := by
  rw [List.takeWhile_cons, List.dropWhile_cons, h]
  exact ⟨rfl, rfl⟩
/-- A text is cut at its first closing bracket. -/
theorem cut93 : ∀ {a : Bs}, (93 : UInt8) ∈ a → ∃ x y, a = x ++ 93 :: y ∧ (93 : UInt8) ∉ x
  | c :: a, h => by
    by_cases hc : c = 93
    · subst hc
      exact ⟨[], a, rfl, by simp⟩
    · obtain ⟨x, y, h1, h2⟩ := cut93 (a := a) (by
        rcases List.mem_cons.1 h with h | h
        · exact absurd h.symm hc
        · exact h)
      exact ⟨c :: x, y, by rw [h1]; rfl, fun hm => by
        rcases List.mem_cons.1 hm with hm | hm
        · exact hc hm.symm
        · exact h2 hm⟩
theorem nmIn_end (x : Bs) : nmIn 91 (x ++ [93]) = x := by
  unfold nmIn
  rw [if_pos rfl, if_pos (by simp)]
  simp
/-- The first part from a mark on, where a names what is ahead of the next mark. -/
theorem wants_head {f : Nat} {acc : List Bs} {m : UInt8} {a b : Bs} (ha : a.all (fun c => !isMk c) = true) (hb : b = [] ∨ ∃ m' r, b = m' :: r ∧ isMk m' = true) :
    wantsR (f + 1) acc (m :: (a ++ b)) = if isNm (nmIn m a) && decide (acc.length < 8) then (if b = [] then some (acc ++ [m :: nmIn m a]) else wantsR f (acc ++ [m :: nmIn m a]) b) else none := by
  have hstop : b.takeWhile (fun c => !enB c) = [] ∧ b.dropWhile (fun c => !enB c) = b := by
    rcases hb with rfl | ⟨m', r, rfl, hm'⟩
    · exact ⟨rfl, rfl⟩
    · exact takeW_stop (by unfold enB; rw [hm']; rfl)
  rw [wantsR]
  by_cases h93 : (93 : UInt8) ∈ a
  · obtain ⟨x, y, rfl, hx⟩ := cut93 h93
    rw [List.all_append, Bool.and_eq_true, List.all_cons, Bool.and_eq_true] at ha
    have hxe := en_no ha.1 hx
    have e93 : (!enB 93) = false := by decide
    obtain ⟨t1, t2⟩ := takeW_app (b := 93 :: y ++ b) hxe
    obtain ⟨t3, t4⟩ := takeW_stop (p := fun c => !enB c) (c := 93) (b := y ++ b) e93
    have tw : ((x ++ 93 :: y) ++ b).takeWhile (fun c => !enB c) = x := by
      rw [List.append_assoc]
      rw [t1]
      show x ++ (93 :: (y ++ b)).takeWhile (fun c => !enB c) = x
      rw [t3, List.append_nil]
    have dw : ((x ++ 93 :: y) ++ b).dropWhile (fun c => !enB c) = 93 :: (y ++ b) := by
      rw [List.append_assoc]
      rw [t2]
      exact t4
    rw [tw, dw]
    by_cases hm : m = 91
    · subst hm
      cases y with
      | nil =>
        rw [nmIn_end]
        cases hn : (isNm x && decide (acc.length < 8)) with
        | false => rfl
        | true =>
          rw [if_pos rfl, if_pos rfl, List.nil_append]
          simp only [if_pos]
          rcases hb with rfl | ⟨m', r, rfl, hm'⟩
          · simp
          · simp [hm']
      | cons d y =>
        have hd : isMk d = false := by
          have := ha.2.2
          rw [List.all_cons, Bool.and_eq_true] at this
          simpa using this.1
        have hno : isNm (nmIn 91 (x ++ 93 :: d :: y)) = false := by
          cases hi : isNm (nmIn 91 (x ++ 93 :: d :: y)) with
          | false => rfl
          | true =>
            have h1 := nm_no93 hi
            unfold nmIn at h1 hi
            rw [if_pos rfl] at h1 hi
            split at hi
            · next he =>
              rw [if_pos he] at h1
              exfalso
              apply h1
              have hl : (x ++ 93 :: d :: y).length - 1 = x.length + 1 + y.length := by simp; omega
              rw [hl, List.take_append, List.take_of_length_le (by omega), show x.length + 1 + y.length - x.length = y.length + 1 from by omega, List.take_succ_cons]
              simp
            · exact absurd hi (by decide)
        rw [hno]
        simp [hd]
    · have hno : isNm (nmIn m (x ++ 93 :: y)) = false := by
        cases hi : isNm (nmIn m (x ++ 93 :: y)) with
        | false => rfl
        | true =>
          have h1 := nm_no93 hi
          unfold nmIn at h1
          rw [if_neg hm] at h1
          exact absurd (by simp) h1
      rw [hno]
      simp [hm]
  · have hae := en_no ha h93
    obtain ⟨t1, t2⟩ := takeW_app (b := b) hae
    rw [t1, t2, hstop.1, hstop.2, List.append_nil]
    by_cases hm : m = 91
    · subst hm
      have hno : isNm (nmIn 91 a) = false := by
        unfold nmIn
        rw [if_pos rfl, if_neg (fun e => h93 (by
          have : (93 : UInt8) ∈ a.drop (a.length - 1) := by rw [e]; simp
          exact List.mem_of_mem_drop this))]
        rfl
      rw [hno]
      rcases hb with rfl | ⟨m', r, rfl, hm'⟩
      · simp
      · simp [mk_not93 hm']
    · have hnm : nmIn m a = a := by unfold nmIn; rw [if_neg hm]
      rw [hnm]
      cases hn : (isNm a && decide (acc.length < 8)) with
      | false => rfl
      | true =>
        rw [if_pos rfl, if_pos rfl]
        rcases hb with rfl | ⟨m', r, rfl, hm'⟩
        · simp [hm]
        · simp [hm, mk_not93 hm']
/-- A part behind its mark, as one text. -/
def ptT (x : UInt8 × Bs) : Bs := x.1 :: x.2
/-- The document's parts are those of package pick. -/
theorem wants_pts : ∀ (f : Nat) (acc : List Bs) (m : UInt8) (r : Bs), isMk m = true → r.length + 1 < f → wantsR f acc (m :: r) = if okPts acc.length (pts m r) then some (acc ++ (pts m r).map ptT) else none
  | 0, _, _, _, _, h => absurd h (Nat.not_lt_zero _)
  | f + 1, acc, m, r, hm, hf => by
    have h0 := mk_not0 hm
    have hpt : ∀ x, isPt (m, x) = isNm x := fun x => by
      unfold isPt
      rw [beq_eq_false_iff_ne.2 h0]
      simp
    cases hr : firstMk r with
    | none =>
      have h1 := wants_head (f := f) (acc := acc) (m := m) (b := []) (firstMk_none hr) (.inl rfl)
      rw [List.append_nil] at h1
      rw [h1, pts_no hr, okPts, okPts]
      simp only [if_neg h0, hpt, Bool.and_true]
      rw [show (decide (acc.length + 1 ≤ 8) && isNm (nmIn m r)) = (isNm (nmIn m r) && decide (acc.length < 8)) from by rw [Bool.and_comm]; congr 1]
      rfl
    | some x =>
      obtain ⟨a, m', r'⟩ := x
      obtain ⟨h2, h3, h4⟩ := firstMk_some hr
      have h1 := wants_head (f := f) (acc := acc) (m := m) (b := m' :: r') h4 (.inr ⟨m', r', rfl, h3⟩)
      rw [← h2] at h1
      have hl := firstMk_len hr
      rw [if_neg (show ¬ (m' :: r' : Bs) = [] by simp)] at h1
      rw [h1, pts_more hr, okPts]
      simp only [if_neg h0, hpt]
      rw [wants_pts f _ m' r' h3 (by omega), List.length_append, List.length_singleton]
      have hd : decide (acc.length + 1 ≤ 8) = decide (acc.length < 8) := rfl
      rw [hd]
      cases isNm (nmIn m a) with
      | false => simp
      | true =>
        cases decide (acc.length < 8) with
        | false => simp
        | true =>
          simp only [Bool.and_true, Bool.true_and, if_pos]
          cases okPts (acc.length + 1) (pts m' r') with
          | false => rfl
          | true => simp [ptT]
/-- A step's name, and its other parts. -/
def stR (s : Bs) : Option (Bs × List Bs) :=
  if s = [] then none else match firstMk s with
  | none => if anyNm s || isNm s then some (s, []) else none
  | some (a, m, r) => if anyNm a || isNm a then (wantsR (s.length + 1) [] (m :: r)).map fun w => (a, w) else none
/-- The document reads just the steps, and their parts. -/
theorem stR_st (s : Bs) : (stR s).isSome = isStM s ∧ ∀ a w, stR s = some (a, w) → ptsOf s = (0, a) :: w.map (fun t => (t.headD 0, t.tail)) := by
  unfold stR isStM
  by_cases hs : s = []
  · subst hs
    exact ⟨rfl, fun a w h => by simp at h⟩
  · rw [if_neg hs]
    have hne : (s != []) = true := by simpa using hs
    have hn0 : ∀ x, nmIn 0 x = x := fun x => by unfold nmIn; rw [if_neg (by decide)]
    cases hm : firstMk s with
    | none =>
      have hp : ptsOf s = [(0, s)] := by
        have := pts_no (k := 0) hm
        rw [hn0] at this
        exact this
      have hk : okPts 0 [(0, s)] = (anyNm s || isNm s) := by simp [okPts, isPt]
      rw [hp, hne, hk]
      simp only
      generalize (anyNm s || isNm s) = bb
      cases bb with
      | false => exact ⟨rfl, fun a w h => by cases h⟩
      | true => exact ⟨rfl, fun a w h => by cases h; rfl⟩
    | some x =>
      obtain ⟨a, m, r⟩ := x
      obtain ⟨h2, h3, h4⟩ := firstMk_some hm
      have hl := firstMk_len hm
      have hp : ptsOf s = (0, a) :: pts m r := by
        have := pts_more (k := 0) hm
        rw [hn0] at this
        exact this
      have hw := wants_pts (s.length + 1) [] m r h3 (by omega)
      have hk : okPts 0 ((0, a) :: pts m r) = ((anyNm a || isNm a) && okPts 0 (pts m r)) := by
        rw [okPts]
        simp [isPt]
      rw [hp, hne, hk]
      simp only [hw, List.length_nil, List.nil_append]
      generalize (anyNm a || isNm a) = bb
      cases bb with
      | false => exact ⟨rfl, fun a w h => by cases h⟩
      | true =>
        cases okPts 0 (pts m r) with
        | false => exact ⟨rfl, fun a w h => by cases h⟩
        | true =>
          refine ⟨rfl, fun a' w h => ?_⟩
          cases h
          rw [List.map_map]
          have e : ((fun t : Bs => (t.headD 0, t.tail)) ∘ ptT) = id := funext fun x => rfl
          rw [e, List.map_id]

end Go.Proofs.YtnoecobddhmhlaaGreatDoor

namespace Go.Proofs.YtnoecobddhmhlaaGreatDoor

theorem idx32 : ∀ s : Bs, (Lib.index s [32] = -1 ∧ (32 : UInt8) ∉ s) ∨ ∃ a b, s = a ++ 32 :: b ∧ (32 : UInt8) ∉ a ∧ Lib.index s [32] = a.length
  | [] => .inl ⟨rfl, by simp⟩
  | c :: s => by
    by_cases hc : c = 32
    · subst hc
      refine .inr ⟨[], s, rfl, by simp, ?_⟩
      unfold Lib.index
      rw [if_pos (by simp [List.isPrefixOf])]
      rfl
    · have hp : ([32] : Bs).isPrefixOf (c :: s) = false := by
        have : ((32 : UInt8) == c) = false := by rw [beq_eq_false_iff_ne]; exact fun e => hc e.symm
        simp [List.isPrefixOf, this]
      rcases idx32 s with ⟨h1, h2⟩ | ⟨a, b, h1, h2, h3⟩
      · refine .inl ⟨?_, ?_⟩
        · unfold Lib.index
          rw [if_neg (by rw [hp]; simp), h1]
          rfl
        · intro hm
          rcases List.mem_cons.1 hm with hm | hm
          · exact hc hm.symm
          · exact h2 hm
      · refine .inr ⟨c :: a, b, by rw [h1]; rfl, ?_, ?_⟩
        · intro hm
          rcases List.mem_cons.1 hm with hm | hm
          · exact hc hm.symm
          · exact h2 hm
        · unfold Lib.index
          rw [if_neg (by rw [hp]; simp), h3]
          have : ((a.length : Int) == -1) = false := by rw [beq_eq_false_iff_ne]; omega
          rw [this]
          simp
theorem drop_cut (a b : Bs) : (a ++ 32 :: b).drop (a.length + 1) = b := by
  rw [← List.drop_drop, List.drop_left]
  rfl
theorem splitK_pcs : ∀ (k : Nat) (s : Bs), s.count 32 ≤ k → Lib.splitK [32] 0 k s = pcs s
  | 0, s, h => by
    have h1 : (32 : UInt8) ∉ s := List.count_eq_zero.1 (by omega)
    rw [pcs_none h1]
    rfl
  | k + 1, s, h => by
    rcases idx32 s with ⟨h1, h2⟩ | ⟨a, b, h1, h2, h3⟩
    · rw [pcs_none h2, Lib.splitK, h1]
      rfl
    · have hk : ¬ (Lib.index s [32] == -1) = true := fun e => by have := beq_iff_eq.1 e; omega
      have hc : b.count 32 ≤ k := by
        rw [h1, List.count_append, List.count_cons_self] at h
        omega
      rw [Lib.splitK, if_neg hk, h3]
      simp only [Int.toNat_natCast, Nat.add_zero, List.length_singleton]
      rw [h1, drop_cut, List.take_left, splitK_pcs k b hc, pcs_app, pcs_none h2]
      rfl
theorem countFrom32 : ∀ (f : Nat) (s : Bs), s.length < f → Lib.countFrom [32] f s = s.count 32
  | 0, _, h => absurd h (Nat.not_lt_zero _)
  | f + 1, s, h => by
    rcases idx32 s with ⟨h1, h2⟩ | ⟨a, b, h1, h2, h3⟩
    · rw [Lib.countFrom, h1, List.count_eq_zero.2 h2]
      rfl
    · have hk : ¬ (Lib.index s [32] == -1) = true := fun e => by have := beq_iff_eq.1 e; omega
      have hl := congrArg List.length h1
      rw [List.length_append, List.length_cons] at hl
      rw [Lib.countFrom, if_neg hk, h3]
      simp only [Int.toNat_natCast, List.length_singleton]
      rw [h1, drop_cut, countFrom32 f b (by omega), List.count_append, List.count_cons_self, List.count_eq_zero.2 h2]
      omega
/-- A class among others, as the document has it. -/
theorem cls_pcs (v nm : Bs) : clsM v nm = true ↔ nm ∈ pcs v := by
  have hd := Lib.splitB_data ⟨#[32]⟩ 0 (Lib.countB ⟨v.toArray⟩ ⟨#[32]⟩) ⟨v.toArray⟩
  have hc : Lib.countB ⟨v.toArray⟩ ⟨#[32]⟩ = v.count 32 := countFrom32 _ v (by show v.length < v.length + 1; omega)
  have e1 : (⟨#[32]⟩ : ByteArray).data.toList = [32] := rfl
  have e2 : (⟨v.toArray⟩ : ByteArray).data.toList = v := rfl
  rw [e1, e2, hc, splitK_pcs _ v (Nat.le_refl _)] at hd
  unfold clsM
  rw [Lib.containsS_iff, hc, ← hd, List.mem_map]
  constructor
  · intro h
    exact ⟨_, h, rfl⟩
  · rintro ⟨x, hx, hxe⟩
    have : x = ⟨nm.toArray⟩ := by
      cases x with
      | mk d =>
        have h1 : d.toList = nm := hxe
        rw [← h1]
    rw [← this]
    exact hx

end Go.Proofs.YtnoecobddhmhlaaGreatDoor

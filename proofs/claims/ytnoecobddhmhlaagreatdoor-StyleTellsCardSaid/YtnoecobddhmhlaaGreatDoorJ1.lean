/-
  Selectors as plain mathematics: their steps and parts, what they weigh, what they fit.
-/
import Derived.Test.YtnoecobddhmhlaaGreatDoorDocM
import Derived.Lib.Split
import Derived.Lib.SlicesS
namespace Go.Proofs.YtnoecobddhmhlaaGreatDoor

/-- What is ahead of the last blank, and what is behind it. -/
def lastB : Bs → Option (Bs × Bs)
  | [] => none
  | c :: s => match lastB s with
    | some x => some (c :: x.1, x.2)
    | none => if c = 32 then some ([], s) else none
theorem lastB_some : ∀ {s a b : Bs}, lastB s = some (a, b) → s = a ++ 32 :: b ∧ (32 : UInt8) ∉ b
  | [], _, _, h => by simp [lastB] at h
  | c :: s, a, b, h => by
    rw [lastB] at h
    cases hs : lastB s with
    | some x =>
      obtain ⟨x1, x2⟩ := x
      rw [hs] at h
      simp at h
      obtain ⟨rfl, rfl⟩ := h
      obtain ⟨h1, h2⟩ := lastB_some hs
      exact ⟨by rw [h1]; rfl, h2⟩
    | none =>
      rw [hs] at h
      simp only at h
      split at h
      · rename_i hc
        cases h
        refine ⟨by rw [hc]; rfl, ?_⟩
        exact lastB_none hs
      · cases h
where
  lastB_none : ∀ {s : Bs}, lastB s = none → (32 : UInt8) ∉ s
  | [], _ => by simp
  | c :: s, h => by
    rw [lastB] at h
    cases hs : lastB s with
    | some x => rw [hs] at h; simp at h
    | none =>
      rw [hs] at h
      simp only at h
      split at h
      · cases h
      · rename_i hc
        intro hm
        rcases List.mem_cons.1 hm with h1 | h1
        · exact hc h1.symm
        · exact lastB_none hs h1
theorem lastB_none {s : Bs} (h : lastB s = none) : (32 : UInt8) ∉ s := lastB_some.lastB_none h
theorem lastB_app : ∀ (a b : Bs), (32 : UInt8) ∉ b → lastB (a ++ 32 :: b) = some (a, b)
  | [], b, hb => by
    rw [List.nil_append, lastB]
    cases hs : lastB b with
    | some x =>
      obtain ⟨x1, x2⟩ := x
      have := (lastB_some hs).1
      exact absurd (by rw [this]; simp) hb
    | none => simp
  | c :: a, b, hb => by
    rw [List.cons_append, lastB, lastB_app a b hb]
theorem lastB_no {s : Bs} (h : (32 : UInt8) ∉ s) : lastB s = none := by
  cases hs : lastB s with
  | none => rfl
  | some x =>
    obtain ⟨x1, x2⟩ := x
    have := (lastB_some hs).1
    exact absurd (by rw [this]; simp) h
/-- A blank and > at the end, taken off. -/
def offG (a : Bs) : Option Bs := if a.drop (a.length - 2) = [32, 62] then some (a.take (a.length - 2)) else none
theorem offG_some {a x : Bs} (h : offG a = some x) : a = x ++ [32, 62] := by
  unfold offG at h
  split at h
  · rename_i hd
    cases h
    have := List.take_append_drop (a.length - 2) a
    rw [hd] at this
    exact this.symm
  · cases h
theorem offG_app (x : Bs) : offG (x ++ [32, 62]) = some x := by
  unfold offG
  rw [show (x ++ [32, 62] : Bs).length - 2 = x.length from by simp]
  rw [List.drop_left, List.take_left, if_pos rfl]
theorem offG_none {a : Bs} (h : offG a = none) (x : Bs) : a ≠ x ++ [32, 62] := fun e => by
  rw [e, offG_app] at h
  cases h
/-- What stands between two steps. -/
inductive Lk where
  | no
  | right
  | below
def Lk.bs : Lk → Bs
  | .no => []
  | .right => [32, 62, 32]
  | .below => [32]
/-- The last step cut off. -/
def cutM (s : Bs) : Bs × Lk × Bs := match lastB s with
  | none => ([], .no, s)
  | some (a, b) => match offG a with
    | some x => (x, .right, b)
    | none => (a, .below, b)
theorem cutM_len {s a b : Bs} {k : Lk} (h : cutM s = (a, k, b)) (hk : k ≠ .no) : a.length < s.length := by
  unfold cutM at h
  cases hs : lastB s with
  | none => rw [hs] at h; cases h; exact absurd rfl hk
  | some x =>
    obtain ⟨x1, x2⟩ := x
    obtain ⟨h1, -⟩ := lastB_some hs
    rw [hs] at h
    simp only at h
    cases hg : offG x1 with
    | none =>
      rw [hg] at h
      cases h
      rw [h1, List.length_append, List.length_cons]
      omega
    | some y =>
      rw [hg] at h
      cases h
      have h2 := congrArg List.length (offG_some hg)
      rw [h1, List.length_append, List.length_cons]
      rw [List.length_append] at h2
      omega
/-- Steps, the last one first. -/
def stepsM : Nat → Bs → List Bs
  | 0, _ => []
  | f + 1, s => match cutM s with
    | (_, .no, b) => [b]
    | (a, _, b) => b :: stepsM f a
/-- A mark of a part. -/
def isMk (c : UInt8) : Bool := c == 35 || c == 46 || c == 91
/-- What is ahead of the first mark, the mark, and what is behind it. -/
def firstMk : Bs → Option (Bs × UInt8 × Bs)
  | [] => none
  | c :: s => if isMk c then some ([], c, s) else match firstMk s with
    | some x => some (c :: x.1, x.2)
    | none => none
theorem firstMk_some : ∀ {s a r : Bs} {m : UInt8}, firstMk s = some (a, m, r) → s = a ++ m :: r ∧ isMk m = true ∧ a.all (fun c => !isMk c) = true
  | [], _, _, _, h => by simp [firstMk] at h
  | c :: s, a, r, m, h => by
    rw [firstMk] at h
    split at h
    · rename_i hc
      cases h
      exact ⟨rfl, hc, rfl⟩
    · rename_i hc
      cases hs : firstMk s with
      | none => rw [hs] at h; cases h
      | some x =>
        obtain ⟨x1, x2, x3⟩ := x
        rw [hs] at h
        cases h
        obtain ⟨h1, h2, h3⟩ := firstMk_some hs
        exact ⟨by rw [h1]; rfl, h2, by rw [List.all_cons, h3]; simp [hc]⟩
theorem firstMk_none : ∀ {s : Bs}, firstMk s = none → s.all (fun c => !isMk c) = true
  | [], _ => rfl
  | c :: s, h => by
    rw [firstMk] at h
    split at h
    · cases h
    · rename_i hc
      cases hs : firstMk s with
      | none => rw [List.all_cons, firstMk_none hs]; simp [hc]
      | some x => rw [hs] at h; cases h
theorem firstMk_app : ∀ (a r : Bs) (m : UInt8), a.all (fun c => !isMk c) = true → isMk m = true → firstMk (a ++ m :: r) = some (a, m, r)
  | [], r, m, _, hm => by rw [List.nil_append, firstMk, if_pos hm]
  | c :: a, r, m, ha, hm => by
    rw [List.all_cons, Bool.and_eq_true] at ha
    rw [List.cons_append, firstMk, if_neg (by simpa using ha.1), firstMk_app a r m ha.2 hm]
theorem firstMk_no {s : Bs} (h : s.all (fun c => !isMk c) = true) : firstMk s = none := by
  cases hs : firstMk s with
  | none => rfl
  | some x =>
    obtain ⟨x1, x2, x3⟩ := x
    obtain ⟨h1, h2, -⟩ := firstMk_some hs
    rw [h1, List.all_append, List.all_cons, h2] at h
    simp at h
/-- The name in a part. -/
def nmIn (k : UInt8) (s : Bs) : Bs := if k = 91 then (if s.drop (s.length - 1) = [93] then s.take (s.length - 1) else []) else s
/-- A step's parts. -/
def partsM : Nat → UInt8 → Bs → List (UInt8 × Bs)
  | 0, _, _ => []
  | f + 1, k, s => match firstMk s with
    | none => [(k, nmIn k s)]
    | some (a, m, r) => (k, nmIn k a) :: partsM f m r
def anyNm (s : Bs) : Bool := s == [] || s == [42]
def isPt (x : UInt8 × Bs) : Bool := (x.1 == 0 && anyNm x.2) || isNm x.2
def okPts : Nat → List (UInt8 × Bs) → Bool
  | _, [] => true
  | c, x :: l => decide ((if x.1 = 0 then c else c + 1) ≤ 8) && isPt x && okPts (if x.1 = 0 then c else c + 1) l
def ptsOf (s : Bs) : List (UInt8 × Bs) := partsM (s.length + 1) 0 s
def isStM (s : Bs) : Bool := okPts 0 (ptsOf s) && s != []
def okSts : Nat → List Bs → Bool
  | _, [] => true
  | c, x :: l => decide (c + 1 ≤ 5) && isStM x && okSts (c + 1) l
def stsOf (s : Bs) : List Bs := stepsM (s.length + 1) s
/-- Is it a selector? -/
def isSelM (s : Bs) : Bool := okSts 0 (stsOf s)
def wtPt (x : UInt8 × Bs) : Nat := if x.1 = 35 then 100 else if x.1 = 46 ∨ x.1 = 91 then 10 else if anyNm x.2 then 0 else 1
def wtPts (l : List (UInt8 × Bs)) : Nat := (l.map wtPt).sum
def wtM (s : Bs) : Nat := ((stsOf s).map fun t => wtPts (ptsOf t)).sum
/-- An attribute's value. -/
def atOf (l : List (Bs × Bs)) (nm : Bs) : Option Bs := (l.find? fun a => a.1 == nm).map Prod.snd
/-- Is a text one of the parts of another one between blanks? -/
def clsM (v nm : Bs) : Bool := Lib.containsS (Lib.splitB ⟨#[32]⟩ 0 (Lib.countB ⟨v.toArray⟩ ⟨#[32]⟩) ⟨v.toArray⟩) ⟨nm.toArray⟩
def fitPt (e : Elm) (x : UInt8 × Bs) : Bool :=
  if x.1 = 35 then (atOf e.ats [105, 100]).getD [] == x.2
  else if x.1 = 46 then clsM ((atOf e.ats [99, 108, 97, 115, 115]).getD []) x.2
  else if x.1 = 91 then (atOf e.ats x.2).isSome
  else anyNm x.2 || e.name == x.2
def fitSt (M : Dm) (s : Bs) (n : Int) : Bool := match M n with
  | none => false
  | some e => e.name != [] && (ptsOf s).all (fitPt e)
/-- Those above an element, from its parent on. -/
def aboveM (M : Dm) : Nat → Int → List Int
  | 0, _ => []
  | f + 1, n => match M n with
    | none => []
    | some e => if e.parent < 0 then [] else e.parent :: aboveM M f e.parent
def fitM (M : Dm) : Nat → Bs → Int → Bool
  | 0, _, _ => false
  | f + 1, s, n => match cutM s with
    | (a, k, b) => fitSt M b n && (match k with
      | .no => true
      | .right => fitM M f a (match M n with | none => -1 | some e => e.parent)
      | .below => (aboveM M 11 n).any (fitM M f a))

end Go.Proofs.YtnoecobddhmhlaaGreatDoor

namespace Go.Proofs.YtnoecobddhmhlaaGreatDoor

theorem fitM_fuel (M : Dm) : ∀ (f g : Nat) (s : Bs) (n : Int), s.length < f → s.length < g → fitM M f s n = fitM M g s n
  | 0, _, _, _, h, _ => by omega
  | _, 0, _, _, _, h => by omega
  | f + 1, g + 1, s, n, hf, hg => by
    obtain ⟨a, k, b, hc⟩ : ∃ a k b, cutM s = (a, k, b) := ⟨_, _, _, rfl⟩
    rw [fitM, fitM, hc]
    simp only
    cases k with
    | no => rfl
    | right =>
      have hl := cutM_len hc (by simp)
      simp only
      rw [fitM_fuel M f g a _ (by omega) (by omega)]
    | below =>
      have hl := cutM_len hc (by simp)
      simp only
      rw [show (fitM M f a) = fitM M g a from funext fun m => fitM_fuel M f g a m (by omega) (by omega)]
/-- Does a selector fit an element? -/
def fitsM (M : Dm) (s : Bs) (n : Int) : Bool := fitM M (s.length + 1) s n
def parM (M : Dm) (n : Int) : Int := match M n with | none => -1 | some e => e.parent
theorem fitsM_no {M : Dm} {s a b : Bs} (h : cutM s = (a, .no, b)) (n : Int) : fitsM M s n = fitSt M b n := by
  rw [fitsM, fitM, h]
  simp
theorem fitsM_right {M : Dm} {s a b : Bs} (h : cutM s = (a, .right, b)) (n : Int) : fitsM M s n = (fitSt M b n && fitsM M a (parM M n)) := by
  have hl := cutM_len h (by simp)
  rw [fitsM, fitM, h]
  simp only
  rw [fitM_fuel M s.length (a.length + 1) a _ hl (by omega)]
  rfl
theorem fitsM_below {M : Dm} {s a b : Bs} (h : cutM s = (a, .below, b)) (n : Int) : fitsM M s n = (fitSt M b n && (aboveM M 11 n).any (fitsM M a)) := by
  have hl := cutM_len h (by simp)
  rw [fitsM, fitM, h]
  simp only
  rw [show (fitM M s.length a) = fitsM M a from funext fun m => fitM_fuel M s.length (a.length + 1) a m hl (by omega)]
theorem stepsM_fuel : ∀ (f g : Nat) (s : Bs), s.length < f → s.length < g → stepsM f s = stepsM g s
  | 0, _, _, h, _ => by omega
  | _, 0, _, _, h => by omega
  | f + 1, g + 1, s, hf, hg => by
    obtain ⟨a, k, b, hc⟩ : ∃ a k b, cutM s = (a, k, b) := ⟨_, _, _, rfl⟩
    rw [stepsM, stepsM, hc]
    cases k with
    | no => rfl
    | right =>
      have hl := cutM_len hc (by simp)
      simp only
      rw [stepsM_fuel f g a (by omega) (by omega)]
    | below =>
      have hl := cutM_len hc (by simp)
      simp only
      rw [stepsM_fuel f g a (by omega) (by omega)]
theorem stsOf_no {s a b : Bs} (h : cutM s = (a, .no, b)) : stsOf s = [b] := by
  rw [stsOf, stepsM, h]
theorem stsOf_more {s a b : Bs} {k : Lk} (h : cutM s = (a, k, b)) (hk : k ≠ .no) : stsOf s = b :: stsOf a := by
  have hl := cutM_len h hk
  rw [stsOf, stepsM, h]
  cases k with
  | no => exact absurd rfl hk
  | right => simp only; rw [stsOf, stepsM_fuel s.length (a.length + 1) a hl (by omega)]
  | below => simp only; rw [stsOf, stepsM_fuel s.length (a.length + 1) a hl (by omega)]
theorem okSts_all : ∀ {l : List Bs} {c : Nat}, okSts c l = true → ∀ x ∈ l, isStM x = true
  | [], _, _, x, hx => absurd hx (by simp)
  | y :: l, c, h, x, hx => by
    rw [okSts, Bool.and_eq_true, Bool.and_eq_true] at h
    rcases List.mem_cons.1 hx with rfl | hx
    · exact h.1.2
    · exact okSts_all h.2 x hx
theorem gt_no : isStM [62] = false := by decide
/-- Put behind a text that ends with a blank. -/
theorem cutM_behind {p b x y : Bs} {k : Lk} (h : cutM b = (x, k, y)) (hk : k ≠ .no) (hv : ∀ z ∈ stsOf b, isStM z = true) : cutM (p ++ 32 :: b) = (p ++ 32 :: x, k, y) := by
  have hst := stsOf_more h hk
  unfold cutM at h ⊢
  cases hs : lastB b with
  | none => rw [hs] at h; cases h; exact absurd rfl hk
  | some u =>
    obtain ⟨u, y'⟩ := u
    obtain ⟨h1, h2⟩ := lastB_some hs
    rw [hs] at h
    simp only at h
    have h3 : lastB (p ++ 32 :: b) = some (p ++ 32 :: u, y') := by
      rw [h1, show p ++ 32 :: (u ++ 32 :: y') = (p ++ 32 :: u) ++ 32 :: y' from by simp]
      exact lastB_app _ _ h2
    rw [h3]
    simp only
    cases hg : offG u with
    | some z =>
      rw [hg] at h
      cases h
      rw [offG_some hg, show p ++ 32 :: (x ++ [32, 62]) = (p ++ 32 :: x) ++ [32, 62] from by simp, offG_app]
    | none =>
      rw [hg] at h
      cases h
      cases hg2 : offG (p ++ 32 :: x) with
      | none => rfl
      | some z =>
        exfalso
        have h4 := offG_some hg2
        rcases x with _ | ⟨c, _ | ⟨d, x⟩⟩
        · have := congrArg List.getLast? h4
          simp at this
        · have h5 := congrArg List.getLast? h4
          simp at h5
          subst h5
          have h6 : cutM [62] = ([], .no, [62]) := rfl
          have := hv [62] (by rw [hst, stsOf_no h6]; simp)
          rw [gt_no] at this
          cases this
        · have h5 : (c :: d :: x : Bs).drop ((c :: d :: x : Bs).length - 2) = [32, 62] := by
            have h6 := congrArg (fun l : Bs => l.drop (l.length - 2)) h4
            rw [show (z ++ [32, 62] : Bs).length - 2 = z.length from by simp, List.drop_left] at h6
            rw [← h6, show p ++ 32 :: c :: d :: x = (p ++ [32]) ++ c :: d :: x from by simp]
            rw [show List.length ((p ++ [32]) ++ c :: d :: x) - 2 = List.length (p ++ [32]) + (List.length (c :: d :: x) - 2) from by simp only [List.length_append, List.length_cons]; omega, List.drop_length_add_append]
          unfold offG at hg
          rw [if_pos h5] at hg
          cases hg

theorem cutM_first {a b : Bs} (hb : lastB b = none) : cutM (a ++ 32 :: 62 :: 32 :: b) = (a, .right, b) := by
  unfold cutM
  have h := lastB_app (a ++ [32, 62]) b (lastB_none hb)
  rw [show (a ++ [32, 62]) ++ 32 :: b = a ++ 32 :: 62 :: 32 :: b from by simp] at h
  rw [h]
  simp only [offG_app]
theorem cutM_blank {a b : Bs} (hb : lastB b = none) (hg : offG a = none) : cutM (a ++ 32 :: b) = (a, .below, b) := by
  unfold cutM
  rw [lastB_app a b (lastB_none hb)]
  simp only [hg]
theorem sts_gt {a x : Bs} (h : offG a = some x) : [62] ∈ stsOf a := by
  obtain ⟨u, k, y, hc⟩ : ∃ u k y, cutM a = (u, k, y) := ⟨_, _, _, rfl⟩
  have h1 : y = [62] := by
    unfold cutM at hc
    have h2 := lastB_app x [62] (by decide)
    rw [show x ++ 32 :: [62] = x ++ [32, 62] from rfl, ← offG_some h] at h2
    rw [h2] at hc
    simp only at hc
    split at hc <;> cases hc <;> rfl
  subst h1
  rw [stsOf, stepsM, hc]
  cases k <;> simp
/-- What a selector of two parts is: both, one behind the other. -/
theorem two_parts (M : Dm) (hneg : ∀ i, i < 0 → M i = none) (a : Bs) : ∀ (m : Nat) (b : Bs), b.length ≤ m → (∀ z ∈ stsOf (a ++ 32 :: 62 :: 32 :: b), isStM z = true) → (∀ z ∈ stsOf b, isStM z = true) →
    (stsOf (a ++ 32 :: 62 :: 32 :: b) = stsOf b ++ stsOf a) ∧ (stsOf (a ++ 32 :: b) = stsOf b ++ stsOf a) ∧
    ∀ n, (fitsM M (a ++ 32 :: 62 :: 32 :: b) n = true → fitsM M (a ++ 32 :: b) n = true) ∧ (fitsM M (a ++ 32 :: b) n = true → fitsM M b n = true)
  | m, b, hm, h1, h2 => by
    obtain ⟨x, k, y, hc⟩ : ∃ x k y, cutM b = (x, k, y) := ⟨_, _, _, rfl⟩
    by_cases hk : k = .no
    · subst hk
      have hb : lastB b = none := by
        unfold cutM at hc
        cases hs : lastB b with
        | none => rfl
        | some u =>
          obtain ⟨u, v⟩ := u
          rw [hs] at hc
          simp only at hc
          split at hc <;> cases hc
      have hy : y = b := by
        unfold cutM at hc
        rw [hb] at hc
        cases hc
        rfl
      subst hy
      have c1 := cutM_first (a := a) hb
      have s1 := stsOf_more c1 (by simp)
      have hg : offG a = none := by
        cases hg : offG a with
        | none => rfl
        | some z =>
          have := h1 [62] (by rw [s1]; exact List.mem_cons_of_mem _ (sts_gt hg))
          rw [gt_no] at this
          cases this
      have c2 := cutM_blank (a := a) hb hg
      have s2 := stsOf_more c2 (by simp)
      have s3 := stsOf_no hc
      refine ⟨by rw [s1, s3]; rfl, by rw [s2, s3]; rfl, fun n => ⟨fun h => ?_, fun h => ?_⟩⟩
      · rw [fitsM_right c1, Bool.and_eq_true] at h
        rw [fitsM_below c2, Bool.and_eq_true]
        refine ⟨h.1, List.any_eq_true.2 ⟨parM M n, ?_, h.2⟩⟩
        have h3 : ∃ e, M (parM M n) = some e := by
          obtain ⟨z, kz, w, hz⟩ : ∃ z kz w, cutM a = (z, kz, w) := ⟨_, _, _, rfl⟩
          have h4 : fitSt M w (parM M n) = true := by
            have h5 := h.2
            cases kz with
            | no => rw [fitsM_no hz] at h5; exact h5
            | right => rw [fitsM_right hz, Bool.and_eq_true] at h5; exact h5.1
            | below => rw [fitsM_below hz, Bool.and_eq_true] at h5; exact h5.1
          unfold fitSt at h4
          cases hq : M (parM M n) with
          | none => rw [hq] at h4; cases h4
          | some e => exact ⟨e, rfl⟩
        obtain ⟨e, he⟩ := h3
        unfold parM at he ⊢
        cases hq : M n with
        | none =>
          rw [hq] at he
          simp only at he
          rw [hneg _ (by decide)] at he
          cases he
        | some q =>
          rw [hq] at he
          simp only at he ⊢
          rw [aboveM, hq]
          simp only
          rw [if_neg (fun h5 => by rw [hneg _ h5] at he; cases he)]
          simp
      · rw [fitsM_below c2, Bool.and_eq_true] at h
        rw [fitsM_no hc]
        exact h.1
    · have c1 := cutM_behind (p := a ++ [32, 62]) hc hk h2
      rw [show (a ++ [32, 62]) ++ 32 :: b = a ++ 32 :: 62 :: 32 :: b from by simp, show (a ++ [32, 62]) ++ 32 :: x = a ++ 32 :: 62 :: 32 :: x from by simp] at c1
      have c2 := cutM_behind (p := a) hc hk h2
      have s1 := stsOf_more c1 hk
      have s2 := stsOf_more c2 hk
      have s3 := stsOf_more hc hk
      have hl := cutM_len hc hk
      rw [s1] at h1
      rw [s3] at h2
      obtain ⟨r1, r2, r3⟩ := two_parts M hneg a (m - 1) x (by omega) (fun z hz => h1 z (List.mem_cons_of_mem _ hz)) (fun z hz => h2 z (List.mem_cons_of_mem _ hz))
      refine ⟨by rw [s1, s3, r1]; rfl, by rw [s2, s3, r2]; rfl, fun n => ?_⟩
      cases k with
      | no => exact absurd rfl hk
      | right =>
        rw [fitsM_right c1, fitsM_right c2, fitsM_right hc]
        simp only [Bool.and_eq_true]
        exact ⟨fun h => ⟨h.1, (r3 _).1 h.2⟩, fun h => ⟨h.1, (r3 _).2 h.2⟩⟩
      | below =>
        rw [fitsM_below c1, fitsM_below c2, fitsM_below hc]
        simp only [Bool.and_eq_true, List.any_eq_true]
        exact ⟨fun h => ⟨h.1, h.2.imp fun z hz => ⟨hz.1, (r3 z).1 hz.2⟩⟩, fun h => ⟨h.1, h.2.imp fun z hz => ⟨hz.1, (r3 z).2 hz.2⟩⟩⟩
termination_by _ b => b.length

end Go.Proofs.YtnoecobddhmhlaaGreatDoor

namespace Go.Proofs.YtnoecobddhmhlaaGreatDoor

theorem firstMk_len {s a r : Bs} {m : UInt8} (h : firstMk s = some (a, m, r)) : r.length < s.length := by
  have := congrArg List.length (firstMk_some h).1
  rw [List.length_append, List.length_cons] at this
  omega
theorem partsM_fuel : ∀ (f g : Nat) (k : UInt8) (s : Bs), s.length < f → s.length < g → partsM f k s = partsM g k s
  | 0, _, _, _, h, _ => by omega
  | _, 0, _, _, _, h => by omega
  | f + 1, g + 1, k, s, hf, hg => by
    rw [partsM, partsM]
    cases hs : firstMk s with
    | none => rfl
    | some x =>
      obtain ⟨a, m, r⟩ := x
      have := firstMk_len hs
      simp only
      rw [partsM_fuel f g m r (by omega) (by omega)]
/-- Parts of a text behind a mark of this kind. -/
def pts (k : UInt8) (s : Bs) : List (UInt8 × Bs) := partsM (s.length + 1) k s
theorem pts_no {k : UInt8} {s : Bs} (h : firstMk s = none) : pts k s = [(k, nmIn k s)] := by
  rw [pts, partsM, h]
theorem pts_more {k m : UInt8} {s a r : Bs} (h : firstMk s = some (a, m, r)) : pts k s = (k, nmIn k a) :: pts m r := by
  have := firstMk_len h
  rw [pts, partsM, h]
  simp only
  rw [pts, partsM_fuel s.length (r.length + 1) m r (by omega) (by omega)]
theorem pts_app (m : UInt8) (r : Bs) (hm : isMk m = true) : ∀ (f : Nat) (k : UInt8) (y : Bs), y.length ≤ f → pts k (y ++ m :: r) = pts k y ++ pts m r
  | f, k, y, hf => by
    cases hs : firstMk y with
    | none =>
      rw [pts_more (firstMk_app y r m (firstMk_none hs) hm), pts_no hs]
      rfl
    | some x =>
      obtain ⟨a, m', r'⟩ := x
      obtain ⟨h1, h2, h3⟩ := firstMk_some hs
      have hl := firstMk_len hs
      have h4 : firstMk (y ++ m :: r) = some (a, m', r' ++ m :: r) := by
        rw [h1, List.append_assoc, List.cons_append]
        exact firstMk_app a _ m' h3 h2
      rw [pts_more h4, pts_more hs, pts_app m r hm (f - 1) m' r' (by omega)]
      rfl
termination_by _ _ y => y.length
theorem nmIn_len (k : UInt8) (s : Bs) : (nmIn k s).length ≤ s.length := by
  unfold nmIn
  split
  · split
    · rw [List.length_take]; omega
    · exact Nat.zero_le _
  · exact Nat.le_refl _
theorem cutM_step {s a b : Bs} {k : Lk} (h : cutM s = (a, k, b)) : b.length ≤ s.length := by
  unfold cutM at h
  cases hs : lastB s with
  | none => rw [hs] at h; cases h; exact Nat.le_refl _
  | some x =>
    obtain ⟨x1, x2⟩ := x
    obtain ⟨h1, -⟩ := lastB_some hs
    have h2 : x2.length ≤ s.length := by rw [h1, List.length_append, List.length_cons]; omega
    rw [hs] at h
    simp only at h
    split at h <;> cases h <;> exact h2
theorem ptsOf_app {m : UInt8} {r : Bs} (hm : isMk m = true) (y : Bs) : ptsOf (y ++ m :: r) = ptsOf y ++ pts m r := pts_app m r hm y.length 0 y (Nat.le_refl _)
theorem lastB_more {s more : Bs} (h : (32 : UInt8) ∉ more) : lastB (s ++ more) = (lastB s).map fun x => (x.1, x.2 ++ more) := by
  cases hs : lastB s with
  | none =>
    refine lastB_no fun hm => ?_
    rcases List.mem_append.1 hm with h1 | h1
    · exact lastB_none hs h1
    · exact h h1
  | some x =>
    obtain ⟨u, y⟩ := x
    obtain ⟨h1, h2⟩ := lastB_some hs
    rw [h1, List.append_assoc, List.cons_append]
    refine lastB_app u (y ++ more) fun hm => ?_
    rcases List.mem_append.1 hm with h3 | h3
    · exact h2 h3
    · exact h h3
theorem cutM_more {s more x y : Bs} {k : Lk} (h : (32 : UInt8) ∉ more) (hc : cutM s = (x, k, y)) : cutM (s ++ more) = (x, k, y ++ more) := by
  unfold cutM at hc ⊢
  rw [lastB_more h]
  cases hs : lastB s with
  | none =>
    rw [hs] at hc
    cases hc
    rfl
  | some u =>
    obtain ⟨u, v⟩ := u
    rw [hs] at hc
    simp only [Option.map_some] at hc ⊢
    cases hg : offG u with
    | none => rw [hg] at hc; cases hc; rfl
    | some z => rw [hg] at hc; cases hc; rfl
def allPt (M : Dm) (l : List (UInt8 × Bs)) (n : Int) : Bool := match M n with | none => false | some e => l.all (fitPt e)
theorem fitSt_more {M : Dm} {m : UInt8} {r : Bs} (hm : isMk m = true) (y : Bs) (n : Int) : fitSt M (y ++ m :: r) n = (fitSt M y n && allPt M (pts m r) n) := by
  unfold fitSt allPt
  cases M n with
  | none => rfl
  | some e =>
    simp only
    rw [ptsOf_app hm, List.all_append, Bool.and_assoc]
/-- A selector whose last step asks for more. -/
theorem fits_more {M : Dm} {m : UInt8} {r s : Bs} (hm : isMk m = true) (hb : (32 : UInt8) ∉ m :: r) (n : Int) : fitsM M (s ++ m :: r) n = (fitsM M s n && allPt M (pts m r) n) := by
  obtain ⟨x, k, y, hc⟩ : ∃ x k y, cutM s = (x, k, y) := ⟨_, _, _, rfl⟩
  have hd := cutM_more hb hc
  cases k with
  | no => rw [fitsM_no hd, fitsM_no hc, fitSt_more hm]
  | right =>
    rw [fitsM_right hd, fitsM_right hc, fitSt_more hm]
    cases fitSt M y n <;> cases allPt M (pts m r) n <;> simp
  | below =>
    rw [fitsM_below hd, fitsM_below hc, fitSt_more hm]
    cases fitSt M y n <;> cases allPt M (pts m r) n <;> simp
theorem fits_twice {M : Dm} {m : UInt8} {r s : Bs} (hm : isMk m = true) (hb : (32 : UInt8) ∉ m :: r) (n : Int) : fitsM M (s ++ m :: r ++ m :: r) n = fitsM M (s ++ m :: r) n := by
  rw [fits_more hm hb, fits_more hm hb, Bool.and_assoc, Bool.and_self]
theorem wtPts_app (a b : List (UInt8 × Bs)) : wtPts (a ++ b) = wtPts a + wtPts b := by
  unfold wtPts
  rw [List.map_append, List.sum_append]
theorem wt_more {m : UInt8} {r s : Bs} (hm : isMk m = true) (hb : (32 : UInt8) ∉ m :: r) : wtM (s ++ m :: r) = wtM s + wtPts (pts m r) := by
  obtain ⟨x, k, y, hc⟩ : ∃ x k y, cutM s = (x, k, y) := ⟨_, _, _, rfl⟩
  have hd := cutM_more hb hc
  unfold wtM
  by_cases hk : k = .no
  · subst hk
    rw [stsOf_no hd, stsOf_no hc]
    simp only [List.map_cons, List.map_nil, List.sum_cons, List.sum_nil]
    rw [ptsOf_app hm, wtPts_app]
    omega
  · rw [stsOf_more hd hk, stsOf_more hc hk]
    simp only [List.map_cons, List.sum_cons]
    rw [ptsOf_app hm, wtPts_app]
    omega
theorem wt_pos {m : UInt8} {r : Bs} (hm : isMk m = true) : 0 < wtPts (pts m r) := by
  obtain ⟨x, l, hx⟩ : ∃ x l, pts m r = (m, x) :: l := by
    cases hs : firstMk r with
    | none => exact ⟨_, _, pts_no hs⟩
    | some y =>
      obtain ⟨a, m', r'⟩ := y
      exact ⟨_, _, pts_more hs⟩
  rw [hx]
  unfold wtPts
  rw [List.map_cons, List.sum_cons]
  have : 0 < wtPt (m, x) := by
    unfold wtPt
    unfold isMk at hm
    simp only [Bool.or_eq_true, beq_iff_eq] at hm
    rcases hm with (rfl | rfl) | rfl <;> simp
  omega

end Go.Proofs.YtnoecobddhmhlaaGreatDoor

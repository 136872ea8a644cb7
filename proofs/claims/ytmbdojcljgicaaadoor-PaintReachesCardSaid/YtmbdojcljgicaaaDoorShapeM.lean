/-
  Polygons in plain integers, with nothing of the program: edges, how an edge turns around a point, sums over edges, and what becomes of them when a polygon is begun elsewhere or turned around.
-/
import Derived.Test.YtmbdojcljgicaaaDoorFracM
namespace Go.Proofs.YtmbdojcljgicaaaDoor

/-- a point: two fractions, as four numbers -/
structure Qt where
  xn : Int
  xd : Int
  yn : Int
  yd : Int
deriving DecidableEq

/-- the upper part of a difference -/
def nX (a b : Qt) : Int := a.xn * b.xd - b.xn * a.xd
def nY (a b : Qt) : Int := a.yn * b.yd - b.yn * a.yd
/-- the side of the edge from f to t where p is -/
def sideI (f t p : Qt) : Int := nX t f * nY p f * (p.xd * f.xd) * (t.yd * f.yd) - nX p f * nY t f * (t.xd * f.xd) * (p.yd * f.yd)
def turnI (p f t : Qt) : Int :=
  if 0 ≤ nY p f ∧ ¬ 0 ≤ nY p t ∧ 0 < sideI f t p then 1 else if 0 ≤ nY p t ∧ ¬ 0 ≤ nY p f ∧ sideI f t p < 0 then -1 else 0

theorem turn_three (p f t : Qt) : turnI p f t = 1 ∨ turnI p f t = -1 ∨ turnI p f t = 0 := by
  unfold turnI
  split
  · exact .inl rfl
  · split
    · exact .inr (.inl rfl)
    · exact .inr (.inr rfl)
theorem turn_self (p a : Qt) : turnI p a a = 0 := by
  unfold turnI
  rw [if_neg (by rintro ⟨h1, h2, -⟩; exact h2 h1), if_neg (by rintro ⟨h1, h2, -⟩; exact h2 h1)]

/-- both lower parts from 1 on -/
structure Pos (a : Qt) : Prop where
  x : 1 ≤ a.xd
  y : 1 ≤ a.yd

/-- the side, without the parts that are above 0 -/
def sideS (f t p : Qt) : Int := nX t f * nY p f * p.xd * t.yd - nX p f * nY t f * t.xd * p.yd
theorem side_S (f t p : Qt) : sideI f t p = (f.xd * f.yd) * sideS f t p := by unfold sideI sideS; grind
theorem sideS_swap (f t p : Qt) : sideS t f p = - sideS f t p := by
  unfold sideS nX nY
  grind
theorem mul_pos_iff' {a b : Int} (ha : 0 < a) : 0 < a * b ↔ 0 < b := by
  constructor
  · intro h
    rcases Int.lt_trichotomy b 0 with h1 | h1 | h1
    · have := Int.mul_neg_of_pos_of_neg ha h1; omega
    · subst h1; simp at h
    · exact h1
  · exact fun h => Int.mul_pos ha h
theorem mul_neg_iff' {a b : Int} (ha : 0 < a) : a * b < 0 ↔ b < 0 := by
  constructor
  · intro h
    rcases Int.lt_trichotomy b 0 with h1 | h1 | h1
    · exact h1
    · subst h1; simp at h
    · have := Int.mul_pos ha h1; omega
  · exact fun h => Int.mul_neg_of_pos_of_neg ha h
theorem side_pos {f t p : Qt} (hf : Pos f) : 0 < sideI f t p ↔ 0 < sideS f t p := by
  rw [side_S]
  exact mul_pos_iff' (Int.mul_pos (by have := hf.x; omega) (by have := hf.y; omega))
theorem side_neg {f t p : Qt} (hf : Pos f) : sideI f t p < 0 ↔ sideS f t p < 0 := by
  rw [side_S]
  exact mul_neg_iff' (Int.mul_pos (by have := hf.x; omega) (by have := hf.y; omega))
theorem turn_swap {p f t : Qt} (hf : Pos f) (ht : Pos t) : turnI p t f = - turnI p f t := by
  unfold turnI
  simp only [side_pos hf, side_neg hf, side_pos ht, side_neg ht, sideS_swap f t]
  by_cases h1 : 0 ≤ nY p f <;> by_cases h2 : 0 ≤ nY p t
  · simp [h1, h2]
  · simp only [h1, h2, not_true_eq_false, not_false_eq_true, true_and, false_and, if_false]
    by_cases h3 : 0 < sideS f t p
    · rw [if_pos h3, if_pos (by omega)]
    · rw [if_neg h3, if_neg (by omega)]; rfl
  · simp only [h1, h2, not_true_eq_false, not_false_eq_true, true_and, false_and, if_false]
    by_cases h3 : sideS f t p < 0
    · rw [if_pos h3, if_pos (by omega)]; rfl
    · rw [if_neg h3, if_neg (by omega)]; rfl
  · simp [h1, h2]

/-- the edges of a polygon -/
def edges : List Qt → List (Qt × Qt)
  | [] => []
  | a :: l => (a :: l).zip (l ++ [a])
theorem edges_len : ∀ l : List Qt, (edges l).length = l.length
  | [] => rfl
  | a :: l => by unfold edges; simp
theorem edges_get {l : List Qt} {i : Nat} (hi : i < l.length) : ∃ a b, l[i]? = some a ∧ l[(i + 1) % l.length]? = some b ∧ (edges l)[i]? = some (a, b) := by
  cases l with
  | nil => cases hi
  | cons a l =>
    have h1 : i < (a :: l).length := hi
    have h2 : i < (l ++ [a]).length := by simpa using hi
    refine ⟨(a :: l)[i], (l ++ [a])[i], List.getElem?_eq_getElem h1, ?_, ?_⟩
    · by_cases hl : i + 1 = (a :: l).length
      · rw [hl, Nat.mod_self]
        have : i = l.length := by simpa using hl
        subst this
        simp
      · have hlt : i + 1 < (a :: l).length := by omega
        have hlt' : i < l.length := by simpa using hlt
        rw [Nat.mod_eq_of_lt hlt, List.getElem?_cons_succ, List.getElem?_eq_getElem hlt', List.getElem_append_left hlt']
    · unfold edges
      rw [List.getElem?_zip_eq_some]
      exact ⟨List.getElem?_eq_getElem h1, List.getElem?_eq_getElem h2⟩

/-- a sum over the edges -/
def sumE (T : Qt → Qt → Int) (l : List (Qt × Qt)) : Int := (l.map fun e => T e.1 e.2).sum
theorem sumE_app (T : Qt → Qt → Int) (l m : List (Qt × Qt)) : sumE T (l ++ m) = sumE T l + sumE T m := by unfold sumE; rw [List.map_append, List.sum_append]
theorem sumE_one (T : Qt → Qt → Int) (a b : Qt) : sumE T [(a, b)] = T a b := by unfold sumE; simp
/-- a sum along a way -/
def path (T : Qt → Qt → Int) : List Qt → Int
  | [] => 0
  | [_] => 0
  | a :: b :: l => T a b + path T (b :: l)
theorem path_cut (T : Qt → Qt → Int) (c : Qt) (y : List Qt) : ∀ x : List Qt, path T (x ++ c :: y) = path T (x ++ [c]) + path T (c :: y)
  | [] => by simp [path]
  | [a] => by simp [path]
  | a :: b :: x => by
    have h := path_cut T c y (b :: x)
    simp only [List.cons_append] at h ⊢
    rw [path, path, h]
    omega
theorem sumE_path (T : Qt → Qt → Int) (z : Qt) : ∀ (a : Qt) (l : List Qt), sumE T ((a :: l).zip (l ++ [z])) = path T (a :: l ++ [z])
  | a, [] => by simp [sumE, path]
  | a, b :: l => by
    have h := sumE_path T z b l
    simp only [List.cons_append] at h ⊢
    rw [path, ← h]
    simp [sumE]
def windE (T : Qt → Qt → Int) (l : List Qt) : Int := sumE T (edges l)
theorem windE_cons (T : Qt → Qt → Int) (a : Qt) (l : List Qt) : windE T (a :: l) = path T (a :: l ++ [a]) := sumE_path T a a l
/-- begun at another point -/
theorem windE_turn (T : Qt → Qt → Int) (x y : List Qt) : windE T (y ++ x) = windE T (x ++ y) := by
  cases x with
  | nil => simp
  | cons a x =>
    cases y with
    | nil => simp
    | cons b y =>
      rw [List.cons_append, List.cons_append, windE_cons, windE_cons]
      rw [show b :: (y ++ a :: x) ++ [b] = (b :: y) ++ a :: (x ++ [b]) from by simp, path_cut T a (x ++ [b]) (b :: y)]
      rw [show a :: (x ++ b :: y) ++ [a] = (a :: x) ++ b :: (y ++ [a]) from by simp, path_cut T b (y ++ [a]) (a :: x)]
      simp only [List.cons_append]
      omega
theorem path_rev (T : Qt → Qt → Int) : ∀ l : List Qt, (∀ a ∈ l, ∀ b ∈ l, T b a = - T a b) → path T l.reverse = - path T l
  | [], _ => rfl
  | [a], _ => rfl
  | a :: b :: l, h => by
    have h1 := path_rev T (b :: l) (fun x hx y hy => h x (List.mem_cons_of_mem _ hx) y (List.mem_cons_of_mem _ hy))
    rw [List.reverse_cons] at h1
    rw [List.reverse_cons, List.reverse_cons, List.append_assoc, List.singleton_append, path_cut, h1, path, path, path, h a (by simp) b (by simp)]
    omega
/-- turned around -/
theorem windE_rev (T : Qt → Qt → Int) (l : List Qt) (h : ∀ a ∈ l, ∀ b ∈ l, T b a = - T a b) : windE T l.reverse = - windE T l := by
  cases l with
  | nil => rfl
  | cons a l =>
    rw [List.reverse_cons, ← windE_turn T l.reverse [a], List.singleton_append, windE_cons, windE_cons]
    rw [show a :: l.reverse ++ [a] = (a :: l ++ [a]).reverse from by simp]
    refine path_rev T _ fun x hx y hy => h x ?_ y ?_
    · simp at hx ⊢; rcases hx with rfl | hx | rfl <;> simp_all
    · simp at hy ⊢; rcases hy with rfl | hy | rfl <;> simp_all
/-- there, and all the way back -/
theorem windE_both (T : Qt → Qt → Int) (a : Qt) (l : List Qt) (h : ∀ x ∈ a :: l, ∀ y ∈ a :: l, T y x = - T x y) (hs : T a a = 0) : windE T (a :: l ++ [a] ++ [a] ++ l.reverse) = 0 := by
  have hr := windE_rev T (a :: l) h
  rw [List.reverse_cons, ← windE_turn T l.reverse [a], List.singleton_append, windE_cons, windE_cons] at hr
  rw [show a :: l ++ [a] ++ [a] ++ l.reverse = a :: (l ++ a :: a :: l.reverse) from by simp, windE_cons]
  rw [show a :: (l ++ a :: a :: l.reverse) ++ [a] = (a :: l) ++ a :: (a :: l.reverse ++ [a]) from by simp, path_cut T a _ (a :: l)]
  rw [show a :: (a :: l.reverse ++ [a]) = a :: a :: (l.reverse ++ [a]) from by simp, path, hs]
  simp only [List.cons_append] at hr ⊢
  omega
/-- how often it goes around, and how many edges are crossed -/
theorem sum_odd (T : Qt → Qt → Int) (h : ∀ a b, T a b = 1 ∨ T a b = -1 ∨ T a b = 0) : ∀ l : List (Qt × Qt), (sumE T l - sumE (fun a b => T a b * T a b) l) % 2 = 0 ∧ sumE T l ≤ sumE (fun a b => T a b * T a b) l ∧ - sumE T l ≤ sumE (fun a b => T a b * T a b) l ∧ 0 ≤ sumE (fun a b => T a b * T a b) l ∧ sumE (fun a b => T a b * T a b) l ≤ l.length ∧ - (l.length : Int) ≤ sumE T l ∧ sumE T l ≤ l.length
  | [] => by simp [sumE]
  | e :: l => by
    obtain ⟨h1, h2, h3, h4, h5, h6, h7⟩ := sum_odd T h l
    have e1 : sumE T (e :: l) = T e.1 e.2 + sumE T l := by simp [sumE]
    have e2 : sumE (fun a b => T a b * T a b) (e :: l) = T e.1 e.2 * T e.1 e.2 + sumE (fun a b => T a b * T a b) l := by simp [sumE]
    rw [e1, e2, List.length_cons]
    rcases h e.1 e.2 with h0 | h0 | h0 <;> rw [h0] <;> omega
end Go.Proofs.YtmbdojcljgicaaaDoor

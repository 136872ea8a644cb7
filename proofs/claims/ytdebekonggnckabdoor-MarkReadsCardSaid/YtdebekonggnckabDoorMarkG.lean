/-
  The text of a flat list, one behind the other: it is the node's text.
-/
import Derived.Test.YtdebekonggnckabDoorMarkM
namespace Go.Proofs.YtdebekonggnckabDoor

/-- How one begins; how one ends. -/
def opT (f : Fl) : Bs := 60 :: (f.name ++ atsT f.attrs)
def clT (nm : Bs) : Bs := 60 :: 47 :: (nm ++ [62])
def clsT : List Bs → Bs
  | [] => []
  | a :: l => clT a ++ clsT l
theorem clsT_app : ∀ a b : List Bs, clsT (a ++ b) = clsT a ++ clsT b
  | [], _ => rfl
  | x :: a, b => by simp [clsT, clsT_app a b]
/-- The text; anc: the names of those that the first one lies in, the nearest first. -/
def ftx : List Bs → List Fl → Bs
  | _, [] => []
  | anc, [f] => opT f ++ ([47, 62] ++ clsT anc)
  | anc, f :: g :: r => if g.deep = f.deep + 1 then opT f ++ 62 :: ftx (f.name :: anc) (g :: r) else opT f ++ ([47, 62] ++ clsT (anc.take (f.deep - g.deep)) ++ ftx (anc.drop (f.deep - g.deep)) (g :: r))
/-- What is behind. -/
def tailT (anc : List Bs) (d : Nat) : List Fl → Bs
  | [] => clsT anc
  | g :: r => clsT (anc.take (d - g.deep)) ++ ftx (anc.drop (d - g.deep)) (g :: r)
def lowD (d : Nat) (x : List Fl) : Prop := ∀ g, x.head? = some g → g.deep ≤ d

theorem flN_first (k : Nat) (p : Int) (d : Nat) (n : Nd) : ∃ f r, flN k p d n = f :: r ∧ f.deep = d ∧ f.parent = p := by
  obtain ⟨nm, ats, ks⟩ := n
  exact ⟨_, _, by rw [flN], rfl, rfl⟩
mutual
theorem ftx_flN : ∀ (n : Nd) (k : Nat) (p : Int) (d : Nat) (anc : List Bs) (x : List Fl), lowD d x → ftx anc (flN k p d n ++ x) = txt n ++ tailT anc d x
  | .mk nm ats [], k, p, d, anc, x, hx => by
    rw [flN, txt_nil]
    simp only [flL, List.cons_append, List.nil_append]
    cases x with
    | nil => simp [ftx, tailT, opT]
    | cons g r =>
      have hg := hx g rfl
      rw [ftx, if_neg (by simp; omega)]
      simp [tailT, opT]
  | .mk nm ats (c :: l), k, p, d, anc, x, hx => by
    obtain ⟨f1, r1, h1, h2, -⟩ := flN_first (k + 1) k (d + 1) c
    have hk := ftx_flL (c :: l) (k + 1) k (d + 1) (nm :: anc) x (by simp) (fun g hg => by have := hx g hg; omega)
    rw [flN, txt_cons]
    rw [flL, h1] at hk ⊢
    simp only [List.cons_append] at hk ⊢
    rw [ftx, if_pos (by simp [h2]), hk]
    have ht : tailT (nm :: anc) (d + 1) x = clT nm ++ tailT anc d x := by
      cases x with
      | nil => rfl
      | cons g r =>
        have hg := hx g rfl
        have e : d + 1 - g.deep = (d - g.deep) + 1 := by omega
        simp [tailT, e, clsT]
    rw [ht]
    simp [opT, clT]
theorem ftx_flL : ∀ (l : List Nd) (k : Nat) (p : Int) (d : Nat) (anc : List Bs) (x : List Fl), l ≠ [] → lowD d x → ftx anc (flL k p d l ++ x) = txtL l ++ tailT anc d x
  | [], _, _, _, _, _, h, _ => absurd rfl h
  | [c], k, p, d, anc, x, _, hx => by
    have := ftx_flN c k p d anc x hx
    simpa [flL, txtL] using this
  | c :: c' :: l, k, p, d, anc, x, _, hx => by
    obtain ⟨f1, r1, h1, h2, -⟩ := flN_first (k + (flN k p d c).length) p d c'
    have hl := ftx_flL (c' :: l) (k + (flN k p d c).length) p d anc x (by simp) hx
    have hc := ftx_flN c k p d anc (flL (k + (flN k p d c).length) p d (c' :: l) ++ x) (fun g hg => by
      rw [flL, h1] at hg
      simp at hg
      rw [← hg, h2]; exact Nat.le_refl _)
    have ht : tailT anc d (flL (k + (flN k p d c).length) p d (c' :: l) ++ x) = ftx anc (flL (k + (flN k p d c).length) p d (c' :: l) ++ x) := by
      rw [flL, h1]
      simp [tailT, h2, clsT]
    rw [flL, List.append_assoc, hc, ht, hl]
    simp [txtL]
end
theorem ftx_txt (n : Nd) : ftx [] (flN 0 (-1) 1 n) = txt n := by
  have := ftx_flN n 0 (-1) 1 [] [] (fun g h => by simp at h)
  simpa [tailT, clsT] using this

/-- The names of those that one lies in, by the parents' numbers. -/
def Chain (L : List Fl) : Int → List Bs → Prop
  | p, [] => p = -1
  | p, nm :: r => ∃ (j : Nat) (f : Fl), p = j ∧ L[j]? = some f ∧ f.name = nm ∧ f.deep = r.length + 1 ∧ Chain L f.parent r
/-- A flat list, from number i on, is in order. -/
def Good (L : List Fl) : Nat → List Bs → List Fl → Prop
  | _, _, [] => True
  | _, anc, [f] => Chain L f.parent anc ∧ f.deep = anc.length + 1
  | i, anc, f :: g :: r => (Chain L f.parent anc ∧ f.deep = anc.length + 1) ∧ ((g.parent = i ∧ g.deep = f.deep + 1 ∧ Good L (i + 1) (f.name :: anc) (g :: r)) ∨ (g.parent ≠ i ∧ g.deep ≤ f.deep ∧ 1 ≤ g.deep ∧ Good L (i + 1) (anc.drop (f.deep - g.deep)) (g :: r)))
theorem Good.head {L : List Fl} {i : Nat} {anc : List Bs} {f : Fl} {r : List Fl} (h : Good L i anc (f :: r)) : Chain L f.parent anc ∧ f.deep = anc.length + 1 := by
  cases r with
  | nil => exact h
  | cons g r => exact h.1
/-- What is behind a node is in order. -/
def After (L : List Fl) (k : Nat) (p : Int) (d : Nat) (anc : List Bs) : List Fl → Prop
  | [] => True
  | g :: r => g.parent ≤ p ∧ g.deep ≤ d ∧ 1 ≤ g.deep ∧ Good L k (anc.drop (d - g.deep)) (g :: r)
theorem drop_cons {α : Type} {L : List α} {k : Nat} {f : α} {r : List α} (h : L.drop k = f :: r) : L[k]? = some f ∧ L.drop (k + 1) = r := by
  constructor
  · have := congrArg List.head? h
    simpa using this
  · rw [show k + 1 = k + 1 from rfl, ← List.drop_drop, h]
    rfl
mutual
theorem good_flN (L : List Fl) : ∀ (n : Nd) (k : Nat) (p : Int) (d : Nat) (anc : List Bs) (x : List Fl), L.drop k = flN k p d n ++ x → Chain L p anc → anc.length + 1 = d → p < k → After L (k + (flN k p d n).length) p d anc x → Good L k anc (flN k p d n ++ x)
  | .mk nm ats [], k, p, d, anc, x, hL, hc, hd, hp, hx => by
    rw [flN] at hx ⊢
    simp only [flL, List.cons_append, List.nil_append, List.length_cons, List.length_nil] at hx ⊢
    cases x with
    | nil => exact ⟨hc, hd.symm⟩
    | cons g r => exact ⟨⟨hc, hd.symm⟩, .inr ⟨by have := hx.1; omega, hx.2.1, hx.2.2.1, hx.2.2.2⟩⟩
  | .mk nm ats (c :: l), k, p, d, anc, x, hL, hc, hd, hp, hx => by
    obtain ⟨f1, r1, h1, h2, h3⟩ := flN_first (k + 1) k (d + 1) c
    rw [flN] at hL hx ⊢
    simp only [List.cons_append] at hL ⊢
    obtain ⟨e1, e2⟩ := drop_cons hL
    have hg := good_flL L (c :: l) (k + 1) k (d + 1) (nm :: anc) x (by simp) e2 ⟨k, _, rfl, e1, rfl, hd.symm, hc⟩ (by simp; omega) (by omega) (by
      cases x with
      | nil => trivial
      | cons g r =>
        obtain ⟨a1, a2, a3, a4⟩ := hx
        refine ⟨by omega, by omega, a3, ?_⟩
        rw [show d + 1 - g.deep = (d - g.deep) + 1 from by omega, List.drop_succ_cons]
        rw [List.length_cons, ← Nat.add_assoc, Nat.add_right_comm] at a4
        exact a4)
    rw [flL, h1] at hg ⊢
    simp only [List.cons_append] at hg ⊢
    exact ⟨⟨hc, hd.symm⟩, .inl ⟨h3, by simp [h2], hg⟩⟩
theorem good_flL (L : List Fl) : ∀ (l : List Nd) (k : Nat) (p : Int) (d : Nat) (anc : List Bs) (x : List Fl), l ≠ [] → L.drop k = flL k p d l ++ x → Chain L p anc → anc.length + 1 = d → p < k → After L (k + (flL k p d l).length) p d anc x → Good L k anc (flL k p d l ++ x)
  | [], _, _, _, _, _, h, _, _, _, _, _ => absurd rfl h
  | [c], k, p, d, anc, x, _, hL, hc, hd, hp, hx => by
    simp only [flL, List.append_nil] at hL hx ⊢
    exact good_flN L c k p d anc x hL hc hd hp hx
  | c :: c' :: l, k, p, d, anc, x, _, hL, hc, hd, hp, hx => by
    obtain ⟨f1, r1, h1, h2, h3⟩ := flN_first (k + (flN k p d c).length) p d c'
    rw [flL] at hL hx ⊢
    rw [List.append_assoc] at hL ⊢
    have hL2 : L.drop (k + (flN k p d c).length) = flL (k + (flN k p d c).length) p d (c' :: l) ++ x := by
      rw [← List.drop_drop, hL, List.drop_left]
    have hg := good_flL L (c' :: l) (k + (flN k p d c).length) p d anc x (by simp) hL2 hc hd (by omega) (by rw [List.length_append, ← Nat.add_assoc] at hx; exact hx)
    refine good_flN L c k p d anc _ hL hc hd hp ?_
    rw [flL, h1] at hg ⊢
    simp only [List.cons_append] at hg ⊢
    exact ⟨by omega, by omega, by omega, by rw [h2, Nat.sub_self]; exact hg⟩
end
theorem good_all (n : Nd) : Good (flN 0 (-1) 1 n) 0 [] (flN 0 (-1) 1 n) := by
  have := good_flN (flN 0 (-1) 1 n) n 0 (-1) 1 [] [] (by simp) rfl rfl (by decide) trivial
  simpa using this

end Go.Proofs.YtdebekonggnckabDoor

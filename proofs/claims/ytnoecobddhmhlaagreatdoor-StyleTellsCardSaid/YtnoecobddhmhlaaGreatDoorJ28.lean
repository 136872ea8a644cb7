/-
  A new document as the document's own answer makes it, as plain mathematics: an element's children are those whose parent it is, in the order of their numbers.
-/
import Derived.Test.YtnoecobddhmhlaaGreatDoorJ6
import Derived.Test.YtnoecobddhmhlaaGreatDoorJ18
namespace Go.Proofs.YtnoecobddhmhlaaGreatDoor

/-- The numbers of those whose parent is q; the first one's number is k. -/
def kidsOf (q : Int) : Nat → List Elm → List Int
  | _, [] => []
  | k, e :: l => if e.parent = q then (k : Int) :: kidsOf q (k + 1) l else kidsOf q (k + 1) l
theorem kidsOf_app (q : Int) : ∀ (a b : List Elm) (k : Nat), kidsOf q k (a ++ b) = kidsOf q k a ++ kidsOf q (k + a.length) b
  | [], b, k => rfl
  | e :: a, b, k => by
    rw [List.cons_append, kidsOf, kidsOf, kidsOf_app q a b (k + 1), List.length_cons, show k + 1 + a.length = k + (a.length + 1) from by omega]
    split
    · rfl
    · rfl
mutual
theorem kids_low : ∀ (n : Nd) (k : Nat) (p q : Int), q < k → kidsOf q k (elN k p n) = if q = p then [(k : Int)] else []
  | .mk nm ats ks, k, p, q, hq => by
    rw [elN, kidsOf, kids_lowL ks (k + 1) k q (by omega), if_neg (show ¬ q = (k : Int) from by omega)]
    by_cases h : q = p
    · rw [if_pos h, if_pos h.symm]
    · rw [if_neg h, if_neg (fun e => h e.symm)]
theorem kids_lowL : ∀ (l : List Nd) (k : Nat) (p q : Int), q < k → kidsOf q k (elL k p l) = if q = p then kdN k l else []
  | [], k, p, q, _ => by rw [elL, kidsOf, kdN]; split <;> rfl
  | n :: l, k, p, q, hq => by
    rw [elL, kidsOf_app, kids_low n k p q hq, elN_len, kids_lowL l (k + szN n) p q (by omega), kdN]
    by_cases h : q = p
    · rw [if_pos h, if_pos h, if_pos h]; rfl
    · rw [if_neg h, if_neg h, if_neg h]; rfl
end
mutual
theorem kids_high : ∀ (n : Nd) (k : Nat) (p q : Int), p < k → (k : Int) + szN n ≤ q → kidsOf q k (elN k p n) = []
  | .mk nm ats ks, k, p, q, hp, hq => by
    rw [szN] at hq
    rw [elN, kidsOf, if_neg (show ¬ p = q from by omega)]
    exact kids_highL ks (k + 1) k q (by omega) (by omega)
theorem kids_highL : ∀ (l : List Nd) (k : Nat) (p q : Int), p < k → (k : Int) + szL l ≤ q → kidsOf q k (elL k p l) = []
  | [], k, p, q, _, _ => by rw [elL, kidsOf]
  | n :: l, k, p, q, hp, hq => by
    rw [szL] at hq
    rw [elL, kidsOf_app, elN_len, kids_high n k p q hp (by omega), kids_highL l (k + szN n) p q (by omega) (by omega)]
    rfl
end
mutual
/-- Its children are those whose parent it is. -/
theorem kids_at : ∀ (n : Nd) (k : Nat) (p : Int) (j : Nat) (e : Elm), p < k → (elN k p n)[j]? = some e → kidsOf ((k : Int) + j) k (elN k p n) = e.kids
  | .mk nm ats ks, k, p, 0, e, hp, h => by
    rw [elN] at h ⊢
    simp at h
    subst h
    rw [kidsOf, if_neg (show ¬ p = (k : Int) + (0 : Nat) from by omega), kids_lowL ks (k + 1) k _ (by omega), if_pos (by omega)]
  | .mk nm ats ks, k, p, j + 1, e, hp, h => by
    rw [elN] at h ⊢
    rw [kidsOf, if_neg (show ¬ p = (k : Int) + ((j + 1 : Nat) : Int) from by omega), show (k : Int) + ((j + 1 : Nat) : Int) = ((k + 1 : Nat) : Int) + j from by omega]
    exact kids_atL ks (k + 1) k j e (by omega) (by simpa using h)
theorem kids_atL : ∀ (l : List Nd) (k : Nat) (p : Int) (j : Nat) (e : Elm), p < k → (elL k p l)[j]? = some e → kidsOf ((k : Int) + j) k (elL k p l) = e.kids
  | [], _, _, _, _, _, h => by simp [elL] at h
  | n :: l, k, p, j, e, hp, h => by
    rw [elL] at h ⊢
    rw [kidsOf_app, elN_len]
    by_cases hj : j < szN n
    · rw [List.getElem?_append_left (by rw [elN_len]; exact hj)] at h
      rw [kids_at n k p j e hp h, kids_lowL l (k + szN n) p _ (by omega), if_neg (by omega), List.append_nil]
    · rw [List.getElem?_append_right (by rw [elN_len]; omega), elN_len] at h
      rw [kids_high n k p _ hp (by omega), List.nil_append, show (k : Int) + j = ((k + szN n : Nat) : Int) + ((j - szN n : Nat) : Int) from by omega]
      exact kids_atL l (k + szN n) p (j - szN n) e (by omega) h
end

end Go.Proofs.YtnoecobddhmhlaaGreatDoor

namespace Go.Proofs.YtnoecobddhmhlaaGreatDoor

theorem flat_congr {f g : Int → List Int} : ∀ (l : List Int), (∀ x ∈ l, f x = g x) → l.flatMap f = l.flatMap g
  | [], _ => rfl
  | x :: l, h => by
    rw [List.flatMap_cons, List.flatMap_cons, h x (List.mem_cons_self ..), flat_congr l fun y hy => h y (List.mem_cons_of_mem _ hy)]
theorem pre_kids {M : Dm} {f : Nat} {i d : Int} {e : Elm} (he : M i = some e) : (pre M (f + 1) i d).map Prod.fst = i :: e.kids.flatMap fun k => (pre M f k (d + 1)).map Prod.fst := by
  rw [pre, he]
  simp only [List.map_cons, List.map_flatMap]
theorem pre_more {M : Dm} : ∀ (f g : Nat) (i d d' : Int), Dp M f i → f ≤ g → (pre M g i d).map Prod.fst = (pre M f i d').map Prod.fst := by
  intro f
  induction f with
  | zero => intro g i d d' h _; exact h.elim
  | succ f ih =>
    intro g i d d' h hg
    obtain ⟨g, rfl⟩ : ∃ k, g = k + 1 := ⟨g - 1, by omega⟩
    cases hm : M i with
    | none => rw [pre, pre, hm]
    | some e =>
      rw [pre_kids hm, pre_kids hm]
      congr 1
      exact flat_congr _ fun k hk => ih g k _ _ (h e hm k hk) (by omega)
/-- An element and all below, each ahead of its children. -/
def allP (M : Dm) (i : Int) : List Int := (pre M 11 i 1).map Prod.fst
section
variable {M : Dm} {r : Int → Nat}
theorem Wd.allP_kids (h : Wd M r) {i : Int} {e : Elm} (he : M i = some e) : allP M i = i :: e.kids.flatMap (allP M) := by
  unfold allP
  rw [pre_kids he]
  congr 1
  refine flat_congr _ fun k hk => ?_
  obtain ⟨x, hx, _, _⟩ := h.down i e k he hk
  have hr := (h.rb k x hx).1
  have hd := h.dp 10 k x hx (by omega)
  exact (pre_more 10 10 k _ 1 hd (Nat.le_refl _)).trans (pre_more 10 11 k 1 1 hd (by omega)).symm
/-- One round: the first of what is to do is told, its children come ahead of the others. -/
theorem Wd.all_step (h : Wd M r) {i : Int} {e : Elm} (he : M i = some e) (out todo : List Int) : out ++ (i :: todo).flatMap (allP M) = (out ++ [i]) ++ (e.kids ++ todo).flatMap (allP M) := by
  rw [List.flatMap_cons, List.flatMap_append, h.allP_kids he]
  simp
/-- What is to do is in the document, and so is what comes to it. -/
theorem Wd.todo_step (h : Wd M r) {i : Int} {e : Elm} (he : M i = some e) {todo : List Int} (ht : ∀ x ∈ todo, ∃ q, M x = some q) : ∀ x ∈ e.kids ++ todo, ∃ q, M x = some q := fun x hx => by
  rcases List.mem_append.1 hx with hx | hx
  · obtain ⟨q, hq, _⟩ := h.down i e x he hx
    exact ⟨q, hq⟩
  · exact ht x hx
/-- While something is to do it is not yet all. -/
theorem Wd.all_less (h : Wd M r) {i : Int} {e : Elm} (he : M i = some e) {out todo all : List Int} (ha : out ++ (i :: todo).flatMap (allP M) = all) : out.length < all.length := by
  rw [← ha, List.flatMap_cons, h.allP_kids he]
  simp
end
/-- A new document's elements are told in the order of their numbers. -/
theorem allP_new {M : Dm} {n : Nd} {r : Int → Nat} (h : Wd M r) (hi : InN M 0 (-1) n) : allP M 0 = nums 0 (szN n) := by
  obtain ⟨e, he, _⟩ := h.root
  have hd := h.dp 11 0 e he (by have := h.r0; omega)
  have h1 := hi.pre (d := 1) (f := szN n + 11) (by omega)
  have h2 := pre_more 11 (szN n + 11) 0 1 1 hd (by omega)
  unfold allP
  rw [← h2]
  exact h1

end Go.Proofs.YtnoecobddhmhlaaGreatDoor

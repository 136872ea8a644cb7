/-
  A document as plain mathematics: elements by numbers; a node's elements; all below an element.
-/
import Derived.Test.YtnoecobddhmhlaaGreatDoorMarkM
namespace Go.Proofs.YtnoecobddhmhlaaGreatDoor

/-- An element of a document. -/
structure Elm where
  name : Bs
  ats : List (Bs × Bs)
  parent : Int
  kids : List Int
abbrev Dm := Int → Option Elm
def putE (M : Dm) (k : Int) (e : Elm) : Dm := fun i => if i = k then some e else M i
def delE (M : Dm) (k : Int) : Dm := fun i => if i = k then none else M i
/-- These elements behind the others, from this number on. -/
def extE (M : Dm) (nx : Nat) (L : List Elm) : Dm := fun i => if (nx : Int) ≤ i ∧ i < nx + L.length then L[(i - nx).toNat]? else M i
theorem extE_nil (M : Dm) (nx : Nat) : extE M nx [] = M := by
  funext i
  unfold extE
  rw [if_neg (by simp only [List.length_nil]; omega)]
theorem extE_app (M : Dm) (nx : Nat) (a b : List Elm) : extE (extE M nx a) (nx + a.length) b = extE M nx (a ++ b) := by
  funext i
  unfold extE
  simp only [List.length_append]
  by_cases h1 : ((nx + a.length : Nat) : Int) ≤ i ∧ i < ((nx + a.length : Nat) : Int) + b.length
  · rw [if_pos h1, if_pos (by omega), List.getElem?_append_right (by omega)]
    congr 1
    omega
  · rw [if_neg h1]
    by_cases h2 : (nx : Int) ≤ i ∧ i < nx + a.length
    · rw [if_pos h2, if_pos (by omega), List.getElem?_append_left (by omega)]
    · rw [if_neg h2, if_neg (by omega)]
theorem extE_one (M : Dm) (nx : Nat) (e : Elm) : extE M nx [e] = putE M nx e := by
  funext i
  unfold extE putE
  by_cases h : i = nx
  · subst h
    rw [if_pos (by simp only [List.length_cons, List.length_nil]; omega), if_pos rfl]
    simp
  · rw [if_neg (by simp only [List.length_cons, List.length_nil]; omega), if_neg h]
theorem extE_head (M : Dm) (nx : Nat) (e e' : Elm) (L : List Elm) : putE (extE M nx (e :: L)) nx e' = extE M nx (e' :: L) := by
  funext i
  unfold extE putE
  by_cases h : i = nx
  · subst h
    rw [if_pos rfl, if_pos (by simp only [List.length_cons]; omega)]
    simp
  · rw [if_neg h]
    show (if (nx : Int) ≤ i ∧ i < nx + (e :: L).length then (e :: L)[(i - nx).toNat]? else M i) = _
    by_cases h2 : (nx : Int) ≤ i ∧ i < nx + (e :: L).length
    · rw [if_pos h2, if_pos (by simpa using h2)]
      obtain ⟨j, hj⟩ : ∃ j : Nat, (i - nx).toNat = j + 1 := ⟨(i - nx).toNat - 1, by omega⟩
      rw [hj]
      simp
    · rw [if_neg h2, if_neg (by simpa using h2)]
theorem extE_at (M : Dm) (nx : Nat) (e : Elm) (L : List Elm) : extE M nx (e :: L) nx = some e := by
  unfold extE
  rw [if_pos (by simp only [List.length_cons]; omega)]
  simp
theorem extE_old {M : Dm} {nx : Nat} {L : List Elm} {i : Int} (h : i < nx) : extE M nx L i = M i := by
  unfold extE
  rw [if_neg (by omega)]
theorem extE_new {M : Dm} {nx j : Nat} {L : List Elm} (h : j < L.length) : extE M nx L ((nx : Int) + j) = L[j]? := by
  unfold extE
  rw [if_pos (by omega)]
  congr 1
  omega

mutual
/-- How many nodes there are. -/
def szN : Nd → Nat
  | .mk _ _ ks => szL ks + 1
def szL : List Nd → Nat
  | [] => 0
  | n :: l => szN n + szL l
end
theorem szN_pos (n : Nd) : 0 < szN n := by cases n; simp [szN]
theorem szL_app : ∀ a b : List Nd, szL (a ++ b) = szL a + szL b
  | [], b => by simp [szL]
  | n :: a, b => by simp [szL, szL_app a b]; omega
/-- The numbers of children. -/
def kdN (k : Nat) : List Nd → List Int
  | [] => []
  | n :: l => (k : Int) :: kdN (k + szN n) l
theorem kdN_snoc : ∀ (a : List Nd) (k : Nat) (n : Nd), kdN k (a ++ [n]) = kdN k a ++ [((k + szL a : Nat) : Int)]
  | [], k, n => by simp [kdN, szL]
  | m :: a, k, n => by
    rw [List.cons_append, kdN, kdN_snoc a, kdN, szL]
    simp [Nat.add_assoc]
mutual
/-- The elements of a node that has the number k. -/
def elN (k : Nat) (p : Int) : Nd → List Elm
  | .mk nm as ks => ⟨nm, as, p, kdN (k + 1) ks⟩ :: elL (k + 1) k ks
def elL (k : Nat) (p : Int) : List Nd → List Elm
  | [] => []
  | n :: l => elN k p n ++ elL (k + szN n) p l
end
mutual
theorem elN_len : ∀ (n : Nd) (k : Nat) (p : Int), (elN k p n).length = szN n
  | .mk nm as ks, k, p => by rw [elN, szN, List.length_cons, elL_len ks]
theorem elL_len : ∀ (l : List Nd) (k : Nat) (p : Int), (elL k p l).length = szL l
  | [], _, _ => rfl
  | n :: l, k, p => by rw [elL, szL, List.length_append, elN_len n, elL_len l]
end
mutual
theorem flN_len : ∀ (n : Nd) (k : Nat) (p : Int) (d : Nat), (flN k p d n).length = szN n
  | .mk nm as ks, k, p, d => by rw [flN, szN, List.length_cons, flL_len ks]
theorem flL_len : ∀ (l : List Nd) (k : Nat) (p : Int) (d : Nat), (flL k p d l).length = szL l
  | [], _, _, _ => rfl
  | n :: l, k, p, d => by rw [flL, szL, List.length_append, flN_len n, flL_len l]
end
theorem elL_snoc : ∀ (a : List Nd) (k : Nat) (p : Int) (n : Nd), elL k p (a ++ [n]) = elL k p a ++ elN (k + szL a) p n
  | [], k, p, n => by simp [elL, szL]
  | m :: a, k, p, n => by
    rw [List.cons_append, elL, elL_snoc a, elL, szL]
    simp [Nat.add_assoc]
mutual
/-- What is flat of an element. -/
theorem elN_fl : ∀ (n : Nd) (k : Nat) (p : Int) (d : Nat), (elN k p n).map (fun e => (e.name, e.ats, e.parent)) = (flN k p d n).map (fun f => (f.name, f.attrs, f.parent))
  | .mk nm as ks, k, p, d => by
    rw [elN, flN, List.map_cons, List.map_cons, elL_fl ks (k + 1) k (d + 1)]
theorem elL_fl : ∀ (l : List Nd) (k : Nat) (p : Int) (d : Nat), (elL k p l).map (fun e => (e.name, e.ats, e.parent)) = (flL k p d l).map (fun f => (f.name, f.attrs, f.parent))
  | [], _, _, _ => rfl
  | n :: l, k, p, d => by
    rw [elL, flL, List.map_append, List.map_append, elN_fl n k p d, flN_len, elL_fl l]
end

/-- All below an element end within so many steps. -/
def Dp (M : Dm) : Nat → Int → Prop
  | 0, _ => False
  | f + 1, i => ∀ e, M i = some e → ∀ k ∈ e.kids, Dp M f k
/-- An element and all below, each with how deep it lies. -/
def pre (M : Dm) : Nat → Int → Int → List (Int × Int)
  | 0, _, _ => []
  | f + 1, i, d => match M i with
    | none => []
    | some e => (i, d) :: e.kids.flatMap (fun k => pre M f k (d + 1))
theorem Dp.mono {M : Dm} : ∀ {f : Nat} {i : Int}, Dp M f i → Dp M (f + 1) i
  | 0, _, h => h.elim
  | _ + 1, _, h => fun e he k hk => Dp.mono (h e he k hk)
theorem pre_mono {M : Dm} : ∀ {f : Nat} {i : Int} (d : Int), Dp M f i → pre M (f + 1) i d = pre M f i d
  | 0, _, _, h => h.elim
  | f + 1, i, d, h => by
    rw [pre]
    conv => rhs; rw [pre]
    cases he : M i with
    | none => rfl
    | some e =>
      simp only [List.cons.injEq, true_and]
      have key : ∀ l : List Int, (∀ k ∈ l, Dp M f k) → l.flatMap (fun k => pre M (f + 1) k (d + 1)) = l.flatMap (fun k => pre M f k (d + 1)) := fun l => by
        induction l with
        | nil => intro _; rfl
        | cons a l ih =>
          intro hl
          rw [List.flatMap_cons, List.flatMap_cons, pre_mono (d + 1) (hl a (by simp)), ih (fun k hk => hl k (by simp [hk]))]
      exact key _ (h e he)

end Go.Proofs.YtnoecobddhmhlaaGreatDoor

/-
  DocNew: what its walk needs.
-/
import Derived.Test.YtmlajdhkkcmjnacDoorDocs1
import Derived.OwnWalk
namespace Go.Proofs.YtmlajdhkkcmjnacDoor
open Go.RowKit

/-- A row of truths. -/
def BR (w : World) (b m : Nat) (f : Nat → Bool) : Prop := ∃ cur, w.heap[b]? = some (.cells cur 4) ∧ cur.size = m ∧ ∀ j, j < m → cur[j]? = some (.bool (f j))
theorem BR.cell {w : World} {b m : Nat} {f : Nat → Bool} (h : BR w b m f) {j : Nat} (hj : j < m) : w.cell? ⟨b, j, none⟩ = some (.bool (f j)) := by
  obtain ⟨cur, h1, -, h3⟩ := h
  exact bcell h1 j _ (h3 j hj)
theorem BR.froz {w : World} {b m : Nat} {f : Nat → Bool} (h : BR w b m f) (j : Nat) : w.frozen? ⟨b, j, none⟩ = false := by
  obtain ⟨cur, h1, -⟩ := h
  exact froz_at h1 j
theorem BR.lt {w : World} {b m : Nat} {f : Nat → Bool} (h : BR w b m f) : b < w.heap.size := by
  obtain ⟨cur, h1, -⟩ := h
  exact heap_lt h1
theorem BR.same {w w' : World} {b m : Nat} {f : Nat → Bool} (h : BR w b m f) (hb : w'.heap[b]? = w.heap[b]?) : BR w' b m f := by
  obtain ⟨cur, h1, h2⟩ := h
  exact ⟨cur, hb.trans h1, h2⟩
theorem BR.set {w : World} {b m : Nat} {f g : Nat → Bool} (h : BR w b m f) (i : Nat) (v : Bool) (hg : ∀ j, j < m → g j = if j = i then v else f j) : BR (w.setCell ⟨b, i, none⟩ (.bool v)) b m g := by
  obtain ⟨cur, h1, h2, h3⟩ := h
  refine ⟨cur.setIfInBounds i (.bool v), heap_setCell_same w b i _ _ _ h1, by simpa using h2, fun j hj => ?_⟩
  rw [Array.getElem?_setIfInBounds, hg j hj]
  by_cases hij : i = j
  · subst hij
    rw [if_pos rfl, if_pos (by omega), if_pos rfl]
  · rw [if_neg hij, if_neg (fun e => hij e.symm)]
    exact h3 j hj
theorem BR.re {w : World} {b m : Nat} {f g : Nat → Bool} (h : BR w b m f) (hg : ∀ j, j < m → g j = f j) : BR w b m g := by
  obtain ⟨cur, h1, h2, h3⟩ := h
  exact ⟨cur, h1, h2, fun j hj => by rw [hg j hj]; exact h3 j hj⟩
theorem boolInfo : (Tryd.prog.info? 4).map (fun i => (i.zero, i.size, i.bytes)) = some (some (.bool false), 1, 1) := by kernel_rfl
theorem BR.made {w : World} {b m : Nat} {B : Nat} (h : w.ownsRow B 4 1 (.slice (some ⟨b, 0, none⟩) m m) m (madeCells (Value.bool false).cells (m * 1)).toList) : BR w b m (fun _ => false) := by
  rcases h.2 with ⟨h1, -⟩ | ⟨g, cap, cur, h1, -, h3, -, -, h6, h7⟩
  · cases h1
  · cases h1
    rw [Nat.mul_one] at h6 h7
    refine ⟨cur, h3, h6, fun j hj => ?_⟩
    have h8 : (cur.toList.take m)[j]? = some (.bool false) := by
      rw [h7]
      simp [madeCells, Value.cells, hj, Nat.mod_one]
    rw [List.getElem?_take, if_pos hj, Array.getElem?_toList] at h8
    exact h8
theorem grown_set (w : World) (b i : Nat) (v : Value) : w.grownBy (w.setCell ⟨b, i, none⟩ v) (some b) := by
  have h := (Below.refl b w).setCell (p := ⟨b, i, none⟩) (Nat.le_refl _) v
  exact ⟨h.os, h.tape, h.output, h.size, fun x _ hx => Below.heap_setCell _ _ _ x (fun e => hx (by rw [e]))⟩
/-- Between two numbers. -/
def inI (a s j : Nat) : Bool := decide (a ≤ j ∧ j < a + s)
/-- How many of the first ones lie between. -/
def cntI (a s i : Nat) : Nat := min i (a + s) - min i a
theorem cntI_in {a s i : Nat} (h : inI a s i = true) : cntI a s (i + 1) = cntI a s i + 1 := by
  unfold inI at h
  simp at h
  unfold cntI
  omega
theorem cntI_out {a s i : Nat} (h : inI a s i = false) : cntI a s (i + 1) = cntI a s i := by
  unfold inI at h
  simp at h
  unfold cntI
  omega
theorem cntI_all {a s m : Nat} (h : a + s ≤ m) : cntI a s m = s := by
  unfold cntI
  omega
theorem cut_any (n : Nd) (w : Nat) (hw : w < szN n) : ∃ s, w + s ≤ szN n ∧ 0 < s ∧ Own (elN 0 (-1) n) 0 w s ∧ (w ≠ 0 → ∃ e q, CutAt n w s e q) := by
  by_cases h0 : w = 0
  · obtain ⟨m, p', -, h2, h3⟩ := elN_sub n 0 (-1) w (InN.ext (fun _ => none) 0 (-1) n) (by decide) (Nat.zero_le _) (by omega)
    exact ⟨szN m, by omega, szN_pos m, h3, fun h => absurd h0 h⟩
  · obtain ⟨s, e, q, h⟩ := cut_at n w hw h0
    exact ⟨s, h.fits, h.pos, h.own, fun _ => ⟨e, q, h⟩⟩
/-- The parents of flat ones. -/
structure Pars (m a s : Nat) (pr : Nat → Int) : Prop where
  lo : ∀ i, i < m → -1 ≤ pr i ∧ pr i < i
  inn : ∀ i, i < m → i ≠ a → inI a s i = true → (a : Int) ≤ pr i ∧ pr i < a + s
  out : ∀ i, i < m → inI a s i = false ∨ i = a → ¬ ((a : Int) ≤ pr i ∧ pr i < a + s)
/-- The parent's number. -/
def parF (n : Nd) (i : Nat) : Int := match (flN 0 (-1) 1 n)[i]? with | some f => f.parent | none => -1
theorem pars_of {n : Nd} {a s : Nat} (ho : Own (elN 0 (-1) n) 0 a s) : Pars (szN n) a s (parF n) := by
  have key : ∀ i, i < szN n → ∃ f e, (flN 0 (-1) 1 n)[i]? = some f ∧ (elN 0 (-1) n)[i]? = some e ∧ e.parent = f.parent := fun i hi => by
    have hl : i < (flN 0 (-1) 1 n).length := by rw [flN_len]; exact hi
    obtain ⟨e, h1, h2⟩ := fl_el (List.getElem?_eq_getElem hl)
    exact ⟨_, e, List.getElem?_eq_getElem hl, h1, h2⟩
  refine ⟨fun i hi => ?_, fun i hi hne hin => ?_, fun i hi hout => ?_⟩
  · obtain ⟨f, e, h1, h2, h3⟩ := key i hi
    unfold parF
    simp only [h1]
    have h4 := elN_lt n 0 (-1) i e h2 (by decide)
    have h5 := elN_par n 0 (-1) i e h2
    omega
  · obtain ⟨f, e, h1, h2, h3⟩ := key i hi
    unfold parF
    simp only [h1]
    unfold inI at hin
    simp at hin
    have := (ho i e h2).1 (by omega)
    omega
  · obtain ⟨f, e, h1, h2, h3⟩ := key i hi
    unfold parF
    simp only [h1]
    rcases hout with hout | rfl
    · unfold inI at hout
      simp at hout
      have := (ho i e h2).2 (by omega)
      omega
    · have h4 := elN_lt n 0 (-1) i e h2 (by decide)
      omega
theorem FlRs.at {w : World} : ∀ {M : List FlM} {L : List Fl} {i : Nat} {x : FlM}, FlRs w M L → M[i]? = some x → ∃ f, L[i]? = some f ∧ x.parent = f.parent
  | [], [], _, _, _, h => by simp at h
  | y :: r, f :: l, 0, x, h, hx => by
    simp at hx
    subst hx
    exact ⟨f, rfl, h.1.2.2.1⟩
  | y :: r, f :: l, i + 1, x, h, hx => by
    obtain ⟨f', h1, h2⟩ := FlRs.at (M := r) (L := l) (i := i) (x := x) h.2 (by simpa using hx)
    exact ⟨f', by simpa using h1, h2⟩
  | [], _ :: _, _, _, h, _ => h.elim
  | _ :: _, [], _, _, h, _ => h.elim

/-- What is left. -/
abbrev leftD (n : Nd) (w s : Nat) (e q : Elm) : Dm := cutE (putE (newD n) e.parent ⟨q.name, q.ats, q.parent, woL q.kids w⟩) (nums w s)
theorem left_in {n : Nd} {w s : Nat} {e q : Elm} (h : CutAt n w s e q) : ∀ k ∈ nums w s, putE (newD n) e.parent ⟨q.name, q.ats, q.parent, woL q.kids w⟩ k ≠ none := fun k hk => by
  rw [mem_nums] at hk
  have h1 := h.fits
  have h2 := h.low
  unfold putE
  rw [if_neg (by omega)]
  obtain ⟨j, rfl⟩ : ∃ j : Nat, k = j := ⟨k.toNat, by omega⟩
  rw [newD_at (by omega), List.getElem?_eq_getElem (by rw [elN_len]; omega)]
  simp
theorem left_none {n : Nd} {w s i : Nat} {e q : Elm} (hi : inI w s i = true) : leftD n w s e q i = none := by
  unfold inI at hi
  simp at hi
  unfold leftD cutE
  rw [if_pos (by rw [mem_nums]; omega)]
theorem left_some {n : Nd} {w s i : Nat} {e q : Elm} (h : CutAt n w s e q) (hc : (ckN n 1 0).1 = 0) (hn : i < szN n) (hi : inI w s i = false) : ∃ f, leftD n w s e q i = some f ∧ f.name ≠ [] := by
  have key : ∀ (j : Int) (f : Elm), newD n j = some f → f.name ≠ [] := fun j f hf => by
    unfold newD extE at hf
    split at hf
    · obtain ⟨c, r, h1, -⟩ := isNm_head (elN_nm n 0 (-1) (ckN_ok n 1 0 hc) f (List.mem_of_getElem? hf))
      rw [h1]
      simp
    · cases hf
  unfold inI at hi
  simp at hi
  unfold leftD cutE
  rw [if_neg (by rw [mem_nums]; omega)]
  unfold putE
  by_cases hp : (i : Int) = e.parent
  · rw [if_pos hp]
    exact ⟨_, rfl, key _ q h.par⟩
  · rw [if_neg hp, newD_at hn, List.getElem?_eq_getElem (by rw [elN_len]; exact hn)]
    exact ⟨_, rfl, key i _ (by rw [newD_at hn]; exact List.getElem?_eq_getElem (by rw [elN_len]; exact hn))⟩
theorem left_root {n : Nd} {w s : Nat} {e q : Elm} (h : CutAt n w s e q) : (∃ r, leftD n w s e q 0 = some r ∧ r.parent = -1 ∧ r.kids.length ≤ szN n) ∧ leftD n w s e q (-1) = none := by
  have h2 := h.low
  obtain ⟨r, h3, h4, h5⟩ := newD_root n
  constructor
  · unfold leftD cutE
    rw [if_neg (by rw [mem_nums]; omega)]
    unfold putE
    by_cases hp : (0 : Int) = e.parent
    · rw [if_pos hp]
      have h6 := h.par
      rw [← hp, h3] at h6
      cases h6
      exact ⟨_, rfl, h4, Nat.le_trans (List.length_filter_le _ _) h5⟩
    · rw [if_neg hp]
      exact ⟨r, h3, h4, h5⟩
  · unfold leftD cutE
    rw [if_neg (by rw [mem_nums]; omega)]
    unfold putE
    rw [if_neg (by omega)]
    exact newD_none (by decide)
/-- A root that more may be added to. -/
def RootD (D : Dm) (m : Nat) : Prop := (∃ r, D 0 = some r ∧ r.parent = -1 ∧ r.kids.length ≤ m) ∧ D (-1) = none
theorem RootD.add {D : Dm} {m k : Nat} {r : Elm} (hp : r.parent = -1) (hk : r.kids.length ≤ m) (hn : D (-1) = none) (x : Elm) : RootD (putE (putE D (k : Int) x) 0 ⟨r.name, r.ats, r.parent, insAt r.kids 0 k⟩) (m + 1) := by
  refine ⟨⟨⟨r.name, r.ats, r.parent, insAt r.kids 0 k⟩, by unfold putE; rw [if_pos rfl], hp, ?_⟩, ?_⟩
  · show (insAt r.kids 0 k).length ≤ m + 1
    rw [insAt_len _ _ _ (Nat.zero_le _)]
    omega
  · unfold putE
    rw [if_neg (by decide), if_neg (by omega)]
    exact hn

end Go.Proofs.YtmlajdhkkcmjnacDoor

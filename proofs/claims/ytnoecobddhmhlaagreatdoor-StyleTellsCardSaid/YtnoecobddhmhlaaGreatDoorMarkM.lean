/-
  Nodes as plain mathematics: their texts, their flat lists; two nodes have one text only if they are one, and one flat list only if they are one.
-/
import Derived.WalkKit
namespace Go.Proofs.YtnoecobddhmhlaaGreatDoor

abbrev Bs := List UInt8

/-- A node: its name, its attributes, its children. -/
inductive Nd where
  | mk (name : Bs) (attrs : List (Bs × Bs)) (kids : List Nd)

/-- What stands for a byte of a value. -/
def escB (c : UInt8) : Bs := if c = 60 then [38, 108, 116, 59] else if c = 62 then [38, 103, 116, 59] else if c = 38 then [38, 97, 109, 112, 59] else if c = 34 then [38, 113, 117, 111, 116, 59] else [c]
def escV : Bs → Bs
  | [] => []
  | c :: v => escB c ++ escV v
/-- The text of one attribute. -/
def atT (a : Bs × Bs) : Bs := 32 :: (a.1 ++ 61 :: 34 :: (escV a.2 ++ [34]))
def atsT : List (Bs × Bs) → Bs
  | [] => []
  | a :: l => atT a ++ atsT l
mutual
/-- The text of a node. -/
def txt : Nd → Bs
  | .mk nm as ks => 60 :: (nm ++ (atsT as ++ (match ks with
    | [] => [47, 62]
    | k :: l => 62 :: (txt k ++ (txtL l ++ 60 :: 47 :: (nm ++ [62]))))))
def txtL : List Nd → Bs
  | [] => []
  | k :: l => txt k ++ txtL l
end
theorem txt_nil (nm : Bs) (as : List (Bs × Bs)) : txt (.mk nm as []) = 60 :: (nm ++ (atsT as ++ [47, 62])) := by simp [txt]
theorem txt_cons (nm : Bs) (as : List (Bs × Bs)) (k : Nd) (l : List Nd) : txt (.mk nm as (k :: l)) = 60 :: (nm ++ (atsT as ++ 62 :: (txtL (k :: l) ++ 60 :: 47 :: (nm ++ [62])))) := by simp [txt, txtL]

/-- A byte of a name. -/
def letB (c : UInt8) : Bool := decide (97 ≤ c) && decide (c ≤ 122)
def digB (c : UInt8) : Bool := decide (48 ≤ c) && decide (c ≤ 57)
def nmB (c : UInt8) : Bool := letB c || digB c || c == 45
/-- Is it a name? -/
def isNm (s : Bs) : Bool := match s with
  | [] => false
  | c :: r => decide ((c :: r).length ≤ 12) && letB c && r.all nmB
/-- Is it a value? -/
def isVal (s : Bs) : Bool := decide (s.length ≤ 200) && s.all (fun c => !(decide (c < 32)) && !(decide (126 < c)))

theorem isNm_all {s : Bs} (h : isNm s = true) : ∀ c ∈ s, nmB c = true := by
  cases s with
  | nil => simp
  | cons c r =>
    simp only [isNm, Bool.and_eq_true, List.all_eq_true] at h
    intro d hd
    rcases List.mem_cons.1 hd with rfl | hd
    · simp [nmB, h.1.2]
    · exact h.2 d hd
theorem isNm_head {s : Bs} (h : isNm s = true) : ∃ c r, s = c :: r ∧ nmB c = true := by
  cases s with
  | nil => simp [isNm] at h
  | cons c r => exact ⟨c, r, rfl, isNm_all h c (by simp)⟩

mutual
/-- Names are names, all the way down. -/
def gd : Nd → Prop
  | .mk nm as ks => isNm nm = true ∧ (∀ a ∈ as, isNm a.1 = true) ∧ gdL ks
def gdL : List Nd → Prop
  | [] => True
  | k :: l => gd k ∧ gdL l
end

/-- A beginning of bytes of one kind is told by what stands behind it. -/
theorem span_inj (P : UInt8 → Bool) : ∀ (a b x y : Bs), (∀ c ∈ a, P c = true) → (∀ c ∈ b, P c = true) → (∀ c, x.head? = some c → P c = false) → (∀ c, y.head? = some c → P c = false) → a ++ x = b ++ y → a = b ∧ x = y
  | [], [], _, _, _, _, _, _, h => ⟨rfl, h⟩
  | [], d :: b, x, y, _, hb, hx, _, h => by
    have := hx d (by rw [List.nil_append] at h; rw [h]; rfl)
    rw [hb d (by simp)] at this
    cases this
  | c :: a, [], x, y, ha, _, _, hy, h => by
    have := hy c (by rw [List.nil_append] at h; rw [← h]; rfl)
    rw [ha c (by simp)] at this
    cases this
  | c :: a, d :: b, x, y, ha, hb, hx, hy, h => by
    simp only [List.cons_append, List.cons.injEq] at h
    obtain ⟨rfl, h⟩ := h
    obtain ⟨rfl, rfl⟩ := span_inj P a b x y (fun e he => ha e (by simp [he])) (fun e he => hb e (by simp [he])) hx hy h
    exact ⟨rfl, rfl⟩

theorem escB_inj {c d : UInt8} {x y : Bs} (h : escB c ++ x = escB d ++ y) : c = d ∧ x = y := by
  unfold escB at h
  repeat' split at h
  all_goals simp_all
theorem escB_quote {d : UInt8} {x y : Bs} (h : (34 : UInt8) :: x = escB d ++ y) : False := by
  unfold escB at h
  repeat' split at h
  all_goals simp_all
theorem escV_inj : ∀ (v w x y : Bs), escV v ++ 34 :: x = escV w ++ 34 :: y → v = w ∧ x = y
  | [], [], x, y, h => by simpa [escV] using h
  | [], d :: w, x, y, h => by
    simp only [escV, List.nil_append, List.append_assoc] at h
    exact (escB_quote h).elim
  | c :: v, [], x, y, h => by
    simp only [escV, List.nil_append, List.append_assoc] at h
    exact (escB_quote h.symm).elim
  | c :: v, d :: w, x, y, h => by
    simp only [escV, List.append_assoc] at h
    replace h := escB_inj h
    obtain ⟨rfl, h⟩ := h
    obtain ⟨rfl, rfl⟩ := escV_inj v w x y h
    exact ⟨rfl, rfl⟩

theorem atT_inj {a b : Bs × Bs} {x y : Bs} (ha : isNm a.1 = true) (hb : isNm b.1 = true) (h : atT a ++ x = atT b ++ y) : a = b ∧ x = y := by
  obtain ⟨a1, a2⟩ := a
  obtain ⟨b1, b2⟩ := b
  simp only [atT, List.cons_append, List.append_assoc, List.cons.injEq, true_and, List.nil_append] at h
  replace h := span_inj nmB a1 b1 _ _ (isNm_all ha) (isNm_all hb) (by simp; decide) (by simp; decide) h
  obtain ⟨rfl, h⟩ := h
  simp only [List.cons.injEq, true_and] at h
  obtain ⟨rfl, rfl⟩ := escV_inj _ _ _ _ h
  exact ⟨rfl, rfl⟩
theorem atsT_inj : ∀ (a b : List (Bs × Bs)) (x y : Bs), (∀ c ∈ a, isNm c.1 = true) → (∀ c ∈ b, isNm c.1 = true) → x.head? ≠ some 32 → y.head? ≠ some 32 → atsT a ++ x = atsT b ++ y → a = b ∧ x = y
  | [], [], _, _, _, _, _, _, h => ⟨rfl, h⟩
  | [], d :: b, x, y, _, _, hx, _, h => (hx (by rw [show x = _ from h]; rfl)).elim
  | c :: a, [], x, y, _, _, _, hy, h => (hy (by rw [← show _ = y from h]; rfl)).elim
  | c :: a, d :: b, x, y, ha, hb, hx, hy, h => by
    simp only [atsT, List.append_assoc] at h
    replace h := atT_inj (ha c (by simp)) (hb d (by simp)) h
    obtain ⟨rfl, h⟩ := h
    obtain ⟨rfl, rfl⟩ := atsT_inj a b x y (fun e he => ha e (by simp [he])) (fun e he => hb e (by simp [he])) hx hy h
    exact ⟨rfl, rfl⟩

/-- What stands behind a name. -/
theorem atsT_head (as : List (Bs × Bs)) (z : Bs) (hz : ∀ c, z.head? = some c → nmB c = false) : ∀ c, (atsT as ++ z).head? = some c → nmB c = false := by
  cases as with
  | nil => simpa [atsT] using hz
  | cons a l => intro c h; simp [atsT, atT] at h; subst h; decide

mutual
theorem txt_inj : ∀ (a b : Nd) (x y : Bs), gd a → gd b → txt a ++ x = txt b ++ y → a = b ∧ x = y
  | .mk n1 a1 [], .mk n2 a2 k2, x, y, ga, gb, h => by
    rw [txt_nil] at h
    cases k2 with
    | nil =>
      rw [txt_nil] at h
      simp only [List.cons_append, List.append_assoc, List.cons.injEq, true_and, List.nil_append] at h
      replace h := span_inj nmB _ _ _ _ (isNm_all ga.1) (isNm_all gb.1) (atsT_head _ _ (by simp; decide)) (atsT_head _ _ (by simp; decide)) h
      obtain ⟨rfl, h⟩ := h
      replace h := atsT_inj _ _ _ _ ga.2.1 gb.2.1 (by simp) (by simp) h
      obtain ⟨rfl, h⟩ := h
      simp only [List.cons.injEq, true_and] at h
      exact ⟨rfl, h⟩
    | cons k l =>
      rw [txt_cons] at h
      simp only [List.cons_append, List.append_assoc, List.cons.injEq, true_and, List.nil_append] at h
      replace h := span_inj nmB _ _ _ _ (isNm_all ga.1) (isNm_all gb.1) (atsT_head _ _ (by simp; decide)) (atsT_head _ _ (by simp; decide)) h
      obtain ⟨rfl, h⟩ := h
      replace h := atsT_inj _ _ _ _ ga.2.1 gb.2.1 (by simp) (by simp) h
      obtain ⟨rfl, h⟩ := h
      simp at h
  | .mk n1 a1 (k1 :: l1), .mk n2 a2 k2, x, y, ga, gb, h => by
    rw [txt_cons] at h
    cases k2 with
    | nil =>
      rw [txt_nil] at h
      simp only [List.cons_append, List.append_assoc, List.cons.injEq, true_and, List.nil_append] at h
      replace h := span_inj nmB _ _ _ _ (isNm_all ga.1) (isNm_all gb.1) (atsT_head _ _ (by simp; decide)) (atsT_head _ _ (by simp; decide)) h
      obtain ⟨rfl, h⟩ := h
      replace h := atsT_inj _ _ _ _ ga.2.1 gb.2.1 (by simp) (by simp) h
      obtain ⟨rfl, h⟩ := h
      simp at h
    | cons k l =>
      rw [txt_cons] at h
      simp only [List.cons_append, List.append_assoc, List.cons.injEq, true_and, List.nil_append] at h
      replace h := span_inj nmB _ _ _ _ (isNm_all ga.1) (isNm_all gb.1) (atsT_head _ _ (by simp; decide)) (atsT_head _ _ (by simp; decide)) h
      obtain ⟨rfl, h⟩ := h
      replace h := atsT_inj _ _ _ _ ga.2.1 gb.2.1 (by simp) (by simp) h
      obtain ⟨rfl, h⟩ := h
      simp only [List.cons.injEq, true_and] at h
      obtain ⟨e, h2⟩ := txtL_inj (k1 :: l1) (k :: l) _ _ ga.2.2 gb.2.2 h
      have h' := List.append_cancel_left h2
      simp only [List.cons.injEq, true_and] at h'
      exact ⟨by rw [e], h'⟩
theorem txtL_inj : ∀ (a b : List Nd) (x y : Bs), gdL a → gdL b → txtL a ++ 60 :: 47 :: x = txtL b ++ 60 :: 47 :: y → a = b ∧ x = y
  | [], [], x, y, _, _, h => by simpa [txtL] using h
  | [], .mk n2 a2 k2 :: b, x, y, _, gb, h => by
    obtain ⟨c, r, hc, hn⟩ := isNm_head gb.1.1
    cases k2 <;> simp [txtL, txt, hc] at h
    all_goals (obtain ⟨h, -⟩ := h; subst h; exact absurd hn (by decide))
  | .mk n2 a2 k2 :: a, [], x, y, ga, _, h => by
    obtain ⟨c, r, hc, hn⟩ := isNm_head ga.1.1
    cases k2 <;> simp [txtL, txt, hc] at h
    all_goals (obtain ⟨h, -⟩ := h; subst h; exact absurd hn (by decide))
  | k :: a, l :: b, x, y, ga, gb, h => by
    simp only [txtL, List.append_assoc] at h
    replace h := txt_inj k l _ _ ga.1 gb.1 h
    obtain ⟨rfl, h⟩ := h
    obtain ⟨rfl, rfl⟩ := txtL_inj a b x y ga.2 gb.2 h
    exact ⟨rfl, rfl⟩
end

/-- One of a flat list: its name, its attributes, its parent's number, how deep it lies. -/
structure Fl where
  name : Bs
  attrs : List (Bs × Bs)
  parent : Int
  deep : Nat

mutual
/-- The flat list of a node that has the number k. -/
def flN (k : Nat) (p : Int) (d : Nat) : Nd → List Fl
  | .mk nm as ks => ⟨nm, as, p, d⟩ :: flL (k + 1) k (d + 1) ks
def flL (k : Nat) (p : Int) (d : Nat) : List Nd → List Fl
  | [] => []
  | n :: l => flN k p d n ++ flL (k + (flN k p d n).length) p d l
end
theorem flN_head (k : Nat) (p : Int) (d : Nat) (n : Nd) : ∃ f r, flN k p d n = f :: r ∧ f.parent = p := by
  cases n with
  | mk nm as ks => exact ⟨_, _, by rw [flN], rfl⟩

mutual
theorem flN_inj : ∀ (a b : Nd) (k : Nat) (p : Int) (d : Nat) (x y : List Fl), p < k → (∀ f, x.head? = some f → f.parent ≤ p) → (∀ f, y.head? = some f → f.parent ≤ p) → flN k p d a ++ x = flN k p d b ++ y → a = b ∧ x = y
  | .mk n1 a1 k1, .mk n2 a2 k2, k, p, d, x, y, hp, hx, hy, h => by
    simp only [flN, List.cons_append, List.cons.injEq, Fl.mk.injEq, and_true] at h
    obtain ⟨⟨rfl, rfl⟩, h⟩ := h
    obtain ⟨rfl, rfl⟩ := flL_inj k1 k2 (k + 1) k (d + 1) x y (by omega) (fun f hf => by have := hx f hf; omega) (fun f hf => by have := hy f hf; omega) h
    exact ⟨rfl, rfl⟩
theorem flL_inj : ∀ (a b : List Nd) (k : Nat) (p : Int) (d : Nat) (x y : List Fl), p < k → (∀ f, x.head? = some f → f.parent < p) → (∀ f, y.head? = some f → f.parent < p) → flL k p d a ++ x = flL k p d b ++ y → a = b ∧ x = y
  | [], [], _, _, _, _, _, _, _, _, h => by simpa [flL] using h
  | [], n :: b, k, p, d, x, y, hp, hx, hy, h => by
    obtain ⟨f, r, e, hf⟩ := flN_head k p d n
    have := hx f (by simp only [flL, List.nil_append] at h; rw [h, e]; rfl)
    omega
  | n :: a, [], k, p, d, x, y, hp, hx, hy, h => by
    obtain ⟨f, r, e, hf⟩ := flN_head k p d n
    have := hy f (by simp only [flL, List.nil_append] at h; rw [← h, e]; rfl)
    omega
  | n :: a, m :: b, k, p, d, x, y, hp, hx, hy, h => by
    simp only [flL, List.append_assoc] at h
    have hd : ∀ (l : List Nd) (q : Nat) (z : List Fl), (∀ f, z.head? = some f → f.parent < p) → ∀ f, (flL q p d l ++ z).head? = some f → f.parent ≤ p := fun l q z hz f hf => by
      cases l with
      | nil => have := hz f (by simpa [flL] using hf); omega
      | cons c l =>
        obtain ⟨g, r, e, hg⟩ := flN_head q p d c
        simp [flL, e] at hf
        subst hf
        omega
    replace h := flN_inj n m k p d _ _ hp (hd a _ x hx) (hd b _ y hy) h
    obtain ⟨rfl, h⟩ := h
    obtain ⟨rfl, rfl⟩ := flL_inj a b _ p d x y (by omega) hx hy h
    exact ⟨rfl, rfl⟩
end

/-- Two nodes have one flat list only if they are one. -/
theorem flats_one {a b : Nd} (h : flN 0 (-1) 1 a = flN 0 (-1) 1 b) : a = b :=
  (flN_inj a b 0 (-1) 1 [] [] (by decide) (by simp) (by simp) (by simpa using h)).1
/-- Two nodes have one text only if they are one. -/
theorem txt_one {a b : Nd} (ga : gd a) (gb : gd b) (h : txt a = txt b) : a = b :=
  (txt_inj a b [] [] ga gb (by simpa using h)).1

end Go.Proofs.YtnoecobddhmhlaaGreatDoor

/-
  A node's text is read as that node.
-/
import Derived.Test.YtdebekonggnckabDoorMarkQ
namespace Go.Proofs.YtdebekonggnckabDoor

theorem nmB_eB {c : UInt8} (h : nmB c = true) : eB c = false := by
  cases he : eB c with
  | false => rfl
  | true =>
    unfold eB at he
    simp only [Bool.or_eq_true, beq_iff_eq] at he
    rcases he with ((((rfl | rfl) | rfl) | rfl) | rfl) | rfl <;> exact absurd h (by decide)
theorem tkE_of {nm : Bs} {d : UInt8} {r : Bs} (h : isNm nm = true) (hd : eB d = true) : tkE (nm ++ d :: r) = nm ∧ drE (nm ++ d :: r) = d :: r := by
  have hp : ∀ c ∈ nm, (!eB c) = true := fun c hc => by rw [nmB_eB (isNm_all h c hc)]; rfl
  unfold tkE drE
  rw [List.takeWhile_append_of_pos hp, List.dropWhile_append_of_pos hp, List.takeWhile_cons_of_neg (by simp [hd]), List.dropWhile_cons_of_neg (by simp [hd])]
  simp
theorem rdV_step {c : UInt8} (h : mB c = false) (f : Nat) (s : Bs) : rdV (f + 1) (c :: s) = preV [c] (rdV (f + 1) s) := by
  have h1 : tkM (c :: s) = c :: tkM s := List.takeWhile_cons_of_pos (by simp [h])
  have h2 : drM (c :: s) = drM s := List.dropWhile_cons_of_pos (by simp [h])
  rw [rdV, rdV, h1, h2]
  split
  · rfl
  · cases mkW (drM s) with
    | none => rfl
    | some p => simp [preV_app]
theorem drM_mark {c : UInt8} (h : mB c = true) (s : Bs) : drM (c :: s) = c :: s ∧ tkM (c :: s) = [] := ⟨List.dropWhile_cons_of_neg (by simp [h]), List.takeWhile_cons_of_neg (by simp [h])⟩
theorem mkW_esc {c : UInt8} (h : mB c = true) (x : Bs) : mkW (escB c ++ x) = some (c, x) ∧ ∃ r, escB c ++ x = 38 :: r := by
  unfold mB at h
  simp only [Bool.or_eq_true, beq_iff_eq] at h
  rcases h with ((rfl | rfl) | rfl) | rfl
  · exact ⟨by simp [mkW, escB], ⟨_, rfl⟩⟩
  · exact ⟨by simp [mkW, escB], ⟨_, rfl⟩⟩
  · exact ⟨by simp [mkW, escB], ⟨_, rfl⟩⟩
  · exact ⟨by simp [mkW, escB], ⟨_, rfl⟩⟩
theorem escB_plain {c : UInt8} (h : mB c = false) : escB c = [c] := by
  unfold mB at h
  simp only [Bool.or_eq_false_iff, beq_eq_false_iff_ne] at h
  unfold escB
  rw [if_neg h.1.1.1, if_neg h.1.1.2, if_neg h.1.2, if_neg h.2]
theorem rdV_esc : ∀ (v : Bs) (f : Nat) (x : Bs), v.length < f → rdV f (escV v ++ 34 :: x) = some (v, x)
  | [], 0, _, h => by simp at h
  | [], f + 1, x, _ => by
    obtain ⟨h1, h2⟩ := drM_mark (c := 34) rfl x
    rw [escV, List.nil_append, rdV, h1, h2]
    simp
  | c :: v, 0, _, h => by simp at h
  | c :: v, f + 1, x, h => by
    rw [escV, List.append_assoc]
    cases hm : mB c with
    | false =>
      rw [escB_plain hm]
      show rdV (f + 1) (c :: (escV v ++ 34 :: x)) = _
      rw [rdV_step hm, rdV_esc v (f + 1) x (by simp at h; omega)]
      rfl
    | true =>
      obtain ⟨h1, r, h2⟩ := mkW_esc hm (escV v ++ 34 :: x)
      rw [h2] at h1 ⊢
      obtain ⟨h3, h4⟩ := drM_mark (c := 38) rfl r
      rw [rdV, h3, h4, h1, if_neg (by simp)]
      show preV ([] ++ [c]) (rdV f (escV v ++ 34 :: x)) = _
      rw [rdV_esc v f x (by simp at h; omega)]
      rfl
theorem escV_le : ∀ v : Bs, v.length ≤ (escV v).length
  | [] => by simp [escV]
  | c :: v => by
    have h1 := escV_le v
    have h2 : 1 ≤ (escB c).length := by unfold escB; repeat' split
                                        all_goals simp
    simp [escV]
    omega
theorem rdA1_of {a : Bs × Bs} {x : Bs} (h : isNm a.1 = true) : rdA1 (a.1 ++ 61 :: 34 :: (escV a.2 ++ 34 :: x)) = some (a, x) := by
  obtain ⟨h1, h2⟩ := tkE_of (d := 61) (r := 34 :: (escV a.2 ++ 34 :: x)) h rfl
  obtain ⟨c, r, h3, -⟩ := isNm_head h
  have h4 : a.1 ≠ [] := by rw [h3]; simp
  have h5 := escV_le a.2
  unfold rdA1
  rw [h1, h2, if_neg h4, if_pos (by simp)]
  show (match rdV ((escV a.2 ++ 34 :: x).length + 1) (escV a.2 ++ 34 :: x) with
    | none => none
    | some p => some ((a.1, p.1), p.2)) = _
  rw [rdV_esc a.2 _ x (by simp; omega)]
theorem rdA_of : ∀ (l : List (Bs × Bs)) (f : Nat) (x : Bs), (∀ a ∈ l, isNm a.1 = true) → [32].isPrefixOf x = false → l.length < f → rdA f (atsT l ++ x) = some (l, x)
  | [], 0, _, _, _, h => by simp at h
  | [], f + 1, x, _, hx, _ => by simp [atsT, rdA, hx]
  | a :: l, 0, _, _, _, h => by simp at h
  | a :: l, f + 1, x, hl, hx, h => by
    have e : atsT (a :: l) ++ x = 32 :: (a.1 ++ 61 :: 34 :: (escV a.2 ++ 34 :: (atsT l ++ x))) := by simp [atsT, atT]
    rw [e, rdA, if_pos (by simp)]
    show (match rdA1 (a.1 ++ 61 :: 34 :: (escV a.2 ++ 34 :: (atsT l ++ x))) with
      | none => none
      | some p => preA [p.1] (rdA f p.2)) = _
    rw [rdA1_of (hl a (by simp))]
    show preA [a] (rdA f (atsT l ++ x)) = _
    rw [rdA_of l f x (fun b hb => hl b (by simp [hb])) hx (by simp at h; omega)]
    rfl
theorem atsT_long : ∀ l : List (Bs × Bs), l.length ≤ (atsT l).length
  | [] => by simp [atsT]
  | a :: l => by have := atsT_long l; simp [atsT, atT]; omega
theorem txtL_long : ∀ l : List Nd, l.length ≤ (txtL l).length
  | [] => by simp [txtL]
  | .mk nm ats ks :: l => by
    have := txtL_long l
    have : 1 ≤ (txt (.mk nm ats ks)).length := by unfold txt; simp
    simp [txtL]
    omega
theorem txt_start {n : Nd} (h : gd n) (x : Bs) : [60].isPrefixOf (txt n ++ x) = true ∧ [60, 47].isPrefixOf (txt n ++ x) = false := by
  obtain ⟨nm, ats, ks⟩ := n
  unfold gd at h
  obtain ⟨c, r, h3, h4⟩ := isNm_head h.1
  unfold txt
  rw [h3]
  have hc : ¬ (47 : UInt8) = c := fun e => by rw [← e] at h4; exact absurd h4 (by decide)
  constructor
  · simp
  · simp [List.isPrefixOf, hc]
mutual
theorem rdN_of : ∀ (n : Nd) (f : Nat) (x : Bs), gd n → (txt n).length ≤ f → rdN f (txt n ++ x) = some (n, x)
  | .mk nm ats ks, 0, x, _, h => by unfold txt at h; simp at h
  | .mk nm ats [], f + 1, x, hg, h => by
    unfold gd at hg
    obtain ⟨hn, ha, -⟩ := hg
    have h0 : txt (.mk nm ats []) ++ x = 60 :: (nm ++ (atsT ats ++ 47 :: 62 :: x)) := by rw [txt_nil]; simp
    rw [h0]
    have hd : ∃ d r, atsT ats ++ 47 :: 62 :: x = d :: r ∧ eB d = true := by
      cases ats with
      | nil => exact ⟨47, _, rfl, rfl⟩
      | cons a l => exact ⟨32, _, rfl, rfl⟩
    obtain ⟨d, r, hr, hd⟩ := hd
    obtain ⟨t1, t2⟩ := tkE_of (r := r) hn hd
    rw [← hr] at t1 t2
    obtain ⟨c, r', h3, -⟩ := isNm_head hn
    have h4 : nm ≠ [] := by rw [h3]; simp
    have hl := atsT_long ats
    rw [rdN, if_pos (by simp), show (60 :: (nm ++ (atsT ats ++ 47 :: 62 :: x))).drop 1 = nm ++ (atsT ats ++ 47 :: 62 :: x) from rfl, t1, t2, if_neg h4, rdA_of ats ((atsT ats ++ 47 :: 62 :: x).length + 1) (47 :: 62 :: x) ha (by rfl) (by simp; omega)]
    simp
  | .mk nm ats (k :: l), f + 1, x, hg, h => by
    unfold gd at hg
    obtain ⟨hn, ha, hk⟩ := hg
    have h0 : txt (.mk nm ats (k :: l)) ++ x = 60 :: (nm ++ (atsT ats ++ 62 :: (txtL (k :: l) ++ 60 :: 47 :: (nm ++ 62 :: x)))) := by rw [txt_cons]; simp
    have hlen : (txtL (k :: l)).length < (txt (.mk nm ats (k :: l))).length := by rw [txt_cons]; simp; omega
    rw [h0]
    have hd : ∃ d r, atsT ats ++ 62 :: (txtL (k :: l) ++ 60 :: 47 :: (nm ++ 62 :: x)) = d :: r ∧ eB d = true := by
      cases ats with
      | nil => exact ⟨62, _, rfl, rfl⟩
      | cons a l => exact ⟨32, _, rfl, rfl⟩
    obtain ⟨d, r, hr, hd⟩ := hd
    obtain ⟨t1, t2⟩ := tkE_of (r := r) hn hd
    rw [← hr] at t1 t2
    obtain ⟨c, r', h3, -⟩ := isNm_head hn
    have h4 : nm ≠ [] := by rw [h3]; simp
    have hl := atsT_long ats
    have hkl := rdK_of (k :: l) f ((txtL (k :: l) ++ 60 :: 47 :: (nm ++ 62 :: x)).length + 1) (nm ++ 62 :: x) hk (by omega) (by have := txtL_long (k :: l); simp at this ⊢; omega)
    have he : (endT nm).isPrefixOf (60 :: 47 :: (nm ++ 62 :: x)) = true := List.isPrefixOf_iff_prefix.2 ⟨x, by simp [endT]⟩
    have hx : (60 :: 47 :: (nm ++ 62 :: x)).drop (endT nm).length = x := by
      rw [show 60 :: 47 :: (nm ++ 62 :: x) = endT nm ++ x from by simp [endT], List.drop_left]
    rw [rdN, if_pos (by simp), show (60 :: (nm ++ (atsT ats ++ 62 :: (txtL (k :: l) ++ 60 :: 47 :: (nm ++ 62 :: x))))).drop 1 = nm ++ (atsT ats ++ 62 :: (txtL (k :: l) ++ 60 :: 47 :: (nm ++ 62 :: x))) from rfl, t1, t2, if_neg h4, rdA_of ats ((atsT ats ++ 62 :: (txtL (k :: l) ++ 60 :: 47 :: (nm ++ 62 :: x))).length + 1) (62 :: (txtL (k :: l) ++ 60 :: 47 :: (nm ++ 62 :: x))) ha (by rfl) (by simp; omega)]
    show (if [47, 62].isPrefixOf (62 :: (txtL (k :: l) ++ 60 :: 47 :: (nm ++ 62 :: x))) = true then _ else if [62].isPrefixOf (62 :: (txtL (k :: l) ++ 60 :: 47 :: (nm ++ 62 :: x))) = true then (match rdK (rdN f) ((txtL (k :: l) ++ 60 :: 47 :: (nm ++ 62 :: x)).length + 1) (txtL (k :: l) ++ 60 :: 47 :: (nm ++ 62 :: x)) with
            | none => none
            | some k => if (endT nm).isPrefixOf k.2 = true then some (Nd.mk nm ats k.1, k.2.drop (endT nm).length) else none) else none) = _
    rw [if_neg (by simp), if_pos (by simp), hkl]
    show (if (endT nm).isPrefixOf (60 :: 47 :: (nm ++ 62 :: x)) = true then some (Nd.mk nm ats (k :: l), (60 :: 47 :: (nm ++ 62 :: x)).drop (endT nm).length) else none) = _
    rw [if_pos he, hx]
theorem rdK_of : ∀ (l : List Nd) (f m : Nat) (x : Bs), gdL l → (txtL l).length ≤ f → l.length < m → rdK (rdN f) m (txtL l ++ 60 :: 47 :: x) = some (l, 60 :: 47 :: x)
  | [], f, 0, x, _, _, h => by simp at h
  | [], f, m + 1, x, _, _, _ => by simp [txtL, rdK]
  | k :: l, f, 0, x, _, _, h => by simp at h
  | k :: l, f, m + 1, x, hg, hf, hm => by
    unfold gdL at hg
    obtain ⟨hk, hl⟩ := hg
    rw [txtL, List.length_append] at hf
    rw [txtL, List.append_assoc, rdK, if_pos (txt_start hk _), rdN_of k f _ hk (by omega)]
    show preK [k] (rdK (rdN f) m (txtL l ++ 60 :: 47 :: x)) = _
    rw [rdK_of l f m x hl (by omega) (by simp at hm; omega)]
    rfl
end

end Go.Proofs.YtdebekonggnckabDoor

namespace Go.Proofs.YtdebekonggnckabDoor

theorem tk_dr (P : UInt8 → Bool) (s : Bs) : s = s.takeWhile P ++ s.dropWhile P := (List.takeWhile_append_dropWhile).symm
theorem pre_drop {w s : Bs} (h : w.isPrefixOf s = true) : s = w ++ s.drop w.length := by
  obtain ⟨t, ht⟩ := List.isPrefixOf_iff_prefix.1 h
  rw [← ht, List.drop_left]
theorem escV_app : ∀ (a b : Bs), escV (a ++ b) = escV a ++ escV b
  | [], _ => rfl
  | c :: a, b => by simp [escV, escV_app a b]
theorem escV_plain : ∀ (v : Bs), (∀ c ∈ v, mB c = false) → escV v = v
  | [], _ => rfl
  | c :: v, h => by
    rw [escV, escB_plain (h c (by simp)), escV_plain v (fun d hd => h d (by simp [hd]))]
    rfl
theorem tkM_plain (s : Bs) : ∀ c ∈ tkM s, mB c = false := fun c hc => by
  have : ∀ (l : Bs), c ∈ l.takeWhile (fun c => !mB c) → mB c = false := by
    intro l
    induction l with
    | nil => intro h; simp at h
    | cons d l ih =>
      intro h
      rw [List.takeWhile_cons] at h
      split at h
      · rename_i hd
        rcases List.mem_cons.1 h with rfl | h
        · simpa using hd
        · exact ih h
      · simp at h
  exact this s hc
theorem mkW_word {u : Bs} {c : UInt8} {r : Bs} (h : mkW u = some (c, r)) : u = escB c ++ r := by
  unfold mkW at h
  split at h
  · rename_i k; cases h; exact pre_drop k
  split at h
  · rename_i k; cases h; exact pre_drop k
  split at h
  · rename_i k; cases h; exact pre_drop k
  split at h
  · rename_i k; cases h; exact pre_drop k
  · cases h
theorem rdV_txt : ∀ (f : Nat) (s : Bs) (p : Bs × Bs), rdV f s = some p → s = escV p.1 ++ 34 :: p.2
  | 0, _, _, h => by cases h
  | f + 1, s, p, h => by
    have ht : s = tkM s ++ drM s := tk_dr _ s
    have he := escV_plain _ (tkM_plain s)
    rw [rdV] at h
    split at h
    · rename_i k
      cases h
      show s = escV (tkM s) ++ 34 :: (drM s).drop 1
      rw [he]
      have := pre_drop k
      conv => lhs; rw [ht, this]
      rfl
    · cases hm : mkW (drM s) with
      | none => rw [hm] at h; cases h
      | some q =>
        rw [hm] at h
        obtain ⟨q', hq, rfl⟩ := preV_some h
        have h1 := rdV_txt f _ _ hq
        have h2 := mkW_word hm
        show s = escV (tkM s ++ [q.1] ++ q'.1) ++ 34 :: q'.2
        rw [escV_app, escV_app, he]
        conv => lhs; rw [ht, h2, h1]
        simp [escV]
theorem rdA1_txt {r : Bs} {p : (Bs × Bs) × Bs} (h : rdA1 r = some p) : r = p.1.1 ++ 61 :: 34 :: (escV p.1.2 ++ 34 :: p.2) := by
  unfold rdA1 at h
  have ht : r = tkE r ++ drE r := tk_dr _ r
  split at h
  · cases h
  split at h
  · rename_i k
    split at h
    · cases h
    · rename_i q hq
      cases h
      have h1 := rdV_txt _ _ _ hq
      have h2 := pre_drop k
      show r = tkE r ++ 61 :: 34 :: (escV q.1 ++ 34 :: q.2)
      rw [← h1]
      conv => lhs; rw [ht, h2]
      rfl
  · cases h
theorem rdA_txt : ∀ (f : Nat) (s : Bs) (p : List (Bs × Bs) × Bs), rdA f s = some p → s = atsT p.1 ++ p.2
  | 0, _, _, h => by cases h
  | f + 1, s, p, h => by
    rw [rdA] at h
    split at h
    · rename_i k
      split at h
      · cases h
      · rename_i q hq
        obtain ⟨q', hq', rfl⟩ := preA_some h
        have h1 := rdA1_txt hq
        have h2 := rdA_txt f _ _ hq'
        have h3 := pre_drop k
        show s = atsT ([q.1] ++ q'.1) ++ q'.2
        conv => lhs; rw [h3]
        show 32 :: s.drop 1 = _
        rw [h1, h2]
        simp [atsT, atT]
    · cases h
      simp [atsT]
/-- A node's own text is no longer than the one that it was read from. -/
theorem rdK_short {el : Bs → Option (Nd × Bs)} (hel : ∀ s p, el s = some p → (txt p.1).length + p.2.length ≤ s.length) : ∀ (f : Nat) (s : Bs) (p : List Nd × Bs), rdK el f s = some p → (txtL p.1).length + p.2.length ≤ s.length
  | 0, _, _, h => by cases h
  | f + 1, s, p, h => by
    rw [rdK] at h
    split at h
    · split at h
      · cases h
      · rename_i q hq
        have h1 := hel _ _ hq
        obtain ⟨q', hq', rfl⟩ := preK_some h
        have h2 := rdK_short hel f _ _ hq'
        simp [txtL]
        omega
    · cases h
      simp [txtL]
theorem rdN_short : ∀ (f : Nat) (s : Bs) (p : Nd × Bs), rdN f s = some p → (txt p.1).length + p.2.length ≤ s.length
  | 0, _, _, h => by cases h
  | f + 1, s, p, h => by
    rw [rdN] at h
    split at h
    · rename_i k
      have hl := pre_len k
      have ht := tkE_len (s.drop 1)
      split at h
      · cases h
      split at h
      · cases h
      · rename_i a ha
        have h1 := congrArg List.length (rdA_txt _ _ _ ha)
        rw [List.length_append] at h1
        split at h
        · rename_i k2
          cases h
          have := pre_len k2
          rw [txt_nil]
          simp at hl ht h1 this ⊢
          omega
        split at h
        · rename_i k2
          have h2 := pre_len k2
          split at h
          · cases h
          · rename_i q hq
            have h3 := rdK_short (rdN_short f) _ _ _ hq
            split at h
            · rename_i k3
              cases h
              have h4 := pre_len k3
              obtain ⟨ks, z⟩ := q
              cases ks with
              | nil =>
                rw [txt_nil]
                simp [endT, txtL] at hl ht h1 h2 h3 h4 ⊢
                omega
              | cons c l =>
                rw [txt_cons]
                simp [endT] at hl ht h1 h2 h3 h4 ⊢
                omega
            · cases h
        · cases h
    · cases h

end Go.Proofs.YtdebekonggnckabDoor

namespace Go.Proofs.YtdebekonggnckabDoor

/-- How an element begins: its name, its attributes, what is behind. -/
def elT (s : Bs) : Option (Bs × List (Bs × Bs) × Bs) :=
  if tkE (s.drop 1) = [] then none else match rdA ((drE (s.drop 1)).length + 1) (drE (s.drop 1)) with
    | none => none
    | some a => some (tkE (s.drop 1), a.1, a.2)
/-- How deep one lies below that number. -/
def dpO (L : List Fl) (op : Int) : Nat := if op < 0 then 1 else match L[op.toNat]? with
  | none => 1
  | some f => f.deep + 1
/-- One step: those that were read, the number of the open one, the rest. -/
def foS (L : List Fl) (op : Int) (s : Bs) : Option (List Fl × Int × Bs) :=
  if L ≠ [] ∧ op < 0 then none
  else if [60, 47].isPrefixOf s = true then
    if op < 0 then none else match L[op.toNat]? with
      | none => none
      | some f => if (endT f.name).isPrefixOf s = true then some (L, f.parent, s.drop (endT f.name).length) else none
  else if [60].isPrefixOf s = true then match elT s with
      | none => none
      | some a => if [47, 62].isPrefixOf a.2.2 = true then some (L ++ [⟨a.1, a.2.1, op, dpO L op⟩], op, a.2.2.drop 2)
        else if [62].isPrefixOf a.2.2 = true then some (L ++ [⟨a.1, a.2.1, op, dpO L op⟩], L.length, a.2.2.drop 1)
        else none
  else none
def fo : Nat → List Fl → Int → Bs → Option (List Fl)
  | 0, _, _, _ => none
  | _ + 1, L, op, [] => if L = [] ∨ 0 ≤ op then none else some L
  | F + 1, L, op, c :: s => match foS L op (c :: s) with
    | none => none
    | some q => fo F q.1 q.2.1 q.2.2
theorem elT_len {s : Bs} {a : Bs × List (Bs × Bs) × Bs} (h : elT s = some a) : a.2.2.length ≤ (s.drop 1).length := by
  unfold elT at h
  split at h
  · cases h
  split at h
  · cases h
  · rename_i q hq
    cases h
    have h1 := (rdA_len _ _ _ hq).1
    have h2 := tkE_len (s.drop 1)
    simp only at h1 ⊢
    omega
theorem foS_len {L : List Fl} {op : Int} {s : Bs} {q : List Fl × Int × Bs} (h : foS L op s = some q) : q.2.2.length < s.length := by
  unfold foS at h
  split at h
  · cases h
  split at h
  · split at h
    · cases h
    split at h
    · cases h
    split at h
    · rename_i k
      cases h
      have := pre_len k
      simp [endT] at this ⊢
      omega
    · cases h
  split at h
  · rename_i k
    have hk := pre_len k
    split at h
    · cases h
    · rename_i a ha
      have h1 := elT_len ha
      split at h
      · cases h; simp at hk h1 ⊢; omega
      split at h
      · cases h; simp at hk h1 ⊢; omega
      · cases h
  · cases h
theorem fo_fuel : ∀ (F F' : Nat) (L : List Fl) (op : Int) (s : Bs), s.length < F → s.length < F' → fo F L op s = fo F' L op s
  | 0, _, _, _, _, h, _ => absurd h (Nat.not_lt_zero _)
  | _ + 1, 0, _, _, _, _, h => absurd h (Nat.not_lt_zero _)
  | _ + 1, _ + 1, _, _, [], _, _ => rfl
  | F + 1, F' + 1, L, op, c :: s, h, h' => by
    rw [fo, fo]
    cases hs : foS L op (c :: s) with
    | none => rfl
    | some q =>
      have := foS_len hs
      exact fo_fuel F F' q.1 q.2.1 q.2.2 (by omega) (by omega)
def foT (L : List Fl) (op : Int) (s : Bs) : Option (List Fl) := fo (s.length + 1) L op s
theorem foT_nil (L : List Fl) (op : Int) : foT L op [] = if L = [] ∨ 0 ≤ op then none else some L := rfl
theorem foT_step {L : List Fl} {op : Int} {s : Bs} {q : List Fl × Int × Bs} (h : foS L op s = some q) : foT L op s = foT q.1 q.2.1 q.2.2 := by
  have hl := foS_len h
  cases s with
  | nil => simp at hl
  | cons c s =>
    unfold foT
    rw [fo, h]
    exact fo_fuel _ _ _ _ _ (by simp at hl ⊢; omega) (by omega)
theorem foT_none {L : List Fl} {op : Int} {s : Bs} (hs : s ≠ []) (h : foS L op s = none) : foT L op s = none := by
  cases s with
  | nil => exact absurd rfl hs
  | cons c s => unfold foT; rw [fo, h]
/-- An element may stand here. -/
def Op (L : List Fl) (op : Int) (d : Nat) : Prop := (op = -1 ∧ L = [] ∧ d = 1) ∨ ∃ (j : Nat) (f : Fl), op = j ∧ L[j]? = some f ∧ d = f.deep + 1
theorem Op.no {L : List Fl} {op : Int} {d : Nat} (h : Op L op d) : ¬ (L ≠ [] ∧ op < 0) := by
  rcases h with ⟨rfl, rfl, -⟩ | ⟨j, f, rfl, -, -⟩
  · simp
  · omega
theorem Op.dp {L : List Fl} {op : Int} {d : Nat} (h : Op L op d) : dpO L op = d := by
  unfold dpO
  rcases h with ⟨rfl, rfl, rfl⟩ | ⟨j, f, rfl, h1, rfl⟩
  · rfl
  · rw [if_neg (by omega)]
    simp [h1]
theorem Op.end {L : List Fl} {op : Int} {d : Nat} (h : Op L op d) : foT L op [] = none := by
  rw [foT_nil]
  rcases h with ⟨rfl, rfl, -⟩ | ⟨j, f, rfl, -, -⟩
  · rfl
  · rw [if_pos (.inr (by omega))]
def elR (L : List Fl) (op : Int) (d : Nat) (s : Bs) : Option (Nd × Bs) → Prop
  | none => foT L op s = none
  | some p => foT L op s = foT (L ++ flN L.length op d p.1) op p.2
def kdR2 (L : List Fl) (j : Nat) (d : Nat) (s : Bs) : Option (List Nd × Bs) → Prop
  | none => foT L j s = none
  | some p => foT L j s = foT (L ++ flL L.length j d p.1) j p.2 ∧ ¬ ([60].isPrefixOf p.2 = true ∧ [60, 47].isPrefixOf p.2 = false)
def ElOk (f : Nat) : Prop := ∀ (s : Bs) (L : List Fl) (op : Int) (d : Nat), s.length < f → Op L op d → [60, 47].isPrefixOf s = false → elR L op d s (rdN f s)
theorem kids_ok {f : Nat} (hf : ElOk f) : ∀ (m : Nat) (s : Bs) (L : List Fl) (j : Nat) (g : Fl), s.length < m → s.length < f → L[j]? = some g → kdR2 L j (g.deep + 1) s (rdK (rdN f) m s)
  | 0, _, _, _, _, h, _, _ => absurd h (Nat.not_lt_zero _)
  | m + 1, s, L, j, g, hm, hl, hg => by
    rw [rdK]
    split
    · rename_i hp
      have h1 := hf s L j (g.deep + 1) hl (.inr ⟨j, g, rfl, hg, rfl⟩) hp.2
      cases hn : rdN f s with
      | none => rw [hn] at h1; exact h1
      | some p =>
        rw [hn] at h1
        have hlen := rdN_len f s p hn
        have hg' : (L ++ flN L.length j (g.deep + 1) p.1)[j]? = some g := by
          rw [List.getElem?_append_left (List.getElem?_eq_some_iff.1 hg).1]; exact hg
        have h2 := kids_ok hf m p.2 (L ++ flN L.length j (g.deep + 1) p.1) j g (by omega) (by omega) hg'
        show kdR2 L j (g.deep + 1) s (preK [p.1] (rdK (rdN f) m p.2))
        cases hk : rdK (rdN f) m p.2 with
        | none =>
          rw [hk] at h2
          exact h1.trans h2
        | some q =>
          rw [hk] at h2
          refine ⟨h1.trans (h2.1.trans ?_), h2.2⟩
          show foT (L ++ flN L.length j (g.deep + 1) p.1 ++ flL (L ++ flN L.length j (g.deep + 1) p.1).length j (g.deep + 1) q.1) j q.2 = foT (L ++ flL L.length j (g.deep + 1) ([p.1] ++ q.1)) j q.2
          rw [List.singleton_append, flL, List.length_append, List.append_assoc]
    · rename_i hp
      exact ⟨by simp [flL], hp⟩
theorem el_ok : ∀ f, ElOk f
  | 0 => fun _ _ _ _ h => absurd h (Nat.not_lt_zero _)
  | f + 1 => fun s L op d hl ho hq => by
    have hno := ho.no
    by_cases hs : s = []
    · subst hs
      rw [show rdN (f + 1) [] = none from by rw [rdN]; rfl]
      exact ho.end
    by_cases hp : [60].isPrefixOf s = true
    · have hlp := pre_len hp
      have hfo : foS L op s = match elT s with
          | none => none
          | some a => if [47, 62].isPrefixOf a.2.2 = true then some (L ++ [⟨a.1, a.2.1, op, dpO L op⟩], op, a.2.2.drop 2)
            else if [62].isPrefixOf a.2.2 = true then some (L ++ [⟨a.1, a.2.1, op, dpO L op⟩], (L.length : Int), a.2.2.drop 1)
            else none := by
        unfold foS
        rw [if_neg hno, if_neg (by rw [hq]; simp), if_pos hp]
      rw [ho.dp] at hfo
      rw [rdN, if_pos hp]
      by_cases ht : tkE (s.drop 1) = []
      · have he : elT s = none := by unfold elT; rw [if_pos ht]
        rw [if_pos ht]
        exact foT_none hs (by rw [hfo, he])
      · rw [if_neg ht]
        cases ha : rdA ((drE (s.drop 1)).length + 1) (drE (s.drop 1)) with
        | none =>
          have he : elT s = none := by unfold elT; rw [if_neg ht, ha]
          exact foT_none hs (by rw [hfo, he])
        | some a =>
          have he : elT s = some (tkE (s.drop 1), a.1, a.2) := by unfold elT; rw [if_neg ht, ha]
          have hal := elT_len he
          rw [he] at hfo
          simp only at hfo hal ⊢
          generalize tkE (s.drop 1) = nm at *
          by_cases h1 : [47, 62].isPrefixOf a.2 = true
          · rw [if_pos h1] at hfo ⊢
            refine (foT_step hfo).trans ?_
            simp [flN, flL]
          · rw [if_neg h1] at hfo ⊢
            by_cases h2 : [62].isPrefixOf a.2 = true
            · rw [if_pos h2] at hfo ⊢
              have hl2 := pre_len h2
              have hst := foT_step hfo
              simp only at hst
              have hg : (L ++ [(⟨nm, a.1, op, d⟩ : Fl)])[L.length]? = some ⟨nm, a.1, op, d⟩ := by simp
              have hk := kids_ok (el_ok f) ((a.2.drop 1).length + 1) (a.2.drop 1) (L ++ [⟨nm, a.1, op, d⟩]) L.length ⟨nm, a.1, op, d⟩ (by omega) (by simp at hlp hal hl2 ⊢; omega) hg
              cases hq2 : rdK (rdN f) ((a.2.drop 1).length + 1) (a.2.drop 1) with
              | none =>
                rw [hq2] at hk
                exact hst.trans hk
              | some q =>
                rw [hq2] at hk
                obtain ⟨k1, k2⟩ := hk
                simp only at k1 k2 ⊢
                have hg2 : (L ++ [(⟨nm, a.1, op, d⟩ : Fl)] ++ flL (L ++ [(⟨nm, a.1, op, d⟩ : Fl)]).length L.length (d + 1) q.1)[L.length]? = some ⟨nm, a.1, op, d⟩ := by
                  rw [List.getElem?_append_left (by simp)]; exact hg
                have hne : (L ++ [(⟨nm, a.1, op, d⟩ : Fl)] ++ flL (L ++ [(⟨nm, a.1, op, d⟩ : Fl)]).length L.length (d + 1) q.1) ≠ [] := by simp
                generalize hL2 : L ++ [(⟨nm, a.1, op, d⟩ : Fl)] ++ flL (L ++ [(⟨nm, a.1, op, d⟩ : Fl)]).length L.length (d + 1) q.1 = L2 at *
                have hfo2 : foS L2 L.length q.2 = if [60, 47].isPrefixOf q.2 = true then (if (endT nm).isPrefixOf q.2 = true then some (L2, op, q.2.drop (endT nm).length) else none) else none := by
                  unfold foS
                  rw [if_neg (by omega)]
                  by_cases h3 : [60, 47].isPrefixOf q.2 = true
                  · rw [if_pos h3, if_pos h3, if_neg (by omega)]
                    simp [hg2]
                  · rw [if_neg h3, if_neg h3, if_neg (fun h4 => k2 ⟨h4, Bool.eq_false_iff.2 h3⟩)]
                by_cases h5 : (endT nm).isPrefixOf q.2 = true
                · rw [if_pos h5]
                  have h3 : [60, 47].isPrefixOf q.2 = true := by
                    obtain ⟨t, ht⟩ := List.isPrefixOf_iff_prefix.1 h5
                    exact List.isPrefixOf_iff_prefix.2 ⟨nm ++ [62] ++ t, by rw [← ht]; simp [endT]⟩
                  rw [if_pos h3, if_pos h5] at hfo2
                  refine hst.trans (k1.trans ((foT_step hfo2).trans ?_))
                  show foT L2 op (q.2.drop (endT nm).length) = foT (L ++ flN L.length op d (.mk nm a.1 q.1)) op (q.2.drop (endT nm).length)
                  rw [← hL2, flN]
                  simp
                · rw [if_neg h5]
                  refine hst.trans (k1.trans ?_)
                  by_cases hz : q.2 = []
                  · rw [hz, foT_nil, if_pos (.inr (by omega))]
                  · refine foT_none hz ?_
                    rw [hfo2]
                    split
                    · rfl
                    · rfl
            · rw [if_neg h2] at hfo ⊢
              exact foT_none hs hfo
    · have hr : rdN (f + 1) s = none := by rw [rdN, if_neg hp]
      rw [hr]
      refine foT_none hs ?_
      unfold foS
      rw [if_neg hno, if_neg (by rw [hq]; simp), if_neg hp]
/-- The whole: a text is a node's just where the document reads it so. -/
theorem foT_all (s : Bs) : foT [] (-1) s = match rdN (s.length + 1) s with
    | some (n, []) => some (flN 0 (-1) 1 n)
    | _ => none := by
  have ho : Op [] (-1) 1 := .inl ⟨rfl, rfl, rfl⟩
  cases hq : [60, 47].isPrefixOf s with
  | true =>
    have hr : rdN (s.length + 1) s = none := by
      have h1 := pre_drop hq
      have ht : tkE (s.drop 1) = [] := by
        rw [h1]
        rfl
      rw [rdN]
      split
      · rfl
      · rfl
    rw [hr]
    refine foT_none (fun h => by rw [h] at hq; simp at hq) ?_
    unfold foS
    rw [if_neg ho.no, if_pos hq, if_pos (by decide)]
  | false =>
    have h := el_ok (s.length + 1) s [] (-1) 1 (Nat.lt_succ_self _) ho hq
    cases hn : rdN (s.length + 1) s with
    | none => rw [hn] at h; exact h
    | some p =>
      rw [hn] at h
      obtain ⟨n, r⟩ := p
      refine h.trans ?_
      simp only [List.nil_append, List.length_nil]
      obtain ⟨f1, r1, e, -⟩ := flN_head 0 (-1) 1 n
      cases r with
      | nil =>
        rw [foT_nil, if_neg (by rw [e]; simp)]
      | cons c r =>
        refine foT_none (by simp) ?_
        unfold foS
        rw [if_pos ⟨by rw [e]; simp, by decide⟩]

end Go.Proofs.YtdebekonggnckabDoor

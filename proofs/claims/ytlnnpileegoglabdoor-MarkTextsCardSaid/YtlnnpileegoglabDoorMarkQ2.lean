/-
  A node's text is read as that node.
-/
import Derived.Test.YtlnnpileegoglabDoorMarkQ
namespace Go.Proofs.YtlnnpileegoglabDoor

theorem nmB_eB {c : UInt8} (h : nmB c = true) : eB c = false := by
  cases he : eB c with
  | false => rfl
  | true =>
    unfold eB at he
    simp only [Bool.or_eq_true, beq_iff_eq] at he
    rcases he with ((((rfl | rfl) | rfl) | rfl) | rfl) | rfl <;> exact absurd h (by decide)
theorem tkE_of {nm : Bs} {d : UInt8} {r : Bs} (h : isNm nm = true) (hd : eB d = true) : tkE (nm ++ d :: r) = nm ∧ drE (nm ++ d :: r) = d :: r := by
  have hp : ∀ c ∈ nm, (!eB c) = true := fun c hc => by rw [nmB_eB (isNm_all h c hc)]; rfl
  unfold tkE drE
  rw [List.takeWhile_append_of_pos hp, List.dropWhile_append_of_pos hp, List.takeWhile_cons_of_neg (by simp [hd]), List.dropWhile_cons_of_neg (by simp [hd])]
  simp
theorem rdV_step {c : UInt8} (h : mB c = false) (f : Nat) (s : Bs) : rdV (f + 1) (c :: s) = preV [c] (rdV (f + 1) s) := by
  have h1 : tkM (c :: s) = c :: tkM s := List.takeWhile_cons_of_pos (by simp [h])
  have h2 : drM (c :: s) = drM s := List.dropWhile_cons_of_pos (by simp [h])
  rw [rdV, rdV, h1, h2]
  split
  · rfl
  · cases mkW (drM s) with
    | none => rfl
    | some p => simp [preV_app]
theorem drM_mark {c : UInt8} (h : mB c = true) (s : Bs) : drM (c :: s) = c :: s ∧ tkM (c :: s) = [] := ⟨List.dropWhile_cons_of_neg (by simp [h]), List.takeWhile_cons_of_neg (by simp [h])⟩
theorem mkW_esc {c : UInt8} (h : mB c = true) (x : Bs) : mkW (escB c ++ x) = some (c, x) ∧ ∃ r, escB c ++ x = 38 :: r := by
  unfold mB at h
  simp only [Bool.or_eq_true, beq_iff_eq] at h
  rcases h with ((rfl | rfl) | rfl) | rfl
  · exact ⟨by simp [mkW, escB], ⟨_, rfl⟩⟩
  · exact ⟨by simp [mkW, escB], ⟨_, rfl⟩⟩
  · exact ⟨by simp [mkW, escB], ⟨_, rfl⟩⟩
  · exact ⟨by simp [mkW, escB], ⟨_, rfl⟩⟩
theorem escB_plain {c : UInt8} (h : mB c = false) : escB c = [c] := by
  unfold mB at h
  simp only [Bool.or_eq_false_iff, beq_eq_false_iff_ne] at h
  unfold escB
  rw [if_neg h.1.1.1, if_neg h.1.1.2, if_neg h.1.2, if_neg h.2]
theorem rdV_esc : ∀ (v : Bs) (f : Nat) (x : Bs), v.length < f → rdV f (escV v ++ 34 :: x) = some (v, x)
  | [], 0, _, h => by simp at h
  | [], f + 1, x, _ => by
    obtain ⟨h1, h2⟩ := drM_mark (c := 34) rfl x
    rw [escV, List.nil_append, rdV, h1, h2]
    simp
  | c :: v, 0, _, h => by simp at h
  | c :: v, f + 1, x, h => by
    rw [escV, List.append_assoc]
    cases hm : mB c with
    | false =>
      rw [escB_plain hm]
      show rdV (f + 1) (c :: (escV v ++ 34 :: x)) = _
      rw [rdV_step hm, rdV_esc v (f + 1) x (by simp at h; omega)]
      rfl
    | true =>
      obtain ⟨h1, r, h2⟩ := mkW_esc hm (escV v ++ 34 :: x)
      rw [h2] at h1 ⊢
      obtain ⟨h3, h4⟩ := drM_mark (c := 38) rfl r
      rw [rdV, h3, h4, h1, if_neg (by simp)]
      show preV ([] ++ [c]) (rdV f (escV v ++ 34 :: x)) = _
      rw [rdV_esc v f x (by simp at h; omega)]
      rfl
theorem escV_le : ∀ v : Bs, v.length ≤ (escV v).length
  | [] => by simp [escV]
  | c :: v => by
    have h1 := escV_le v
    have h2 : 1 ≤ (escB c).length := by unfold escB; repeat' split
                                        all_goals simp
    simp [escV]
    omega
theorem rdA1_of {a : Bs × Bs} {x : Bs} (h : isNm a.1 = true) : rdA1 (a.1 ++ 61 :: 34 :: (escV a.2 ++ 34 :: x)) = some (a, x) := by
  obtain ⟨h1, h2⟩ := tkE_of (d := 61) (r := 34 :: (escV a.2 ++ 34 :: x)) h rfl
  obtain ⟨c, r, h3, -⟩ := isNm_head h
  have h4 : a.1 ≠ [] := by rw [h3]; simp
  have h5 := escV_le a.2
  unfold rdA1
  rw [h1, h2, if_neg h4, if_pos (by simp)]
  show (match rdV ((escV a.2 ++ 34 :: x).length + 1) (escV a.2 ++ 34 :: x) with
    | none => none
    | some p => some ((a.1, p.1), p.2)) = _
  rw [rdV_esc a.2 _ x (by simp; omega)]
theorem rdA_of : ∀ (l : List (Bs × Bs)) (f : Nat) (x : Bs), (∀ a ∈ l, isNm a.1 = true) → [32].isPrefixOf x = false → l.length < f → rdA f (atsT l ++ x) = some (l, x)
  | [], 0, _, _, _, h => by simp at h
  | [], f + 1, x, _, hx, _ => by simp [atsT, rdA, hx]
  | a :: l, 0, _, _, _, h => by simp at h
  | a :: l, f + 1, x, hl, hx, h => by
    have e : atsT (a :: l) ++ x = 32 :: (a.1 ++ 61 :: 34 :: (escV a.2 ++ 34 :: (atsT l ++ x))) := by simp [atsT, atT]
    rw [e, rdA, if_pos (by simp)]
    show (match rdA1 (a.1 ++ 61 :: 34 :: (escV a.2 ++ 34 :: (atsT l ++ x))) with
      | none => none
      | some p => preA [p.1] (rdA f p.2)) = _
    rw [rdA1_of (hl a (by simp))]
    show preA [a] (rdA f (atsT l ++ x)) = _
    rw [rdA_of l f x (fun b hb => hl b (by simp [hb])) hx (by simp at h; omega)]
    rfl
theorem atsT_long : ∀ l : List (Bs × Bs), l.length ≤ (atsT l).length
  | [] => by simp [atsT]
  | a :: l => by have := atsT_long l; simp [atsT, atT]; omega
theorem txtL_long : ∀ l : List Nd, l.length ≤ (txtL l).length
  | [] => by simp [txtL]
  | .mk nm ats ks :: l => by
    have := txtL_long l
    have : 1 ≤ (txt (.mk nm ats ks)).length := by unfold txt; simp
    simp [txtL]
    omega
theorem txt_start {n : Nd} (h : gd n) (x : Bs) : [60].isPrefixOf (txt n ++ x) = true ∧ [60, 47].isPrefixOf (txt n ++ x) = false := by
  obtain ⟨nm, ats, ks⟩ := n
  unfold gd at h
  obtain ⟨c, r, h3, h4⟩ := isNm_head h.1
  unfold txt
  rw [h3]
  have hc : ¬ (47 : UInt8) = c := fun e => by rw [← e] at h4; exact absurd h4 (by decide)
  constructor
  · simp
  · simp [List.isPrefixOf, hc]
mutual
theorem rdN_of : ∀ (n : Nd) (f : Nat) (x : Bs), gd n → (txt n).length ≤ f → rdN f (txt n ++ x) = some (n, x)
  | .mk nm ats ks, 0, x, _, h => by unfold txt at h; simp at h
  | .mk nm ats [], f + 1, x, hg, h => by
    unfold gd at hg
    obtain ⟨hn, ha, -⟩ := hg
    have h0 : txt (.mk nm ats []) ++ x = 60 :: (nm ++ (atsT ats ++ 47 :: 62 :: x)) := by rw [txt_nil]; simp
    rw [h0]
    have hd : ∃ d r, atsT ats ++ 47 :: 62 :: x = d :: r ∧ eB d = true := by
      cases ats with
      | nil => exact ⟨47, _, rfl, rfl⟩
      | cons a l => exact ⟨32, _, rfl, rfl⟩
    obtain ⟨d, r, hr, hd⟩ := hd
    obtain ⟨t1, t2⟩ := tkE_of (r := r) hn hd
    rw [← hr] at t1 t2
    obtain ⟨c, r', h3, -⟩ := isNm_head hn
    have h4 : nm ≠ [] := by rw [h3]; simp
    have hl := atsT_long ats
    rw [rdN, if_pos (by simp), show (60 :: (nm ++ (atsT ats ++ 47 :: 62 :: x))).drop 1 = nm ++ (atsT ats ++ 47 :: 62 :: x) from rfl, t1, t2, if_neg h4, rdA_of ats ((atsT ats ++ 47 :: 62 :: x).length + 1) (47 :: 62 :: x) ha (by rfl) (by simp; omega)]
    simp
  | .mk nm ats (k :: l), f + 1, x, hg, h => by
    unfold gd at hg
    obtain ⟨hn, ha, hk⟩ := hg
    have h0 : txt (.mk nm ats (k :: l)) ++ x = 60 :: (nm ++ (atsT ats ++ 62 :: (txtL (k :: l) ++ 60 :: 47 :: (nm ++ 62 :: x)))) := by rw [txt_cons]; simp
    have hlen : (txtL (k :: l)).length < (txt (.mk nm ats (k :: l))).length := by rw [txt_cons]; simp; omega
    rw [h0]
    have hd : ∃ d r, atsT ats ++ 62 :: (txtL (k :: l) ++ 60 :: 47 :: (nm ++ 62 :: x)) = d :: r ∧ eB d = true := by
      cases ats with
      | nil => exact ⟨62, _, rfl, rfl⟩
      | cons a l => exact ⟨32, _, rfl, rfl⟩
    obtain ⟨d, r, hr, hd⟩ := hd
    obtain ⟨t1, t2⟩ := tkE_of (r := r) hn hd
    rw [← hr] at t1 t2
    obtain ⟨c, r', h3, -⟩ := isNm_head hn
    have h4 : nm ≠ [] := by rw [h3]; simp
    have hl := atsT_long ats
    have hkl := rdK_of (k :: l) f ((txtL (k :: l) ++ 60 :: 47 :: (nm ++ 62 :: x)).length + 1) (nm ++ 62 :: x) hk (by omega) (by have := txtL_long (k :: l); simp at this ⊢; omega)
    have he : (endT nm).isPrefixOf (60 :: 47 :: (nm ++ 62 :: x)) = true := List.isPrefixOf_iff_prefix.2 ⟨x, by simp [endT]⟩
    have hx : (60 :: 47 :: (nm ++ 62 :: x)).drop (endT nm).length = x := by
      rw [show 60 :: 47 :: (nm ++ 62 :: x) = endT nm ++ x from by simp [endT], List.drop_left]
    rw [rdN, if_pos (by simp), show (60 :: (nm ++ (atsT ats ++ 62 :: (txtL (k :: l) ++ 60 :: 47 :: (nm ++ 62 :: x))))).drop 1 = nm ++ (atsT ats ++ 62 :: (txtL (k :: l) ++ 60 :: 47 :: (nm ++ 62 :: x))) from rfl, t1, t2, if_neg h4, rdA_of ats ((atsT ats ++ 62 :: (txtL (k :: l) ++ 60 :: 47 :: (nm ++ 62 :: x))).length + 1) (62 :: (txtL (k :: l) ++ 60 :: 47 :: (nm ++ 62 :: x))) ha (by rfl) (by simp; omega)]
    show (if [47, 62].isPrefixOf (62 :: (txtL (k :: l) ++ 60 :: 47 :: (nm ++ 62 :: x))) = true then _ else if [62].isPrefixOf (62 :: (txtL (k :: l) ++ 60 :: 47 :: (nm ++ 62 :: x))) = true then (match rdK (rdN f) ((txtL (k :: l) ++ 60 :: 47 :: (nm ++ 62 :: x)).length + 1) (txtL (k :: l) ++ 60 :: 47 :: (nm ++ 62 :: x)) with
            | none => none
            | some k => if (endT nm).isPrefixOf k.2 = true then some (Nd.mk nm ats k.1, k.2.drop (endT nm).length) else none) else none) = _
    rw [if_neg (by simp), if_pos (by simp), hkl]
    show (if (endT nm).isPrefixOf (60 :: 47 :: (nm ++ 62 :: x)) = true then some (Nd.mk nm ats (k :: l), (60 :: 47 :: (nm ++ 62 :: x)).drop (endT nm).length) else none) = _
    rw [if_pos he, hx]
theorem rdK_of : ∀ (l : List Nd) (f m : Nat) (x : Bs), gdL l → (txtL l).length ≤ f → l.length < m → rdK (rdN f) m (txtL l ++ 60 :: 47 :: x) = some (l, 60 :: 47 :: x)
  | [], f, 0, x, _, _, h => by simp at h
  | [], f, m + 1, x, _, _, _ => by simp [txtL, rdK]
  | k :: l, f, 0, x, _, _, h => by simp at h
  | k :: l, f, m + 1, x, hg, hf, hm => by
    unfold gdL at hg
    obtain ⟨hk, hl⟩ := hg
    rw [txtL, List.length_append] at hf
    rw [txtL, List.append_assoc, rdK, if_pos (txt_start hk _), rdN_of k f _ hk (by omega)]
    show preK [k] (rdK (rdN f) m (txtL l ++ 60 :: 47 :: x)) = _
    rw [rdK_of l f m x hl (by omega) (by simp at hm; omega)]
    rfl
end

end Go.Proofs.YtlnnpileegoglabDoor

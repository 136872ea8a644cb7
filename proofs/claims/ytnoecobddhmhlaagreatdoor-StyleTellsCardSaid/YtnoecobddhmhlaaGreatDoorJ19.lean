/-
  A well-formed document in memory: Add keeps it so, whatever it is called with.
-/
import Derived.Test.YtnoecobddhmhlaaGreatDoorJ17
import Derived.Test.YtnoecobddhmhlaaGreatDoorJ18
import Derived.Test.YtnoecobddhmhlaaGreatDoorJ15
namespace Go.Proofs.YtnoecobddhmhlaaGreatDoor
open Go.RowKit

mutual
theorem rkN_of : ∀ (n : Nd) (deep ahead : Nat), (ckN n deep ahead).1 = 0 → ∀ a ∈ rkN deep n, a ≤ 10
  | .mk nm ats ks, deep, ahead, h, a, ha => by
    unfold ckN at h
    split at h
    · rename_i h1
      rw [rkN] at ha
      rcases List.mem_cons.1 ha with rfl | ha
      · exact (ck1_zero h1).1
      · exact rkL_of ks _ _ h a ha
    · rename_i h1; exact (h1 h).elim
theorem rkL_of : ∀ (l : List Nd) (deep ahead : Nat), (ckK l deep ahead).1 = 0 → ∀ a ∈ rkL deep l, a ≤ 10
  | [], _, _, _, a, ha => by simp [rkL] at ha
  | k :: l, deep, ahead, h, a, ha => by
    by_cases h1 : (ckN k deep ahead).1 = 0
    · rw [ckK_zero h1] at h
      rw [rkL] at ha
      rcases List.mem_append.1 ha with ha | ha
      · exact rkN_of k deep ahead h1 a ha
      · exact rkL_of l _ _ h a ha
    · rw [ckK_pos h1] at h; exact (h1 h).elim
end
/-- A well-formed document in memory. -/
structure DocS (B : Nat) (tg : Tags) (W : World) (DB MB : Nat) (p : Int → Option Nat) (M : Dm) (nx c : Nat) (r : Int → Nat) : Prop where
  w : DocW B tg W DB MB p M nx c
  d : Wd M r
  n : Cd M c
  le : c ≤ 100
  low : B ≤ W.heap.size
section
variable {E : Nat → Addr} {B : Nat} {tg : Tags} {W : World} {DB MB : Nat} {p : Int → Option Nat} {M : Dm} {nx c : Nat} {r : Int → Nat}
theorem DocS.below {w' : World} (h : DocS B tg W DB MB p M nx c r) (hb : Below W.heap.size W w') : DocS B tg w' DB MB p M nx c r := ⟨h.w.below hb, h.d, h.n, h.le, Nat.le_trans h.low hb.size⟩
theorem DocS.few (h : DocS B tg W DB MB p M nx c r) {i : Int} {e : Elm} (he : M i = some e) : e.kids.length ≤ 100 := by
  obtain ⟨l, _, h2, h3⟩ := h.n
  have := sub_len e.kids l (h.d.nodup i e he) (fun x hx => (h3 x).2 (h.d.kid_in he hx))
  have := h.le
  omega
theorem DocS.new (h : DocS B tg W DB MB p M nx c r) : M nx = none := by
  cases hm : M nx with
  | none => rfl
  | some e =>
    have := h.w.dom nx e hm
    omega
/-- What an act leaves: a well-formed document again. -/
def ActR (B : Nat) (tg : Tags) (W : World) (DB MB nx : Nat) (w' : World) : Prop := KT tg W w' ∧ ∃ (tg' : Tags) (p' : Int → Option Nat) (M' : Dm) (nx' c' : Nat) (r' : Int → Nat), (∀ x, x < W.heap.size → tg' x = tg x) ∧ DocS B tg' w' DB MB p' M' nx' c' r' ∧ nx' ≤ nx + 1
theorem DocS.same {w' : World} (h : DocS B tg W DB MB p M nx c r) (hb : Below W.heap.size W w') : ActR B tg W DB MB nx w' := ⟨KT.of_below hb, tg, p, M, nx, c, r, fun _ _ => rfl, h.below hb, Nat.le_succ _⟩
theorem Add_any (hE : DE E W) (h : DocS B tg W DB MB p M nx c r) (par a : Int) (name : Bs) (hwp : Wf64 par) (hnm : isNm name = true) (hnx : nx < 1000000) :
    Calls Tryz.prog 12 #[.pointer (some ⟨DB, 0, none⟩), .int .i64 par, .int .i64 a, .string ⟨name.toArray⟩] W fun e w' => (∃ x y, e = .returned (.tuple #[x, y])) ∧ ActR B tg W DB MB nx w' := by
  cases hq : M par with
  | none => exact (Add_no hE h.w par a name hwp hq).mono fun e w' hr => ⟨⟨_, _, hr.1⟩, h.same hr.2⟩
  | some q =>
    have hkl := h.few hq
    by_cases ha : a < 0
    · exact (Add_neg hE h.w par a name hwp q hq (by omega) ha).mono fun e w' hr => ⟨⟨_, _, hr.1⟩, h.same hr.2⟩
    by_cases hal : (q.kids.length : Int) < a
    · exact (Add_bound hE h.w par a name hwp q hq (by omega) ha hal).mono fun e w' hr => ⟨⟨_, _, hr.1⟩, h.same hr.2⟩
    have hu := h.d.deep _ par q rfl hq
    have hb := h.d.rb par q hq
    by_cases hdl : 10 ≤ r par
    · exact (Add_deep hE h.w par a name hwp q hq (by omega) ha hal hnm (r par) hu (by omega) hdl).mono fun e w' hr => ⟨⟨_, _, hr.1⟩, h.same hr.2⟩
    by_cases hc : 100 ≤ c
    · exact (Add_full hE h.w par a name hwp q hq (by omega) ha hal hnm (r par) hu (by omega) (by omega) hc).mono fun e w' hr => ⟨⟨_, _, hr.1⟩, h.same hr.2⟩
    obtain ⟨k, rfl⟩ : ∃ k : Nat, a = k := ⟨a.toNat, by omega⟩
    refine (Add_doc h.w par k name q hq (by omega) hnm (r par) hu (by omega) (by omega) hnx (by omega) h.low).mono ?_
    rintro e w' ⟨rfl, hk, tg', p', ht, hd⟩
    have hv := h.d.addV h.new (by omega) hq name k
    exact ⟨⟨_, _, rfl⟩, hk, tg', p', _, _, _, _, ht, ⟨hd, h.d.add hv hq (by omega), hv.count h.n, by omega, Nat.le_trans h.low hk.size⟩, Nat.le_refl _⟩
end

end Go.Proofs.YtnoecobddhmhlaaGreatDoor

namespace Go.Proofs.YtnoecobddhmhlaaGreatDoor
open Go.RowKit

theorem Dp.sub {M M' : Dm} (h : ∀ i x', M' i = some x' → ∃ x, M i = some x ∧ ∀ k ∈ x'.kids, k ∈ x.kids) : ∀ {f : Nat} {i : Int}, Dp M f i → Dp M' f i
  | 0, _, hd => hd.elim
  | _ + 1, i, hd => fun x' hx' k hk => by
    obtain ⟨x, hx, hs⟩ := h i x' hx'
    exact Dp.sub h (hd x hx k (hs k hk))
theorem woL_len {K : List Int} {n : Int} (hm : n ∈ K) (hn : K.Nodup) : (woL K n).length + 1 = K.length := by
  obtain ⟨a, ha⟩ := List.getElem?_of_mem hm
  have h1 := congrArg List.length (ins_wo K a n ha hn)
  rw [List.length_append, List.length_cons] at h1
  have h2 := congrArg List.length (List.take_append_drop a (woL K n))
  rw [List.length_append] at h2
  show (woL K n).length + 1 = K.length
  unfold woL at h2 ⊢
  omega
section
variable {E : Nat → Addr} {B : Nat} {tg : Tags} {W : World} {DB MB : Nat} {p : Int → Option Nat} {M : Dm} {nx c : Nat} {r : Int → Nat}
theorem Wd.top (_h : Wd M r) {n : Int} (h0 : n ≠ 0) : ¬ Bl M n 0 := fun hb => by
  cases hb with
  | self _ => exact h0 rfl
  | kid _ hx _ => exact hx rfl
theorem Wd.outE_dp (h : Wd M r) {n : Int} {e o : Elm} (hn : M n = some e) (ho : M e.parent = some o) {f : Nat} {i : Int} (hd : Dp M f i) : Dp (outE M n e o) f i := by
  refine Dp.sub (fun j x' hx' => ?_) hd
  cases hm : M j with
  | none =>
    unfold outE at hx'
    rw [putE, if_neg (fun e1 => by rw [e1, ho] at hm; exact absurd hm (by simp)), hm] at hx'
    exact absurd hx' (by simp)
  | some x =>
    obtain ⟨x1, h1, _, _, h4⟩ := h.outE_at hn ho hm
    rw [hx'] at h1
    cases h1
    exact ⟨x, rfl, fun k hk => ((h4 k).1 hk).2⟩
theorem DocS.count (h : DocS B tg W DB MB p M nx c r) {f : Nat} {i d : Int} (hf : Dp M f i) : (pre M f i d).length ≤ 100 := by
  obtain ⟨l, _, h2, h3⟩ := h.n
  have h4 := sub_len _ l (h.d.pre_nodup f i d) (fun x hx => (h3 x).2 (by
    obtain ⟨e, he⟩ := ((h.d.mem hf).1 hx).in_
    rw [he]
    simp))
  rw [List.length_map] at h4
  have := h.le
  omega
theorem Remove_any (hE : DE E W) (h : DocS B tg W DB MB p M nx c r) (n : Int) (hwn : Wf64 n) :
    Calls Tryz.prog 15 #[.pointer (some ⟨DB, 0, none⟩), .int .i64 n] W fun e w' => (∃ x, e = .returned x) ∧ ActR B tg W DB MB nx w' := by
  cases hn : M n with
  | none => exact (Remove_no hE h.w n hwn hn).mono fun e w' hr => ⟨⟨_, hr.1⟩, by rw [hr.2]; exact h.same (Below.refl _ _)⟩
  | some e =>
    by_cases h0 : n = 0
    · subst h0
      exact (Remove_root hE h.w e hn).mono fun e w' hr => ⟨⟨_, hr.1⟩, by rw [hr.2]; exact h.same (Below.refl _ _)⟩
    obtain ⟨o, ho, hno, _⟩ := h.d.up n e hn h0
    have hdp := h.d.dp 11 n e hn (by omega)
    have hpre := h.d.outE_pre (o := o) (d := 1) hn h0 hdp
    have hfl : fromL (outE M n e o) 11 n = fromL M 11 n := by unfold fromL; rw [hpre]
    have hL : ∀ x, x ∈ fromL M 11 n ↔ Bl M n x := fun x => h.d.mem hdp
    have hnd : (fromL M 11 n).Nodup := h.d.pre_nodup 11 n 1
    have hv := h.d.cutV hn ho hL
    have hct := hv.count h.n hnd hL
    have hle := h.le
    refine (Remove_doc h.w n e o hn h0 ho (List.ne_nil_of_mem hno) 11 (by omega) (fromL M 11 n) (h.d.outE_dp hn ho hdp) hfl (fun k hk => ?_) hnd (by omega)).mono ?_
    · obtain ⟨x, hx⟩ := ((hL k).1 hk).in_
      obtain ⟨x', h1, _⟩ := h.d.outE_at hn ho hx
      have h1 : putE M e.parent ⟨o.name, o.ats, o.parent, woL o.kids n⟩ k = some x' := h1
      rw [h1]
      simp
    · rintro e1 w' ⟨rfl, hk, tg', p', ht, hd⟩
      exact ⟨⟨_, rfl⟩, hk, tg', p', _, _, _, r, ht, ⟨hd, h.d.cut hv (h.d.top h0), hct.1, by omega, Nat.le_trans h.low hk.size⟩, Nat.le_succ _⟩
/-- What a Move that succeeds makes. -/
structure MovR (B : Nat) (tg : Tags) (W : World) (DB MB : Nat) (p : Int → Option Nat) (M : Dm) (nx c : Nat) (n par : Int) (k : Nat) (x o q0 q : Elm) (w' : World) : Prop where
  hn : M n = some x
  h0 : n ≠ 0
  ho : M x.parent = some o
  hno : n ∈ o.kids
  hq0 : M par = some q0
  hq : outE M n x o par = some q
  hpn : par ≠ n
  kt : KT tg W w'
  doc : ∃ tg' r', (∀ x, x < W.heap.size → tg' x = tg x) ∧ DocS B tg' w' DB MB p (movE M n par k x o q) nx c r'
theorem Move_any (hE : DE E W) (h : DocS B tg W DB MB p M nx c r) (n par a : Int) (hwn : Wf64 n) (hwp : Wf64 par) :
    Calls Tryz.prog 17 #[.pointer (some ⟨DB, 0, none⟩), .int .i64 n, .int .i64 par, .int .i64 a] W fun e w' => (∃ k, 1 ≤ k ∧ k ≤ 11 ∧ e = .returned (eV (E k)) ∧ Below W.heap.size W w') ∨ (e = .returned .nilIface ∧ ∃ k x o q0 q, a = ((k : Nat) : Int) ∧ MovR B tg W DB MB p M nx c n par k x o q0 q w') := by
  cases hn : M n with
  | none =>
    cases hq : M par with
    | none => exact (Move_no hE h.w n par a hwn hwp hn hq).mono fun e w' hr => .inl ⟨5, by decide, by decide, hr.1, hr.2⟩
    | some q => exact (Move_noN hE h.w n par a hwn hwp q hn hq).mono fun e w' hr => .inl ⟨5, by decide, by decide, hr.1, hr.2⟩
  | some x =>
    cases hq0 : M par with
    | none => exact (Move_noP hE h.w n par a hwn hwp x hn hq0).mono fun e w' hr => .inl ⟨5, by decide, by decide, hr.1, hr.2⟩
    | some q0 =>
      by_cases h0 : n = 0
      · exact (Move_root hE h.w n par a hwn hwp x q0 hn hq0 h0).mono fun e w' hr => .inl ⟨3, by decide, by decide, hr.1, hr.2⟩
      obtain ⟨o, ho, hno, _⟩ := h.d.up n x hn h0
      have hdp := h.d.dp 11 n x hn (by omega)
      have hl := h.count (d := 1) hdp
      have hL : ∀ y, y ∈ fromL M 11 n ↔ Bl M n y := fun y => h.d.mem hdp
      by_cases hin : par ∈ fromL M 11 n
      · exact (Move_cycle hE h.w n par a x q0 hn hq0 h0 hwn hwp 11 (by omega) hdp (by omega) hin).mono fun e w' hr => .inl ⟨9, by decide, by decide, hr.1, hr.2⟩
      by_cases ha : a < 0
      · exact (Move_neg hE h.w n par a x q0 hn hq0 h0 hwn hwp 11 (by omega) hdp (by omega) hin ha).mono fun e w' hr => .inl ⟨2, by decide, by decide, hr.1, hr.2⟩
      have hql := h.few hq0
      by_cases hal : (if x.parent = par then (q0.kids.length : Int) - 1 else q0.kids.length) < a
      · exact (Move_bound hE h.w n par a x q0 hn hq0 h0 hwn hwp 11 (by omega) hdp (by omega) hin ha (by omega) hal).mono fun e w' hr => .inl ⟨2, by decide, by decide, hr.1, hr.2⟩
      have hu := h.d.deep _ par q0 rfl hq0
      have hb := h.d.rb par q0 hq0
      have hm := h.d.most (n := n) (f := 11)
      by_cases hdd : 10 < (r par : Int) + mostD (pre M 11 n 1)
      · exact (Move_deep hE h.w n par a x q0 hn hq0 h0 hwn hwp 11 (by omega) hdp (by omega) hin ha (by omega) hal (r par) hu hb.2 hdd (by omega)).mono fun e w' hr => .inl ⟨8, by decide, by decide, hr.1, hr.2⟩
      obtain ⟨k, rfl⟩ : ∃ k : Nat, a = k := ⟨a.toNat, by omega⟩
      have hpn : par ≠ n := fun e1 => hin ((hL par).2 (by rw [e1]; exact .self hn))
      have hself := h.d.not_self hn h0
      obtain ⟨q, hq, hqk⟩ : ∃ q, outE M n x o par = some q ∧ (q.kids.length : Int) = if x.parent = par then (q0.kids.length : Int) - 1 else q0.kids.length := by
        unfold outE putE
        by_cases he : par = x.parent
        · rw [if_pos he, if_pos he.symm]
          refine ⟨_, rfl, ?_⟩
          have h1 := woL_len hno (h.d.nodup _ o ho)
          have hoq : o = q0 := by rw [he, ho] at hq0; exact Option.some.inj hq0
          rw [← hoq]
          show ((woL o.kids n).length : Int) = _
          omega
        · rw [if_neg he, if_neg (fun e1 => he e1.symm)]
          exact ⟨q0, hq0, rfl⟩
      have hkq : k ≤ q.kids.length := by omega
      have hqb : q.kids.length ≤ 1000000 := by
        split at hqk <;> omega
      refine (Move_doc h.w n par k x o q0 q hn h0 ho (List.ne_nil_of_mem hno) hself hq0 hq hpn 11 (by omega) hdp (by omega) hin (by omega) (by omega) hkq hqb (r par) hu (by omega) hm.1 h.low).mono ?_
      rintro e w' ⟨rfl, hk, tg', ht, hd⟩
      have hv := h.d.movV hn h0 ho hq0 hq hpn k
      exact .inr ⟨rfl, k, x, o, q0, q, rfl, ⟨hn, h0, ho, hno, hq0, hq, hpn, hk, tg', _, ht, hd, h.d.move hv hn h0 hq0 (fun hb => hin ((hL par).2 hb)) hL (h.d.fits (by omega)), hv.count h.n, h.le, Nat.le_trans h.low hk.size⟩⟩
end

end Go.Proofs.YtnoecobddhmhlaaGreatDoor

namespace Go.Proofs.YtnoecobddhmhlaaGreatDoor

mutual
theorem elN_lt : ∀ (n : Nd) (k : Nat) (p : Int) (j : Nat) (e : Elm), (elN k p n)[j]? = some e → p < k → e.parent < k + j
  | .mk nm ats ks, k, p, 0, e, h, hp => by
    rw [elN] at h
    simp at h
    subst h
    show p < (k : Int) + (0 : Nat)
    omega
  | .mk nm ats ks, k, p, j + 1, e, h, hp => by
    rw [elN] at h
    have := elL_lt ks (k + 1) k j e (by simpa using h) (by omega)
    omega
theorem elL_lt : ∀ (l : List Nd) (k : Nat) (p : Int) (j : Nat) (e : Elm), (elL k p l)[j]? = some e → p < k → e.parent < k + j
  | [], _, _, _, _, h, _ => by simp [elL] at h
  | n :: l, k, p, j, e, h, hp => by
    rw [elL] at h
    by_cases hj : j < szN n
    · rw [List.getElem?_append_left (by rw [elN_len]; exact hj)] at h
      exact elN_lt n k p j e h hp
    · rw [List.getElem?_append_right (by rw [elN_len]; omega), elN_len] at h
      have := elL_lt l (k + szN n) p (j - szN n) e h (by omega)
      omega
end
mutual
theorem elN_kid : ∀ (n : Nd) (k : Nat) (p : Int) (j : Nat) (e : Elm), (elN k p n)[j]? = some e → 0 < j → ∃ (i : Nat) (q : Elm), (elN k p n)[i]? = some q ∧ e.parent = k + i ∧ q.kids ≠ []
  | .mk nm ats ks, k, p, 0, e, h, hj => absurd hj (Nat.lt_irrefl _)
  | .mk nm ats ks, k, p, j + 1, e, h, _ => by
    rw [elN] at h ⊢
    rcases elL_kid ks (k + 1) k j e (by simpa using h) with ⟨h1, h2⟩ | ⟨i, q, h1, h2, h3⟩
    · exact ⟨0, _, rfl, by omega, h2⟩
    · exact ⟨i + 1, q, by simpa using h1, by omega, h3⟩
theorem elL_kid : ∀ (l : List Nd) (k : Nat) (p : Int) (j : Nat) (e : Elm), (elL k p l)[j]? = some e → (e.parent = p ∧ kdN k l ≠ []) ∨ ∃ (i : Nat) (q : Elm), (elL k p l)[i]? = some q ∧ e.parent = k + i ∧ q.kids ≠ []
  | [], _, _, _, _, h => by simp [elL] at h
  | n :: l, k, p, j, e, h => by
    rw [elL] at h ⊢
    by_cases hj : j < szN n
    · rw [List.getElem?_append_left (by rw [elN_len]; exact hj)] at h
      by_cases h0 : j = 0
      · subst h0
        rcases elN_par n k p 0 e h with h1 | h1
        · exact .inl ⟨h1.2, by rw [kdN]; simp⟩
        · omega
      · obtain ⟨i, q, h1, h2, h3⟩ := elN_kid n k p j e h (by omega)
        refine .inr ⟨i, q, ?_, h2, h3⟩
        rw [List.getElem?_append_left (List.getElem?_eq_some_iff.1 h1).1]
        exact h1
    · rw [List.getElem?_append_right (by rw [elN_len]; omega), elN_len] at h
      rcases elL_kid l (k + szN n) p (j - szN n) e h with ⟨h1, h2⟩ | ⟨i, q, h1, h2, h3⟩
      · exact .inl ⟨h1, by rw [kdN]; simp⟩
      · refine .inr ⟨szN n + i, q, ?_, by omega, h3⟩
        rw [List.getElem?_append_right (by rw [elN_len]; omega), elN_len, show szN n + i - szN n = i from by omega]
        exact h1
end
mutual
theorem elN_nm : ∀ (n : Nd) (k : Nat) (p : Int), okN n → ∀ e ∈ elN k p n, isNm e.name = true
  | .mk nm ats ks, k, p, h, e, he => by
    unfold okN at h
    rw [elN] at he
    rcases List.mem_cons.1 he with rfl | he
    · exact h.1
    · exact elL_nm ks _ _ h.2.2 e he
theorem elL_nm : ∀ (l : List Nd) (k : Nat) (p : Int), okL l → ∀ e ∈ elL k p l, isNm e.name = true
  | [], _, _, _, e, he => by simp [elL] at he
  | n :: l, k, p, h, e, he => by
    unfold okL at h
    rw [elL] at he
    rcases List.mem_append.1 he with he | he
    · exact elN_nm n _ _ h.1 e he
    · exact elL_nm l _ _ h.2 e he
end
theorem fl_el {n : Nd} {i : Nat} {f : Fl} (h : (flN 0 (-1) 1 n)[i]? = some f) : ∃ e, (elN 0 (-1) n)[i]? = some e ∧ e.parent = f.parent := by
  have h1 := congrArg (fun l => l[i]?) (elN_fl n 0 (-1) 1)
  simp only [List.getElem?_map, h, Option.map_some] at h1
  cases h2 : (elN 0 (-1) n)[i]? with
  | none => rw [h2] at h1; cases h1
  | some e =>
    rw [h2] at h1
    simp at h1
    exact ⟨e, rfl, h1.2.2⟩
/-- A new document's elements. -/
abbrev newD (n : Nd) : Dm := extE (fun _ => none) 0 (elN 0 (-1) n)
theorem newD_at {n : Nd} {j : Nat} (h : j < szN n) : newD n (j : Int) = (elN 0 (-1) n)[j]? := by
  have := extE_new (M := fun _ => none) (nx := 0) (L := elN 0 (-1) n) (j := j) (by rw [elN_len]; exact h)
  simpa using this
theorem newD_none {n : Nd} {i : Int} (h : i < 0) : newD n i = none := extE_old h
theorem newD_root (n : Nd) : ∃ e, newD n 0 = some e ∧ e.parent = -1 ∧ e.kids.length ≤ szN n := by
  obtain ⟨nm, ats, ks⟩ := n
  refine ⟨⟨nm, ats, -1, kdN 1 ks⟩, ?_, rfl, ?_⟩
  · unfold newD
    rw [elN]
    exact extE_at _ _ _ _
  · rw [kdN_len, szN]
    have := szL_len ks
    omega
/-- One that is not the root, with all below: what Remove asks for, and what is left. -/
structure CutAt (n : Nd) (w s : Nat) (e q : Elm) : Prop where
  at_ : newD n (w : Int) = some e
  par : newD n e.parent = some q
  low : 0 ≤ e.parent ∧ e.parent < w
  kids : q.kids ≠ []
  fits : w + s ≤ szN n
  pos : 0 < s
  own : Own (elN 0 (-1) n) 0 w s
  dp : Dp (putE (newD n) e.parent ⟨q.name, q.ats, q.parent, woL q.kids w⟩) s w
  all : fromL (putE (newD n) e.parent ⟨q.name, q.ats, q.parent, woL q.kids w⟩) s w = nums w s
theorem cut_at (n : Nd) (w : Nat) (hw : w < szN n) (h0 : w ≠ 0) : ∃ s e q, CutAt n w s e q := by
  obtain ⟨m, p', h1, h2, h3⟩ := elN_sub n 0 (-1) w (InN.ext (fun _ => none) 0 (-1) n) (by decide) (Nat.zero_le _) (by omega)
  have hl : w < (elN 0 (-1) n).length := by rw [elN_len]; exact hw
  obtain ⟨e, he⟩ : ∃ e, (elN 0 (-1) n)[w]? = some e := ⟨_, List.getElem?_eq_getElem hl⟩
  obtain ⟨i, q, h4, h5, h6⟩ := elN_kid n 0 (-1) w e he (by omega)
  have h7 := elN_lt n 0 (-1) w e he (by decide)
  have h8 : newD n e.parent = some q := by
    rw [h5, show ((0 : Nat) : Int) + i = (i : Int) from by omega, newD_at (by rw [← elN_len n 0 (-1)]; exact (List.getElem?_eq_some_iff.1 h4).1)]
    exact h4
  have hin : InN (putE (newD n) e.parent ⟨q.name, q.ats, q.parent, woL q.kids w⟩) w p' m := fun j x hx => by
    unfold putE
    rw [if_neg (by omega)]
    exact h1 j x hx
  have hsp := szN_pos m
  exact ⟨szN m, e, q, (newD_at hw).trans he, h8, by omega, h6, by omega, hsp, h3, hin.dp (Nat.le_refl _), hin.pre (Nat.le_refl _)⟩
theorem nums_len (k n : Nat) : (nums k n).length = n := by simp [nums]
theorem nums_nodup (k n : Nat) : (nums k n).Nodup := by
  unfold nums
  exact List.Pairwise.map _ (fun a b h => by omega) (List.nodup_range' (s := k) (n := n) (step := 1))

end Go.Proofs.YtnoecobddhmhlaaGreatDoor

/-
  What Add, Remove and Move make of a well-formed document.
-/
import Derived.Test.YtmlajdhkkcmjnacDoorJ10
import Derived.Test.YtmlajdhkkcmjnacDoorJ5
namespace Go.Proofs.YtmlajdhkkcmjnacDoor

theorem Wd.deep {M : Dm} {r : Int → Nat} (h : Wd M r) : ∀ (d : Nat) (x : Int) (e : Elm), r x = d → M x = some e → Up M x d
  | 0, x, e, hd, he => by
    have := (h.rb x e he).1
    omega
  | d + 1, x, e, hd, he => by
    refine ⟨e, he, ?_⟩
    by_cases h0 : x = 0
    · subst h0
      obtain ⟨e0, h1, h2⟩ := h.root
      rw [he] at h1
      cases h1
      have : d = 0 := by have := h.r0; omega
      subst this
      rw [h2]
      exact h.neg _ (by decide)
    · obtain ⟨q, hq, _, hr⟩ := h.up x e he h0
      exact h.deep d _ q (by omega) hq
theorem mem_insAt {L : List Int} {a : Nat} {k x : Int} : x ∈ insAt L a k ↔ x = k ∨ x ∈ L := by
  unfold insAt
  rw [List.mem_append, List.mem_cons]
  constructor
  · rintro (h | h | h)
    · exact .inr (List.mem_of_mem_take h)
    · exact .inl h
    · exact .inr (List.mem_of_mem_drop h)
  · rintro (h | h)
    · exact .inr (.inl h)
    · rw [← List.take_append_drop a L] at h
      rcases List.mem_append.1 h with h | h
      · exact .inl h
      · exact .inr (.inr h)
theorem nodup_insAt {L : List Int} {a : Nat} {k : Int} (h : L.Nodup) (hk : k ∉ L) : (insAt L a k).Nodup := by
  have hp : (insAt L a k).Perm (k :: L) := by
    unfold insAt
    refine List.perm_middle.trans ?_
    rw [List.take_append_drop]
  exact hp.nodup_iff.2 (List.nodup_cons.2 ⟨hk, h⟩)
theorem mem_woL {L : List Int} {k x : Int} : x ∈ woL L k ↔ x ≠ k ∧ x ∈ L := by
  unfold woL
  rw [List.mem_filter]
  by_cases h : x = k <;> simp [h]
section
variable {M : Dm} {r : Int → Nat}
theorem Wd.kid_in (h : Wd M r) {i k : Int} {e : Elm} (he : M i = some e) (hk : k ∈ e.kids) : M k ≠ none := by
  obtain ⟨x, hx, _⟩ := h.down i e k he hk
  rw [hx]
  simp
theorem Wd.addV (h : Wd M r) {nx par : Int} {q : Elm} (hnx : M nx = none) (h0 : 0 ≤ nx) (hq : M par = some q) (name : Bs) (a : Nat) : AddV M (putE (putE M nx ⟨name, [], par, []⟩) par ⟨q.name, q.ats, q.parent, insAt q.kids a nx⟩) nx par := by
  have hp : nx ≠ par := fun e => by
    rw [← e, hnx] at hq
    exact absurd hq (by simp)
  refine ⟨hnx, h0, ⟨⟨name, [], par, []⟩, ?_, rfl, rfl⟩, fun i e he => ?_, fun i hi hn => ?_⟩
  · unfold putE
    rw [if_neg hp, if_pos rfl]
  · have hin : i ≠ nx := fun e1 => by
      rw [e1, hnx] at he
      exact absurd he (by simp)
    unfold putE
    by_cases hi : i = par
    · subst hi
      rw [hq] at he
      cases he
      rw [if_pos rfl]
      refine ⟨_, rfl, rfl, nodup_insAt (h.nodup i q hq) (fun hm => h.kid_in hq hm hnx), fun x => ?_⟩
      rw [mem_insAt]
      simp
    · rw [if_neg hi, if_neg hin]
      exact ⟨e, he, rfl, h.nodup i e he, fun x => by simp [hi]⟩
  · unfold putE
    rw [if_neg (fun e1 => by rw [e1, hq] at hn; exact absurd hn (by simp)), if_neg hi]
    exact hn
/-- The parent does not lie below. -/
theorem Wd.not_up (h : Wd M r) {n : Int} {e : Elm} (hn : M n = some e) (h0 : n ≠ 0) : ¬ Bl M n e.parent := fun hb => by
  obtain ⟨q, _, _, hr⟩ := h.up n e hn h0
  have := (h.low hb).1
  omega
theorem Wd.outE_pre (h : Wd M r) {n : Int} {e o : Elm} (hn : M n = some e) (h0 : n ≠ 0) {f : Nat} {d : Int} (hf : Dp M f n) : pre (outE M n e o) f n d = pre M f n d := by
  refine pre_congr f n d (fun x hx => ?_) (fun hm => absurd (hm.symm.trans hn) (by simp)) (fun y q hy hq k hk => h.kid_in hq hk)
  have hb := (h.mem hf).1 hx
  unfold outE putE
  rw [if_neg]
  intro e1
  subst e1
  exact h.not_up hn h0 hb
theorem Wd.cutV (h : Wd M r) {n : Int} {e o : Elm} (hn : M n = some e) (ho : M e.parent = some o) {L : List Int} (hL : ∀ x, x ∈ L ↔ Bl M n x) : CutV M (cutE (outE M n e o) L) n := by
  refine ⟨fun i hb => ?_, fun i x hx hb => ?_, fun i hi => ?_⟩
  · unfold cutE
    rw [if_pos ((hL i).2 hb)]
  · unfold cutE
    rw [if_neg (fun hm => hb ((hL i).1 hm))]
    unfold outE putE
    by_cases hi : i = e.parent
    · rw [if_pos hi]
      rw [hi, ho] at hx
      cases hx
      exact ⟨_, rfl, rfl, (h.nodup _ o ho).filter _, fun y => mem_woL⟩
    · rw [if_neg hi]
      refine ⟨x, hx, rfl, h.nodup i x hx, fun y => ⟨fun hy => ⟨fun e1 => ?_, hy⟩, fun hy => hy.2⟩⟩
      subst e1
      obtain ⟨z, hz, hzp, _⟩ := h.down i x y hx hy
      rw [hn] at hz
      cases hz
      exact hi hzp.symm
  · unfold cutE outE putE
    by_cases hm : i ∈ L
    · rw [if_pos hm]
    · rw [if_neg hm, if_neg (fun e1 => by rw [e1, ho] at hi; exact absurd hi (by simp))]
      exact hi
end

end Go.Proofs.YtmlajdhkkcmjnacDoor

namespace Go.Proofs.YtmlajdhkkcmjnacDoor

section
variable {M : Dm} {r : Int → Nat}
theorem Wd.not_kid (h : Wd M r) {n i : Int} {e x : Elm} (hn : M n = some e) (hx : M i = some x) (hi : i ≠ e.parent) : n ∉ x.kids := fun hm => by
  obtain ⟨z, hz, hzp, _⟩ := h.down i x n hx hm
  rw [hn] at hz
  cases hz
  exact hi hzp.symm
theorem Wd.outE_at (h : Wd M r) {n i : Int} {e o x : Elm} (hn : M n = some e) (ho : M e.parent = some o) (hx : M i = some x) : ∃ x', outE M n e o i = some x' ∧ x'.parent = x.parent ∧ x'.kids.Nodup ∧ ∀ y, y ∈ x'.kids ↔ y ≠ n ∧ y ∈ x.kids := by
  unfold outE putE
  by_cases hi : i = e.parent
  · rw [if_pos hi]
    rw [hi, ho] at hx
    cases hx
    exact ⟨_, rfl, rfl, (h.nodup _ o ho).filter _, fun y => mem_woL⟩
  · rw [if_neg hi]
    refine ⟨x, hx, rfl, h.nodup i x hx, fun y => ⟨fun hy => ⟨fun e1 => ?_, hy⟩, fun hy => hy.2⟩⟩
    subst e1
    exact h.not_kid hn hx hi hy
theorem Wd.not_self (h : Wd M r) {n : Int} {e : Elm} (hn : M n = some e) (h0 : n ≠ 0) : e.parent ≠ n := fun e1 => h.not_up hn h0 (by rw [e1]; exact .self hn)
theorem Wd.movV (h : Wd M r) {n par : Int} {e o q0 q : Elm} (hn : M n = some e) (h0 : n ≠ 0) (ho : M e.parent = some o) (hq0 : M par = some q0) (hq : outE M n e o par = some q) (hpn : par ≠ n) (a : Nat) : MovV M (movE M n par a e o q) n par := by
  refine ⟨fun i x hx => ?_, fun i hi => ?_⟩
  · unfold movE
    by_cases hi : i = par
    · subst hi
      obtain ⟨x', h1, h2, h3, h4⟩ := h.outE_at hn ho hx
      rw [hq] at h1
      cases h1
      refine ⟨⟨q.name, q.ats, q.parent, insAt q.kids a n⟩, by rw [putE, if_pos rfl], ?_, nodup_insAt h3 (fun hm => ((h4 n).1 hm).1 rfl), fun y => ?_⟩
      · rw [if_neg hpn]
        exact h2
      · show y ∈ insAt q.kids a n ↔ _
        rw [mem_insAt, h4]
        simp
    · by_cases hin : i = n
      · subst hin
        rw [hn] at hx
        cases hx
        refine ⟨⟨e.name, e.ats, par, e.kids⟩, by rw [putE, if_neg hi, putE, if_pos rfl], by rw [if_pos rfl], h.nodup i e hn, fun y => ?_⟩
        show y ∈ e.kids ↔ _
        constructor
        · intro hy
          refine .inr ⟨fun e1 => ?_, hy⟩
          subst e1
          exact h.not_kid hn hn (fun e1 => h.not_self hn h0 e1.symm) hy
        · rintro (⟨_, h1⟩ | ⟨_, h1⟩)
          · exact absurd h1 hi
          · exact h1
      · obtain ⟨x', h1, h2, h3, h4⟩ := h.outE_at hn ho hx
        refine ⟨x', by rw [putE, if_neg hi, putE, if_neg hin]; exact h1, by rw [if_neg hin]; exact h2, h3, fun y => ?_⟩
        rw [h4]
        simp [hi]
  · have n1 : i ≠ par := fun e1 => by rw [e1, hq0] at hi; exact absurd hi (by simp)
    have n2 : i ≠ n := fun e1 => by rw [e1, hn] at hi; exact absurd hi (by simp)
    have n3 : i ≠ e.parent := fun e1 => by rw [e1, ho] at hi; exact absurd hi (by simp)
    unfold movE
    rw [putE, if_neg n1, putE, if_neg n2]
    unfold outE
    rw [putE, if_neg n3]
    exact hi
/-- What was moved, and moved back, is as it was. -/
theorem Wd.back (h : Wd M r) {n par : Int} {e o q0 q : Elm} (hn : M n = some e) (h0 : n ≠ 0) (ho : M e.parent = some o) (hq0 : M par = some q0) (hq : outE M n e o par = some q) (hpn : par ≠ n) (a a0 : Nat) (ha : o.kids[a0]? = some n) :
    ∃ e' o' q', movE M n par a e o q n = some e' ∧ e'.parent = par ∧ movE M n par a e o q par = some o' ∧ o'.kids ≠ [] ∧ outE (movE M n par a e o q) n e' o' e.parent = some q' ∧ q'.kids.length + 1 = o.kids.length ∧ movE (movE M n par a e o q) n e.parent a0 e' o' q' = M := by
  have hself := h.not_self hn h0
  have hqk : n ∉ q.kids := by
    obtain ⟨x', h1, _, _, h4⟩ := h.outE_at hn ho hq0
    rw [hq] at h1
    cases h1
    exact fun hm => ((h4 n).1 hm).1 rfl
  have hwi : woL (insAt q.kids a n) n = q.kids := by
    unfold woL insAt
    exact wo_ins q.kids a n hqk
  have hiw : insAt (woL o.kids n) a0 n = o.kids := by
    unfold woL insAt
    exact ins_wo o.kids a0 n ha (h.nodup _ o ho)
  have hoP : outE M n e o e.parent = some ⟨o.name, o.ats, o.parent, woL o.kids n⟩ := by
    unfold outE
    rw [putE, if_pos rfl]
  have hout : ∀ i, outE (movE M n par a e o q) n ⟨e.name, e.ats, par, e.kids⟩ ⟨q.name, q.ats, q.parent, insAt q.kids a n⟩ i = if i = n then some ⟨e.name, e.ats, par, e.kids⟩ else outE M n e o i := fun i => by
    show putE (movE M n par a e o q) par ⟨q.name, q.ats, q.parent, woL (insAt q.kids a n) n⟩ i = _
    rw [hwi, putE]
    by_cases hi : i = par
    · rw [if_pos hi, if_neg (fun e1 => hpn (hi.symm.trans e1)), hi, hq]
    · rw [if_neg hi]
      unfold movE
      rw [putE, if_neg hi, putE]
  refine ⟨⟨e.name, e.ats, par, e.kids⟩, ⟨q.name, q.ats, q.parent, insAt q.kids a n⟩, ⟨o.name, o.ats, o.parent, woL o.kids n⟩, ?_, rfl, ?_, ?_, ?_, ?_, ?_⟩
  · unfold movE
    rw [putE, if_neg (fun e1 => hpn e1.symm), putE, if_pos rfl]
  · unfold movE
    rw [putE, if_pos rfl]
  · show insAt q.kids a n ≠ []
    unfold insAt
    simp
  · rw [hout, if_neg hself]
    exact hoP
  · have h1 := congrArg List.length hiw
    unfold insAt at h1
    rw [List.length_append, List.length_cons] at h1
    have h2 := congrArg List.length (List.take_append_drop a0 (woL o.kids n))
    rw [List.length_append] at h2
    show (woL o.kids n).length + 1 = _
    omega
  · funext i
    show putE (putE (outE (movE M n par a e o q) n ⟨e.name, e.ats, par, e.kids⟩ ⟨q.name, q.ats, q.parent, insAt q.kids a n⟩) n ⟨e.name, e.ats, e.parent, e.kids⟩) e.parent ⟨o.name, o.ats, o.parent, insAt (woL o.kids n) a0 n⟩ i = M i
    rw [hiw, putE]
    by_cases h1 : i = e.parent
    · rw [if_pos h1, h1, ho]
    · rw [if_neg h1, putE]
      by_cases h2 : i = n
      · rw [if_pos h2, h2, hn]
      · rw [if_neg h2, hout, if_neg h2]
        unfold outE
        rw [putE, if_neg h1]
/-- The deepest below an element. -/
theorem mostD_ge : ∀ (l : List (Int × Int)) (m : Int), m ≤ l.foldl (fun m x => max m x.2) m ∧ ∀ x ∈ l, x.2 ≤ l.foldl (fun m x => max m x.2) m
  | [], m => ⟨Int.le_refl _, fun x hx => absurd hx (by simp)⟩
  | y :: l, m => by
    obtain ⟨h1, h2⟩ := mostD_ge l (max m y.2)
    rw [List.foldl_cons]
    refine ⟨by omega, fun x hx => ?_⟩
    rcases List.mem_cons.1 hx with rfl | hx
    · omega
    · exact h2 x hx
theorem mostD_le : ∀ (l : List (Int × Int)) (m b : Int), m ≤ b → (∀ x ∈ l, x.2 ≤ b) → l.foldl (fun m x => max m x.2) m ≤ b
  | [], _, _, h, _ => h
  | y :: l, m, b, h, hl => by
    rw [List.foldl_cons]
    have := hl y (by simp)
    exact mostD_le l _ b (by omega) (fun x hx => hl x (by simp [hx]))
/-- What Move's look at the depth says: all below lie no deeper than 10 then. -/
theorem Wd.fits (h : Wd M r) {n par : Int} {f : Nat} (hd : (r par : Int) + mostD (pre M f n 1) ≤ 10) : ∀ x ∈ fromL M f n, r x + 1 + r par ≤ 10 + r n := fun x hx => by
  obtain ⟨⟨y, dy⟩, hy, rfl⟩ := List.mem_map.1 hx
  have h1 := (h.pre_in f n 1 y dy hy).2
  have h2 := (mostD_ge (pre M f n 1) 0).2 _ hy
  unfold mostD at hd
  show r y + 1 + r par ≤ 10 + r n
  simp only at h2
  omega
theorem Wd.most (h : Wd M r) {n : Int} {f : Nat} : 0 ≤ mostD (pre M f n 1) ∧ mostD (pre M f n 1) ≤ 10 := by
  refine ⟨(mostD_ge (pre M f n 1) 0).1, mostD_le _ _ _ (by decide) fun x hx => ?_⟩
  obtain ⟨y, dy⟩ := x
  obtain ⟨h1, h2⟩ := h.pre_in f n 1 y dy hx
  obtain ⟨e, he⟩ := h1.in_
  have h3 := (h.rb y e he).2
  have h4 := (h.low h1).1
  obtain ⟨x, hx⟩ : ∃ x, M n = some x := by
    cases f with
    | zero => simp [pre] at hx
    | succ f =>
      cases hm : M n with
      | none => rw [pre, hm] at hx; simp at hx
      | some x => exact ⟨x, rfl⟩
  have h5 := (h.rb n x hx).1
  show dy ≤ 10
  omega
end

end Go.Proofs.YtmlajdhkkcmjnacDoor

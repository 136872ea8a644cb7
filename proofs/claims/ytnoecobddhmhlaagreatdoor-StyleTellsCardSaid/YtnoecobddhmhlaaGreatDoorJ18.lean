/-
  A well-formed document as plain mathematics: each element but the root is a child of its parent, once; how deep each lies; what lies below an element.
-/
import Derived.Test.YtnoecobddhmhlaaGreatDoorJ6
import Derived.Test.YtnoecobddhmhlaaGreatDoorJ17
namespace Go.Proofs.YtnoecobddhmhlaaGreatDoor

/-- A well-formed document: r tells how deep each element lies. -/
structure Wd (M : Dm) (r : Int → Nat) : Prop where
  root : ∃ e, M 0 = some e ∧ e.parent = -1
  neg : ∀ i, i < 0 → M i = none
  up : ∀ i e, M i = some e → i ≠ 0 → ∃ q, M e.parent = some q ∧ i ∈ q.kids ∧ r i = r e.parent + 1
  down : ∀ i e k, M i = some e → k ∈ e.kids → ∃ x, M k = some x ∧ x.parent = i ∧ k ≠ 0
  nodup : ∀ i e, M i = some e → e.kids.Nodup
  r0 : r 0 = 1
  rb : ∀ i e, M i = some e → 1 ≤ r i ∧ r i ≤ 10
/-- What lies at an element or below it. -/
inductive Bl (M : Dm) (n : Int) : Int → Prop
  | self {e : Elm} (h : M n = some e) : Bl M n n
  | kid {x : Int} {e : Elm} (h : M x = some e) (h0 : x ≠ 0) (hb : Bl M n e.parent) : Bl M n x
section
variable {M : Dm} {r : Int → Nat}
theorem Bl.in_ {n x : Int} (h : Bl M n x) : ∃ e, M x = some e := by
  cases h with
  | self h => exact ⟨_, h⟩
  | kid h _ _ => exact ⟨_, h⟩
theorem Bl.trans {n k x : Int} (h1 : Bl M n k) (h2 : Bl M k x) : Bl M n x := by
  induction h2 with
  | self _ => exact h1
  | kid h h0 _ ih => exact .kid h h0 ih
theorem Wd.step (h : Wd M r) {i k : Int} {e : Elm} (he : M i = some e) (hk : k ∈ e.kids) : r k = r i + 1 ∧ Bl M i k := by
  obtain ⟨x, hx, hp, h0⟩ := h.down i e k he hk
  obtain ⟨q, _, _, hr⟩ := h.up k x hx h0
  refine ⟨by rw [hr, hp], .kid hx h0 ?_⟩
  rw [hp]
  exact .self he
theorem Wd.low (h : Wd M r) {n x : Int} (hb : Bl M n x) : r n ≤ r x ∧ (x ≠ n → r n < r x) := by
  induction hb with
  | self _ => exact ⟨Nat.le_refl _, fun h => absurd rfl h⟩
  | kid he h0 _ ih =>
    obtain ⟨q, _, _, hr⟩ := h.up _ _ he h0
    exact ⟨by omega, fun _ => by omega⟩
theorem Wd.one (h : Wd M r) {a b x : Int} (ha : Bl M a x) (hb : Bl M b x) (hr : r a = r b) : a = b := by
  induction ha with
  | self he =>
    refine Classical.byContradiction fun hn => ?_
    have := (h.low hb).2 hn
    omega
  | kid he h0 hp ih =>
    cases hb with
    | self he' =>
      obtain ⟨q, _, _, hr'⟩ := h.up _ _ he h0
      have := (h.low hp).1
      omega
    | kid he' _ hp' =>
      rw [he] at he'
      cases he'
      exact ih hp'
/-- All lie below the root. -/
theorem Wd.all (h : Wd M r) : ∀ (d : Nat) (x : Int) (e : Elm), r x = d → M x = some e → Bl M 0 x
  | 0, x, e, hd, he => by
    have := (h.rb x e he).1
    omega
  | d + 1, x, e, hd, he => by
    by_cases h0 : x = 0
    · subst h0
      exact .self he
    · obtain ⟨q, hq, _, hr⟩ := h.up x e he h0
      exact .kid he h0 (h.all d _ q (by omega) hq)
/-- All below end within so many steps. -/
theorem Wd.dp (h : Wd M r) : ∀ (f : Nat) (i : Int) (e : Elm), M i = some e → 11 ≤ f + r i → Dp M f i
  | 0, i, e, he, hf => by
    have := (h.rb i e he).2
    omega
  | f + 1, i, e, he, hf => fun e' he' k hk => by
    obtain ⟨x, hx, _, _⟩ := h.down i e' k he' hk
    have := (h.step he' hk).1
    exact h.dp f k x hx (by omega)
theorem Wd.pre_in (h : Wd M r) : ∀ (f : Nat) (i d x dx : Int), (x, dx) ∈ pre M f i d → Bl M i x ∧ dx + r i = d + r x
  | 0, _, _, _, _, hx => by simp [pre] at hx
  | f + 1, i, d, x, dx, hx => by
    rw [pre] at hx
    cases he : M i with
    | none => rw [he] at hx; simp at hx
    | some e =>
      rw [he] at hx
      simp only [List.mem_cons, List.mem_flatMap, Prod.mk.injEq] at hx
      rcases hx with ⟨rfl, rfl⟩ | ⟨k, hk, hx⟩
      · exact ⟨.self he, rfl⟩
      · obtain ⟨h1, h2⟩ := h.pre_in f k (d + 1) x dx hx
        obtain ⟨h3, h4⟩ := h.step he hk
        exact ⟨h4.trans h1, by omega⟩
theorem pre_self {f : Nat} {i d : Int} {e : Elm} (he : M i = some e) (hf : Dp M f i) : (i, d) ∈ pre M f i d := by
  cases f with
  | zero => exact hf.elim
  | succ f => rw [pre, he]; simp
theorem pre_kid : ∀ (f : Nat) (i d y dy x : Int) (q e : Elm), (y, dy) ∈ pre M f i d → Dp M f i → M y = some q → x ∈ q.kids → M x = some e → ∃ dx, (x, dx) ∈ pre M f i d
  | 0, _, _, _, _, _, _, _, hy, _, _, _, _ => by simp [pre] at hy
  | f + 1, i, d, y, dy, x, q, e, hy, hf, hq, hx, he => by
    rw [pre] at hy ⊢
    cases hi : M i with
    | none => rw [hi] at hy; simp at hy
    | some a =>
      rw [hi] at hy
      simp only [List.mem_cons, List.mem_flatMap, Prod.mk.injEq] at hy ⊢
      rcases hy with ⟨rfl, rfl⟩ | ⟨k, hk, hy⟩
      · rw [hi] at hq
        cases hq
        exact ⟨dy + 1, .inr ⟨x, hx, pre_self he (hf _ hi x hx)⟩⟩
      · obtain ⟨dx, h1⟩ := pre_kid f k (d + 1) y dy x q e hy (hf a hi k hk) hq hx he
        exact ⟨dx, .inr ⟨k, hk, h1⟩⟩
theorem Wd.in_pre (h : Wd M r) {f : Nat} {i x : Int} (d : Int) (hb : Bl M i x) (hf : Dp M f i) : ∃ dx, (x, dx) ∈ pre M f i d := by
  induction hb with
  | self he => exact ⟨d, pre_self he hf⟩
  | kid he h0 _ ih =>
    obtain ⟨dy, hy⟩ := ih
    obtain ⟨q, hq, hm, _⟩ := h.up _ _ he h0
    exact pre_kid f i d _ dy _ q _ hy hf hq hm he
/-- Those at an element and below: just these. -/
theorem Wd.mem (h : Wd M r) {f : Nat} {i x d : Int} (hf : Dp M f i) : x ∈ (pre M f i d).map Prod.fst ↔ Bl M i x := by
  rw [List.mem_map]
  constructor
  · rintro ⟨⟨y, dy⟩, hy, rfl⟩
    exact (h.pre_in f i d y dy hy).1
  · intro hb
    obtain ⟨dx, hx⟩ := h.in_pre d hb hf
    exact ⟨(x, dx), hx, rfl⟩
/-- And none of them twice. -/
theorem Wd.pre_nodup (h : Wd M r) : ∀ (f : Nat) (i d : Int), ((pre M f i d).map Prod.fst).Nodup
  | 0, _, _ => by simp [pre]
  | f + 1, i, d => by
    rw [pre]
    cases he : M i with
    | none => simp
    | some e =>
      simp only [List.map_cons, List.map_flatMap]
      rw [List.nodup_cons]
      constructor
      · intro hm
        obtain ⟨k, hk, hm⟩ := List.mem_flatMap.1 hm
        obtain ⟨⟨y, dy⟩, hy, hyi⟩ := List.mem_map.1 hm
        have hyi : y = i := hyi
        subst hyi
        have h1 := (h.low (h.pre_in f k _ _ dy hy).1).1
        have h2 := (h.step he hk).1
        omega
      · rw [List.Nodup, List.pairwise_flatMap]
        refine ⟨fun k _ => h.pre_nodup f k (d + 1), ?_⟩
        refine List.Pairwise.imp_of_mem ?_ (h.nodup i e he)
        intro a b ha hb hab x hx y hy hxy
        subst hxy
        obtain ⟨⟨x1, d1⟩, h1, rfl⟩ := List.mem_map.1 hx
        obtain ⟨⟨x2, d2⟩, h2, h3⟩ := List.mem_map.1 hy
        have h4 := (h.pre_in f a _ _ d1 h1).1
        have h5 := (h.pre_in f b _ _ d2 h2).1
        simp only at h3
        subst h3
        exact hab (h.one h4 h5 (by rw [(h.step he ha).1, (h.step he hb).1]))
/-- What agrees on these has the same below. -/
theorem pre_congr {M' : Dm} : ∀ (f : Nat) (i d : Int), (∀ x ∈ (pre M f i d).map Prod.fst, M' x = M x) → (M i = none → M' i = none) → (∀ y q, y ∈ (pre M f i d).map Prod.fst → M y = some q → ∀ k ∈ q.kids, M k ≠ none) → pre M' f i d = pre M f i d
  | 0, _, _, _, _, _ => rfl
  | f + 1, i, d, h, h0, hk => by
    rw [pre]
    conv => rhs; rw [pre]
    cases he : M i with
    | none => rw [h0 he]
    | some e =>
      have hs : pre M (f + 1) i d = (i, d) :: e.kids.flatMap (fun k => pre M f k (d + 1)) := by rw [pre, he]
      rw [hs] at h hk
      have h1 : M' i = some e := by rw [h i (by simp)]; exact he
      rw [h1]
      simp only [List.cons.injEq, true_and]
      have key : ∀ l : List Int, (∀ k ∈ l, k ∈ e.kids) → l.flatMap (fun k => pre M' f k (d + 1)) = l.flatMap (fun k => pre M f k (d + 1)) := fun l => by
        induction l with
        | nil => intro _; rfl
        | cons a l ih =>
          intro hl
          have ha := hl a (by simp)
          have hsub : ∀ x, x ∈ (pre M f a (d + 1)).map Prod.fst → x ∈ ((i, d) :: e.kids.flatMap (fun k => pre M f k (d + 1))).map Prod.fst := fun x hx => by
            simp only [List.map_cons, List.map_flatMap]
            exact List.mem_cons_of_mem _ (List.mem_flatMap.2 ⟨a, ha, hx⟩)
          rw [List.flatMap_cons, List.flatMap_cons, ih (fun k hk => hl k (by simp [hk]))]
          rw [pre_congr f a (d + 1) (fun x hx => h x (hsub x hx)) (fun hn => absurd hn (hk i e (by simp) he a ha)) (fun y q hy hq => hk y q (hsub y hy) hq)]
      exact key _ (fun _ hk => hk)
end
/-- So many elements. -/
def Cd (M : Dm) (c : Nat) : Prop := ∃ l : List Int, l.Nodup ∧ l.length = c ∧ ∀ x, x ∈ l ↔ M x ≠ none
theorem Wd.count {M : Dm} {r : Int → Nat} (h : Wd M r) {c f : Nat} {d : Int} (hc : Cd M c) (hf : Dp M f 0) : ((pre M f 0 d).map Prod.fst).length = c := by
  obtain ⟨l, h1, rfl, h3⟩ := hc
  refine List.Perm.length_eq ((List.perm_ext_iff_of_nodup (h.pre_nodup f 0 d) h1).2 fun x => ?_)
  rw [h.mem hf, h3]
  constructor
  · intro hb
    obtain ⟨e, he⟩ := hb.in_
    rw [he]
    simp
  · intro hx
    cases he : M x with
    | none => exact absurd he hx
    | some e => exact h.all _ x e rfl he

end Go.Proofs.YtnoecobddhmhlaaGreatDoor

namespace Go.Proofs.YtnoecobddhmhlaaGreatDoor

section
variable {M M' : Dm} {r : Int → Nat}
/-- An element nx is new, the last of all numbers, a child of par. -/
structure AddV (M M' : Dm) (nx par : Int) : Prop where
  was : M nx = none
  pos : 0 ≤ nx
  new : ∃ e, M' nx = some e ∧ e.parent = par ∧ e.kids = []
  old : ∀ i e, M i = some e → ∃ e', M' i = some e' ∧ e'.parent = e.parent ∧ e'.kids.Nodup ∧ ∀ x, x ∈ e'.kids ↔ (x = nx ∧ i = par) ∨ x ∈ e.kids
  non : ∀ i, i ≠ nx → M i = none → M' i = none
theorem Wd.add (h : Wd M r) {nx par : Int} {q : Elm} (hv : AddV M M' nx par) (hq : M par = some q) (hr : r par < 10) : Wd M' (fun i => if i = nx then r par + 1 else r i) := by
  have hp : par ≠ nx := fun e => by
    rw [e, hv.was] at hq
    exact absurd hq (by simp)
  have back : ∀ i e', M' i = some e' → i ≠ nx → ∃ e, M i = some e ∧ e'.parent = e.parent ∧ e'.kids.Nodup ∧ ∀ x, x ∈ e'.kids ↔ (x = nx ∧ i = par) ∨ x ∈ e.kids := fun i e' he' hi => by
    cases he : M i with
    | none =>
      rw [hv.non i hi he] at he'
      exact absurd he' (by simp)
    | some e =>
      obtain ⟨e1, h1, h2⟩ := hv.old i e he
      rw [h1] at he'
      cases he'
      exact ⟨e, rfl, h2⟩
  obtain ⟨en, hn1, hn2, hn3⟩ := hv.new
  obtain ⟨e0, hr1, hr2⟩ := h.root
  have h0 : (0 : Int) ≠ nx := fun e => by
    rw [e, hv.was] at hr1
    exact absurd hr1 (by simp)
  refine ⟨?_, ?_, ?_, ?_, ?_, ?_, ?_⟩
  · obtain ⟨e1, h1, h2, _⟩ := hv.old 0 e0 hr1
    exact ⟨e1, h1, h2.trans hr2⟩
  · intro i hi
    have := hv.pos
    exact hv.non i (by omega) (h.neg i hi)
  · intro i e' he' hi0
    by_cases hi : i = nx
    · subst hi
      rw [hn1] at he'
      cases he'
      obtain ⟨q', h1, _, _, h4⟩ := hv.old par q hq
      rw [hn2]
      refine ⟨q', h1, (h4 _).2 (.inl ⟨rfl, rfl⟩), ?_⟩
      simp only [if_pos, if_neg hp]
    · obtain ⟨e, h1, h2, _, _⟩ := back i e' he' hi
      obtain ⟨q1, h5, h6, h7⟩ := h.up i e h1 hi0
      obtain ⟨q', h8, _, _, h9⟩ := hv.old _ q1 h5
      rw [h2]
      refine ⟨q', h8, (h9 _).2 (.inr h6), ?_⟩
      have hne : e.parent ≠ nx := fun e1 => by
        rw [e1, hv.was] at h5
        exact absurd h5 (by simp)
      simp only [if_neg hi, if_neg hne]
      exact h7
  · intro i e' k he' hk
    by_cases hi : i = nx
    · subst hi
      rw [hn1] at he'
      cases he'
      rw [hn3] at hk
      exact absurd hk (by simp)
    · obtain ⟨e, h1, h2, _, h4⟩ := back i e' he' hi
      rcases (h4 k).1 hk with ⟨rfl, rfl⟩ | hk
      · exact ⟨en, hn1, hn2, fun e => h0 e.symm⟩
      · obtain ⟨x, h5, h6, h7⟩ := h.down i e k h1 hk
        obtain ⟨x', h8, h9, _⟩ := hv.old k x h5
        exact ⟨x', h8, h9.trans h6, h7⟩
  · intro i e' he'
    by_cases hi : i = nx
    · subst hi
      rw [hn1] at he'
      cases he'
      rw [hn3]
      exact List.nodup_nil
    · obtain ⟨_, _, _, h3, _⟩ := back i e' he' hi
      exact h3
  · simp only [if_neg h0]
    exact h.r0
  · intro i e' he'
    by_cases hi : i = nx
    · simp only [if_pos hi]
      omega
    · simp only [if_neg hi]
      obtain ⟨e, h1, _⟩ := back i e' he' hi
      exact h.rb i e h1
theorem AddV.count {nx par : Int} (hv : AddV M M' nx par) {c : Nat} (hc : Cd M c) : Cd M' (c + 1) := by
  obtain ⟨l, h1, rfl, h3⟩ := hc
  refine ⟨nx :: l, List.nodup_cons.2 ⟨fun hm => (h3 nx).1 hm hv.was, h1⟩, rfl, fun x => ?_⟩
  rw [List.mem_cons, h3]
  by_cases hx : x = nx
  · subst hx
    obtain ⟨en, hn1, _⟩ := hv.new
    simp [hn1]
  · cases he : M x with
    | none => simp [hx, hv.non x hx he]
    | some e =>
      obtain ⟨e1, h4, _⟩ := hv.old x e he
      simp [h4]

/-- An element n is out, with all below. -/
structure CutV (M M' : Dm) (n : Int) : Prop where
  out : ∀ i, Bl M n i → M' i = none
  old : ∀ i e, M i = some e → ¬ Bl M n i → ∃ e', M' i = some e' ∧ e'.parent = e.parent ∧ e'.kids.Nodup ∧ ∀ x, x ∈ e'.kids ↔ x ≠ n ∧ x ∈ e.kids
  non : ∀ i, M i = none → M' i = none
theorem Wd.cut (h : Wd M r) {n : Int} (hv : CutV M M' n) (hn : ¬ Bl M n 0) : Wd M' r := by
  have back : ∀ i e', M' i = some e' → ∃ e, M i = some e ∧ ¬ Bl M n i ∧ e'.parent = e.parent ∧ e'.kids.Nodup ∧ ∀ x, x ∈ e'.kids ↔ x ≠ n ∧ x ∈ e.kids := fun i e' he' => by
    have hb : ¬ Bl M n i := fun hb => by
      rw [hv.out i hb] at he'
      exact absurd he' (by simp)
    cases he : M i with
    | none =>
      rw [hv.non i he] at he'
      exact absurd he' (by simp)
    | some e =>
      obtain ⟨e1, h1, h2⟩ := hv.old i e he hb
      rw [h1] at he'
      cases he'
      exact ⟨e, rfl, hb, h2⟩
  obtain ⟨e0, hr1, hr2⟩ := h.root
  refine ⟨?_, fun i hi => hv.non i (h.neg i hi), ?_, ?_, ?_, h.r0, ?_⟩
  · obtain ⟨e1, h1, h2, _⟩ := hv.old 0 e0 hr1 hn
    exact ⟨e1, h1, h2.trans hr2⟩
  · intro i e' he' hi0
    obtain ⟨e, h1, hb, h2, _, _⟩ := back i e' he'
    obtain ⟨q1, h5, h6, h7⟩ := h.up i e h1 hi0
    obtain ⟨q', h8, _, _, h9⟩ := hv.old _ q1 h5 (fun hp => hb (.kid h1 hi0 hp))
    rw [h2]
    refine ⟨q', h8, (h9 _).2 ⟨fun e1 => ?_, h6⟩, h7⟩
    subst e1
    exact hb (.self h1)
  · intro i e' k he' hk
    obtain ⟨e, h1, hb, h2, _, h4⟩ := back i e' he'
    obtain ⟨hkn, hk⟩ := (h4 k).1 hk
    obtain ⟨x, h5, h6, h7⟩ := h.down i e k h1 hk
    have hbk : ¬ Bl M n k := fun hbk => by
      cases hbk with
      | self _ => exact hkn rfl
      | kid hx _ hp =>
        rw [h5] at hx
        cases hx
        rw [h6] at hp
        exact hb hp
    obtain ⟨x', h8, h9, _⟩ := hv.old k x h5 hbk
    exact ⟨x', h8, h9.trans h6, h7⟩
  · intro i e' he'
    obtain ⟨_, _, _, _, h3, _⟩ := back i e' he'
    exact h3
  · intro i e' he'
    obtain ⟨e, h1, _⟩ := back i e' he'
    exact h.rb i e h1
theorem CutV.count {n : Int} (hv : CutV M M' n) {c : Nat} (hc : Cd M c) {L : List Int} (hl : L.Nodup) (hL : ∀ x, x ∈ L ↔ Bl M n x) : Cd M' (c - L.length) ∧ L.length ≤ c := by
  obtain ⟨l, h1, rfl, h3⟩ := hc
  have hp : l.Perm (L ++ l.filter (fun x => !decide (x ∈ L))) := by
    refine (List.perm_ext_iff_of_nodup h1 ?_).2 fun x => ?_
    · rw [List.nodup_append]
      refine ⟨hl, h1.filter _, fun a ha b hb hab => ?_⟩
      subst hab
      simp [ha] at hb
    · rw [List.mem_append, List.mem_filter]
      by_cases hx : x ∈ L
      · obtain ⟨e, he⟩ := ((hL x).1 hx).in_
        simp [hx, h3, he]
      · simp [hx]
  have hlen := hp.length_eq
  rw [List.length_append] at hlen
  refine ⟨⟨l.filter (fun x => !decide (x ∈ L)), h1.filter _, by omega, fun x => ?_⟩, by omega⟩
  rw [List.mem_filter, h3]
  by_cases hx : x ∈ L
  · simp [hx, hv.out x ((hL x).1 hx)]
  · cases he : M x with
    | none => simp [hv.non x he]
    | some e =>
      obtain ⟨e1, h4, _⟩ := hv.old x e he (fun hb => hx ((hL x).2 hb))
      simp [hx, h4]

/-- An element n is a child of par now. -/
structure MovV (M M' : Dm) (n par : Int) : Prop where
  old : ∀ i e, M i = some e → ∃ e', M' i = some e' ∧ e'.parent = (if i = n then par else e.parent) ∧ e'.kids.Nodup ∧ ∀ x, x ∈ e'.kids ↔ (x = n ∧ i = par) ∨ (x ≠ n ∧ x ∈ e.kids)
  non : ∀ i, M i = none → M' i = none
theorem Wd.move (h : Wd M r) {n par : Int} {e q : Elm} (hv : MovV M M' n par) (hn : M n = some e) (h0 : n ≠ 0) (hq : M par = some q) (hp : ¬ Bl M n par) {L : List Int} (hL : ∀ x, x ∈ L ↔ Bl M n x) (hb : ∀ x ∈ L, r x + 1 + r par ≤ 10 + r n) :
    Wd M' (fun x => if x ∈ L then r x + r par + 1 - r n else r x) := by
  have back : ∀ i e', M' i = some e' → ∃ e, M i = some e ∧ e'.parent = (if i = n then par else e.parent) ∧ e'.kids.Nodup ∧ ∀ x, x ∈ e'.kids ↔ (x = n ∧ i = par) ∨ (x ≠ n ∧ x ∈ e.kids) := fun i e' he' => by
    cases he : M i with
    | none =>
      rw [hv.non i he] at he'
      exact absurd he' (by simp)
    | some e =>
      obtain ⟨e1, h1, h2⟩ := hv.old i e he
      rw [h1] at he'
      cases he'
      exact ⟨e, rfl, h2⟩
  have hnL : n ∈ L := (hL n).2 (.self hn)
  have hpL : par ∉ L := fun hm => hp ((hL par).1 hm)
  obtain ⟨e0, hr1, hr2⟩ := h.root
  have h0L : (0 : Int) ∉ L := fun hm => by
    cases (hL 0).1 hm with
    | self _ => exact h0 rfl
    | kid _ hx _ => exact hx rfl
  refine ⟨?_, fun i hi => hv.non i (h.neg i hi), ?_, ?_, ?_, ?_, ?_⟩
  · obtain ⟨e1, h1, h2, _⟩ := hv.old 0 e0 hr1
    refine ⟨e1, h1, ?_⟩
    rw [h2, if_neg (fun e => h0 e.symm)]
    exact hr2
  · intro i e' he' hi0
    obtain ⟨e1, h1, h2, _, _⟩ := back i e' he'
    by_cases hi : i = n
    · subst hi
      obtain ⟨q', h3, _, _, h4⟩ := hv.old par q hq
      rw [h2, if_pos rfl]
      refine ⟨q', h3, (h4 _).2 (.inl ⟨rfl, rfl⟩), ?_⟩
      simp only [if_pos hnL, if_neg hpL]
      omega
    · obtain ⟨q1, h5, h6, h7⟩ := h.up i e1 h1 hi0
      obtain ⟨q', h8, _, _, h9⟩ := hv.old _ q1 h5
      rw [h2, if_neg hi]
      refine ⟨q', h8, (h9 _).2 (.inr ⟨hi, h6⟩), ?_⟩
      by_cases hiL : i ∈ L
      · have hpp : e1.parent ∈ L := by
          cases (hL i).1 hiL with
          | self _ => exact absurd rfl hi
          | kid hx _ hb =>
            rw [h1] at hx
            cases hx
            exact (hL _).2 hb
        have hlow := (h.low ((hL _).1 hpp)).1
        simp only [if_pos hiL, if_pos hpp]
        omega
      · have hpp : e1.parent ∉ L := fun hm => hiL ((hL i).2 (.kid h1 hi0 ((hL _).1 hm)))
        simp only [if_neg hiL, if_neg hpp]
        exact h7
  · intro i e' k he' hk
    obtain ⟨e1, h1, h2, _, h4⟩ := back i e' he'
    rcases (h4 k).1 hk with ⟨rfl, rfl⟩ | ⟨hkn, hk⟩
    · obtain ⟨e2, h5, h6, _⟩ := hv.old k e hn
      exact ⟨e2, h5, by rw [h6, if_pos rfl], h0⟩
    · obtain ⟨x, h5, h6, h7⟩ := h.down i e1 k h1 hk
      obtain ⟨x', h8, h9, _⟩ := hv.old k x h5
      exact ⟨x', h8, by rw [h9, if_neg hkn]; exact h6, h7⟩
  · intro i e' he'
    obtain ⟨_, _, _, h3, _⟩ := back i e' he'
    exact h3
  · simp only [if_neg h0L]
    exact h.r0
  · intro i e' he'
    obtain ⟨e1, h1, _⟩ := back i e' he'
    have := h.rb i e1 h1
    by_cases hi : i ∈ L
    · have h3 := hb i hi
      have h4 := (h.low ((hL i).1 hi)).1
      simp only [if_pos hi]
      omega
    · simp only [if_neg hi]
      exact this
theorem MovV.count {n par : Int} (hv : MovV M M' n par) {c : Nat} (hc : Cd M c) : Cd M' c := by
  obtain ⟨l, h1, h2, h3⟩ := hc
  refine ⟨l, h1, h2, fun x => ?_⟩
  rw [h3]
  cases he : M x with
  | none => simp [hv.non x he]
  | some e =>
    obtain ⟨e1, h4, _⟩ := hv.old x e he
    simp [h4]
end

end Go.Proofs.YtnoecobddhmhlaaGreatDoor

namespace Go.Proofs.YtnoecobddhmhlaaGreatDoor

mutual
/-- How deep each of a node's elements lies. -/
def rkN (d : Nat) : Nd → List Nat
  | .mk _ _ ks => d :: rkL (d + 1) ks
def rkL (d : Nat) : List Nd → List Nat
  | [] => []
  | n :: l => rkN d n ++ rkL d l
end
mutual
theorem rkN_len : ∀ (n : Nd) (d : Nat), (rkN d n).length = szN n
  | .mk nm ats ks, d => by rw [rkN, szN, List.length_cons, rkL_len ks]
theorem rkL_len : ∀ (l : List Nd) (d : Nat), (rkL d l).length = szL l
  | [], _ => rfl
  | n :: l, d => by rw [rkL, szL, List.length_append, rkN_len n, rkL_len l]
end
theorem rkN_head (n : Nd) (d : Nat) : (rkN d n)[0]? = some d := by
  cases n
  rw [rkN]
  rfl
mutual
theorem rkN_low : ∀ (n : Nd) (d a : Nat), a ∈ rkN d n → d ≤ a
  | .mk nm ats ks, d, a, h => by
    rw [rkN] at h
    rcases List.mem_cons.1 h with rfl | h
    · exact Nat.le_refl _
    · have := rkL_low ks (d + 1) a h
      omega
theorem rkL_low : ∀ (l : List Nd) (d a : Nat), a ∈ rkL d l → d ≤ a
  | [], _, _, h => by simp [rkL] at h
  | n :: l, d, a, h => by
    rw [rkL] at h
    rcases List.mem_append.1 h with h | h
    · exact rkN_low n d a h
    · exact rkL_low l d a h
end
mutual
/-- Each but the first is a child of its parent, one deeper. -/
theorem elN_up : ∀ (n : Nd) (k : Nat) (p : Int) (d j : Nat) (e : Elm), (elN k p n)[j]? = some e → 0 < j → ∃ (i : Nat) (q : Elm) (a : Nat), (elN k p n)[i]? = some q ∧ e.parent = k + i ∧ (k : Int) + j ∈ q.kids ∧ (rkN d n)[i]? = some a ∧ (rkN d n)[j]? = some (a + 1)
  | .mk nm ats ks, k, p, d, 0, e, h, hj => absurd hj (Nat.lt_irrefl _)
  | .mk nm ats ks, k, p, d, j + 1, e, h, _ => by
    rw [elN] at h ⊢
    rw [rkN]
    rcases elL_up ks (k + 1) k (d + 1) j e (by simpa using h) with ⟨h1, h2, h3⟩ | ⟨i, q, a, h1, h2, h3, h4, h5⟩
    · refine ⟨0, _, d, rfl, by omega, ?_, rfl, by simpa using h3⟩
      rw [show (k : Int) + (j + 1 : Nat) = ((k + 1 : Nat) : Int) + j from by omega]
      exact h2
    · refine ⟨i + 1, q, a, by simpa using h1, by omega, ?_, by simpa using h4, by simpa using h5⟩
      rw [show (k : Int) + (j + 1 : Nat) = ((k + 1 : Nat) : Int) + j from by omega]
      exact h3
theorem elL_up : ∀ (l : List Nd) (k : Nat) (p : Int) (d j : Nat) (e : Elm), (elL k p l)[j]? = some e → (e.parent = p ∧ (k : Int) + j ∈ kdN k l ∧ (rkL d l)[j]? = some d) ∨ ∃ (i : Nat) (q : Elm) (a : Nat), (elL k p l)[i]? = some q ∧ e.parent = k + i ∧ (k : Int) + j ∈ q.kids ∧ (rkL d l)[i]? = some a ∧ (rkL d l)[j]? = some (a + 1)
  | [], _, _, _, _, _, h => by simp [elL] at h
  | n :: l, k, p, d, j, e, h => by
    rw [elL] at h ⊢
    rw [rkL]
    by_cases hj : j < szN n
    · rw [List.getElem?_append_left (by rw [elN_len]; exact hj)] at h
      by_cases h0 : j = 0
      · subst h0
        rcases elN_par n k p 0 e h with h1 | h1
        · refine .inl ⟨h1.2, by rw [kdN]; simp, ?_⟩
          rw [List.getElem?_append_left (by rw [rkN_len]; exact hj)]
          exact rkN_head n d
        · omega
      · obtain ⟨i, q, a, h1, h2, h3, h4, h5⟩ := elN_up n k p d j e h (by omega)
        refine .inr ⟨i, q, a, ?_, h2, h3, ?_, ?_⟩
        · rw [List.getElem?_append_left (List.getElem?_eq_some_iff.1 h1).1]
          exact h1
        · rw [List.getElem?_append_left (List.getElem?_eq_some_iff.1 h4).1]
          exact h4
        · rw [List.getElem?_append_left (List.getElem?_eq_some_iff.1 h5).1]
          exact h5
    · rw [List.getElem?_append_right (by rw [elN_len]; omega), elN_len] at h
      have hk : (k : Int) + j = ((k + szN n : Nat) : Int) + (j - szN n : Nat) := by omega
      rcases elL_up l (k + szN n) p d (j - szN n) e h with ⟨h1, h2, h3⟩ | ⟨i, q, a, h1, h2, h3, h4, h5⟩
      · refine .inl ⟨h1, ?_, ?_⟩
        · rw [kdN, hk]
          exact List.mem_cons_of_mem _ h2
        · rw [List.getElem?_append_right (by rw [rkN_len]; omega), rkN_len]
          exact h3
      · refine .inr ⟨szN n + i, q, a, ?_, by omega, by rw [hk]; exact h3, ?_, ?_⟩
        · rw [List.getElem?_append_right (by rw [elN_len]; omega), elN_len, show szN n + i - szN n = i from by omega]
          exact h1
        · rw [List.getElem?_append_right (by rw [rkN_len]; omega), rkN_len, show szN n + i - szN n = i from by omega]
          exact h4
        · rw [List.getElem?_append_right (by rw [rkN_len]; omega), rkN_len]
          exact h5
end
/-- Children have their number and their parent. -/
theorem kdN_in : ∀ (l : List Nd) (k : Nat) (p x : Int), x ∈ kdN k l → ∃ (j : Nat) (e : Elm), x = k + j ∧ (elL k p l)[j]? = some e ∧ e.parent = p
  | [], _, _, _, h => by simp [kdN] at h
  | n :: l, k, p, x, h => by
    rw [kdN] at h
    rw [elL]
    rcases List.mem_cons.1 h with rfl | h
    · obtain ⟨nm, ats, ks⟩ := n
      rw [elN]
      exact ⟨0, _, by omega, rfl, rfl⟩
    · obtain ⟨j, e, h1, h2, h3⟩ := kdN_in l (k + szN n) p x h
      refine ⟨szN n + j, e, by omega, ?_, h3⟩
      rw [List.getElem?_append_right (by rw [elN_len]; omega), elN_len, show szN n + j - szN n = j from by omega]
      exact h2
mutual
theorem elN_down : ∀ (n : Nd) (k : Nat) (p : Int) (i : Nat) (q : Elm) (x : Int), (elN k p n)[i]? = some q → x ∈ q.kids → ∃ (j : Nat) (e : Elm), x = k + j ∧ 0 < j ∧ (elN k p n)[j]? = some e ∧ e.parent = k + i
  | .mk nm ats ks, k, p, 0, q, x, h, hx => by
    rw [elN] at h ⊢
    simp at h
    subst h
    obtain ⟨j, e, h1, h2, h3⟩ := kdN_in ks (k + 1) k x hx
    exact ⟨j + 1, e, by omega, by omega, by simpa using h2, by omega⟩
  | .mk nm ats ks, k, p, i + 1, q, x, h, hx => by
    rw [elN] at h ⊢
    obtain ⟨j, e, h1, h2, h3⟩ := elL_down ks (k + 1) k i q x (by simpa using h) hx
    exact ⟨j + 1, e, by omega, by omega, by simpa using h2, by omega⟩
theorem elL_down : ∀ (l : List Nd) (k : Nat) (p : Int) (i : Nat) (q : Elm) (x : Int), (elL k p l)[i]? = some q → x ∈ q.kids → ∃ (j : Nat) (e : Elm), x = k + j ∧ (elL k p l)[j]? = some e ∧ e.parent = k + i
  | [], _, _, _, _, _, h, _ => by simp [elL] at h
  | n :: l, k, p, i, q, x, h, hx => by
    rw [elL] at h ⊢
    by_cases hi : i < szN n
    · rw [List.getElem?_append_left (by rw [elN_len]; exact hi)] at h
      obtain ⟨j, e, h1, _, h2, h3⟩ := elN_down n k p i q x h hx
      refine ⟨j, e, h1, ?_, h3⟩
      rw [List.getElem?_append_left (List.getElem?_eq_some_iff.1 h2).1]
      exact h2
    · rw [List.getElem?_append_right (by rw [elN_len]; omega), elN_len] at h
      obtain ⟨j, e, h1, h2, h3⟩ := elL_down l (k + szN n) p (i - szN n) q x h hx
      refine ⟨szN n + j, e, by omega, ?_, by omega⟩
      rw [List.getElem?_append_right (by rw [elN_len]; omega), elN_len, show szN n + j - szN n = j from by omega]
      exact h2
end
theorem kdN_low : ∀ (l : List Nd) (k : Nat) (x : Int), x ∈ kdN k l → (k : Int) ≤ x
  | [], _, _, h => by simp [kdN] at h
  | n :: l, k, x, h => by
    rw [kdN] at h
    rcases List.mem_cons.1 h with rfl | h
    · exact Int.le_refl _
    · have := kdN_low l _ x h
      omega
theorem kdN_nodup : ∀ (l : List Nd) (k : Nat), (kdN k l).Nodup
  | [], _ => List.nodup_nil
  | n :: l, k => by
    rw [kdN, List.nodup_cons]
    refine ⟨fun hm => ?_, kdN_nodup l _⟩
    have := kdN_low l _ _ hm
    have := szN_pos n
    omega
mutual
theorem elN_kids : ∀ (n : Nd) (k : Nat) (p : Int), ∀ e ∈ elN k p n, e.kids.Nodup
  | .mk nm ats ks, k, p, e, he => by
    rw [elN] at he
    rcases List.mem_cons.1 he with rfl | he
    · exact kdN_nodup ks _
    · exact elL_kids ks _ _ e he
theorem elL_kids : ∀ (l : List Nd) (k : Nat) (p : Int), ∀ e ∈ elL k p l, e.kids.Nodup
  | [], _, _, e, he => by simp [elL] at he
  | n :: l, k, p, e, he => by
    rw [elL] at he
    rcases List.mem_append.1 he with he | he
    · exact elN_kids n _ _ e he
    · exact elL_kids l _ _ e he
end
/-- How deep an element of a new document lies. -/
def rkD (n : Nd) (i : Int) : Nat := ((rkN 1 n)[i.toNat]?).getD 0
theorem Wd.new (n : Nd) (hd : ∀ a ∈ rkN 1 n, a ≤ 10) : Wd (extE (fun _ => none) 0 (elN 0 (-1) n)) (rkD n) := by
  have look : ∀ i e, extE (fun _ => none) 0 (elN 0 (-1) n) i = some e → ∃ j : Nat, i = j ∧ (elN 0 (-1) n)[j]? = some e := fun i e h => by
    unfold extE at h
    split at h
    · next hi =>
      refine ⟨i.toNat, by omega, ?_⟩
      rw [show i.toNat = (i - (0 : Nat)).toNat from by omega]
      exact h
    · exact absurd h (by simp)
  have give : ∀ (j : Nat) e, (elN 0 (-1) n)[j]? = some e → extE (fun _ => none) 0 (elN 0 (-1) n) (j : Int) = some e := fun j e h => by
    have h1 := extE_new (M := fun _ => none) (nx := 0) (L := elN 0 (-1) n) (j := j) (List.getElem?_eq_some_iff.1 h).1
    rw [show ((0 : Nat) : Int) + j = j from by omega] at h1
    rw [h1]
    exact h
  have rk : ∀ j a : Nat, (rkN 1 n)[j]? = some a → rkD n (j : Int) = a := fun j a h => by
    unfold rkD
    rw [Int.toNat_natCast, h]
    rfl
  have par0 : ∃ e, (elN 0 (-1) n)[0]? = some e ∧ e.parent = -1 := by
    obtain ⟨nm, ats, ks⟩ := n
    rw [elN]
    exact ⟨_, rfl, rfl⟩
  refine ⟨?_, fun i hi => extE_old (by omega), ?_, ?_, ?_, ?_, ?_⟩
  · obtain ⟨e, h1, h2⟩ := par0
    exact ⟨e, give 0 e h1, h2⟩
  · intro i e he h0
    obtain ⟨j, rfl, hj⟩ := look i e he
    obtain ⟨i', q, a, h1, h2, h3, h4, h5⟩ := elN_up n 0 (-1) 1 j e hj (by omega)
    have h2' : e.parent = (i' : Int) := by omega
    rw [h2']
    refine ⟨q, give i' q h1, ?_, by rw [rk j _ h5, rk i' _ h4]⟩
    rw [show ((0 : Nat) : Int) + j = j from by omega] at h3
    exact h3
  · intro i e k he hk
    obtain ⟨j, rfl, hj⟩ := look i e he
    obtain ⟨j', x, h1, h2, h3, h4⟩ := elN_down n 0 (-1) j e k hj hk
    have h1' : k = (j' : Int) := by omega
    subst h1'
    exact ⟨x, give j' x h3, by omega, by omega⟩
  · intro i e he
    obtain ⟨j, rfl, hj⟩ := look i e he
    exact elN_kids n 0 (-1) e (List.mem_of_getElem? hj)
  · exact rk 0 1 (rkN_head n 1)
  · intro i e he
    obtain ⟨j, rfl, hj⟩ := look i e he
    have hl : j < (rkN 1 n).length := by
      have := (List.getElem?_eq_some_iff.1 hj).1
      rw [elN_len] at this
      rw [rkN_len]
      exact this
    rw [rk j _ (List.getElem?_eq_getElem hl)]
    have hm := List.getElem_mem hl
    exact ⟨rkN_low n 1 _ hm, hd _ hm⟩
theorem Cd.new (n : Nd) : Cd (extE (fun _ => none) 0 (elN 0 (-1) n)) (szN n) := by
  refine ⟨nums 0 (szN n), ?_, by simp [nums], fun x => ?_⟩
  · unfold nums
    exact List.Pairwise.map _ (fun a b h => by omega) (List.nodup_range' (s := 0) (n := szN n) (step := 1))
  · rw [mem_nums]
    unfold extE
    rw [elN_len]
    constructor
    · intro h
      rw [if_pos (by omega), List.getElem?_eq_getElem (by rw [elN_len]; omega)]
      simp
    · intro h
      refine Classical.byContradiction fun hn => ?_
      rw [if_neg (by omega)] at h
      exact h rfl

/-- Put in and taken out again. -/
theorem wo_ins (K : List Int) (a : Nat) (n : Int) (h : n ∉ K) : (K.take a ++ n :: K.drop a).filter (fun x => !decide (x = n)) = K := by
  have hk : K.filter (fun x => !decide (x = n)) = K := List.filter_eq_self.2 fun x hx => by
    have : x ≠ n := fun e => h (e ▸ hx)
    simp [this]
  rw [List.filter_append, List.filter_cons]
  simp only [decide_true, Bool.not_true, Bool.false_eq_true, if_false]
  rw [← List.filter_append, List.take_append_drop]
  exact hk
/-- Taken out and put in again. -/
theorem ins_wo : ∀ (K : List Int) (a : Nat) (n : Int), K[a]? = some n → K.Nodup → (K.filter (fun x => !decide (x = n))).take a ++ n :: (K.filter (fun x => !decide (x = n))).drop a = K
  | [], _, _, h, _ => by simp at h
  | k :: K, 0, n, h, hn => by
    simp at h
    subst h
    have h1 := (List.nodup_cons.1 hn).1
    have h2 : K.filter (fun x => !decide (x = k)) = K := List.filter_eq_self.2 fun x hx => by
      have : x ≠ k := fun e => h1 (e ▸ hx)
      simp [this]
    rw [List.filter_cons]
    simp [h2]
  | k :: K, a + 1, n, h, hn => by
    have h1 := List.nodup_cons.1 hn
    have h2 : K[a]? = some n := by simpa using h
    have h3 : k ≠ n := fun e => h1.1 (e ▸ List.mem_of_getElem? h2)
    rw [List.filter_cons]
    simp only [h3, decide_false, Bool.not_false, if_true, List.take_succ_cons, List.drop_succ_cons, List.cons_append]
    rw [ins_wo K a n h2 h1.2]

end Go.Proofs.YtnoecobddhmhlaaGreatDoor

namespace Go.Proofs.YtnoecobddhmhlaaGreatDoor

theorem Wd.deep {M : Dm} {r : Int → Nat} (h : Wd M r) : ∀ (d : Nat) (x : Int) (e : Elm), r x = d → M x = some e → Up M x d
  | 0, x, e, hd, he => by
    have := (h.rb x e he).1
    omega
  | d + 1, x, e, hd, he => by
    refine ⟨e, he, ?_⟩
    by_cases h0 : x = 0
    · subst h0
      obtain ⟨e0, h1, h2⟩ := h.root
      rw [he] at h1
      cases h1
      have : d = 0 := by have := h.r0; omega
      subst this
      rw [h2]
      exact h.neg _ (by decide)
    · obtain ⟨q, hq, _, hr⟩ := h.up x e he h0
      exact h.deep d _ q (by omega) hq
theorem mem_insAt {L : List Int} {a : Nat} {k x : Int} : x ∈ insAt L a k ↔ x = k ∨ x ∈ L := by
  unfold insAt
  rw [List.mem_append, List.mem_cons]
  constructor
  · rintro (h | h | h)
    · exact .inr (List.mem_of_mem_take h)
    · exact .inl h
    · exact .inr (List.mem_of_mem_drop h)
  · rintro (h | h)
    · exact .inr (.inl h)
    · rw [← List.take_append_drop a L] at h
      rcases List.mem_append.1 h with h | h
      · exact .inl h
      · exact .inr (.inr h)
theorem nodup_insAt {L : List Int} {a : Nat} {k : Int} (h : L.Nodup) (hk : k ∉ L) : (insAt L a k).Nodup := by
  have hp : (insAt L a k).Perm (k :: L) := by
    unfold insAt
    refine List.perm_middle.trans ?_
    rw [List.take_append_drop]
  exact hp.nodup_iff.2 (List.nodup_cons.2 ⟨hk, h⟩)
theorem mem_woL {L : List Int} {k x : Int} : x ∈ woL L k ↔ x ≠ k ∧ x ∈ L := by
  unfold woL
  rw [List.mem_filter]
  by_cases h : x = k <;> simp [h]
section
variable {M : Dm} {r : Int → Nat}
theorem Wd.kid_in (h : Wd M r) {i k : Int} {e : Elm} (he : M i = some e) (hk : k ∈ e.kids) : M k ≠ none := by
  obtain ⟨x, hx, _⟩ := h.down i e k he hk
  rw [hx]
  simp
theorem Wd.addV (h : Wd M r) {nx par : Int} {q : Elm} (hnx : M nx = none) (h0 : 0 ≤ nx) (hq : M par = some q) (name : Bs) (a : Nat) : AddV M (putE (putE M nx ⟨name, [], par, []⟩) par ⟨q.name, q.ats, q.parent, insAt q.kids a nx⟩) nx par := by
  have hp : nx ≠ par := fun e => by
    rw [← e, hnx] at hq
    exact absurd hq (by simp)
  refine ⟨hnx, h0, ⟨⟨name, [], par, []⟩, ?_, rfl, rfl⟩, fun i e he => ?_, fun i hi hn => ?_⟩
  · unfold putE
    rw [if_neg hp, if_pos rfl]
  · have hin : i ≠ nx := fun e1 => by
      rw [e1, hnx] at he
      exact absurd he (by simp)
    unfold putE
    by_cases hi : i = par
    · subst hi
      rw [hq] at he
      cases he
      rw [if_pos rfl]
      refine ⟨_, rfl, rfl, nodup_insAt (h.nodup i q hq) (fun hm => h.kid_in hq hm hnx), fun x => ?_⟩
      rw [mem_insAt]
      simp
    · rw [if_neg hi, if_neg hin]
      exact ⟨e, he, rfl, h.nodup i e he, fun x => by simp [hi]⟩
  · unfold putE
    rw [if_neg (fun e1 => by rw [e1, hq] at hn; exact absurd hn (by simp)), if_neg hi]
    exact hn
/-- The parent does not lie below. -/
theorem Wd.not_up (h : Wd M r) {n : Int} {e : Elm} (hn : M n = some e) (h0 : n ≠ 0) : ¬ Bl M n e.parent := fun hb => by
  obtain ⟨q, _, _, hr⟩ := h.up n e hn h0
  have := (h.low hb).1
  omega
theorem Wd.outE_pre (h : Wd M r) {n : Int} {e o : Elm} (hn : M n = some e) (h0 : n ≠ 0) {f : Nat} {d : Int} (hf : Dp M f n) : pre (outE M n e o) f n d = pre M f n d := by
  refine pre_congr f n d (fun x hx => ?_) (fun hm => absurd (hm.symm.trans hn) (by simp)) (fun y q hy hq k hk => h.kid_in hq hk)
  have hb := (h.mem hf).1 hx
  unfold outE putE
  rw [if_neg]
  intro e1
  subst e1
  exact h.not_up hn h0 hb
theorem Wd.cutV (h : Wd M r) {n : Int} {e o : Elm} (hn : M n = some e) (ho : M e.parent = some o) {L : List Int} (hL : ∀ x, x ∈ L ↔ Bl M n x) : CutV M (cutE (outE M n e o) L) n := by
  refine ⟨fun i hb => ?_, fun i x hx hb => ?_, fun i hi => ?_⟩
  · unfold cutE
    rw [if_pos ((hL i).2 hb)]
  · unfold cutE
    rw [if_neg (fun hm => hb ((hL i).1 hm))]
    unfold outE putE
    by_cases hi : i = e.parent
    · rw [if_pos hi]
      rw [hi, ho] at hx
      cases hx
      exact ⟨_, rfl, rfl, (h.nodup _ o ho).filter _, fun y => mem_woL⟩
    · rw [if_neg hi]
      refine ⟨x, hx, rfl, h.nodup i x hx, fun y => ⟨fun hy => ⟨fun e1 => ?_, hy⟩, fun hy => hy.2⟩⟩
      subst e1
      obtain ⟨z, hz, hzp, _⟩ := h.down i x y hx hy
      rw [hn] at hz
      cases hz
      exact hi hzp.symm
  · unfold cutE outE putE
    by_cases hm : i ∈ L
    · rw [if_pos hm]
    · rw [if_neg hm, if_neg (fun e1 => by rw [e1, ho] at hi; exact absurd hi (by simp))]
      exact hi
end

end Go.Proofs.YtnoecobddhmhlaaGreatDoor

namespace Go.Proofs.YtnoecobddhmhlaaGreatDoor

section
variable {M : Dm} {r : Int → Nat}
theorem Wd.not_kid (h : Wd M r) {n i : Int} {e x : Elm} (hn : M n = some e) (hx : M i = some x) (hi : i ≠ e.parent) : n ∉ x.kids := fun hm => by
  obtain ⟨z, hz, hzp, _⟩ := h.down i x n hx hm
  rw [hn] at hz
  cases hz
  exact hi hzp.symm
theorem Wd.outE_at (h : Wd M r) {n i : Int} {e o x : Elm} (hn : M n = some e) (ho : M e.parent = some o) (hx : M i = some x) : ∃ x', outE M n e o i = some x' ∧ x'.parent = x.parent ∧ x'.kids.Nodup ∧ ∀ y, y ∈ x'.kids ↔ y ≠ n ∧ y ∈ x.kids := by
  unfold outE putE
  by_cases hi : i = e.parent
  · rw [if_pos hi]
    rw [hi, ho] at hx
    cases hx
    exact ⟨_, rfl, rfl, (h.nodup _ o ho).filter _, fun y => mem_woL⟩
  · rw [if_neg hi]
    refine ⟨x, hx, rfl, h.nodup i x hx, fun y => ⟨fun hy => ⟨fun e1 => ?_, hy⟩, fun hy => hy.2⟩⟩
    subst e1
    exact h.not_kid hn hx hi hy
theorem Wd.not_self (h : Wd M r) {n : Int} {e : Elm} (hn : M n = some e) (h0 : n ≠ 0) : e.parent ≠ n := fun e1 => h.not_up hn h0 (by rw [e1]; exact .self hn)
theorem Wd.movV (h : Wd M r) {n par : Int} {e o q0 q : Elm} (hn : M n = some e) (h0 : n ≠ 0) (ho : M e.parent = some o) (hq0 : M par = some q0) (hq : outE M n e o par = some q) (hpn : par ≠ n) (a : Nat) : MovV M (movE M n par a e o q) n par := by
  refine ⟨fun i x hx => ?_, fun i hi => ?_⟩
  · unfold movE
    by_cases hi : i = par
    · subst hi
      obtain ⟨x', h1, h2, h3, h4⟩ := h.outE_at hn ho hx
      rw [hq] at h1
      cases h1
      refine ⟨⟨q.name, q.ats, q.parent, insAt q.kids a n⟩, by rw [putE, if_pos rfl], ?_, nodup_insAt h3 (fun hm => ((h4 n).1 hm).1 rfl), fun y => ?_⟩
      · rw [if_neg hpn]
        exact h2
      · show y ∈ insAt q.kids a n ↔ _
        rw [mem_insAt, h4]
        simp
    · by_cases hin : i = n
      · subst hin
        rw [hn] at hx
        cases hx
        refine ⟨⟨e.name, e.ats, par, e.kids⟩, by rw [putE, if_neg hi, putE, if_pos rfl], by rw [if_pos rfl], h.nodup i e hn, fun y => ?_⟩
        show y ∈ e.kids ↔ _
        constructor
        · intro hy
          refine .inr ⟨fun e1 => ?_, hy⟩
          subst e1
          exact h.not_kid hn hn (fun e1 => h.not_self hn h0 e1.symm) hy
        · rintro (⟨_, h1⟩ | ⟨_, h1⟩)
          · exact absurd h1 hi
          · exact h1
      · obtain ⟨x', h1, h2, h3, h4⟩ := h.outE_at hn ho hx
        refine ⟨x', by rw [putE, if_neg hi, putE, if_neg hin]; exact h1, by rw [if_neg hin]; exact h2, h3, fun y => ?_⟩
        rw [h4]
        simp [hi]
  · have n1 : i ≠ par := fun e1 => by rw [e1, hq0] at hi; exact absurd hi (by simp)
    have n2 : i ≠ n := fun e1 => by rw [e1, hn] at hi; exact absurd hi (by simp)
    have n3 : i ≠ e.parent := fun e1 => by rw [e1, ho] at hi; exact absurd hi (by simp)
    unfold movE
    rw [putE, if_neg n1, putE, if_neg n2]
    unfold outE
    rw [putE, if_neg n3]
    exact hi
/-- What was moved, and moved back, is as it was. -/
theorem Wd.back (h : Wd M r) {n par : Int} {e o q0 q : Elm} (hn : M n = some e) (h0 : n ≠ 0) (ho : M e.parent = some o) (hq0 : M par = some q0) (hq : outE M n e o par = some q) (hpn : par ≠ n) (a a0 : Nat) (ha : o.kids[a0]? = some n) :
    ∃ e' o' q', movE M n par a e o q n = some e' ∧ e'.parent = par ∧ movE M n par a e o q par = some o' ∧ o'.kids ≠ [] ∧ outE (movE M n par a e o q) n e' o' e.parent = some q' ∧ q'.kids.length + 1 = o.kids.length ∧ movE (movE M n par a e o q) n e.parent a0 e' o' q' = M := by
  have hself := h.not_self hn h0
  have hqk : n ∉ q.kids := by
    obtain ⟨x', h1, _, _, h4⟩ := h.outE_at hn ho hq0
    rw [hq] at h1
    cases h1
    exact fun hm => ((h4 n).1 hm).1 rfl
  have hwi : woL (insAt q.kids a n) n = q.kids := by
    unfold woL insAt
    exact wo_ins q.kids a n hqk
  have hiw : insAt (woL o.kids n) a0 n = o.kids := by
    unfold woL insAt
    exact ins_wo o.kids a0 n ha (h.nodup _ o ho)
  have hoP : outE M n e o e.parent = some ⟨o.name, o.ats, o.parent, woL o.kids n⟩ := by
    unfold outE
    rw [putE, if_pos rfl]
  have hout : ∀ i, outE (movE M n par a e o q) n ⟨e.name, e.ats, par, e.kids⟩ ⟨q.name, q.ats, q.parent, insAt q.kids a n⟩ i = if i = n then some ⟨e.name, e.ats, par, e.kids⟩ else outE M n e o i := fun i => by
    show putE (movE M n par a e o q) par ⟨q.name, q.ats, q.parent, woL (insAt q.kids a n) n⟩ i = _
    rw [hwi, putE]
    by_cases hi : i = par
    · rw [if_pos hi, if_neg (fun e1 => hpn (hi.symm.trans e1)), hi, hq]
    · rw [if_neg hi]
      unfold movE
      rw [putE, if_neg hi, putE]
  refine ⟨⟨e.name, e.ats, par, e.kids⟩, ⟨q.name, q.ats, q.parent, insAt q.kids a n⟩, ⟨o.name, o.ats, o.parent, woL o.kids n⟩, ?_, rfl, ?_, ?_, ?_, ?_, ?_⟩
  · unfold movE
    rw [putE, if_neg (fun e1 => hpn e1.symm), putE, if_pos rfl]
  · unfold movE
    rw [putE, if_pos rfl]
  · show insAt q.kids a n ≠ []
    unfold insAt
    simp
  · rw [hout, if_neg hself]
    exact hoP
  · have h1 := congrArg List.length hiw
    unfold insAt at h1
    rw [List.length_append, List.length_cons] at h1
    have h2 := congrArg List.length (List.take_append_drop a0 (woL o.kids n))
    rw [List.length_append] at h2
    show (woL o.kids n).length + 1 = _
    omega
  · funext i
    show putE (putE (outE (movE M n par a e o q) n ⟨e.name, e.ats, par, e.kids⟩ ⟨q.name, q.ats, q.parent, insAt q.kids a n⟩) n ⟨e.name, e.ats, e.parent, e.kids⟩) e.parent ⟨o.name, o.ats, o.parent, insAt (woL o.kids n) a0 n⟩ i = M i
    rw [hiw, putE]
    by_cases h1 : i = e.parent
    · rw [if_pos h1, h1, ho]
    · rw [if_neg h1, putE]
      by_cases h2 : i = n
      · rw [if_pos h2, h2, hn]
      · rw [if_neg h2, hout, if_neg h2]
        unfold outE
        rw [putE, if_neg h1]
/-- The deepest below an element. -/
theorem mostD_ge : ∀ (l : List (Int × Int)) (m : Int), m ≤ l.foldl (fun m x => max m x.2) m ∧ ∀ x ∈ l, x.2 ≤ l.foldl (fun m x => max m x.2) m
  | [], m => ⟨Int.le_refl _, fun x hx => absurd hx (by simp)⟩
  | y :: l, m => by
    obtain ⟨h1, h2⟩ := mostD_ge l (max m y.2)
    rw [List.foldl_cons]
    refine ⟨by omega, fun x hx => ?_⟩
    rcases List.mem_cons.1 hx with rfl | hx
    · omega
    · exact h2 x hx
theorem mostD_le : ∀ (l : List (Int × Int)) (m b : Int), m ≤ b → (∀ x ∈ l, x.2 ≤ b) → l.foldl (fun m x => max m x.2) m ≤ b
  | [], _, _, h, _ => h
  | y :: l, m, b, h, hl => by
    rw [List.foldl_cons]
    have := hl y (by simp)
    exact mostD_le l _ b (by omega) (fun x hx => hl x (by simp [hx]))
/-- What Move's look at the depth says: all below lie no deeper than 10 then. -/
theorem Wd.fits (h : Wd M r) {n par : Int} {f : Nat} (hd : (r par : Int) + mostD (pre M f n 1) ≤ 10) : ∀ x ∈ fromL M f n, r x + 1 + r par ≤ 10 + r n := fun x hx => by
  obtain ⟨⟨y, dy⟩, hy, rfl⟩ := List.mem_map.1 hx
  have h1 := (h.pre_in f n 1 y dy hy).2
  have h2 := (mostD_ge (pre M f n 1) 0).2 _ hy
  unfold mostD at hd
  show r y + 1 + r par ≤ 10 + r n
  simp only at h2
  omega
theorem Wd.most (h : Wd M r) {n : Int} {f : Nat} : 0 ≤ mostD (pre M f n 1) ∧ mostD (pre M f n 1) ≤ 10 := by
  refine ⟨(mostD_ge (pre M f n 1) 0).1, mostD_le _ _ _ (by decide) fun x hx => ?_⟩
  obtain ⟨y, dy⟩ := x
  obtain ⟨h1, h2⟩ := h.pre_in f n 1 y dy hx
  obtain ⟨e, he⟩ := h1.in_
  have h3 := (h.rb y e he).2
  have h4 := (h.low h1).1
  obtain ⟨x, hx⟩ : ∃ x, M n = some x := by
    cases f with
    | zero => simp [pre] at hx
    | succ f =>
      cases hm : M n with
      | none => rw [pre, hm] at hx; simp at hx
      | some x => exact ⟨x, rfl⟩
  have h5 := (h.rb n x hx).1
  show dy ≤ 10
  omega
end

end Go.Proofs.YtnoecobddhmhlaaGreatDoor

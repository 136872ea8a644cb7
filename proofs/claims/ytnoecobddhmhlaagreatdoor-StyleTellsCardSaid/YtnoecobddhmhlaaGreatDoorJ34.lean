/-
  Sheets and styles as plain mathematics: a line's rule, a sheet's rules, the heaviest rule that fits, an element's style.
-/
import Derived.Test.YtnoecobddhmhlaaGreatDoorJ1
import Derived.Lib.IndexMore
import Derived.Shelf.GgClosure.StringsIndexFunc
import Derived.Test.YtnoecobddhmhlaaGreatDoorJ18
import Derived.Test.YtnoecobddhmhlaaGreatDoorPickB
namespace Go.Proofs.YtnoecobddhmhlaaGreatDoor

/-- A rule of a sheet. -/
structure Rl where
  wh : Bs
  nm : Bs
  vl : Bs

def kFill : Bs := [102, 105, 108, 108]
def kShow : Bs := [115, 104, 111, 119]
def kRule : Bs := [114, 117, 108, 101]
def kLevel : Bs := [108, 101, 118, 101, 108]
/-- A name's first value; empty: it is none. -/
def firstM (s : Bs) : Bs := if s = kFill then [110, 111, 110, 101] else if s = kShow then [121, 101, 115] else if s = kRule then [119, 105, 110, 100] else if s = kLevel then [48] else []
def isNmS (s : Bs) : Bool := firstM s != []
def isInh (s : Bs) : Bool := s == kFill || s == kRule
/-- A sign that no value has. -/
def badR (x : Nat) : Bool := !((decide (97 ≤ x) && decide (x ≤ 122)) || (decide (48 ≤ x) && decide (x ≤ 57)) || x == 45)
def isValM (s : Bs) : Bool := s != [] && decide (s.length ≤ 12) && !decide (0 ≤ Lib.idxFunc badR true ⟨s.toArray⟩)
/-- The rule of a line. -/
def ruleM (l : Bs) : Option Rl :=
  if (Lib.cut l [32, 123, 32]).2.2 && Lib.hasSuffix (Lib.cut l [32, 123, 32]).2.1 [32, 125] && (Lib.cut (Lib.trimSuffix (Lib.cut l [32, 123, 32]).2.1 [32, 125]) [58, 32]).2.2 && isNmS (Lib.cut (Lib.trimSuffix (Lib.cut l [32, 123, 32]).2.1 [32, 125]) [58, 32]).1 && isValM (Lib.cut (Lib.trimSuffix (Lib.cut l [32, 123, 32]).2.1 [32, 125]) [58, 32]).2.1 && isSelM (Lib.cut l [32, 123, 32]).1 then
    some ⟨(Lib.cut l [32, 123, 32]).1, (Lib.cut (Lib.trimSuffix (Lib.cut l [32, 123, 32]).2.1 [32, 125]) [58, 32]).1, (Lib.cut (Lib.trimSuffix (Lib.cut l [32, 123, 32]).2.1 [32, 125]) [58, 32]).2.1⟩
  else none
/-- A sheet, line by line: the number of the first line that is none, or its rules. -/
def shA : Nat → List Rl → Bs → Except Nat (List Rl)
  | 0, acc, _ => .ok acc
  | f + 1, acc, s => if s = [] then .ok acc else match ruleM (Lib.cut s [10]).1 with
    | none => .error acc.length
    | some r => if (Lib.cut s [10]).2.2 then shA f (acc ++ [r]) (Lib.cut s [10]).2.1 else .error acc.length
def sheetM (s : Bs) : Except Nat (List Rl) := shA (s.length + 1) [] s

theorem cut_len (s sep : Bs) (h : (Lib.cut s sep).2.2 = true) (hs : sep ≠ []) : (Lib.cut s sep).2.1.length < s.length := by
  unfold Lib.cut at h ⊢
  split
  · next h0 =>
    have h1 := Lib.index_room s sep h0
    have h2 : 0 < sep.length := List.length_pos_iff.2 hs
    simp only [List.length_drop]
    omega
  · next h0 => rw [if_neg h0] at h; simp at h
theorem cut_fst_len (s sep : Bs) : (Lib.cut s sep).1.length ≤ s.length := by
  unfold Lib.cut
  split
  · simp only [List.length_take]; omega
  · exact Nat.le_refl _
theorem cut_snd_len (s sep : Bs) : (Lib.cut s sep).2.1.length ≤ s.length := by
  unfold Lib.cut
  split
  · simp only [List.length_drop]; omega
  · simp
theorem trimS_len (s p : Bs) : (Lib.trimSuffix s p).length ≤ s.length := by
  unfold Lib.trimSuffix
  split
  · simp only [List.length_take]; omega
  · exact Nat.le_refl _
theorem shA_nil (f : Nat) (acc : List Rl) : shA f acc [] = .ok acc := by cases f <;> simp [shA]
theorem shA_bad {f : Nat} {acc : List Rl} {s : Bs} (hs : s ≠ []) (hr : ruleM (Lib.cut s [10]).1 = none) : shA (f + 1) acc s = .error acc.length := by
  rw [shA, if_neg hs, hr]
theorem shA_open {f : Nat} {acc : List Rl} {s : Bs} (hs : s ≠ []) (hr : (Lib.cut s [10]).2.2 = false) : shA (f + 1) acc s = .error acc.length := by
  rw [shA, if_neg hs]
  cases ruleM (Lib.cut s [10]).1 with
  | none => rfl
  | some r => simp [hr]
theorem shA_more {f : Nat} {acc : List Rl} {s : Bs} {r : Rl} (hs : s ≠ []) (hr : ruleM (Lib.cut s [10]).1 = some r) (he : (Lib.cut s [10]).2.2 = true) : shA (f + 1) acc s = shA f (acc ++ [r]) (Lib.cut s [10]).2.1 := by
  rw [shA, if_neg hs, hr]
  simp [he]
/-- The rules of a sheet are well. -/
def RlOk (r : Rl) : Prop := isSelM r.wh = true ∧ isNmS r.nm = true ∧ isValM r.vl = true ∧ r.wh.length ≤ 1000000
theorem ruleM_ok {l : Bs} {r : Rl} (hl : l.length ≤ 1000000) (h : ruleM l = some r) : RlOk r := by
  unfold ruleM at h
  split at h
  · next hc =>
    simp only [Bool.and_eq_true] at hc
    cases h
    exact ⟨hc.2, hc.1.1.2, hc.1.2, Nat.le_trans (cut_fst_len _ _) hl⟩
  · cases h
theorem shA_ok : ∀ (f : Nat) (acc : List Rl) (s : Bs) (l : List Rl), s.length ≤ 1000000 → (∀ r ∈ acc, RlOk r) → shA f acc s = .ok l → ∀ r ∈ l, RlOk r
  | 0, acc, s, l, _, ha, h => by rw [shA] at h; cases h; exact ha
  | f + 1, acc, s, l, hs, ha, h => by
    by_cases h0 : s = []
    · subst h0; rw [shA_nil] at h; cases h; exact ha
    · cases hr : ruleM (Lib.cut s [10]).1 with
      | none => rw [shA_bad h0 hr] at h; cases h
      | some r =>
        cases he : (Lib.cut s [10]).2.2 with
        | false => rw [shA_open h0 he] at h; cases h
        | true =>
          rw [shA_more h0 hr he] at h
          refine shA_ok f _ _ l (Nat.le_trans (cut_snd_len _ _) hs) (fun x hx => ?_) h
          rcases List.mem_append.1 hx with hx | hx
          · exact ha x hx
          · rw [List.mem_singleton.1 hx]
            exact ruleM_ok (Nat.le_trans (cut_fst_len _ _) hs) hr

/-- The heaviest rule that fits, the last one of equal ones: its value, whether there is one, and its weight. -/
def hvStep (p : Rl → Bool) (a : Bs × Bool × Nat) (r : Rl) : Bs × Bool × Nat := if decide (a.2.2 ≤ wtM r.wh) && p r then (r.vl, true, wtM r.wh) else a
def hvM (p : Rl → Bool) (l : List Rl) : Bs × Bool × Nat := l.foldl (hvStep p) ([], false, 0)
theorem hvM_snoc (p : Rl → Bool) (l : List Rl) (r : Rl) : hvM p (l ++ [r]) = hvStep p (hvM p l) r := by
  unfold hvM
  rw [List.foldl_append]
  rfl
theorem hvM_nil (p : Rl → Bool) : hvM p [] = ([], false, 0) := rfl
theorem hvStep_no {p : Rl → Bool} {a : Bs × Bool × Nat} {r : Rl} (h : p r = false) : hvStep p a r = a := by unfold hvStep; rw [h]; simp
theorem hvStep_big {p : Rl → Bool} {a : Bs × Bool × Nat} {r : Rl} (h : ¬ a.2.2 ≤ wtM r.wh) : hvStep p a r = a := by unfold hvStep; rw [decide_eq_false h]; simp
theorem hvStep_yes {p : Rl → Bool} {a : Bs × Bool × Nat} {r : Rl} (h : a.2.2 ≤ wtM r.wh) (hp : p r = true) : hvStep p a r = (r.vl, true, wtM r.wh) := by unfold hvStep; rw [decide_eq_true h, hp]; simp
/-- Where none fits nothing is told. -/
theorem hvM_none {p : Rl → Bool} : ∀ (l : List Rl) (a : Bs × Bool × Nat), (∀ r ∈ l, p r = false) → l.foldl (hvStep p) a = a
  | [], _, _ => rfl
  | r :: l, a, h => by
    rw [List.foldl_cons, hvStep_no (h r (by simp))]
    exact hvM_none l a fun x hx => h x (List.mem_cons_of_mem _ hx)
/-- An attribute of an element. -/
def atM (M : Dm) (n : Int) (nm : Bs) : Option Bs := match M n with | none => none | some e => atOf e.ats nm
/-- Does a rule tell of an element? -/
def rlFits (M : Dm) (nm : Bs) (n : Int) (r : Rl) : Bool := r.nm == nm && fitsM M r.wh n
/-- What is told of an element itself. -/
def toldM (M : Dm) (l : List Rl) (nm : Bs) (n : Int) : Option Bs := match atM M n nm with
  | some v => some v
  | none => if (hvM (rlFits M nm n) l).2.1 then some (hvM (rlFits M nm n) l).1 else none
def ofF (M : Dm) (l : List Rl) (nm : Bs) : Nat → Int → Bs
  | 0, _ => firstM nm
  | f + 1, n => if n < 0 then firstM nm else match toldM M l nm n with
    | some v => v
    | none => if isInh nm then ofF M l nm f (parM M n) else firstM nm
/-- The style of an element. -/
def ofM (M : Dm) (l : List Rl) (nm : Bs) (n : Int) : Bs := if (M n).isSome && isNmS nm then ofF M l nm 12 n else []

end Go.Proofs.YtnoecobddhmhlaaGreatDoor

namespace Go.Proofs.YtnoecobddhmhlaaGreatDoor

section
variable {M : Dm} {r : Int → Nat}
theorem Wd.up_par (h : Wd M r) {x : Int} {e : Elm} (hx : M x = some e) (h0 : x ≠ 0) : ∃ q, M (parM M x) = some q ∧ r x = r (parM M x) + 1 := by
  obtain ⟨q, hq, _, hr⟩ := h.up x e hx h0
  unfold parM
  rw [hx]
  exact ⟨q, hq, hr⟩
theorem Wd.root_par (h : Wd M r) : parM M 0 = -1 := by
  obtain ⟨e, he, hp⟩ := h.root
  unfold parM
  rw [he]
  exact hp
theorem Wd.pos (h : Wd M r) {x : Int} {e : Elm} (hx : M x = some e) : 0 ≤ x := by
  refine Classical.byContradiction fun hn => ?_
  rw [h.neg x (by omega)] at hx
  cases hx
theorem ofF_neg (l : List Rl) (nm : Bs) (f : Nat) {n : Int} (h : n < 0) : ofF M l nm f n = firstM nm := by
  cases f with
  | zero => rfl
  | succ f => rw [ofF, if_pos h]
theorem ofF_told {l : List Rl} {nm v : Bs} {n : Int} (f : Nat) (h : 0 ≤ n) (ht : toldM M l nm n = some v) : ofF M l nm (f + 1) n = v := by
  rw [ofF, if_neg (by omega), ht]
theorem ofF_up {l : List Rl} {nm : Bs} {n : Int} (f : Nat) (h : 0 ≤ n) (ht : toldM M l nm n = none) (hi : isInh nm = true) : ofF M l nm (f + 1) n = ofF M l nm f (parM M n) := by
  rw [ofF, if_neg (by omega), ht]
  simp [hi]
theorem ofF_end {l : List Rl} {nm : Bs} {n : Int} (f : Nat) (h : 0 ≤ n) (ht : toldM M l nm n = none) (hi : isInh nm = false) : ofF M l nm (f + 1) n = firstM nm := by
  rw [ofF, if_neg (by omega), ht]
  simp [hi]
theorem ofF_fuel (hw : Wd M r) (l : List Rl) (nm : Bs) : ∀ (d : Nat) (n : Int) (e : Elm) (f g : Nat), M n = some e → r n = d → d ≤ f → d ≤ g → ofF M l nm f n = ofF M l nm g n := by
  intro d
  induction d with
  | zero => intro n e f g he hr _ _; have := (hw.rb n e he).1; omega
  | succ d ih =>
    intro n e f g he hr hf hg
    have hn := hw.pos he
    obtain ⟨f, rfl⟩ : ∃ k, f = k + 1 := ⟨f - 1, by omega⟩
    obtain ⟨g, rfl⟩ : ∃ k, g = k + 1 := ⟨g - 1, by omega⟩
    cases ht : toldM M l nm n with
    | some v => rw [ofF_told f hn ht, ofF_told g hn ht]
    | none =>
      cases hi : isInh nm with
      | false => rw [ofF_end f hn ht hi, ofF_end g hn ht hi]
      | true =>
        rw [ofF_up f hn ht hi, ofF_up g hn ht hi]
        by_cases h0 : n = 0
        · subst h0
          rw [hw.root_par, ofF_neg l nm f (by omega), ofF_neg l nm g (by omega)]
        · obtain ⟨q, hq, hr2⟩ := hw.up_par he h0
          exact ih _ q f g hq (by omega) (by omega) (by omega)
theorem ofM_in {l : List Rl} {nm : Bs} {n : Int} {e : Elm} (he : M n = some e) (hn : isNmS nm = true) : ofM M l nm n = ofF M l nm 12 n := by
  unfold ofM
  rw [he, hn]
  rfl
/-- An own attribute counts. -/
theorem ofM_own (hw : Wd M r) {l : List Rl} {nm v : Bs} {n : Int} {e : Elm} (he : M n = some e) (hn : isNmS nm = true) (ha : atM M n nm = some v) : ofM M l nm n = v := by
  rw [ofM_in he hn]
  exact ofF_told 11 (hw.pos he) (by unfold toldM; rw [ha])
theorem told_none {l : List Rl} {nm : Bs} {n : Int} (ha : atM M n nm = none) (hf : ∀ x ∈ l, rlFits M nm n x = false) : toldM M l nm n = none := by
  unfold toldM
  rw [ha]
  show (if (hvM (rlFits M nm n) l).2.1 = true then _ else _) = _
  unfold hvM
  rw [hvM_none l _ hf]
  simp
/-- What is inherited is the parent's where nothing else tells. -/
theorem ofM_heir (hw : Wd M r) {l : List Rl} {nm : Bs} {n : Int} {e : Elm} (he : M n = some e) (hn : isNmS nm = true) (ha : atM M n nm = none) (hf : ∀ x ∈ l, rlFits M nm n x = false) (hi : isInh nm = true) (h0 : n ≠ 0) : ofM M l nm n = ofM M l nm (parM M n) := by
  obtain ⟨q, hq, hr⟩ := hw.up_par he h0
  rw [ofM_in he hn, ofM_in hq hn, ofF_up 11 (hw.pos he) (told_none ha hf) hi]
  have := hw.rb n e he
  exact ofF_fuel hw l nm _ _ q 11 12 hq rfl (by omega) (by omega)
theorem ofM_first (hw : Wd M r) {l : List Rl} {nm : Bs} {n : Int} {e : Elm} (he : M n = some e) (hn : isNmS nm = true) (ha : atM M n nm = none) (hf : ∀ x ∈ l, rlFits M nm n x = false) (hi : isInh nm = false) : ofM M l nm n = firstM nm := by
  rw [ofM_in he hn]
  exact ofF_end 11 (hw.pos he) (told_none ha hf) hi
end

theorem fuel_sh : ∀ (f g : Nat) (acc : List Rl) (s : Bs), s.length < f → s.length < g → shA f acc s = shA g acc s
  | 0, _, _, _, h, _ => absurd h (Nat.not_lt_zero _)
  | _ + 1, 0, _, _, _, h => absurd h (Nat.not_lt_zero _)
  | f + 1, g + 1, acc, s, hf, hg => by
    by_cases h0 : s = []
    · subst h0; rw [shA_nil, shA_nil]
    · cases hr : ruleM (Lib.cut s [10]).1 with
      | none => rw [shA_bad h0 hr, shA_bad h0 hr]
      | some x =>
        cases he : (Lib.cut s [10]).2.2 with
        | false => rw [shA_open h0 he, shA_open h0 he]
        | true =>
          rw [shA_more h0 hr he, shA_more h0 hr he]
          have := cut_len s [10] he (by simp)
          exact fuel_sh f g _ _ (by omega) (by omega)
/-- What a cut finds. -/
theorem cut_yes {s sep : Bs} (h : (Lib.cut s sep).2.2 = true) : s = (Lib.cut s sep).1 ++ sep ++ (Lib.cut s sep).2.1 ∧ ∀ j, j < (Lib.cut s sep).1.length → Lib.occAt s sep j = false := by
  rcases Lib.index_spec s sep with ⟨h1, _⟩ | ⟨i, h1, h2, h3, h4⟩
  · unfold Lib.cut at h
    rw [h1, if_neg (by omega)] at h
    simp at h
  · have hr := Lib.index_room s sep (by omega)
    have e : Lib.cut s sep = (s.take i, s.drop (i + sep.length), true) := by
      unfold Lib.cut
      rw [h1, if_pos (by omega)]
      simp
    rw [e]
    unfold Lib.occAt at h3
    obtain ⟨t, ht⟩ := List.isPrefixOf_iff_prefix.1 h3
    refine ⟨?_, fun j hj => h4 j ?_⟩
    · show s = s.take i ++ sep ++ s.drop (i + sep.length)
      have h5 : s.drop (i + sep.length) = t := by
        rw [← List.drop_drop, ← ht, List.drop_left]
      rw [h5, List.append_assoc, ht, List.take_append_drop]
    · simp only [List.length_take] at hj
      omega
theorem cut_first {a b sep : Bs} (hn : ∀ j, j < a.length → Lib.occAt (a ++ sep ++ b) sep j = false) : Lib.cut (a ++ sep ++ b) sep = (a, b, true) := by
  have h1 : Lib.index (a ++ sep ++ b) sep = (a.length : Nat) := by
    refine Lib.index_first (by simp only [List.length_append]; omega) ?_ hn
    unfold Lib.occAt
    rw [List.append_assoc, List.drop_left]
    exact List.isPrefixOf_iff_prefix.2 ⟨b, rfl⟩
  unfold Lib.cut
  rw [h1, if_pos (by omega)]
  simp only [Int.toNat_natCast]
  rw [List.append_assoc, List.take_left, ← List.drop_drop, List.drop_left, List.drop_left]
theorem occ_one {s : Bs} {j : Nat} (c : UInt8) (h : s[j]? ≠ some c) : Lib.occAt s [c] j = false := by
  unfold Lib.occAt
  cases hd : s.drop j with
  | nil => rfl
  | cons x t =>
    have : s[j]? = some x := by
      have := congrArg List.head? hd
      rw [List.head?_drop] at this
      exact this
    rw [this] at h
    have hne : (c == x) = false := by
      rw [beq_eq_false_iff_ne]
      intro e
      exact h (by rw [e])
    show (c == x && _) = false
    rw [hne]
    rfl
theorem cut_line {a b : Bs} (h : (10 : UInt8) ∉ a) : Lib.cut (a ++ 10 :: b) [10] = (a, b, true) := by
  have := cut_first (a := a) (b := b) (sep := [10]) (fun j hj => occ_one 10 (by
    rw [List.append_assoc, List.getElem?_append_left hj]
    intro e
    exact h (List.mem_of_getElem? e)))
  simpa using this
theorem cut_fst_no {s : Bs} (h : (Lib.cut s [10]).2.2 = true) : (10 : UInt8) ∉ (Lib.cut s [10]).1 := by
  obtain ⟨h1, h2⟩ := cut_yes h
  intro hm
  obtain ⟨j, hj⟩ := List.getElem?_of_mem hm
  have hl := (List.getElem?_eq_some_iff.1 hj).1
  have h3 := h2 j hl
  rw [h1] at h3
  unfold Lib.occAt at h3
  rw [List.append_assoc, List.drop_append_of_le_length (by omega)] at h3
  have h4 : ((Lib.cut s [10]).1.drop j) = 10 :: (Lib.cut s [10]).1.drop (j + 1) := by
    rw [List.drop_eq_getElem_cons hl]
    congr 1
    exact (List.getElem?_eq_some_iff.1 hj).2
  rw [h4] at h3
  simp at h3
/-- Each rule has a line. -/
theorem sh_count : ∀ (f : Nat) (acc out : List Rl) (s : Bs), s.length < f → shA f acc s = .ok out → out.length = acc.length + s.count 10
  | 0, _, _, _, h, _ => absurd h (Nat.not_lt_zero _)
  | f + 1, acc, out, s, hf, h => by
    by_cases h0 : s = []
    · subst h0; rw [shA_nil] at h; cases h; simp
    · cases hr : ruleM (Lib.cut s [10]).1 with
      | none => rw [shA_bad h0 hr] at h; cases h
      | some x =>
        cases he : (Lib.cut s [10]).2.2 with
        | false => rw [shA_open h0 he] at h; cases h
        | true =>
          rw [shA_more h0 hr he] at h
          have h1 := cut_len s [10] he (by simp)
          have h2 := sh_count f _ _ _ (by omega) h
          have h3 := (cut_yes he).1
          have h4 := List.count_eq_zero.2 (cut_fst_no he)
          have h5 : s.count 10 = ((Lib.cut s [10]).1 ++ [10] ++ (Lib.cut s [10]).2.1).count 10 := congrArg _ h3
          rw [List.count_append, List.count_append, h4] at h5
          rw [h2, h5]
          simp
          omega
/-- A sheet behind another one. -/
theorem sh_app : ∀ (f : Nat) (acc out : List Rl) (s t : Bs) (g : Nat), s.length < f → shA f acc s = .ok out → (s ++ t).length < g → shA g acc (s ++ t) = shA (t.length + 1) out t
  | 0, _, _, _, _, _, h, _, _ => absurd h (Nat.not_lt_zero _)
  | f + 1, acc, out, s, t, g, hf, h, hg => by
    by_cases h0 : s = []
    · subst h0
      rw [shA_nil] at h
      cases h
      exact fuel_sh _ _ _ _ (by simpa using hg) (Nat.lt_succ_self _)
    · cases hr : ruleM (Lib.cut s [10]).1 with
      | none => rw [shA_bad h0 hr] at h; cases h
      | some x =>
        cases he : (Lib.cut s [10]).2.2 with
        | false => rw [shA_open h0 he] at h; cases h
        | true =>
          rw [shA_more h0 hr he] at h
          have h1 := cut_len s [10] he (by simp)
          have h3 := (cut_yes he).1
          have h4 := cut_fst_no he
          obtain ⟨g, rfl⟩ : ∃ k, g = k + 1 := ⟨g - 1, by omega⟩
          have h5 : Lib.cut (s ++ t) [10] = ((Lib.cut s [10]).1, (Lib.cut s [10]).2.1 ++ t, true) := by
            have e : s ++ t = (Lib.cut s [10]).1 ++ 10 :: ((Lib.cut s [10]).2.1 ++ t) := by
              conv => lhs; rw [h3]
              simp
            rw [e]
            exact cut_line h4
          have h6 : s ++ t ≠ [] := by simp [h0]
          rw [shA_more h6 (r := x) (by rw [h5]; exact hr) (by rw [h5]), h5]
          simp only [List.length_append] at hg
          exact sh_app f _ _ _ t g (by omega) h (by simp only [List.length_append]; omega)
theorem sh_one {acc out : List Rl} {a b : Bs} (ha : (10 : UInt8) ∉ a) (h : shA ((a ++ 10 :: b).length + 1) acc (a ++ 10 :: b) = .ok out) : ∃ r, ruleM a = some r ∧ shA (b.length + 1) (acc ++ [r]) b = .ok out := by
  have hc := cut_line (b := b) ha
  have h0 : a ++ 10 :: b ≠ [] := by simp
  cases hr : ruleM (Lib.cut (a ++ 10 :: b) [10]).1 with
  | none => rw [shA_bad h0 hr] at h; cases h
  | some x =>
    rw [shA_more h0 hr (by rw [hc]), hc] at h
    rw [hc] at hr
    refine ⟨x, hr, ?_⟩
    rw [fuel_sh _ ((a ++ 10 :: b).length) _ _ (Nat.lt_succ_self _) (by simp; omega)]
    exact h
/-- Names and values have no blank. -/
theorem nm_blank {s : Bs} (h : isNmS s = true) : (32 : UInt8) ∉ s := by
  unfold isNmS firstM at h
  by_cases h1 : s = kFill
  · subst h1; decide
  · rw [if_neg h1] at h
    by_cases h2 : s = kShow
    · subst h2; decide
    · rw [if_neg h2] at h
      by_cases h3 : s = kRule
      · subst h3; decide
      · rw [if_neg h3] at h
        by_cases h4 : s = kLevel
        · subst h4; decide
        · rw [if_neg h4] at h
          simp at h
theorem decode_low (s : ByteArray) (pos : Nat) (h : (Utf8.decode s pos).1 < 128) : (Utf8.decode s pos).1 = (s.get! pos).toNat ∧ (Utf8.decode s pos).2 = 1 := by
  unfold Utf8.decode at h ⊢
  simp only [Nat.add_zero] at h ⊢
  split
  · exact ⟨rfl, rfl⟩
  · next h0 =>
    rw [if_neg h0] at h
    repeat' split at h
    all_goals (simp only [Utf8.runeError] at h)
    all_goals (first | omega | (next hh => simp at hh; omega))
theorem val_from (s : ByteArray) : ∀ (f pos : Nat), s.size ≤ pos + f → Lib.idxFuncFrom badR true s f pos = -1 → ∀ j, pos ≤ j → j < s.size → (s.get! j).toNat ≠ 32
  | 0, pos, hf, _, j, h1, h2 => by omega
  | f + 1, pos, hf, h, j, h1, h2 => by
    rw [Lib.idxFuncFrom, if_pos (by omega)] at h
    split at h
    · omega
    · next hb =>
      have hl : (Utf8.decode s pos).1 < 128 := by
        simp only [badR, Bool.not_eq_eq_eq_not, Bool.not_true, Bool.not_eq_false, Bool.or_eq_true, Bool.and_eq_true, decide_eq_true_eq, beq_iff_eq] at hb
        omega
      obtain ⟨d1, d2⟩ := decode_low s pos hl
      rw [d2] at h
      by_cases hj : j = pos
      · subst hj
        rw [← d1]
        intro e
        rw [e] at hb
        simp [badR] at hb
      · exact val_from s f (pos + 1) (by omega) h j (by omega) h2
theorem val_blank {s : Bs} (h : isValM s = true) : (32 : UInt8) ∉ s := by
  unfold isValM at h
  simp only [Bool.and_eq_true, Bool.not_eq_true', decide_eq_false_iff_not] at h
  intro hm
  obtain ⟨j, hj⟩ := List.getElem?_of_mem hm
  have hl := (List.getElem?_eq_some_iff.1 hj).1
  have hsz : (⟨s.toArray⟩ : ByteArray).size = s.length := by simp [ByteArray.size]
  rcases Lib.idxFunc_range badR true ⟨s.toArray⟩ with h1 | h1
  · refine val_from ⟨s.toArray⟩ _ 0 (by omega) h1 j (Nat.zero_le _) (by omega) ?_
    have : (⟨s.toArray⟩ : ByteArray).get! j = 32 := by
      show s.toArray[j]! = 32
      simp [hj]
    rw [this]
    rfl
  · exact absurd h1.1 h.2
theorem suff_at (y : Bs) : Lib.hasSuffix (y ++ [32, 125]) [32, 125] = true ∧ Lib.trimSuffix (y ++ [32, 125]) [32, 125] = y := by
  have h1 : Lib.hasSuffix (y ++ [32, 125]) [32, 125] = true := by
    unfold Lib.hasSuffix
    simp
  refine ⟨h1, ?_⟩
  unfold Lib.trimSuffix
  rw [h1]
  simp
/-- A line that is made of a selector and a value: its rule has this selector, and tells of the fill. -/
theorem rule_line {wh b : Bs} {r : Rl} (h : ruleM (wh ++ [32, 123, 32] ++ (kFill ++ [58, 32] ++ b ++ [32, 125])) = some r) : r.wh = wh ∧ r.nm = kFill := by
  unfold ruleM at h
  split at h
  · next hc =>
    simp only [Bool.and_eq_true] at hc
    cases h
    obtain ⟨⟨⟨⟨⟨c1, c2⟩, c3⟩, c4⟩, c5⟩, c6⟩ := hc
    obtain ⟨y1, y2⟩ := cut_yes c1
    obtain ⟨x, hx⟩ : ∃ x, (Lib.cut (wh ++ [32, 123, 32] ++ (kFill ++ [58, 32] ++ b ++ [32, 125])) [32, 123, 32]).1 = x := ⟨_, rfl⟩
    obtain ⟨y, hy⟩ : ∃ y, (Lib.cut (wh ++ [32, 123, 32] ++ (kFill ++ [58, 32] ++ b ++ [32, 125])) [32, 123, 32]).2.1 = y := ⟨_, rfl⟩
    rw [hx, hy] at y1
    rw [hx] at y2 ⊢
    rw [hy] at c2 c3 c4 c5 ⊢
    clear c1 hx hy c6 c2
    have hle : x.length ≤ wh.length := by
      refine Classical.byContradiction fun hn => ?_
      have h1 := y2 wh.length (by omega)
      unfold Lib.occAt at h1
      rw [List.append_assoc, List.drop_left] at h1
      simp at h1
    obtain ⟨z, rfl⟩ : ∃ z, wh = x ++ z := by
      have e := congrArg (List.take x.length) y1
      rw [List.append_assoc x, List.take_left, List.append_assoc, List.take_append_of_le_length hle] at e
      exact ⟨wh.drop x.length, by conv => lhs; rw [← List.take_append_drop x.length wh, e]⟩
    rw [List.append_assoc x, List.append_assoc x, List.append_assoc x] at y1
    have y3 := List.append_cancel_left y1
    have hyy : ∃ z', y = z' ++ (kFill ++ [58, 32] ++ b ++ [32, 125]) ∧ (z = [] ∧ z' = [] ∨ (32 : UInt8) ∈ z') := by
      cases z with
      | nil => exact ⟨[], by simpa using y3.symm, .inl ⟨rfl, rfl⟩⟩
      | cons z1 z =>
        refine ⟨(z1 :: z ++ [32, 123, 32]).drop 3, ?_, .inr ?_⟩
        · have e := congrArg (List.drop 3) y3
          rw [List.drop_append_of_le_length (l₁ := z1 :: z ++ [32, 123, 32]) (by simp)] at e
          exact e.symm
        · have : (z1 :: z ++ [32, 123, 32]).drop 3 = (z1 :: z ++ [32, 123]).drop 3 ++ [32] := by
            rw [show z1 :: z ++ [32, 123, 32] = (z1 :: z ++ [32, 123]) ++ [32] from by simp, List.drop_append_of_le_length (by simp)]
          rw [this]
          simp
    obtain ⟨z', hy', hz⟩ := hyy
    rw [hy', show z' ++ (kFill ++ [58, 32] ++ b ++ [32, 125]) = (z' ++ (kFill ++ [58, 32] ++ b)) ++ [32, 125] from by simp, (suff_at _).2] at c3 c4 c5 ⊢
    have n1 := List.count_eq_zero.2 (nm_blank c4)
    have n2 := List.count_eq_zero.2 (val_blank c5)
    have y4 := (cut_yes c3).1
    have e := congrArg (List.count 32) y4
    obtain ⟨cn, hcn⟩ : ∃ x, (Lib.cut (z' ++ (kFill ++ [58, 32] ++ b)) [58, 32]).1 = x := ⟨_, rfl⟩
    obtain ⟨cv, hcv⟩ : ∃ x, (Lib.cut (z' ++ (kFill ++ [58, 32] ++ b)) [58, 32]).2.1 = x := ⟨_, rfl⟩
    rw [hcn, hcv] at e
    rw [hcn] at n1
    rw [hcv] at n2
    simp only [List.count_append, n1, n2] at e
    rcases hz with ⟨rfl, rfl⟩ | hz
    · refine ⟨by simp, ?_⟩
      have : Lib.cut ([] ++ (kFill ++ [58, 32] ++ b)) [58, 32] = (kFill, b, true) := by
        rw [List.nil_append]
        refine cut_first (fun j hj => ?_)
        have hj4 : j < 4 := hj
        unfold Lib.occAt
        rcases j with _ | _ | _ | _ | j
        · rfl
        · rfl
        · rfl
        · rfl
        · omega
      rw [this]
    · have h1 : 1 ≤ z'.count 32 := List.one_le_count_iff.2 hz
      simp [kFill] at e
      omega
  · cases h
/-- Two sheets that end with rules of one selector. -/
theorem sheets_two {s wh a b : Bs} {l more last : List Rl} (h0 : sheetM s = .ok l) (h1 : sheetM (s ++ (wh ++ [32, 123, 32] ++ (kFill ++ [58, 32] ++ a ++ [32, 125]) ++ 10 :: (wh ++ [32, 123, 32] ++ (kFill ++ [58, 32] ++ b ++ [32, 125]) ++ [10]))) = .ok more) (h2 : sheetM (s ++ (wh ++ [32, 123, 32] ++ (kFill ++ [58, 32] ++ b ++ [32, 125]) ++ [10])) = .ok last) (hm : more.length = l.length + 2) (hl : last.length = l.length + 1) :
    ∃ r1 r2 : Rl, more = l ++ [r1, r2] ∧ last = l ++ [r2] ∧ r1.wh = wh ∧ r2.wh = wh ∧ r1.nm = kFill ∧ r2.nm = kFill := by
  unfold sheetM at h0 h1 h2
  rw [sh_app _ _ _ _ _ _ (Nat.lt_succ_self _) h0 (Nat.lt_succ_self _)] at h1 h2
  have k1 := sh_count _ _ _ _ (Nat.lt_succ_self _) h1
  have k2 := sh_count _ _ _ _ (Nat.lt_succ_self _) h2
  rw [hm] at k1
  rw [hl] at k2
  obtain ⟨la, hla⟩ : ∃ x, wh ++ [32, 123, 32] ++ (kFill ++ [58, 32] ++ a ++ [32, 125]) = x := ⟨_, rfl⟩
  obtain ⟨lb, hlb⟩ : ∃ x, wh ++ [32, 123, 32] ++ (kFill ++ [58, 32] ++ b ++ [32, 125]) = x := ⟨_, rfl⟩
  rw [hla, hlb] at h1 k1
  rw [hlb] at h2 k2
  rw [List.count_append] at k2
  rw [List.count_append, List.count_cons, List.count_append] at k1
  simp at k1 k2
  have q2 : (10 : UInt8) ∉ lb := List.count_eq_zero.1 (by omega)
  have q1 : (10 : UInt8) ∉ la := List.count_eq_zero.1 (by omega)
  obtain ⟨r2, e2, f2⟩ := sh_one q2 h2
  obtain ⟨r1, e1, f1⟩ := sh_one q1 h1
  obtain ⟨r3, e3, f3⟩ := sh_one q2 f1
  rw [e2] at e3
  cases e3
  rw [shA_nil] at f2 f3
  cases f2
  cases f3
  rw [← hla] at e1
  rw [← hlb] at e2
  obtain ⟨w1, n1⟩ := rule_line e1
  obtain ⟨w2, n2⟩ := rule_line e2
  exact ⟨r1, r2, by simp, rfl, w1, w2, n1, n2⟩
section
variable {M : Dm}
theorem hv_two {p : Rl → Bool} {l : List Rl} {r1 r2 : Rl} (hw : r1.wh = r2.wh) (hp : p r1 = p r2) : hvM p (l ++ [r1, r2]) = hvM p (l ++ [r2]) := by
  rw [show l ++ [r1, r2] = (l ++ [r1]) ++ [r2] from by simp, hvM_snoc, hvM_snoc, hvM_snoc]
  cases h : p r2 with
  | false => rw [hvStep_no h, hvStep_no (hp.trans h), hvStep_no h]
  | true =>
    by_cases hb : (hvM p l).2.2 ≤ wtM r1.wh
    · rw [hvStep_yes hb (hp.trans h), hvStep_yes (by rw [hw]; exact Nat.le_refl _) h, hvStep_yes (by rw [← hw]; exact hb) h]
    · rw [hvStep_big hb]
theorem told_two {l : List Rl} {r1 r2 : Rl} (hw : r1.wh = r2.wh) (hn : r1.nm = r2.nm) (nm : Bs) (n : Int) : toldM M (l ++ [r1, r2]) nm n = toldM M (l ++ [r2]) nm n := by
  unfold toldM
  rw [hv_two hw (by unfold rlFits; rw [hw, hn])]
theorem told_less {l : List Rl} {r1 r2 : Rl} {nm : Bs} {n : Int} (h1 : rlFits M nm n r1 = false) (h2 : rlFits M nm n r2 = false) : toldM M (l ++ [r1, r2]) nm n = toldM M l nm n := by
  unfold toldM
  rw [show l ++ [r1, r2] = (l ++ [r1]) ++ [r2] from by simp, hvM_snoc, hvM_snoc, hvStep_no h2, hvStep_no h1]
theorem ofF_same {l l' : List Rl} {nm : Bs} : ∀ (f : Nat) (n : Int), (∀ k, toldM M l nm k = toldM M l' nm k) → ofF M l nm f n = ofF M l' nm f n
  | 0, _, _ => rfl
  | f + 1, n, h => by
    rw [ofF, ofF, h n, ofF_same f _ h]
theorem ofM_same {l l' : List Rl} {nm : Bs} (h : ∀ k, toldM M l nm k = toldM M l' nm k) (n : Int) : ofM M l nm n = ofM M l' nm n := by
  unfold ofM
  rw [ofF_same 12 n h]
/-- Does a selector fit an element, or one that it lies in? -/
def fitsUp (M : Dm) (w : Bs) : Nat → Int → Bool
  | 0, _ => false
  | f + 1, n => if n < 0 then false else fitsM M w n || fitsUp M w f (parM M n)
theorem fitsUp_neg {w : Bs} {f : Nat} {n : Int} (h : n < 0) : fitsUp M w f n = false := by
  cases f with
  | zero => rfl
  | succ f => rw [fitsUp, if_pos h]
theorem ofF_up_same {l : List Rl} {r1 r2 : Rl} {w : Bs} (h1 : r1.wh = w) (h2 : r2.wh = w) (nm : Bs) : ∀ (f : Nat) (n : Int), fitsUp M w f n = false → ofF M (l ++ [r1, r2]) nm f n = ofF M l nm f n
  | 0, _, _ => rfl
  | f + 1, n, h => by
    rw [ofF, ofF]
    by_cases hn : n < 0
    · rw [if_pos hn, if_pos hn]
    · rw [fitsUp, if_neg hn, Bool.or_eq_false_iff] at h
      rw [if_neg hn, if_neg hn, told_less (by unfold rlFits; rw [h1, h.1]; simp) (by unfold rlFits; rw [h2, h.1]; simp), ofF_up_same h1 h2 nm f _ h.2]
end
/-- Two rules of one selector, of the fill: the last one counts, other names and what it doesn't fit are as they were. -/
theorem none_all {M : Dm} {l : List Rl} {r1 r2 : Rl} {w : Bs} (w1 : r1.wh = w) (w2 : r2.wh = w) (n1 : r1.nm = kFill) (n2 : r2.nm = kFill) (n : Int) :
    ofM M (l ++ [r1, r2]) kFill n = ofM M (l ++ [r2]) kFill n ∧ ofM M (l ++ [r1, r2]) kLevel n = ofM M l kLevel n ∧ (fitsUp M w 12 n = false → ofM M (l ++ [r1, r2]) kFill n = ofM M l kFill n) := by
  refine ⟨ofM_same (fun k => told_two (w1.trans w2.symm) (n1.trans n2.symm) _ _) n, ofM_same (fun k => told_less ?_ ?_) n, fun h => ?_⟩
  · unfold rlFits; rw [n1]; rfl
  · unfold rlFits; rw [n2]; rfl
  · unfold ofM
    rw [ofF_up_same w1 w2 _ 12 n h]

end Go.Proofs.YtnoecobddhmhlaaGreatDoor

namespace Go.Proofs.YtnoecobddhmhlaaGreatDoor

/-- A value, byte by byte. -/
def wrdB (c : UInt8) : Bool := (decide (97 ≤ c.toNat) && decide (c.toNat ≤ 122)) || (decide (48 ≤ c.toNat) && decide (c.toNat ≤ 57)) || c.toNat == 45
def isWordR (s : Bs) : Bool := s.all wrdB && (decide (1 ≤ s.length) && decide (s.length ≤ 12))
theorem bad_word (c : UInt8) : badR c.toNat = !wrdB c := rfl
theorem word_low {c : UInt8} (h : wrdB c = true) : c.toNat < 128 := by
  unfold wrdB at h
  simp only [Bool.or_eq_true, Bool.and_eq_true, decide_eq_true_eq, beq_iff_eq] at h
  omega
theorem decode_asc (s : ByteArray) (pos : Nat) (h : (s.get! pos).toNat < 128) : Utf8.decode s pos = ((s.get! pos).toNat, 1) := by
  unfold Utf8.decode
  simp only [Nat.add_zero]
  rw [if_pos h]
theorem val_words (s : ByteArray) : ∀ (f pos : Nat), s.size ≤ pos + f → (Lib.idxFuncFrom badR true s f pos = -1 ↔ ∀ j, pos ≤ j → j < s.size → wrdB (s.get! j) = true)
  | 0, pos, hf => ⟨fun _ j h1 h2 => by omega, fun _ => rfl⟩
  | f + 1, pos, hf => by
    rw [Lib.idxFuncFrom]
    by_cases hp : pos < s.size
    · rw [if_pos hp]
      by_cases hw : wrdB (s.get! pos) = true
      · have hd := decode_asc s pos (word_low hw)
        rw [hd, bad_word, hw]
        simp only [Bool.not_true, Bool.false_eq_true, if_false]
        rw [val_words s f (pos + 1) (by omega)]
        constructor
        · intro h j h1 h2
          by_cases hj : j = pos
          · subst hj; exact hw
          · exact h j (by omega) h2
        · intro h j h1 h2
          exact h j (by omega) h2
      · have hbad : badR (Utf8.decode s pos).1 = true := by
          by_cases hl : (Utf8.decode s pos).1 < 128
          · rw [(decode_low s pos hl).1, bad_word]
            simpa using hw
          · unfold badR
            simp
            omega
        rw [if_pos hbad]
        constructor
        · intro h; omega
        · intro h; exact absurd (h pos (Nat.le_refl _) hp) hw
    · rw [if_neg hp]
      exact ⟨fun _ j h1 h2 => by omega, fun _ => rfl⟩
/-- The values are the same ones. -/
theorem word_val (s : Bs) : isWordR s = isValM s := by
  have hsz : (⟨s.toArray⟩ : ByteArray).size = s.length := by simp [ByteArray.size]
  have h1 := val_words ⟨s.toArray⟩ (⟨s.toArray⟩ : ByteArray).size 0 (by omega)
  have h2 := Lib.idxFunc_range badR true ⟨s.toArray⟩
  have h3 : (∀ j, 0 ≤ j → j < (⟨s.toArray⟩ : ByteArray).size → wrdB ((⟨s.toArray⟩ : ByteArray).get! j) = true) ↔ s.all wrdB = true := by
    rw [List.all_eq_true]
    constructor
    · intro h c hc
      obtain ⟨j, hj⟩ := List.getElem?_of_mem hc
      have hl := (List.getElem?_eq_some_iff.1 hj).1
      have h4 := h j (Nat.zero_le _) (by omega)
      have h5 : (⟨s.toArray⟩ : ByteArray).get! j = c := by
        show s.toArray[j]! = c
        simp [hj]
      rw [h5] at h4
      exact h4
    · intro h j _ hj
      have hl : j < s.length := by omega
      have h5 : (⟨s.toArray⟩ : ByteArray).get! j = s[j] := by
        show s.toArray[j]! = s[j]
        simp [hl]
      rw [h5]
      exact h _ (List.getElem_mem hl)
  have h4 : (decide (0 ≤ Lib.idxFunc badR true ⟨s.toArray⟩)) = !s.all wrdB := by
    cases ha : s.all wrdB with
    | true =>
      have : Lib.idxFunc badR true ⟨s.toArray⟩ = -1 := h1.2 (h3.2 ha)
      rw [this]
      rfl
    | false =>
      rcases h2 with h2 | h2
      · have := h3.1 (h1.1 h2)
        rw [ha] at this
        cases this
      · rw [decide_eq_true h2.1]
        rfl
  unfold isWordR isValM
  rw [h4, Bool.not_not]
  have h5 : (s != []) = decide (1 ≤ s.length) := by
    cases s with
    | nil => rfl
    | cons c s => simp
  rw [h5, Bool.and_comm]
/-- The rule of a line, as the document reads it. -/
def ruleR (s : Bs) : Option Rl :=
  if Lib.index s [32, 123, 32] < 0 then none else
  if (s.drop ((Lib.index s [32, 123, 32]).toNat + 3)).length < 2 ∨ Lib.index (s.drop ((Lib.index s [32, 123, 32]).toNat + 3)) [58, 32] < 0 then none else
  if (s.drop ((Lib.index s [32, 123, 32]).toNat + 3)).drop ((s.drop ((Lib.index s [32, 123, 32]).toNat + 3)).length - 2) ≠ [32, 125] ∨ (s.drop ((Lib.index s [32, 123, 32]).toNat + 3)).length - 2 < (Lib.index (s.drop ((Lib.index s [32, 123, 32]).toNat + 3)) [58, 32]).toNat + 2 then none else
  if isSelM (s.take (Lib.index s [32, 123, 32]).toNat) && isWordR (((s.drop ((Lib.index s [32, 123, 32]).toNat + 3)).take ((s.drop ((Lib.index s [32, 123, 32]).toNat + 3)).length - 2)).drop ((Lib.index (s.drop ((Lib.index s [32, 123, 32]).toNat + 3)) [58, 32]).toNat + 2)) && isNmS ((s.drop ((Lib.index s [32, 123, 32]).toNat + 3)).take (Lib.index (s.drop ((Lib.index s [32, 123, 32]).toNat + 3)) [58, 32]).toNat) then
    some ⟨s.take (Lib.index s [32, 123, 32]).toNat, (s.drop ((Lib.index s [32, 123, 32]).toNat + 3)).take (Lib.index (s.drop ((Lib.index s [32, 123, 32]).toNat + 3)) [58, 32]).toNat, ((s.drop ((Lib.index s [32, 123, 32]).toNat + 3)).take ((s.drop ((Lib.index s [32, 123, 32]).toNat + 3)).length - 2)).drop ((Lib.index (s.drop ((Lib.index s [32, 123, 32]).toNat + 3)) [58, 32]).toNat + 2)⟩
  else none
/-- An instance that has room in a text is one of a longer text, and the other way. -/
theorem occ_more {t u : Bs} {a b : UInt8} {j : Nat} (h : j + 2 ≤ t.length) : Lib.occAt (t ++ u) [a, b] j = Lib.occAt t [a, b] j := by
  unfold Lib.occAt
  rw [List.drop_append_of_le_length (by omega)]
  obtain ⟨x, y, r, hr⟩ : ∃ x y r, t.drop j = x :: y :: r := by
    have hl : (t.drop j).length = t.length - j := List.length_drop
    cases hd : t.drop j with
    | nil => rw [hd] at hl; simp at hl; omega
    | cons x r =>
      cases r with
      | nil => rw [hd] at hl; simp at hl; omega
      | cons y r => exact ⟨x, y, r, rfl⟩
  rw [hr]
  rfl
theorem idx_more (t u : Bs) (a b : UInt8) : (0 ≤ Lib.index t [a, b] ∧ Lib.index (t ++ u) [a, b] = Lib.index t [a, b] ∧ (Lib.index t [a, b]).toNat + 2 ≤ t.length) ∨ (Lib.index t [a, b] = -1 ∧ (Lib.index (t ++ u) [a, b] < 0 ∨ t.length < (Lib.index (t ++ u) [a, b]).toNat + 2)) := by
  rcases Lib.index_spec t [a, b] with ⟨h1, h2⟩ | ⟨i, h1, h2, h3, h4⟩
  · refine .inr ⟨h1, ?_⟩
    rcases Lib.index_spec (t ++ u) [a, b] with ⟨k1, _⟩ | ⟨i, k1, k2, k3, k4⟩
    · exact .inl (by omega)
    · refine .inr ?_
      rw [k1]
      refine Classical.byContradiction fun hn => ?_
      have hle : i + 2 ≤ t.length := by
        have : ((i : Int)).toNat = i := Int.toNat_natCast i
        omega
      rw [occ_more hle, h2 i (by omega)] at k3
      cases k3
  · have hr := Lib.index_room t [a, b] (by omega)
    have hle : i + 2 ≤ t.length := by
      rw [h1] at hr
      simp at hr
      omega
    refine .inl ⟨by omega, ?_, by rw [h1]; simpa using hle⟩
    rw [h1]
    exact Lib.index_first (by simp; omega) (by rw [occ_more hle]; exact h3) (fun j hj => by rw [occ_more (by omega)]; exact h4 j hj)
/-- The document's rules are those of package style. -/
theorem rule_same (s : Bs) : ruleR s = ruleM s := by
  unfold ruleR ruleM
  by_cases hk : 0 ≤ Lib.index s [32, 123, 32]
  · have hc : Lib.cut s [32, 123, 32] = (s.take (Lib.index s [32, 123, 32]).toNat, s.drop ((Lib.index s [32, 123, 32]).toNat + 3), true) := by
      unfold Lib.cut
      rw [if_pos hk]
      rfl
    rw [if_neg (by omega), hc]
    simp only
    generalize s.take (Lib.index s [32, 123, 32]).toNat = wh
    generalize s.drop ((Lib.index s [32, 123, 32]).toNat + 3) = rest
    have hsf := suf_iff rest [32, 125]
    have e2 : ([32, 125] : Bs).length = 2 := rfl
    rw [e2] at hsf
    by_cases he : rest.drop (rest.length - 2) = [32, 125]
    · rw [decide_eq_true he] at hsf
      have hlen : 2 ≤ rest.length := by
        have := congrArg List.length he
        simp at this
        omega
      have htr : Lib.trimSuffix rest [32, 125] = rest.take (rest.length - 2) := by
        unfold Lib.trimSuffix
        rw [hsf]
        rfl
      have hrt : rest = rest.take (rest.length - 2) ++ [32, 125] := by
        conv => lhs; rw [← List.take_append_drop (rest.length - 2) rest, he]
      rw [htr, hsf]
      obtain ⟨t, ht⟩ : ∃ t, rest.take (rest.length - 2) = t := ⟨_, rfl⟩
      have htl : t.length = rest.length - 2 := by rw [← ht, List.length_take]; omega
      rw [ht] at hrt ⊢
      have him := idx_more t [32, 125] 58 32
      rw [← hrt] at him
      rcases him with ⟨h1, h2, h3⟩ | ⟨h1, h2⟩
      · have hc2 : Lib.cut t [58, 32] = (t.take (Lib.index t [58, 32]).toNat, t.drop ((Lib.index t [58, 32]).toNat + 2), true) := by
          unfold Lib.cut
          rw [if_pos h1]
          rfl
        rw [h2, hc2, if_neg (by omega), if_neg (by rw [not_or]; exact ⟨fun h => h he, by omega⟩)]
        simp only [Bool.true_and]
        have htk : rest.take (Lib.index t [58, 32]).toNat = t.take (Lib.index t [58, 32]).toNat := by
          rw [hrt, List.take_append_of_le_length (by omega)]
        rw [htk, word_val]
        generalize t.take (Lib.index t [58, 32]).toNat = nm
        generalize t.drop ((Lib.index t [58, 32]).toNat + 2) = vl
        have e : (isSelM wh && isValM vl && isNmS nm) = (isNmS nm && isValM vl && isSelM wh) := by
          cases isSelM wh <;> cases isValM vl <;> cases isNmS nm <;> rfl
        rw [e]
      · have hc2 : (Lib.cut t [58, 32]).2.2 = false := by
          unfold Lib.cut
          rw [if_neg (by omega)]
        rw [hc2]
        simp only [Bool.and_false, Bool.false_and, Bool.false_eq_true, if_false]
        rcases h2 with h2 | h2
        · rw [if_pos (.inr h2)]
        · split
          · rfl
          · rw [if_pos (.inr (by omega))]
    · rw [decide_eq_false he] at hsf
      rw [hsf]
      simp only [Bool.and_false, Bool.false_and, Bool.false_eq_true, if_false]
      split
      · rfl
      · rw [if_pos (.inl he)]
  · have hc : (Lib.cut s [32, 123, 32]).2.2 = false := by
      unfold Lib.cut
      rw [if_neg hk]
    rw [if_pos (by omega), hc]
    rfl

end Go.Proofs.YtnoecobddhmhlaaGreatDoor

namespace Go.Proofs.YtnoecobddhmhlaaGreatDoor

/-- The lines of a text, with what is behind the last break. -/
def lns : Bs → List Bs
  | [] => [[]]
  | b :: l => if b = 10 then [] :: lns l else match lns l with
    | [] => [[b]]
    | p :: ps => (b :: p) :: ps
theorem lns_cons (b : UInt8) (l : Bs) : lns (b :: l) = if b = 10 then [] :: lns l else match lns l with | [] => [[b]] | p :: ps => (b :: p) :: ps := by rw [lns]
theorem lns_ne : ∀ s : Bs, lns s ≠ []
  | [] => by simp [lns]
  | b :: l => by
    rw [lns_cons]
    split
    · simp
    · split
      · simp
      · simp
theorem lns_none : ∀ {x : Bs}, (10 : UInt8) ∉ x → lns x = [x]
  | [], _ => rfl
  | b :: l, h => by
    have h1 := lns_none (x := l) (fun hm => h (List.mem_cons_of_mem _ hm))
    rw [lns_cons, if_neg (fun e => h (by rw [e]; exact List.mem_cons_self ..)), h1]
theorem lns_app {b : Bs} : ∀ {a : Bs}, (10 : UInt8) ∉ a → lns (a ++ 10 :: b) = a :: lns b
  | [], _ => by rw [List.nil_append, lns_cons, if_pos rfl]
  | c :: a, h => by
    have h1 := lns_app (b := b) (a := a) (fun hm => h (List.mem_cons_of_mem _ hm))
    rw [List.cons_append, lns_cons, if_neg (fun e => h (by rw [e]; exact List.mem_cons_self ..)), h1]
/-- A sheet, line by line. -/
def sheetR : Nat → List Rl → List Bs → Except Nat (List Rl)
  | _, acc, [] => .ok acc
  | at_, acc, [x] => if x = [] then .ok acc else .error at_
  | at_, acc, x :: y :: ws => match ruleR x with
    | none => .error at_
    | some r => sheetR (at_ + 1) (acc ++ [r]) (y :: ws)
theorem cut_not {s : Bs} (h : (Lib.cut s [10]).2.2 = false) : (10 : UInt8) ∉ s := by
  intro hm
  obtain ⟨j, hj⟩ := List.getElem?_of_mem hm
  have hl := (List.getElem?_eq_some_iff.1 hj).1
  rcases Lib.index_spec s [10] with ⟨_, h2⟩ | ⟨i, h1, _, _, _⟩
  · have h3 := h2 j (by omega)
    unfold Lib.occAt at h3
    rw [List.drop_eq_getElem_cons hl, (List.getElem?_eq_some_iff.1 hj).2] at h3
    simp at h3
  · unfold Lib.cut at h
    rw [h1, if_pos (by omega)] at h
    cases h
/-- The document's sheets are those of package style. -/
theorem sheet_same : ∀ (f : Nat) (acc : List Rl) (s : Bs), s.length < f → sheetR acc.length acc (lns s) = shA f acc s
  | 0, _, _, h => absurd h (Nat.not_lt_zero _)
  | f + 1, acc, s, hf => by
    by_cases h0 : s = []
    · subst h0
      rw [shA_nil, lns, sheetR, if_pos rfl]
    · cases he : (Lib.cut s [10]).2.2 with
      | false => rw [shA_open h0 he, lns_none (cut_not he), sheetR, if_neg h0]
      | true =>
        have h1 := (cut_yes he).1
        have h2 := cut_fst_no he
        have h3 := cut_len s [10] he (by simp)
        have h4 : lns s = (Lib.cut s [10]).1 :: lns (Lib.cut s [10]).2.1 := by
          conv => lhs; rw [h1]
          rw [List.append_assoc]
          exact lns_app h2
        obtain ⟨y, ws, hy⟩ : ∃ y ws, lns (Lib.cut s [10]).2.1 = y :: ws := by
          cases hl : lns (Lib.cut s [10]).2.1 with
          | nil => exact absurd hl (lns_ne _)
          | cons y ws => exact ⟨y, ws, rfl⟩
        rw [h4, hy, sheetR, rule_same]
        cases hr : ruleM (Lib.cut s [10]).1 with
        | none => rw [shA_bad h0 hr]
        | some r =>
          rw [shA_more h0 hr he, ← sheet_same f (acc ++ [r]) _ (by omega), hy, List.length_append]
          rfl
/-- The best rule so far: its weight (-1: none), and what is told. -/
def bestS (p : Rl → Bool) (a : Int × Bs) (x : Rl) : Int × Bs := if p x && decide (a.1 ≤ (wtM x.wh : Int)) then ((wtM x.wh : Int), x.vl) else a
theorem best_same (p : Rl → Bool) (fi : Bs) : ∀ (l : List Rl) (a : Bs × Bool × Nat), (a.2.1 = false → a.2.2 = 0) →
    l.foldl (bestS p) (if a.2.1 then (a.2.2 : Int) else -1, if a.2.1 then a.1 else fi) = (if (l.foldl (hvStep p) a).2.1 then ((l.foldl (hvStep p) a).2.2 : Int) else -1, if (l.foldl (hvStep p) a).2.1 then (l.foldl (hvStep p) a).1 else fi)
  | [], _, _ => rfl
  | x :: l, (v, fo, mo), ha => by
    rw [List.foldl_cons, List.foldl_cons]
    have hs : bestS p (if fo then (mo : Int) else -1, if fo then v else fi) x = (if (hvStep p (v, fo, mo) x).2.1 then ((hvStep p (v, fo, mo) x).2.2 : Int) else -1, if (hvStep p (v, fo, mo) x).2.1 then (hvStep p (v, fo, mo) x).1 else fi) := by
      cases hp : p x with
      | false =>
        rw [hvStep_no hp]
        unfold bestS
        rw [hp]
        rfl
      | true =>
        have hle : ((if fo then (mo : Int) else -1) ≤ (wtM x.wh : Int)) ↔ mo ≤ wtM x.wh := by
          cases fo with
          | true => simp
          | false =>
            have h0 : mo = 0 := ha rfl
            subst h0
            simp
        by_cases hb : mo ≤ wtM x.wh
        · rw [hvStep_yes hb hp]
          unfold bestS
          rw [hp, decide_eq_true (hle.2 hb)]
          rfl
        · rw [hvStep_big hb]
          unfold bestS
          rw [hp, decide_eq_false (fun h => hb (hle.1 h))]
          rfl
    show l.foldl (bestS p) (bestS p (if fo then (mo : Int) else -1, if fo then v else fi) x) = _
    rw [hs]
    refine best_same p fi l (hvStep p (v, fo, mo) x) ?_
    intro h
    unfold hvStep at h ⊢
    split
    · next hc => rw [if_pos hc] at h; cases h
    · next hc => rw [if_neg hc] at h; exact ha h
/-- What the document tells of an element, and of those that it lies in. -/
def styF (M : Dm) (l : List Rl) (nm : Bs) : Nat → Int → Bs
  | 0, _ => firstM nm
  | f + 1, n => match atM M n nm with
    | some v => v
    | none => if (l.foldl (bestS (rlFits M nm n)) (-1, firstM nm)).1 < 0 ∧ isInh nm = true ∧ 0 ≤ parM M n then styF M l nm f (parM M n) else (l.foldl (bestS (rlFits M nm n)) (-1, firstM nm)).2
theorem sty_same {M : Dm} {r : Int → Nat} (hw : Wd M r) (l : List Rl) (nm : Bs) : ∀ (d : Nat) (n : Int) (e : Elm) (f : Nat), M n = some e → r n = d → d ≤ f → styF M l nm f n = ofF M l nm f n := by
  intro d
  induction d with
  | zero => intro n e f he hr _; have := (hw.rb n e he).1; omega
  | succ d ih =>
    intro n e f he hr hf
    have hn := hw.pos he
    obtain ⟨f, rfl⟩ : ∃ k, f = k + 1 := ⟨f - 1, by omega⟩
    have hb := best_same (rlFits M nm n) (firstM nm) l ([], false, 0) (fun _ => rfl)
    have hb' : l.foldl (bestS (rlFits M nm n)) (-1, firstM nm) = (if (hvM (rlFits M nm n) l).2.1 then ((hvM (rlFits M nm n) l).2.2 : Int) else -1, if (hvM (rlFits M nm n) l).2.1 then (hvM (rlFits M nm n) l).1 else firstM nm) := hb
    rw [styF]
    cases ha : atM M n nm with
    | some v =>
      rw [ofF_told f hn (by unfold toldM; rw [ha])]
    | none =>
      rw [hb']
      cases hf1 : (hvM (rlFits M nm n) l).2.1 with
      | true =>
        rw [ofF_told f hn (v := (hvM (rlFits M nm n) l).1) (by unfold toldM; rw [ha]; simp [hf1])]
        simp only [if_pos]
        rw [if_neg (by omega)]
      | false =>
        have ht : toldM M l nm n = none := by unfold toldM; rw [ha]; simp [hf1]
        simp only [Bool.false_eq_true, if_false]
        cases hi : isInh nm with
        | false =>
          rw [ofF_end f hn ht hi, if_neg (by simp)]
        | true =>
          rw [ofF_up f hn ht hi]
          by_cases h0 : n = 0
          · subst h0
            rw [hw.root_par, if_neg (by omega), ofF_neg l nm f (by omega)]
          · obtain ⟨q, hq, hr2⟩ := hw.up_par he h0
            rw [if_pos ⟨by omega, rfl, hw.pos hq⟩]
            exact ih _ q f hq (by omega) (by omega)

end Go.Proofs.YtnoecobddhmhlaaGreatDoor

/-
  The document's FracOf (leadlightref1), walked: a fraction out of a text, for every text that is not too long.
-/
import Derived.Test.YtdeahgbjkogjgaaDoorCut1
import Derived.Test.YtdeahgbjkogjgaaDoorRead3
import Derived.Test.YtdeahgbjkogjgaaDoorRef2
namespace Go.Proofs.YtdeahgbjkogjgaaDoor
open Go.RowKit

theorem own_open {w : World} {base : Nat} {e : TypeId} {v : Value} {n : Nat} {xs : List Value} (h : w.ownsRow base e 1 v n xs) (hn : 1 ≤ n) :
    ∃ g cap, v = .slice (some ⟨g, 0, none⟩) n cap ∧ base ≤ g ∧ n ≤ cap ∧ ∀ i u, xs[i]? = some u → w.cell? ⟨g, i, none⟩ = some u := by
  obtain ⟨hl, h2⟩ := h
  rcases h2 with ⟨_, h0⟩ | ⟨g, cap, cur, rfl, hg, hh, hc, _, hsz, htk⟩
  · omega
  · refine ⟨g, cap, rfl, hg, hc, fun i u hu => ?_⟩
    have hi : i < xs.length := (List.getElem?_eq_some_iff.1 hu).1
    rw [← htk, List.getElem?_take_of_lt (by omega)] at hu
    simp only [World.cell?, hh]
    simpa using hu
theorem CutS (s : ByteArray) (w : World) (hm : s.size ≤ 1000000) :
    Calls Tryd.prog 41 #[.string s, .int .u8 47] w fun e w' => ∃ v, e = .returned v ∧ w'.ownsRow w.heap.size 9 1 v (pieces 47 s.data.toList).length (strs (pieces 47 s.data.toList)) ∧ Below w.heap.size w w' := Cut_ref s 47 w hm
theorem behind_mem {c : UInt8} : ∀ {l : List UInt8}, behind c l = none ↔ ∀ b ∈ l, b ≠ c
  | [] => by simp [behind]
  | b :: l => by
    unfold behind
    split
    · rename_i h
      constructor
      · intro e; cases e
      · intro e; exact absurd h (e b (List.mem_cons_self ..))
    · rename_i h
      rw [behind_mem (l := l)]
      constructor
      · intro e b' hb
        rcases List.mem_cons.1 hb with rfl | hb
        · exact h
        · exact e b' hb
      · intro e b' hb; exact e b' (List.mem_cons_of_mem _ hb)
theorem behind_split {c : UInt8} : ∀ {l r : List UInt8}, behind c l = some r → l = ahead c l ++ c :: r ∧ ∀ b ∈ ahead c l, b ≠ c
  | [], _, h => by cases h
  | b :: l, r, h => by
    unfold behind at h
    split at h
    · rename_i hb
      subst hb
      cases h
      unfold ahead
      simp
    · rename_i hb
      obtain ⟨h1, h2⟩ := behind_split h
      unfold ahead
      rw [if_neg hb]
      refine ⟨by rw [List.cons_append, ← h1], ?_⟩
      intro b' hb'
      rcases List.mem_cons.1 hb' with rfl | hb'
      · exact hb
      · exact h2 b' hb'
theorem pieces_of_none {l : List UInt8} (h : behind 47 l = none) : pieces 47 l = [l] := pieces_none (behind_mem.1 h)
theorem pieces_of_some {l r : List UInt8} (h : behind 47 l = some r) : pieces 47 l = ahead 47 l :: pieces 47 r := by
  obtain ⟨h1, h2⟩ := behind_split h
  conv => lhs; rw [h1]
  exact pieces_cut h2
theorem digs_slash {l : List UInt8} (h : behind 47 l ≠ none) : digs l = false := by
  rw [Ne, behind_mem] at h
  have h' : ∃ b ∈ l, b = 47 := by
    rcases Classical.em (∃ b ∈ l, b = 47) with e | e
    · exact e
    · exact absurd (fun b hb hc => e ⟨b, hb, hc⟩) h
  obtain ⟨b, hb, rfl⟩ := h'
  unfold digs
  rw [Bool.and_eq_false_iff]
  refine Or.inr (List.all_eq_false.2 ⟨47, hb, by decide⟩)
theorem pieces_pos (c : UInt8) (l : List UInt8) : 1 ≤ (pieces c l).length := by
  cases l with
  | nil => simp [pieces]
  | cons b l =>
    unfold pieces
    split
    · simp
    · split <;> simp

/-- how a text begins: with a minus, or not -/
inductive Begins (s a : ByteArray) (t : ByteArray) : Bool → Prop where
  | minus (h0 : 0 < s.size) (h : (s[0].toNat : Int) = 45) (h1 : 1 ≤ a.size) (e : a.extract 1 a.size = t) : Begins s a t true
  | none (h : s.size = 0 ∨ ∃ h0 : 0 < s.size, ((s[0].toNat : Int) == 45) = false) (e : a = t) : Begins s a t false
theorem begins (s a t : ByteArray) (ha : ahead 47 s.data.toList = a.data.toList) (ht : Lib.trimPrefix a.data.toList [45] = t.data.toList) : Begins s a t (Lib.hasPrefix a.data.toList [45]) := by
  cases hp : Lib.hasPrefix a.data.toList [45] with
  | true =>
    have h1 : ∃ r, a.data.toList = 45 :: r := by
      unfold Lib.hasPrefix at hp
      cases hl : a.data.toList with
      | nil => rw [hl] at hp; simp at hp
      | cons b r =>
        rw [hl] at hp
        simp at hp
        exact ⟨r, by rw [hp]⟩
    obtain ⟨r, hr⟩ := h1
    have h2 : ∃ r', s.data.toList = 45 :: r' := by
      cases hl : s.data.toList with
      | nil => rw [hl, hr] at ha; simp [ahead] at ha
      | cons b r' =>
        rw [hl, hr] at ha
        unfold ahead at ha
        split at ha
        · cases ha
        · cases ha; exact ⟨r', rfl⟩
    obtain ⟨r', hr'⟩ := h2
    have hs : 0 < s.size := by rw [← len_eq, hr']; simp
    have hs0 : s[0] = 45 := by
      have := head_at s hs
      rw [hr'] at this
      exact (Option.some.inj this).symm
    refine .minus hs (by rw [hs0]; rfl) (by rw [← len_eq, hr]; simp) (ext_list ?_)
    rw [Lib.extract_to_end, ← ht]
    unfold Lib.trimPrefix
    rw [if_pos hp]
    rfl
  | false =>
    refine .none ?_ (ext_list ?_)
    · rcases Nat.eq_zero_or_pos s.size with h | h
      · exact Or.inl h
      · refine Or.inr ⟨h, ?_⟩
        rw [beq_eq_false_iff_ne]
        intro e
        have h45 : s[0] = 45 := byte_eq e
        have hh := head_at s h
        rw [h45] at hh
        cases hl : s.data.toList with
        | nil => rw [hl] at hh; cases hh
        | cons b r =>
          rw [hl] at hh ha
          cases hh
          unfold ahead at ha
          rw [if_neg (by decide)] at ha
          rw [← ha] at hp
          simp [Lib.hasPrefix] at hp
    · rw [← ht]; unfold Lib.trimPrefix; rw [if_neg (by rw [hp]; simp)]
theorem NumberOf_at (s : ByteArray) (b : Bool) (v : Int) (w : World) (hb : digs s.data.toList = b) (hv : (if b = true then (val s.data.toList : Int) else -1) = v) :
    Calls Tryd.prog 42 #[.string s, .int .i64 10] w fun e w' => e = .returned (.int .i64 v) ∧ w = w' := by
  subst hb; subst hv; exact (NumberOf_any s w).mono fun _ _ h => ⟨h.1, h.2.symm⟩
theorem two_allA {w : World} {b : Nat} {x y : Value} (h : Two w b x y) : (∀ o, (w.alloc o).cell? ⟨b, 0, none⟩ = some x) ∧ (∀ o, (w.alloc o).cell? ⟨b, 1, none⟩ = some y) ∧ (∀ o, (w.alloc o).frozen? ⟨b, 0, none⟩ = false) ∧ (∀ o, (w.alloc o).frozen? ⟨b, 1, none⟩ = false) :=
  ⟨fun o => (h.alloc o).c0, fun o => (h.alloc o).c1, fun o => (h.alloc o).f0, fun o => (h.alloc o).f1⟩
theorem arr_id (a : ByteArray) : (⟨a.data.toList.toArray⟩ : ByteArray) = a := ext_list (by simp)
theorem CutS1 (s a : ByteArray) (w : World) (hm : s.size ≤ 1000000) (hp : pieces 47 s.data.toList = [a.data.toList]) :
    Calls Tryd.prog 41 #[.string s, .int .u8 47] w fun e w' => ∃ g cap, e = .returned (.slice (some ⟨g, 0, none⟩) 1 cap) ∧ 1 ≤ cap ∧ w'.cell? ⟨g, 0, none⟩ = some (.string a) ∧ w.heap.size ≤ g ∧ Below w.heap.size w w' := by
  refine (CutS s w hm).mono ?_
  rintro e w' ⟨v, rfl, hown, hb⟩
  rw [hp] at hown
  obtain ⟨g, cap, rfl, hg, hcap, hcell⟩ := own_open hown (by simp)
  exact ⟨g, cap, rfl, hcap, hcell 0 _ (by simp [strs]), hg, hb⟩
theorem CutS2 (s a b : ByteArray) (w : World) (hm : s.size ≤ 1000000) (hp : pieces 47 s.data.toList = [a.data.toList, b.data.toList]) :
    Calls Tryd.prog 41 #[.string s, .int .u8 47] w fun e w' => ∃ g cap, e = .returned (.slice (some ⟨g, 0, none⟩) 2 cap) ∧ 2 ≤ cap ∧ w'.cell? ⟨g, 0, none⟩ = some (.string a) ∧ w'.cell? ⟨g, 1, none⟩ = some (.string b) ∧ w.heap.size ≤ g ∧ Below w.heap.size w w' := by
  refine (CutS s w hm).mono ?_
  rintro e w' ⟨v, rfl, hown, hb⟩
  rw [hp] at hown
  obtain ⟨g, cap, rfl, hg, hcap, hcell⟩ := own_open hown (by simp)
  exact ⟨g, cap, rfl, hcap, hcell 0 _ (by simp [strs]), hcell 1 _ (by simp [strs]), hg, hb⟩
theorem CutS3 (s : ByteArray) (w : World) (hm : s.size ≤ 1000000) (hp : 3 ≤ (pieces 47 s.data.toList).length) :
    Calls Tryd.prog 41 #[.string s, .int .u8 47] w fun e w' => ∃ g n cap, e = .returned (.slice (some ⟨g, 0, none⟩) n cap) ∧ 3 ≤ n ∧ Below w.heap.size w w' := by
  refine (CutS s w hm).mono ?_
  rintro e w' ⟨v, rfl, hown, hb⟩
  obtain ⟨g, cap, rfl, hg, hcap, hcell⟩ := own_open hown (by omega)
  exact ⟨g, _, cap, rfl, hp, hb⟩
end Go.Proofs.YtdeahgbjkogjgaaDoor

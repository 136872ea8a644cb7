/-
  The document's Cut (leadlightref1), walked: a text cut by a byte, for every text that is not too long.
-/
import Derived.Test.YtlnnpileegoglabGreatDoorJ7
import Derived.OwnWalk
import Derived.Test.YtlnnpileegoglabGreatDoorJ2
namespace Go.Proofs.YtlnnpileegoglabGreatDoor
open Go.RowKit

/-- the pieces of a text between such bytes -/
def pieces (c : UInt8) : List UInt8 → List (List UInt8)
  | [] => [[]]
  | b :: l => if b = c then [] :: pieces c l else match pieces c l with
    | [] => [[b]]
    | p :: ps => (b :: p) :: ps
theorem pieces_none {c : UInt8} : ∀ {x : List UInt8}, (∀ b ∈ x, b ≠ c) → pieces c x = [x]
  | [], _ => rfl
  | b :: l, h => by
    have h1 := pieces_none (c := c) (x := l) (fun b' hb => h b' (List.mem_cons_of_mem _ hb))
    unfold pieces
    rw [if_neg (h b (List.mem_cons_self ..)), h1]
theorem pieces_cut {c : UInt8} {y : List UInt8} : ∀ {x : List UInt8}, (∀ b ∈ x, b ≠ c) → pieces c (x ++ c :: y) = x :: pieces c y
  | [], _ => by simp [pieces]
  | b :: l, h => by
    have h1 := pieces_cut (c := c) (y := y) (x := l) (fun b' hb => h b' (List.mem_cons_of_mem _ hb))
    rw [List.cons_append]
    show (if b = c then [] :: pieces c (l ++ c :: y) else match pieces c (l ++ c :: y) with | [] => [[b]] | p :: ps => (b :: p) :: ps) = _
    rw [if_neg (h b (List.mem_cons_self ..)), h1]

def strs (ps : List (List UInt8)) : List Value := ps.map fun p => .string ⟨p.toArray⟩
theorem infoStr : (Tryz.prog.info? 9).map (fun i => (i.zero, i.size, i.bytes)) = some (some (.string ByteArray.empty), 1, 16) := by kernel_rfl

/-- what the loop holds: the pieces so far, and that none has been passed by -/
structure CutRel (c : UInt8) (s : ByteArray) (done : List (List UInt8)) (from_ k : Nat) : Prop where
  all : pieces c s.data.toList = done ++ pieces c (s.data.toList.drop from_)
  le : from_ ≤ k
  none : ∀ b ∈ (s.data.toList.drop from_).take (k - from_), b ≠ c
  few : done.length ≤ from_
theorem CutRel.start (c : UInt8) (s : ByteArray) : CutRel c s [] 0 0 := ⟨by simp, Nat.le_refl _, by simp, Nat.le_refl _⟩
theorem piece_split {s : ByteArray} {from_ k : Nat} (hk : k < s.size) (hf : from_ ≤ k) : s.data.toList.drop from_ = (s.data.toList.drop from_).take (k - from_) ++ s[k] :: s.data.toList.drop (k + 1) := by
  have e : (s.data.toList.drop from_).drop (k - from_) = s[k] :: s.data.toList.drop (k + 1) := by
    rw [List.drop_drop, show from_ + (k - from_) = k by omega, List.drop_eq_getElem_cons (by rw [len_eq]; exact hk)]
    rfl
  rw [← e, List.take_append_drop]
theorem CutRel.hit {c : UInt8} {s : ByteArray} {done : List (List UInt8)} {from_ k : Nat} (h : CutRel c s done from_ k) (hk : k < s.size) (hc : s[k] = c) :
    CutRel c s (done ++ [(s.extract from_ k).data.toList]) (k + 1) (k + 1) := by
  have e : (s.extract from_ k).data.toList = (s.data.toList.drop from_).take (k - from_) := Lib.extract_data s from_ k
  refine ⟨?_, Nat.le_refl _, by simp, ?_⟩
  · have hs := piece_split hk h.le
    rw [hc] at hs
    rw [h.all, hs, pieces_cut h.none, e, List.append_assoc]
    rfl
  · have := h.few
    have := h.le
    simp
    omega
theorem CutRel.miss {c : UInt8} {s : ByteArray} {done : List (List UInt8)} {from_ k : Nat} (h : CutRel c s done from_ k) (hk : k < s.size) (hc : s[k] ≠ c) : CutRel c s done from_ (k + 1) := by
  refine ⟨h.all, Nat.le_succ_of_le h.le, ?_, h.few⟩
  have e : (s.data.toList.drop from_).take (k + 1 - from_) = (s.data.toList.drop from_).take (k - from_) ++ [s[k]] := by
    have hs := piece_split hk h.le
    have hl : ((s.data.toList.drop from_).take (k - from_)).length = k - from_ := by rw [List.length_take, List.length_drop, len_eq]; have := h.le; omega
    conv => lhs; rw [hs]
    rw [List.take_append, hl, List.take_of_length_le (by rw [hl]; omega), show k + 1 - from_ - (k - from_) = 1 by have := h.le; omega]
    rfl
  rw [e]
  intro b hb
  rcases List.mem_append.1 hb with hb | hb
  · exact h.none b hb
  · rw [List.mem_singleton.1 hb]; exact hc
theorem CutRel.fin {c : UInt8} {s : ByteArray} {done : List (List UInt8)} {from_ : Nat} (h : CutRel c s done from_ s.size) : done ++ [(s.extract from_ s.size).data.toList] = pieces c s.data.toList := by
  have e : (s.extract from_ s.size).data.toList = s.data.toList.drop from_ := Lib.extract_to_end s from_
  have hn : ∀ b ∈ s.data.toList.drop from_, b ≠ c := by
    have := h.none
    rwa [List.take_of_length_le (by rw [List.length_drop, len_eq]; exact Nat.le_refl _)] at this
  rw [h.all, pieces_none hn, e]
theorem strs_snoc (ps : List (List UInt8)) (t : ByteArray) : strs (ps ++ [t.data.toList]) = strs ps ++ [.string t] := by
  have : (⟨t.data.toList.toArray⟩ : ByteArray) = t := by cases t; simp
  simp [strs, this]
theorem byte_eq {a b : UInt8} (h : (a.toNat : Int) = b.toNat) : a = b := UInt8.toNat_inj.1 (by omega)

theorem own_ge {w : World} {base : Nat} {e : TypeId} {size : Nat} {v : Value} {n : Nat} {xs : List Value} (h : w.ownsRow base e size v n xs) : ∀ k, v.ownBlock = some k → base ≤ k := by
  obtain ⟨_, h2⟩ := h
  rcases h2 with ⟨rfl, _⟩ | ⟨g, cap, cur, rfl, hg, _⟩
  · intro k hk; cases hk
  · intro k hk
    cases hk
    exact hg
theorem own_snoc {w : World} {base : Nat} {e : TypeId} {v : Value} {done : List (List UInt8)} {t : ByteArray} (h : w.ownsRow base e 1 v (done.length + 1) (strs done ++ [.string t])) : w.ownsRow base e 1 v (done ++ [t.data.toList]).length (strs (done ++ [t.data.toList])) := by
  rw [strs_snoc, List.length_append]; exact h

set_option maxHeartbeats 4000000 in
theorem Cut_ref (s : ByteArray) (c : UInt8) (w : World) (hm : s.size ≤ 1000000) :
    Calls Tryz.prog 44 #[.string s, .int .u8 c.toNat] w fun e w' => ∃ v, e = .returned v ∧ w'.ownsRow w.heap.size 9 1 v (pieces c s.data.toList).length (strs (pieces c s.data.toList)) ∧ Below w.heap.size w w' := by
  obtain ⟨i0, hi, hz0, hz1, hz2⟩ := info_parts infoStr
  go_enter Tryz.func44, Tryz.ntmps44
  go_wp2
  go_loopw [5, 6, 7] (fun v x y wr => ∃ (done : List (List UInt8)) (from_ k : Nat), k ≤ s.size ∧ x = .int .i64 from_ ∧ y = .int .i64 k ∧ CutRel c s done from_ k ∧ wr.ownsRow w.heap.size 9 1 v done.length (strs done) ∧ Below w.heap.size w wr) (fun _ _ y _ => s.size - (intOf y).toNat)
  case atStart => exact ⟨[], 0, 0, Nat.zero_le _, rfl, rfl, CutRel.start c s, World.ownsRow_nil _ _ _ _, Below.refl _ _⟩
  case round =>
    obtain ⟨done, from_, k, hk, rfl, rfl, hrel', hown, hb⟩ := hrel
    have HC : Hid (CutRel c s done from_ k) := hrel'
    have HO : Hid (wr.ownsRow w.heap.size 9 1 u5 done.length (strs done)) := hown
    have hf1 := hrel'.le
    have hf2 := hrel'.few
    have hwz := hb.size
    clear hrel' hown
    by_cases hlt : k < s.size
    · have hlt' : (k : Int) < (s.size : Int) := by omega
      have hf1' : (from_ : Int) ≤ (k : Int) := by omega
      by_cases hc : s[k] = c
      · have hcb : ((s[k].toNat : Int) == (c.toNat : Int)) = true := by rw [hc]; simp
        go_wp2_with (at_builtin; refine wpList_append_own _ rfl _ _ 86 rfl w.heap.size 9 i0 (.string ByteArray.empty) 1 16 Tryz.underlying86 hi hz0 hz1 hz2 rfl (by decide) _ _ _ rfl (World.ownsRow.alloc HO.out _) ⟨wr.heap.size, 0, none⟩ 1 1 [.string (s.extract from_ k)] rfl rfl (cell_one_new _ _ _) (fun x hx => by simp at hx; subst hx; rfl) (by unfold maxLen; omega) (by omega) (by simp; omega) ?_; intro v' w1 hown' hgrow _)
        have hb1 := (hb.alloc hwz _).grown hgrow (by simp; omega) (own_ge HO.out)
        go_roundw
        case rel => exact ⟨_, k + 1, k + 1, by omega, by go_num, by go_num, HC.out.hit hlt hc, own_snoc hown', hb1⟩
        case measure => simp [intOf]; omega
      · have hcb : ((s[k].toNat : Int) == (c.toNat : Int)) = false := by rw [beq_eq_false_iff_ne]; exact fun e => hc (byte_eq e)
        go_wp2
        go_roundw
        case rel => exact ⟨done, from_, k + 1, by omega, rfl, by go_num, HC.out.miss hlt hc, HO.out, hb⟩
        case measure => simp [intOf]; omega
    · obtain rfl : k = s.size := by omega
      have hf1' : (from_ : Int) ≤ (s.size : Int) := by omega
      go_wp2_with (at_builtin; refine wpList_append_own _ rfl _ _ 86 rfl w.heap.size 9 i0 (.string ByteArray.empty) 1 16 Tryz.underlying86 hi hz0 hz1 hz2 rfl (by decide) _ _ _ rfl (World.ownsRow.alloc HO.out _) ⟨wr.heap.size, 0, none⟩ 1 1 [.string (s.extract from_ s.size)] rfl rfl (cell_one_new _ _ _) (fun x hx => by simp at hx; subst hx; rfl) (by unfold maxLen; omega) (by omega) (by simp; omega) ?_; intro v' w1 hown' hgrow _)
      have hb1 := (hb.alloc hwz _).grown hgrow (by simp; omega) (own_ge HO.out)
      have hown2 := own_snoc hown'
      rw [HC.out.fin] at hown2
      go_ret
      exact ⟨_, rfl, hown2, hb1⟩
end Go.Proofs.YtlnnpileegoglabGreatDoor

namespace Go.Proofs.YtlnnpileegoglabGreatDoor
open Go.RowKit

theorem own_open {w : World} {base : Nat} {e : TypeId} {v : Value} {n : Nat} {xs : List Value} (h : w.ownsRow base e 1 v n xs) (hn : 1 ≤ n) :
    ∃ g cap, v = .slice (some ⟨g, 0, none⟩) n cap ∧ base ≤ g ∧ n ≤ cap ∧ ∀ i u, xs[i]? = some u → w.cell? ⟨g, i, none⟩ = some u := by
  obtain ⟨hl, h2⟩ := h
  rcases h2 with ⟨_, h0⟩ | ⟨g, cap, cur, rfl, hg, hh, hc, _, hsz, htk⟩
  · omega
  · refine ⟨g, cap, rfl, hg, hc, fun i u hu => ?_⟩
    have hi : i < xs.length := (List.getElem?_eq_some_iff.1 hu).1
    rw [← htk, List.getElem?_take_of_lt (by omega)] at hu
    simp only [World.cell?, hh]
    simpa using hu
theorem CutS (s : ByteArray) (w : World) (hm : s.size ≤ 1000000) :
    Calls Tryz.prog 44 #[.string s, .int .u8 47] w fun e w' => ∃ v, e = .returned v ∧ w'.ownsRow w.heap.size 9 1 v (pieces 47 s.data.toList).length (strs (pieces 47 s.data.toList)) ∧ Below w.heap.size w w' := Cut_ref s 47 w hm
theorem behind_mem {c : UInt8} : ∀ {l : List UInt8}, behind c l = none ↔ ∀ b ∈ l, b ≠ c
  | [] => by simp [behind]
  | b :: l => by
    unfold behind
    split
    · rename_i h
      constructor
      · intro e; cases e
      · intro e; exact absurd h (e b (List.mem_cons_self ..))
    · rename_i h
      rw [behind_mem (l := l)]
      constructor
      · intro e b' hb
        rcases List.mem_cons.1 hb with rfl | hb
        · exact h
        · exact e b' hb
      · intro e b' hb; exact e b' (List.mem_cons_of_mem _ hb)
theorem behind_split {c : UInt8} : ∀ {l r : List UInt8}, behind c l = some r → l = ahead c l ++ c :: r ∧ ∀ b ∈ ahead c l, b ≠ c
  | [], _, h => by cases h
  | b :: l, r, h => by
    unfold behind at h
    split at h
    · rename_i hb
      subst hb
      cases h
      unfold ahead
      simp
    · rename_i hb
      obtain ⟨h1, h2⟩ := behind_split h
      unfold ahead
      rw [if_neg hb]
      refine ⟨by rw [List.cons_append, ← h1], ?_⟩
      intro b' hb'
      rcases List.mem_cons.1 hb' with rfl | hb'
      · exact hb
      · exact h2 b' hb'
theorem pieces_of_none {l : List UInt8} (h : behind 47 l = none) : pieces 47 l = [l] := pieces_none (behind_mem.1 h)
theorem pieces_of_some {l r : List UInt8} (h : behind 47 l = some r) : pieces 47 l = ahead 47 l :: pieces 47 r := by
  obtain ⟨h1, h2⟩ := behind_split h
  conv => lhs; rw [h1]
  exact pieces_cut h2
theorem digs_slash {l : List UInt8} (h : behind 47 l ≠ none) : digs l = false := by
  rw [Ne, behind_mem] at h
  have h' : ∃ b ∈ l, b = 47 := by
    rcases Classical.em (∃ b ∈ l, b = 47) with e | e
    · exact e
    · exact absurd (fun b hb hc => e ⟨b, hb, hc⟩) h
  obtain ⟨b, hb, rfl⟩ := h'
  unfold digs
  rw [Bool.and_eq_false_iff]
  refine Or.inr (List.all_eq_false.2 ⟨47, hb, by decide⟩)
theorem pieces_pos (c : UInt8) (l : List UInt8) : 1 ≤ (pieces c l).length := by
  cases l with
  | nil => simp [pieces]
  | cons b l =>
    unfold pieces
    split
    · simp
    · split <;> simp

/-- how a text begins: with a minus, or not -/
inductive Begins (s a : ByteArray) (t : ByteArray) : Bool → Prop where
  | minus (h0 : 0 < s.size) (h : (s[0].toNat : Int) = 45) (h1 : 1 ≤ a.size) (e : a.extract 1 a.size = t) : Begins s a t true
  | none (h : s.size = 0 ∨ ∃ h0 : 0 < s.size, ((s[0].toNat : Int) == 45) = false) (e : a = t) : Begins s a t false
theorem begins (s a t : ByteArray) (ha : ahead 47 s.data.toList = a.data.toList) (ht : Lib.trimPrefix a.data.toList [45] = t.data.toList) : Begins s a t (Lib.hasPrefix a.data.toList [45]) := by
  cases hp : Lib.hasPrefix a.data.toList [45] with
  | true =>
    have h1 : ∃ r, a.data.toList = 45 :: r := by
      unfold Lib.hasPrefix at hp
      cases hl : a.data.toList with
      | nil => rw [hl] at hp; simp at hp
      | cons b r =>
        rw [hl] at hp
        simp at hp
        exact ⟨r, by rw [hp]⟩
    obtain ⟨r, hr⟩ := h1
    have h2 : ∃ r', s.data.toList = 45 :: r' := by
      cases hl : s.data.toList with
      | nil => rw [hl, hr] at ha; simp [ahead] at ha
      | cons b r' =>
        rw [hl, hr] at ha
        unfold ahead at ha
        split at ha
        · cases ha
        · cases ha; exact ⟨r', rfl⟩
    obtain ⟨r', hr'⟩ := h2
    have hs : 0 < s.size := by rw [← len_eq, hr']; simp
    have hs0 : s[0] = 45 := by
      have := head_at s hs
      rw [hr'] at this
      exact (Option.some.inj this).symm
    refine .minus hs (by rw [hs0]; rfl) (by rw [← len_eq, hr]; simp) (ext_list ?_)
    rw [Lib.extract_to_end, ← ht]
    unfold Lib.trimPrefix
    rw [if_pos hp]
    rfl
  | false =>
    refine .none ?_ (ext_list ?_)
    · rcases Nat.eq_zero_or_pos s.size with h | h
      · exact Or.inl h
      · refine Or.inr ⟨h, ?_⟩
        rw [beq_eq_false_iff_ne]
        intro e
        have h45 : s[0] = 45 := byte_eq e
        have hh := head_at s h
        rw [h45] at hh
        cases hl : s.data.toList with
        | nil => rw [hl] at hh; cases hh
        | cons b r =>
          rw [hl] at hh ha
          cases hh
          unfold ahead at ha
          rw [if_neg (by decide)] at ha
          rw [← ha] at hp
          simp [Lib.hasPrefix] at hp
    · rw [← ht]; unfold Lib.trimPrefix; rw [if_neg (by rw [hp]; simp)]
theorem NumberOf_at (s : ByteArray) (b : Bool) (v : Int) (w : World) (hb : digs s.data.toList = b) (hv : (if b = true then (val s.data.toList : Int) else -1) = v) :
    Calls Tryz.prog 62 #[.string s, .int .i64 10] w fun e w' => e = .returned (.int .i64 v) ∧ w = w' := by
  subst hb; subst hv; exact (NumberOf_any s w).mono fun _ _ h => ⟨h.1, h.2.symm⟩
theorem two_allA {w : World} {b : Nat} {x y : Value} (h : Two w b x y) : (∀ o, (w.alloc o).cell? ⟨b, 0, none⟩ = some x) ∧ (∀ o, (w.alloc o).cell? ⟨b, 1, none⟩ = some y) ∧ (∀ o, (w.alloc o).frozen? ⟨b, 0, none⟩ = false) ∧ (∀ o, (w.alloc o).frozen? ⟨b, 1, none⟩ = false) :=
  ⟨fun o => (h.alloc o).c0, fun o => (h.alloc o).c1, fun o => (h.alloc o).f0, fun o => (h.alloc o).f1⟩
theorem arr_id (a : ByteArray) : (⟨a.data.toList.toArray⟩ : ByteArray) = a := ext_list (by simp)
theorem CutS1 (s a : ByteArray) (w : World) (hm : s.size ≤ 1000000) (hp : pieces 47 s.data.toList = [a.data.toList]) :
    Calls Tryz.prog 44 #[.string s, .int .u8 47] w fun e w' => ∃ g cap, e = .returned (.slice (some ⟨g, 0, none⟩) 1 cap) ∧ 1 ≤ cap ∧ w'.cell? ⟨g, 0, none⟩ = some (.string a) ∧ w.heap.size ≤ g ∧ Below w.heap.size w w' := by
  refine (CutS s w hm).mono ?_
  rintro e w' ⟨v, rfl, hown, hb⟩
  rw [hp] at hown
  obtain ⟨g, cap, rfl, hg, hcap, hcell⟩ := own_open hown (by simp)
  exact ⟨g, cap, rfl, hcap, hcell 0 _ (by simp [strs]), hg, hb⟩
theorem CutS2 (s a b : ByteArray) (w : World) (hm : s.size ≤ 1000000) (hp : pieces 47 s.data.toList = [a.data.toList, b.data.toList]) :
    Calls Tryz.prog 44 #[.string s, .int .u8 47] w fun e w' => ∃ g cap, e = .returned (.slice (some ⟨g, 0, none⟩) 2 cap) ∧ 2 ≤ cap ∧ w'.cell? ⟨g, 0, none⟩ = some (.string a) ∧ w'.cell? ⟨g, 1, none⟩ = some (.string b) ∧ w.heap.size ≤ g ∧ Below w.heap.size w w' := by
  refine (CutS s w hm).mono ?_
  rintro e w' ⟨v, rfl, hown, hb⟩
  rw [hp] at hown
  obtain ⟨g, cap, rfl, hg, hcap, hcell⟩ := own_open hown (by simp)
  exact ⟨g, cap, rfl, hcap, hcell 0 _ (by simp [strs]), hcell 1 _ (by simp [strs]), hg, hb⟩
theorem CutS3 (s : ByteArray) (w : World) (hm : s.size ≤ 1000000) (hp : 3 ≤ (pieces 47 s.data.toList).length) :
    Calls Tryz.prog 44 #[.string s, .int .u8 47] w fun e w' => ∃ g n cap, e = .returned (.slice (some ⟨g, 0, none⟩) n cap) ∧ 3 ≤ n ∧ Below w.heap.size w w' := by
  refine (CutS s w hm).mono ?_
  rintro e w' ⟨v, rfl, hown, hb⟩
  obtain ⟨g, cap, rfl, hg, hcap, hcell⟩ := own_open hown (by omega)
  exact ⟨g, _, cap, rfl, hp, hb⟩
end Go.Proofs.YtlnnpileegoglabGreatDoor

namespace Go.Proofs.YtlnnpileegoglabGreatDoor
open Go.RowKit

set_option maxHeartbeats 4000000 in
theorem of_no1 (s a t : ByteArray) (w : World) (hm : s.size ≤ 1000000) (neg : Bool) (hbeg : Begins s a t neg) (hp : pieces 47 s.data.toList = [a.data.toList]) (bt : Bool) (nv : Int) (hd : digs t.data.toList = bt) (hv : (if bt = true then (val t.data.toList : Int) else -1) = nv) (hbad : nv < 0 ∨ neg = true ∧ nv = 0) :
    Calls Tryz.prog 46 #[.string s] w fun e w' => e = .returned (.tuple #[.agg #[.int .i64 (⟨0, 0, 1⟩ : R3).n, .int .i64 (⟨0, 0, 1⟩ : R3).d], .int .i64 (⟨0, 0, 1⟩ : R3).c]) ∧ Below w.heap.size w w' := by
  have HP : Hid (pieces 47 s.data.toList = [a.data.toList]) := hp
  clear hp
  have HD : Hid (digs t.data.toList = bt) := hd
  have HV : Hid ((if bt = true then (val t.data.toList : Int) else -1) = nv) := hv
  clear hd hv
  rcases hbad with hneg | ⟨hneg, rfl⟩
  · cases hbeg with
    | minus h0 h45 ha1 ea =>
      have ha1' : (1 : Int) ≤ (a.size : Int) := by omega
      have h0' : (0 : Int) < (s.size : Int) := by omega
      go_enter Tryz.func46, Tryz.ntmps46
      go_wp2_with (first | (go_at_call 44; refine (CutS1 s a _ hm HP.out).mono ?_; rintro e w1 ⟨g, cap, rfl, hcap, k0, hg, hb⟩; have hw := ((Below.refl w.heap.size w).alloc (Nat.le_refl _) _).trans (hb.mono (by simp)); obtain ⟨r1, r2, r3, r4⟩ := (Two.new w _ _ _).below hb (Nat.le_refl _); have hzz := hb.size; simp only [World.size_alloc] at hzz; clear hb) | (go_at_call 62; refine (NumberOf_at t bt nv _ HD.out HV.out).mono ?_; rintro e w' ⟨rfl, rfl⟩))
      refine bodyPost_ret (v := .tuple #[.agg #[.int .i64 0, .int .i64 0], .int .i64 1]) (by simp [results, Tryz.results46, go_sem, r1, r2]) rfl ⟨rfl, ?_⟩
      exact (hw.setCell (Nat.le_refl _) _).setCell (Nat.le_refl _) _
    | none hh ea =>
      subst ea
      rcases hh with h0 | ⟨h0, h45⟩
      · have h0' : (s.size : Int) = 0 := by omega
        go_enter Tryz.func46, Tryz.ntmps46
        go_wp2_with (first | (go_at_call 44; refine (CutS1 s a _ hm HP.out).mono ?_; rintro e w1 ⟨g, cap, rfl, hcap, k0, hg, hb⟩; have hw := ((Below.refl w.heap.size w).alloc (Nat.le_refl _) _).trans (hb.mono (by simp)); obtain ⟨r1, r2, r3, r4⟩ := (Two.new w _ _ _).below hb (Nat.le_refl _); have hzz := hb.size; simp only [World.size_alloc] at hzz; clear hb) | (go_at_call 62; refine (NumberOf_at a bt nv _ HD.out HV.out).mono ?_; rintro e w' ⟨rfl, rfl⟩))
        refine bodyPost_ret (v := .tuple #[.agg #[.int .i64 0, .int .i64 0], .int .i64 1]) (by simp [results, Tryz.results46, go_sem, r1, r2]) rfl ⟨rfl, ?_⟩
        exact (hw.setCell (Nat.le_refl _) _).setCell (Nat.le_refl _) _
      · have h0' : (0 : Int) < (s.size : Int) := by omega
        go_enter Tryz.func46, Tryz.ntmps46
        go_wp2_with (first | (go_at_call 44; refine (CutS1 s a _ hm HP.out).mono ?_; rintro e w1 ⟨g, cap, rfl, hcap, k0, hg, hb⟩; have hw := ((Below.refl w.heap.size w).alloc (Nat.le_refl _) _).trans (hb.mono (by simp)); obtain ⟨r1, r2, r3, r4⟩ := (Two.new w _ _ _).below hb (Nat.le_refl _); have hzz := hb.size; simp only [World.size_alloc] at hzz; clear hb) | (go_at_call 62; refine (NumberOf_at a bt nv _ HD.out HV.out).mono ?_; rintro e w' ⟨rfl, rfl⟩))
        refine bodyPost_ret (v := .tuple #[.agg #[.int .i64 0, .int .i64 0], .int .i64 1]) (by simp [results, Tryz.results46, go_sem, r1, r2]) rfl ⟨rfl, ?_⟩
        exact (hw.setCell (Nat.le_refl _) _).setCell (Nat.le_refl _) _
  · subst hneg
    cases hbeg with
    | minus h0 h45 ha1 ea =>
      have ha1' : (1 : Int) ≤ (a.size : Int) := by omega
      have h0' : (0 : Int) < (s.size : Int) := by omega
      go_enter Tryz.func46, Tryz.ntmps46
      go_wp2_with (first | (go_at_call 44; refine (CutS1 s a _ hm HP.out).mono ?_; rintro e w1 ⟨g, cap, rfl, hcap, k0, hg, hb⟩; have hw := ((Below.refl w.heap.size w).alloc (Nat.le_refl _) _).trans (hb.mono (by simp)); obtain ⟨r1, r2, r3, r4⟩ := (Two.new w _ _ _).below hb (Nat.le_refl _); have hzz := hb.size; simp only [World.size_alloc] at hzz; clear hb) | (go_at_call 62; refine (NumberOf_at t bt 0 _ HD.out HV.out).mono ?_; rintro e w' ⟨rfl, rfl⟩))
      refine bodyPost_ret (v := .tuple #[.agg #[.int .i64 0, .int .i64 0], .int .i64 1]) (by simp [results, Tryz.results46, go_sem, r1, r2]) rfl ⟨rfl, ?_⟩
      exact (hw.setCell (Nat.le_refl _) _).setCell (Nat.le_refl _) _

set_option maxHeartbeats 4000000 in
theorem of_no2 (s a t b : ByteArray) (w : World) (hm : s.size ≤ 1000000) (neg : Bool) (hbeg : Begins s a t neg) (hp : pieces 47 s.data.toList = [a.data.toList, b.data.toList]) (bt : Bool) (nv : Int) (hd : digs t.data.toList = bt) (hv : (if bt = true then (val t.data.toList : Int) else -1) = nv) (hbad : nv < 0 ∨ neg = true ∧ nv = 0) :
    Calls Tryz.prog 46 #[.string s] w fun e w' => e = .returned (.tuple #[.agg #[.int .i64 (⟨0, 0, 1⟩ : R3).n, .int .i64 (⟨0, 0, 1⟩ : R3).d], .int .i64 (⟨0, 0, 1⟩ : R3).c]) ∧ Below w.heap.size w w' := by
  have HP : Hid (pieces 47 s.data.toList = [a.data.toList, b.data.toList]) := hp
  clear hp
  have HD : Hid (digs t.data.toList = bt) := hd
  have HV : Hid ((if bt = true then (val t.data.toList : Int) else -1) = nv) := hv
  clear hd hv
  rcases hbad with hneg | ⟨hneg, rfl⟩
  · cases hbeg with
    | minus h0 h45 ha1 ea =>
      have ha1' : (1 : Int) ≤ (a.size : Int) := by omega
      have h0' : (0 : Int) < (s.size : Int) := by omega
      go_enter Tryz.func46, Tryz.ntmps46
      go_wp2_with (first | (go_at_call 44; refine (CutS2 s a b _ hm HP.out).mono ?_; rintro e w1 ⟨g, cap, rfl, hcap, k0, k1, hg, hb⟩; have hw := ((Below.refl w.heap.size w).alloc (Nat.le_refl _) _).trans (hb.mono (by simp)); obtain ⟨r1, r2, r3, r4⟩ := (Two.new w _ _ _).below hb (Nat.le_refl _); have hzz := hb.size; simp only [World.size_alloc] at hzz; clear hb; have k1A : ∀ o, (w1.alloc o).cell? ⟨g, 1, none⟩ = some (.string b) := fun o => (World.cell?_alloc_lt _ _ ⟨g, 1, none⟩ (cell_lt k1)).trans k1; obtain ⟨q1, q2, q3, q4⟩ := two_allA (Two.mk r1 r2 r3 r4)) | (go_at_call 62; refine (NumberOf_at t bt nv _ HD.out HV.out).mono ?_; rintro e w' ⟨rfl, rfl⟩))
      refine bodyPost_ret (v := .tuple #[.agg #[.int .i64 0, .int .i64 0], .int .i64 1]) (by simp [results, Tryz.results46, go_sem, r1, r2]) rfl ⟨rfl, ?_⟩
      exact (hw.setCell (Nat.le_refl _) _).setCell (Nat.le_refl _) _
    | none hh ea =>
      subst ea
      rcases hh with h0 | ⟨h0, h45⟩
      · have h0' : (s.size : Int) = 0 := by omega
        go_enter Tryz.func46, Tryz.ntmps46
        go_wp2_with (first | (go_at_call 44; refine (CutS2 s a b _ hm HP.out).mono ?_; rintro e w1 ⟨g, cap, rfl, hcap, k0, k1, hg, hb⟩; have hw := ((Below.refl w.heap.size w).alloc (Nat.le_refl _) _).trans (hb.mono (by simp)); obtain ⟨r1, r2, r3, r4⟩ := (Two.new w _ _ _).below hb (Nat.le_refl _); have hzz := hb.size; simp only [World.size_alloc] at hzz; clear hb; have k1A : ∀ o, (w1.alloc o).cell? ⟨g, 1, none⟩ = some (.string b) := fun o => (World.cell?_alloc_lt _ _ ⟨g, 1, none⟩ (cell_lt k1)).trans k1; obtain ⟨q1, q2, q3, q4⟩ := two_allA (Two.mk r1 r2 r3 r4)) | (go_at_call 62; refine (NumberOf_at a bt nv _ HD.out HV.out).mono ?_; rintro e w' ⟨rfl, rfl⟩))
        refine bodyPost_ret (v := .tuple #[.agg #[.int .i64 0, .int .i64 0], .int .i64 1]) (by simp [results, Tryz.results46, go_sem, r1, r2]) rfl ⟨rfl, ?_⟩
        exact (hw.setCell (Nat.le_refl _) _).setCell (Nat.le_refl _) _
      · have h0' : (0 : Int) < (s.size : Int) := by omega
        go_enter Tryz.func46, Tryz.ntmps46
        go_wp2_with (first | (go_at_call 44; refine (CutS2 s a b _ hm HP.out).mono ?_; rintro e w1 ⟨g, cap, rfl, hcap, k0, k1, hg, hb⟩; have hw := ((Below.refl w.heap.size w).alloc (Nat.le_refl _) _).trans (hb.mono (by simp)); obtain ⟨r1, r2, r3, r4⟩ := (Two.new w _ _ _).below hb (Nat.le_refl _); have hzz := hb.size; simp only [World.size_alloc] at hzz; clear hb; have k1A : ∀ o, (w1.alloc o).cell? ⟨g, 1, none⟩ = some (.string b) := fun o => (World.cell?_alloc_lt _ _ ⟨g, 1, none⟩ (cell_lt k1)).trans k1; obtain ⟨q1, q2, q3, q4⟩ := two_allA (Two.mk r1 r2 r3 r4)) | (go_at_call 62; refine (NumberOf_at a bt nv _ HD.out HV.out).mono ?_; rintro e w' ⟨rfl, rfl⟩))
        refine bodyPost_ret (v := .tuple #[.agg #[.int .i64 0, .int .i64 0], .int .i64 1]) (by simp [results, Tryz.results46, go_sem, r1, r2]) rfl ⟨rfl, ?_⟩
        exact (hw.setCell (Nat.le_refl _) _).setCell (Nat.le_refl _) _
  · subst hneg
    cases hbeg with
    | minus h0 h45 ha1 ea =>
      have ha1' : (1 : Int) ≤ (a.size : Int) := by omega
      have h0' : (0 : Int) < (s.size : Int) := by omega
      go_enter Tryz.func46, Tryz.ntmps46
      go_wp2_with (first | (go_at_call 44; refine (CutS2 s a b _ hm HP.out).mono ?_; rintro e w1 ⟨g, cap, rfl, hcap, k0, k1, hg, hb⟩; have hw := ((Below.refl w.heap.size w).alloc (Nat.le_refl _) _).trans (hb.mono (by simp)); obtain ⟨r1, r2, r3, r4⟩ := (Two.new w _ _ _).below hb (Nat.le_refl _); have hzz := hb.size; simp only [World.size_alloc] at hzz; clear hb; have k1A : ∀ o, (w1.alloc o).cell? ⟨g, 1, none⟩ = some (.string b) := fun o => (World.cell?_alloc_lt _ _ ⟨g, 1, none⟩ (cell_lt k1)).trans k1; obtain ⟨q1, q2, q3, q4⟩ := two_allA (Two.mk r1 r2 r3 r4)) | (go_at_call 62; refine (NumberOf_at t bt 0 _ HD.out HV.out).mono ?_; rintro e w' ⟨rfl, rfl⟩))
      refine bodyPost_ret (v := .tuple #[.agg #[.int .i64 0, .int .i64 0], .int .i64 1]) (by simp [results, Tryz.results46, go_sem, r1, r2]) rfl ⟨rfl, ?_⟩
      exact (hw.setCell (Nat.le_refl _) _).setCell (Nat.le_refl _) _

set_option maxHeartbeats 8000000 in
theorem of_yes1 (s a t : ByteArray) (w : World) (hm : s.size ≤ 1000000) (neg : Bool) (hbeg : Begins s a t neg) (hp : pieces 47 s.data.toList = [a.data.toList]) (bt : Bool) (nv : Int) (hd : digs t.data.toList = bt) (hv : (if bt = true then (val t.data.toList : Int) else -1) = nv) (n0 : 0 ≤ nv) (n2 : nv < 10000000000) (hz : neg = true → (nv == 0) = false) :
    Calls Tryz.prog 46 #[.string s] w fun e w' => e = .returned (.tuple #[.agg #[.int .i64 (ck (if neg = true then -nv else nv) 1).n, .int .i64 (ck (if neg = true then -nv else nv) 1).d], .int .i64 (ck (if neg = true then -nv else nv) 1).c]) ∧ Below w.heap.size w w' := by
  have HP : Hid (pieces 47 s.data.toList = [a.data.toList]) := hp
  clear hp
  have HD : Hid (digs t.data.toList = bt) := hd
  have HV : Hid ((if bt = true then (val t.data.toList : Int) else -1) = nv) := hv
  clear hd hv
  cases hbeg with
  | minus h0 h45 ha1 ea =>
    have ha1' : (1 : Int) ≤ (a.size : Int) := by omega
    have h0' : (0 : Int) < (s.size : Int) := by omega
    have hz' := hz rfl
    clear hz
    rw [if_pos rfl]
    rcases chk_cases (-nv) 1 with hc | hc | hc
    · have HC : Hid (chk (-nv) 1 = 0) := hc
      have e : ck (-nv) 1 = ⟨(-nv), 1, 0⟩ := by unfold ck; rw [if_pos hc]
      rw [e]
      clear e hc
      go_enter Tryz.func46, Tryz.ntmps46
      go_wp2_with (first | (go_at_call 44; refine (CutS1 s a _ hm HP.out).mono ?_; rintro e w1 ⟨g, cap, rfl, hcap, k0, hg, hb⟩; have hw := ((Below.refl w.heap.size w).alloc (Nat.le_refl _) _).trans (hb.mono (by simp)); obtain ⟨r1, r2, r3, r4⟩ := (Two.new w _ _ _).below hb (Nat.le_refl _); have hzz := hb.size; simp only [World.size_alloc] at hzz; clear hb) | (go_at_call 62; refine (NumberOf_at t bt nv _ HD.out HV.out).mono ?_; rintro e w' ⟨rfl, rfl⟩) | (go_at_call 30; refine (FracError_at (-nv) 1 0 _ ⟨by omega, by omega⟩ ⟨by omega, by omega⟩ HC.out).mono ?_; rintro e w2 ⟨rfl, hb2⟩; obtain ⟨u1, u2, u3, u4⟩ := (Two.new w1 _ _ _).below hb2 (Nat.le_refl _); obtain ⟨t1, t2, t3, t4⟩ := ((Two.mk r1 r2 r3 r4).alloc _).below hb2 (Nat.le_refl _); have hw2 := (hw.alloc hw.size _).trans (hb2.mono (by have := hw.size; simp; omega))))
      refine bodyPost_ret (v := .tuple #[.agg #[.int .i64 (-nv), .int .i64 1], .int .i64 0]) (by simp [results, Tryz.results46, go_sem, t1, t2]) rfl ⟨rfl, ?_⟩
      exact (hw2.setCell (Nat.le_refl _) _).setCell (Nat.le_refl _) _
    · have HC : Hid (chk (-nv) 1 = 2) := hc
      have e : ck (-nv) 1 = ⟨0, 0, 2⟩ := by unfold ck; rw [if_neg (by omega), hc]
      rw [e]
      clear e hc
      go_enter Tryz.func46, Tryz.ntmps46
      go_wp2_with (first | (go_at_call 44; refine (CutS1 s a _ hm HP.out).mono ?_; rintro e w1 ⟨g, cap, rfl, hcap, k0, hg, hb⟩; have hw := ((Below.refl w.heap.size w).alloc (Nat.le_refl _) _).trans (hb.mono (by simp)); obtain ⟨r1, r2, r3, r4⟩ := (Two.new w _ _ _).below hb (Nat.le_refl _); have hzz := hb.size; simp only [World.size_alloc] at hzz; clear hb) | (go_at_call 62; refine (NumberOf_at t bt nv _ HD.out HV.out).mono ?_; rintro e w' ⟨rfl, rfl⟩) | (go_at_call 30; refine (FracError_at (-nv) 1 2 _ ⟨by omega, by omega⟩ ⟨by omega, by omega⟩ HC.out).mono ?_; rintro e w2 ⟨rfl, hb2⟩; obtain ⟨u1, u2, u3, u4⟩ := (Two.new w1 _ _ _).below hb2 (Nat.le_refl _); obtain ⟨t1, t2, t3, t4⟩ := ((Two.mk r1 r2 r3 r4).alloc _).below hb2 (Nat.le_refl _); have hw2 := (hw.alloc hw.size _).trans (hb2.mono (by have := hw.size; simp; omega))))
      refine bodyPost_ret (v := .tuple #[.agg #[.int .i64 0, .int .i64 0], .int .i64 2]) (by simp [results, Tryz.results46, go_sem, t1, t2]) rfl ⟨rfl, ?_⟩
      exact (hw2.setCell (Nat.le_refl _) _).setCell (Nat.le_refl _) _
    · have HC : Hid (chk (-nv) 1 = 3) := hc
      have e : ck (-nv) 1 = ⟨0, 0, 3⟩ := by unfold ck; rw [if_neg (by omega), hc]
      rw [e]
      clear e hc
      go_enter Tryz.func46, Tryz.ntmps46
      go_wp2_with (first | (go_at_call 44; refine (CutS1 s a _ hm HP.out).mono ?_; rintro e w1 ⟨g, cap, rfl, hcap, k0, hg, hb⟩; have hw := ((Below.refl w.heap.size w).alloc (Nat.le_refl _) _).trans (hb.mono (by simp)); obtain ⟨r1, r2, r3, r4⟩ := (Two.new w _ _ _).below hb (Nat.le_refl _); have hzz := hb.size; simp only [World.size_alloc] at hzz; clear hb) | (go_at_call 62; refine (NumberOf_at t bt nv _ HD.out HV.out).mono ?_; rintro e w' ⟨rfl, rfl⟩) | (go_at_call 30; refine (FracError_at (-nv) 1 3 _ ⟨by omega, by omega⟩ ⟨by omega, by omega⟩ HC.out).mono ?_; rintro e w2 ⟨rfl, hb2⟩; obtain ⟨u1, u2, u3, u4⟩ := (Two.new w1 _ _ _).below hb2 (Nat.le_refl _); obtain ⟨t1, t2, t3, t4⟩ := ((Two.mk r1 r2 r3 r4).alloc _).below hb2 (Nat.le_refl _); have hw2 := (hw.alloc hw.size _).trans (hb2.mono (by have := hw.size; simp; omega))))
      refine bodyPost_ret (v := .tuple #[.agg #[.int .i64 0, .int .i64 0], .int .i64 3]) (by simp [results, Tryz.results46, go_sem, t1, t2]) rfl ⟨rfl, ?_⟩
      exact (hw2.setCell (Nat.le_refl _) _).setCell (Nat.le_refl _) _
  | none hh ea =>
    subst ea
    clear hz
    rw [if_neg (by simp)]
    rcases hh with h0 | ⟨h0, h45⟩
    · have h0' : (s.size : Int) = 0 := by omega
      rcases chk_cases nv 1 with hc | hc | hc
      · have HC : Hid (chk nv 1 = 0) := hc
        have e : ck nv 1 = ⟨nv, 1, 0⟩ := by unfold ck; rw [if_pos hc]
        rw [e]
        clear e hc
        go_enter Tryz.func46, Tryz.ntmps46
        go_wp2_with (first | (go_at_call 44; refine (CutS1 s a _ hm HP.out).mono ?_; rintro e w1 ⟨g, cap, rfl, hcap, k0, hg, hb⟩; have hw := ((Below.refl w.heap.size w).alloc (Nat.le_refl _) _).trans (hb.mono (by simp)); obtain ⟨r1, r2, r3, r4⟩ := (Two.new w _ _ _).below hb (Nat.le_refl _); have hzz := hb.size; simp only [World.size_alloc] at hzz; clear hb) | (go_at_call 62; refine (NumberOf_at a bt nv _ HD.out HV.out).mono ?_; rintro e w' ⟨rfl, rfl⟩) | (go_at_call 30; refine (FracError_at nv 1 0 _ ⟨by omega, by omega⟩ ⟨by omega, by omega⟩ HC.out).mono ?_; rintro e w2 ⟨rfl, hb2⟩; obtain ⟨u1, u2, u3, u4⟩ := (Two.new w1 _ _ _).below hb2 (Nat.le_refl _); obtain ⟨t1, t2, t3, t4⟩ := ((Two.mk r1 r2 r3 r4).alloc _).below hb2 (Nat.le_refl _); have hw2 := (hw.alloc hw.size _).trans (hb2.mono (by have := hw.size; simp; omega))))
        refine bodyPost_ret (v := .tuple #[.agg #[.int .i64 nv, .int .i64 1], .int .i64 0]) (by simp [results, Tryz.results46, go_sem, t1, t2]) rfl ⟨rfl, ?_⟩
        exact (hw2.setCell (Nat.le_refl _) _).setCell (Nat.le_refl _) _
      · have HC : Hid (chk nv 1 = 2) := hc
        have e : ck nv 1 = ⟨0, 0, 2⟩ := by unfold ck; rw [if_neg (by omega), hc]
        rw [e]
        clear e hc
        go_enter Tryz.func46, Tryz.ntmps46
        go_wp2_with (first | (go_at_call 44; refine (CutS1 s a _ hm HP.out).mono ?_; rintro e w1 ⟨g, cap, rfl, hcap, k0, hg, hb⟩; have hw := ((Below.refl w.heap.size w).alloc (Nat.le_refl _) _).trans (hb.mono (by simp)); obtain ⟨r1, r2, r3, r4⟩ := (Two.new w _ _ _).below hb (Nat.le_refl _); have hzz := hb.size; simp only [World.size_alloc] at hzz; clear hb) | (go_at_call 62; refine (NumberOf_at a bt nv _ HD.out HV.out).mono ?_; rintro e w' ⟨rfl, rfl⟩) | (go_at_call 30; refine (FracError_at nv 1 2 _ ⟨by omega, by omega⟩ ⟨by omega, by omega⟩ HC.out).mono ?_; rintro e w2 ⟨rfl, hb2⟩; obtain ⟨u1, u2, u3, u4⟩ := (Two.new w1 _ _ _).below hb2 (Nat.le_refl _); obtain ⟨t1, t2, t3, t4⟩ := ((Two.mk r1 r2 r3 r4).alloc _).below hb2 (Nat.le_refl _); have hw2 := (hw.alloc hw.size _).trans (hb2.mono (by have := hw.size; simp; omega))))
        refine bodyPost_ret (v := .tuple #[.agg #[.int .i64 0, .int .i64 0], .int .i64 2]) (by simp [results, Tryz.results46, go_sem, t1, t2]) rfl ⟨rfl, ?_⟩
        exact (hw2.setCell (Nat.le_refl _) _).setCell (Nat.le_refl _) _
      · have HC : Hid (chk nv 1 = 3) := hc
        have e : ck nv 1 = ⟨0, 0, 3⟩ := by unfold ck; rw [if_neg (by omega), hc]
        rw [e]
        clear e hc
        go_enter Tryz.func46, Tryz.ntmps46
        go_wp2_with (first | (go_at_call 44; refine (CutS1 s a _ hm HP.out).mono ?_; rintro e w1 ⟨g, cap, rfl, hcap, k0, hg, hb⟩; have hw := ((Below.refl w.heap.size w).alloc (Nat.le_refl _) _).trans (hb.mono (by simp)); obtain ⟨r1, r2, r3, r4⟩ := (Two.new w _ _ _).below hb (Nat.le_refl _); have hzz := hb.size; simp only [World.size_alloc] at hzz; clear hb) | (go_at_call 62; refine (NumberOf_at a bt nv _ HD.out HV.out).mono ?_; rintro e w' ⟨rfl, rfl⟩) | (go_at_call 30; refine (FracError_at nv 1 3 _ ⟨by omega, by omega⟩ ⟨by omega, by omega⟩ HC.out).mono ?_; rintro e w2 ⟨rfl, hb2⟩; obtain ⟨u1, u2, u3, u4⟩ := (Two.new w1 _ _ _).below hb2 (Nat.le_refl _); obtain ⟨t1, t2, t3, t4⟩ := ((Two.mk r1 r2 r3 r4).alloc _).below hb2 (Nat.le_refl _); have hw2 := (hw.alloc hw.size _).trans (hb2.mono (by have := hw.size; simp; omega))))
        refine bodyPost_ret (v := .tuple #[.agg #[.int .i64 0, .int .i64 0], .int .i64 3]) (by simp [results, Tryz.results46, go_sem, t1, t2]) rfl ⟨rfl, ?_⟩
        exact (hw2.setCell (Nat.le_refl _) _).setCell (Nat.le_refl _) _
    · have h0' : (0 : Int) < (s.size : Int) := by omega
      rcases chk_cases nv 1 with hc | hc | hc
      · have HC : Hid (chk nv 1 = 0) := hc
        have e : ck nv 1 = ⟨nv, 1, 0⟩ := by unfold ck; rw [if_pos hc]
        rw [e]
        clear e hc
        go_enter Tryz.func46, Tryz.ntmps46
        go_wp2_with (first | (go_at_call 44; refine (CutS1 s a _ hm HP.out).mono ?_; rintro e w1 ⟨g, cap, rfl, hcap, k0, hg, hb⟩; have hw := ((Below.refl w.heap.size w).alloc (Nat.le_refl _) _).trans (hb.mono (by simp)); obtain ⟨r1, r2, r3, r4⟩ := (Two.new w _ _ _).below hb (Nat.le_refl _); have hzz := hb.size; simp only [World.size_alloc] at hzz; clear hb) | (go_at_call 62; refine (NumberOf_at a bt nv _ HD.out HV.out).mono ?_; rintro e w' ⟨rfl, rfl⟩) | (go_at_call 30; refine (FracError_at nv 1 0 _ ⟨by omega, by omega⟩ ⟨by omega, by omega⟩ HC.out).mono ?_; rintro e w2 ⟨rfl, hb2⟩; obtain ⟨u1, u2, u3, u4⟩ := (Two.new w1 _ _ _).below hb2 (Nat.le_refl _); obtain ⟨t1, t2, t3, t4⟩ := ((Two.mk r1 r2 r3 r4).alloc _).below hb2 (Nat.le_refl _); have hw2 := (hw.alloc hw.size _).trans (hb2.mono (by have := hw.size; simp; omega))))
        refine bodyPost_ret (v := .tuple #[.agg #[.int .i64 nv, .int .i64 1], .int .i64 0]) (by simp [results, Tryz.results46, go_sem, t1, t2]) rfl ⟨rfl, ?_⟩
        exact (hw2.setCell (Nat.le_refl _) _).setCell (Nat.le_refl _) _
      · have HC : Hid (chk nv 1 = 2) := hc
        have e : ck nv 1 = ⟨0, 0, 2⟩ := by unfold ck; rw [if_neg (by omega), hc]
        rw [e]
        clear e hc
        go_enter Tryz.func46, Tryz.ntmps46
        go_wp2_with (first | (go_at_call 44; refine (CutS1 s a _ hm HP.out).mono ?_; rintro e w1 ⟨g, cap, rfl, hcap, k0, hg, hb⟩; have hw := ((Below.refl w.heap.size w).alloc (Nat.le_refl _) _).trans (hb.mono (by simp)); obtain ⟨r1, r2, r3, r4⟩ := (Two.new w _ _ _).below hb (Nat.le_refl _); have hzz := hb.size; simp only [World.size_alloc] at hzz; clear hb) | (go_at_call 62; refine (NumberOf_at a bt nv _ HD.out HV.out).mono ?_; rintro e w' ⟨rfl, rfl⟩) | (go_at_call 30; refine (FracError_at nv 1 2 _ ⟨by omega, by omega⟩ ⟨by omega, by omega⟩ HC.out).mono ?_; rintro e w2 ⟨rfl, hb2⟩; obtain ⟨u1, u2, u3, u4⟩ := (Two.new w1 _ _ _).below hb2 (Nat.le_refl _); obtain ⟨t1, t2, t3, t4⟩ := ((Two.mk r1 r2 r3 r4).alloc _).below hb2 (Nat.le_refl _); have hw2 := (hw.alloc hw.size _).trans (hb2.mono (by have := hw.size; simp; omega))))
        refine bodyPost_ret (v := .tuple #[.agg #[.int .i64 0, .int .i64 0], .int .i64 2]) (by simp [results, Tryz.results46, go_sem, t1, t2]) rfl ⟨rfl, ?_⟩
        exact (hw2.setCell (Nat.le_refl _) _).setCell (Nat.le_refl _) _
      · have HC : Hid (chk nv 1 = 3) := hc
        have e : ck nv 1 = ⟨0, 0, 3⟩ := by unfold ck; rw [if_neg (by omega), hc]
        rw [e]
        clear e hc
        go_enter Tryz.func46, Tryz.ntmps46
        go_wp2_with (first | (go_at_call 44; refine (CutS1 s a _ hm HP.out).mono ?_; rintro e w1 ⟨g, cap, rfl, hcap, k0, hg, hb⟩; have hw := ((Below.refl w.heap.size w).alloc (Nat.le_refl _) _).trans (hb.mono (by simp)); obtain ⟨r1, r2, r3, r4⟩ := (Two.new w _ _ _).below hb (Nat.le_refl _); have hzz := hb.size; simp only [World.size_alloc] at hzz; clear hb) | (go_at_call 62; refine (NumberOf_at a bt nv _ HD.out HV.out).mono ?_; rintro e w' ⟨rfl, rfl⟩) | (go_at_call 30; refine (FracError_at nv 1 3 _ ⟨by omega, by omega⟩ ⟨by omega, by omega⟩ HC.out).mono ?_; rintro e w2 ⟨rfl, hb2⟩; obtain ⟨u1, u2, u3, u4⟩ := (Two.new w1 _ _ _).below hb2 (Nat.le_refl _); obtain ⟨t1, t2, t3, t4⟩ := ((Two.mk r1 r2 r3 r4).alloc _).below hb2 (Nat.le_refl _); have hw2 := (hw.alloc hw.size _).trans (hb2.mono (by have := hw.size; simp; omega))))
        refine bodyPost_ret (v := .tuple #[.agg #[.int .i64 0, .int .i64 0], .int .i64 3]) (by simp [results, Tryz.results46, go_sem, t1, t2]) rfl ⟨rfl, ?_⟩
        exact (hw2.setCell (Nat.le_refl _) _).setCell (Nat.le_refl _) _
end Go.Proofs.YtlnnpileegoglabGreatDoor

namespace Go.Proofs.YtlnnpileegoglabGreatDoor
open Go.RowKit

set_option maxHeartbeats 8000000 in
theorem of_yes2 (s a t b : ByteArray) (w : World) (hm : s.size ≤ 1000000) (neg : Bool) (hbeg : Begins s a t neg) (hp : pieces 47 s.data.toList = [a.data.toList, b.data.toList]) (bt : Bool) (nv : Int) (hd : digs t.data.toList = bt) (hv : (if bt = true then (val t.data.toList : Int) else -1) = nv) (n0 : 0 ≤ nv) (n2 : nv < 10000000000) (hz : neg = true → (nv == 0) = false) (bd : Bool) (dv : Int) (hdb : digs b.data.toList = bd) (hvb : (if bd = true then (val b.data.toList : Int) else -1) = dv) (d0 : 0 ≤ dv) (d1 : (dv == 1) = false) (d2 : dv < 10000000000) :
    Calls Tryz.prog 46 #[.string s] w fun e w' => e = .returned (.tuple #[.agg #[.int .i64 (ck (if neg = true then -nv else nv) dv).n, .int .i64 (ck (if neg = true then -nv else nv) dv).d], .int .i64 (ck (if neg = true then -nv else nv) dv).c]) ∧ Below w.heap.size w w' := by
  have HP : Hid (pieces 47 s.data.toList = [a.data.toList, b.data.toList]) := hp
  clear hp
  have HD : Hid (digs t.data.toList = bt) := hd
  have HV : Hid ((if bt = true then (val t.data.toList : Int) else -1) = nv) := hv
  clear hd hv
  have HDB : Hid (digs b.data.toList = bd) := hdb
  have HVB : Hid ((if bd = true then (val b.data.toList : Int) else -1) = dv) := hvb
  clear hdb hvb
  cases hbeg with
  | minus h0 h45 ha1 ea =>
    have ha1' : (1 : Int) ≤ (a.size : Int) := by omega
    have h0' : (0 : Int) < (s.size : Int) := by omega
    have hz' := hz rfl
    clear hz
    rw [if_pos rfl]
    rcases chk_cases (-nv) dv with hc | hc | hc
    · have HC : Hid (chk (-nv) dv = 0) := hc
      have e : ck (-nv) dv = ⟨(-nv), dv, 0⟩ := by unfold ck; rw [if_pos hc]
      rw [e]
      clear e hc
      go_enter Tryz.func46, Tryz.ntmps46
      go_wp2_with (first | (go_at_call 44; refine (CutS2 s a b _ hm HP.out).mono ?_; rintro e w1 ⟨g, cap, rfl, hcap, k0, k1, hg, hb⟩; have hw := ((Below.refl w.heap.size w).alloc (Nat.le_refl _) _).trans (hb.mono (by simp)); obtain ⟨r1, r2, r3, r4⟩ := (Two.new w _ _ _).below hb (Nat.le_refl _); have hzz := hb.size; simp only [World.size_alloc] at hzz; clear hb; have k1A : ∀ o, (w1.alloc o).cell? ⟨g, 1, none⟩ = some (.string b) := fun o => (World.cell?_alloc_lt _ _ ⟨g, 1, none⟩ (cell_lt k1)).trans k1; obtain ⟨q1, q2, q3, q4⟩ := two_allA (Two.mk r1 r2 r3 r4)) | (go_at_call_of 62 (Value.string b); refine (NumberOf_at b bd dv _ HDB.out HVB.out).mono ?_; rintro e w' ⟨rfl, rfl⟩) | (go_at_call 62; refine (NumberOf_at t bt nv _ HD.out HV.out).mono ?_; rintro e w' ⟨rfl, rfl⟩) | (go_at_call 30; refine (FracError_at (-nv) dv 0 _ ⟨by omega, by omega⟩ ⟨by omega, by omega⟩ HC.out).mono ?_; rintro e w2 ⟨rfl, hb2⟩; obtain ⟨u1, u2, u3, u4⟩ := (Two.new w1 _ _ _).below hb2 (Nat.le_refl _); obtain ⟨t1, t2, t3, t4⟩ := ((Two.mk r1 r2 r3 r4).alloc _).below hb2 (Nat.le_refl _); have hw2 := (hw.alloc hw.size _).trans (hb2.mono (by have := hw.size; simp; omega))))
      refine bodyPost_ret (v := .tuple #[.agg #[.int .i64 (-nv), .int .i64 dv], .int .i64 0]) (by simp [results, Tryz.results46, go_sem, t1, t2]) rfl ⟨rfl, ?_⟩
      exact (hw2.setCell (Nat.le_refl _) _).setCell (Nat.le_refl _) _
    · have HC : Hid (chk (-nv) dv = 2) := hc
      have e : ck (-nv) dv = ⟨0, 0, 2⟩ := by unfold ck; rw [if_neg (by omega), hc]
      rw [e]
      clear e hc
      go_enter Tryz.func46, Tryz.ntmps46
      go_wp2_with (first | (go_at_call 44; refine (CutS2 s a b _ hm HP.out).mono ?_; rintro e w1 ⟨g, cap, rfl, hcap, k0, k1, hg, hb⟩; have hw := ((Below.refl w.heap.size w).alloc (Nat.le_refl _) _).trans (hb.mono (by simp)); obtain ⟨r1, r2, r3, r4⟩ := (Two.new w _ _ _).below hb (Nat.le_refl _); have hzz := hb.size; simp only [World.size_alloc] at hzz; clear hb; have k1A : ∀ o, (w1.alloc o).cell? ⟨g, 1, none⟩ = some (.string b) := fun o => (World.cell?_alloc_lt _ _ ⟨g, 1, none⟩ (cell_lt k1)).trans k1; obtain ⟨q1, q2, q3, q4⟩ := two_allA (Two.mk r1 r2 r3 r4)) | (go_at_call_of 62 (Value.string b); refine (NumberOf_at b bd dv _ HDB.out HVB.out).mono ?_; rintro e w' ⟨rfl, rfl⟩) | (go_at_call 62; refine (NumberOf_at t bt nv _ HD.out HV.out).mono ?_; rintro e w' ⟨rfl, rfl⟩) | (go_at_call 30; refine (FracError_at (-nv) dv 2 _ ⟨by omega, by omega⟩ ⟨by omega, by omega⟩ HC.out).mono ?_; rintro e w2 ⟨rfl, hb2⟩; obtain ⟨u1, u2, u3, u4⟩ := (Two.new w1 _ _ _).below hb2 (Nat.le_refl _); obtain ⟨t1, t2, t3, t4⟩ := ((Two.mk r1 r2 r3 r4).alloc _).below hb2 (Nat.le_refl _); have hw2 := (hw.alloc hw.size _).trans (hb2.mono (by have := hw.size; simp; omega))))
      refine bodyPost_ret (v := .tuple #[.agg #[.int .i64 0, .int .i64 0], .int .i64 2]) (by simp [results, Tryz.results46, go_sem, t1, t2]) rfl ⟨rfl, ?_⟩
      exact (hw2.setCell (Nat.le_refl _) _).setCell (Nat.le_refl _) _
    · have HC : Hid (chk (-nv) dv = 3) := hc
      have e : ck (-nv) dv = ⟨0, 0, 3⟩ := by unfold ck; rw [if_neg (by omega), hc]
      rw [e]
      clear e hc
      go_enter Tryz.func46, Tryz.ntmps46
      go_wp2_with (first | (go_at_call 44; refine (CutS2 s a b _ hm HP.out).mono ?_; rintro e w1 ⟨g, cap, rfl, hcap, k0, k1, hg, hb⟩; have hw := ((Below.refl w.heap.size w).alloc (Nat.le_refl _) _).trans (hb.mono (by simp)); obtain ⟨r1, r2, r3, r4⟩ := (Two.new w _ _ _).below hb (Nat.le_refl _); have hzz := hb.size; simp only [World.size_alloc] at hzz; clear hb; have k1A : ∀ o, (w1.alloc o).cell? ⟨g, 1, none⟩ = some (.string b) := fun o => (World.cell?_alloc_lt _ _ ⟨g, 1, none⟩ (cell_lt k1)).trans k1; obtain ⟨q1, q2, q3, q4⟩ := two_allA (Two.mk r1 r2 r3 r4)) | (go_at_call_of 62 (Value.string b); refine (NumberOf_at b bd dv _ HDB.out HVB.out).mono ?_; rintro e w' ⟨rfl, rfl⟩) | (go_at_call 62; refine (NumberOf_at t bt nv _ HD.out HV.out).mono ?_; rintro e w' ⟨rfl, rfl⟩) | (go_at_call 30; refine (FracError_at (-nv) dv 3 _ ⟨by omega, by omega⟩ ⟨by omega, by omega⟩ HC.out).mono ?_; rintro e w2 ⟨rfl, hb2⟩; obtain ⟨u1, u2, u3, u4⟩ := (Two.new w1 _ _ _).below hb2 (Nat.le_refl _); obtain ⟨t1, t2, t3, t4⟩ := ((Two.mk r1 r2 r3 r4).alloc _).below hb2 (Nat.le_refl _); have hw2 := (hw.alloc hw.size _).trans (hb2.mono (by have := hw.size; simp; omega))))
      refine bodyPost_ret (v := .tuple #[.agg #[.int .i64 0, .int .i64 0], .int .i64 3]) (by simp [results, Tryz.results46, go_sem, t1, t2]) rfl ⟨rfl, ?_⟩
      exact (hw2.setCell (Nat.le_refl _) _).setCell (Nat.le_refl _) _
  | none hh ea =>
    subst ea
    clear hz
    rw [if_neg (by simp)]
    rcases hh with h0 | ⟨h0, h45⟩
    · have h0' : (s.size : Int) = 0 := by omega
      rcases chk_cases nv dv with hc | hc | hc
      · have HC : Hid (chk nv dv = 0) := hc
        have e : ck nv dv = ⟨nv, dv, 0⟩ := by unfold ck; rw [if_pos hc]
        rw [e]
        clear e hc
        go_enter Tryz.func46, Tryz.ntmps46
        go_wp2_with (first | (go_at_call 44; refine (CutS2 s a b _ hm HP.out).mono ?_; rintro e w1 ⟨g, cap, rfl, hcap, k0, k1, hg, hb⟩; have hw := ((Below.refl w.heap.size w).alloc (Nat.le_refl _) _).trans (hb.mono (by simp)); obtain ⟨r1, r2, r3, r4⟩ := (Two.new w _ _ _).below hb (Nat.le_refl _); have hzz := hb.size; simp only [World.size_alloc] at hzz; clear hb; have k1A : ∀ o, (w1.alloc o).cell? ⟨g, 1, none⟩ = some (.string b) := fun o => (World.cell?_alloc_lt _ _ ⟨g, 1, none⟩ (cell_lt k1)).trans k1; obtain ⟨q1, q2, q3, q4⟩ := two_allA (Two.mk r1 r2 r3 r4)) | (go_at_call_of 62 (Value.string b); refine (NumberOf_at b bd dv _ HDB.out HVB.out).mono ?_; rintro e w' ⟨rfl, rfl⟩) | (go_at_call 62; refine (NumberOf_at a bt nv _ HD.out HV.out).mono ?_; rintro e w' ⟨rfl, rfl⟩) | (go_at_call 30; refine (FracError_at nv dv 0 _ ⟨by omega, by omega⟩ ⟨by omega, by omega⟩ HC.out).mono ?_; rintro e w2 ⟨rfl, hb2⟩; obtain ⟨u1, u2, u3, u4⟩ := (Two.new w1 _ _ _).below hb2 (Nat.le_refl _); obtain ⟨t1, t2, t3, t4⟩ := ((Two.mk r1 r2 r3 r4).alloc _).below hb2 (Nat.le_refl _); have hw2 := (hw.alloc hw.size _).trans (hb2.mono (by have := hw.size; simp; omega))))
        refine bodyPost_ret (v := .tuple #[.agg #[.int .i64 nv, .int .i64 dv], .int .i64 0]) (by simp [results, Tryz.results46, go_sem, t1, t2]) rfl ⟨rfl, ?_⟩
        exact (hw2.setCell (Nat.le_refl _) _).setCell (Nat.le_refl _) _
      · have HC : Hid (chk nv dv = 2) := hc
        have e : ck nv dv = ⟨0, 0, 2⟩ := by unfold ck; rw [if_neg (by omega), hc]
        rw [e]
        clear e hc
        go_enter Tryz.func46, Tryz.ntmps46
        go_wp2_with (first | (go_at_call 44; refine (CutS2 s a b _ hm HP.out).mono ?_; rintro e w1 ⟨g, cap, rfl, hcap, k0, k1, hg, hb⟩; have hw := ((Below.refl w.heap.size w).alloc (Nat.le_refl _) _).trans (hb.mono (by simp)); obtain ⟨r1, r2, r3, r4⟩ := (Two.new w _ _ _).below hb (Nat.le_refl _); have hzz := hb.size; simp only [World.size_alloc] at hzz; clear hb; have k1A : ∀ o, (w1.alloc o).cell? ⟨g, 1, none⟩ = some (.string b) := fun o => (World.cell?_alloc_lt _ _ ⟨g, 1, none⟩ (cell_lt k1)).trans k1; obtain ⟨q1, q2, q3, q4⟩ := two_allA (Two.mk r1 r2 r3 r4)) | (go_at_call_of 62 (Value.string b); refine (NumberOf_at b bd dv _ HDB.out HVB.out).mono ?_; rintro e w' ⟨rfl, rfl⟩) | (go_at_call 62; refine (NumberOf_at a bt nv _ HD.out HV.out).mono ?_; rintro e w' ⟨rfl, rfl⟩) | (go_at_call 30; refine (FracError_at nv dv 2 _ ⟨by omega, by omega⟩ ⟨by omega, by omega⟩ HC.out).mono ?_; rintro e w2 ⟨rfl, hb2⟩; obtain ⟨u1, u2, u3, u4⟩ := (Two.new w1 _ _ _).below hb2 (Nat.le_refl _); obtain ⟨t1, t2, t3, t4⟩ := ((Two.mk r1 r2 r3 r4).alloc _).below hb2 (Nat.le_refl _); have hw2 := (hw.alloc hw.size _).trans (hb2.mono (by have := hw.size; simp; omega))))
        refine bodyPost_ret (v := .tuple #[.agg #[.int .i64 0, .int .i64 0], .int .i64 2]) (by simp [results, Tryz.results46, go_sem, t1, t2]) rfl ⟨rfl, ?_⟩
        exact (hw2.setCell (Nat.le_refl _) _).setCell (Nat.le_refl _) _
      · have HC : Hid (chk nv dv = 3) := hc
        have e : ck nv dv = ⟨0, 0, 3⟩ := by unfold ck; rw [if_neg (by omega), hc]
        rw [e]
        clear e hc
        go_enter Tryz.func46, Tryz.ntmps46
        go_wp2_with (first | (go_at_call 44; refine (CutS2 s a b _ hm HP.out).mono ?_; rintro e w1 ⟨g, cap, rfl, hcap, k0, k1, hg, hb⟩; have hw := ((Below.refl w.heap.size w).alloc (Nat.le_refl _) _).trans (hb.mono (by simp)); obtain ⟨r1, r2, r3, r4⟩ := (Two.new w _ _ _).below hb (Nat.le_refl _); have hzz := hb.size; simp only [World.size_alloc] at hzz; clear hb; have k1A : ∀ o, (w1.alloc o).cell? ⟨g, 1, none⟩ = some (.string b) := fun o => (World.cell?_alloc_lt _ _ ⟨g, 1, none⟩ (cell_lt k1)).trans k1; obtain ⟨q1, q2, q3, q4⟩ := two_allA (Two.mk r1 r2 r3 r4)) | (go_at_call_of 62 (Value.string b); refine (NumberOf_at b bd dv _ HDB.out HVB.out).mono ?_; rintro e w' ⟨rfl, rfl⟩) | (go_at_call 62; refine (NumberOf_at a bt nv _ HD.out HV.out).mono ?_; rintro e w' ⟨rfl, rfl⟩) | (go_at_call 30; refine (FracError_at nv dv 3 _ ⟨by omega, by omega⟩ ⟨by omega, by omega⟩ HC.out).mono ?_; rintro e w2 ⟨rfl, hb2⟩; obtain ⟨u1, u2, u3, u4⟩ := (Two.new w1 _ _ _).below hb2 (Nat.le_refl _); obtain ⟨t1, t2, t3, t4⟩ := ((Two.mk r1 r2 r3 r4).alloc _).below hb2 (Nat.le_refl _); have hw2 := (hw.alloc hw.size _).trans (hb2.mono (by have := hw.size; simp; omega))))
        refine bodyPost_ret (v := .tuple #[.agg #[.int .i64 0, .int .i64 0], .int .i64 3]) (by simp [results, Tryz.results46, go_sem, t1, t2]) rfl ⟨rfl, ?_⟩
        exact (hw2.setCell (Nat.le_refl _) _).setCell (Nat.le_refl _) _
    · have h0' : (0 : Int) < (s.size : Int) := by omega
      rcases chk_cases nv dv with hc | hc | hc
      · have HC : Hid (chk nv dv = 0) := hc
        have e : ck nv dv = ⟨nv, dv, 0⟩ := by unfold ck; rw [if_pos hc]
        rw [e]
        clear e hc
        go_enter Tryz.func46, Tryz.ntmps46
        go_wp2_with (first | (go_at_call 44; refine (CutS2 s a b _ hm HP.out).mono ?_; rintro e w1 ⟨g, cap, rfl, hcap, k0, k1, hg, hb⟩; have hw := ((Below.refl w.heap.size w).alloc (Nat.le_refl _) _).trans (hb.mono (by simp)); obtain ⟨r1, r2, r3, r4⟩ := (Two.new w _ _ _).below hb (Nat.le_refl _); have hzz := hb.size; simp only [World.size_alloc] at hzz; clear hb; have k1A : ∀ o, (w1.alloc o).cell? ⟨g, 1, none⟩ = some (.string b) := fun o => (World.cell?_alloc_lt _ _ ⟨g, 1, none⟩ (cell_lt k1)).trans k1; obtain ⟨q1, q2, q3, q4⟩ := two_allA (Two.mk r1 r2 r3 r4)) | (go_at_call_of 62 (Value.string b); refine (NumberOf_at b bd dv _ HDB.out HVB.out).mono ?_; rintro e w' ⟨rfl, rfl⟩) | (go_at_call 62; refine (NumberOf_at a bt nv _ HD.out HV.out).mono ?_; rintro e w' ⟨rfl, rfl⟩) | (go_at_call 30; refine (FracError_at nv dv 0 _ ⟨by omega, by omega⟩ ⟨by omega, by omega⟩ HC.out).mono ?_; rintro e w2 ⟨rfl, hb2⟩; obtain ⟨u1, u2, u3, u4⟩ := (Two.new w1 _ _ _).below hb2 (Nat.le_refl _); obtain ⟨t1, t2, t3, t4⟩ := ((Two.mk r1 r2 r3 r4).alloc _).below hb2 (Nat.le_refl _); have hw2 := (hw.alloc hw.size _).trans (hb2.mono (by have := hw.size; simp; omega))))
        refine bodyPost_ret (v := .tuple #[.agg #[.int .i64 nv, .int .i64 dv], .int .i64 0]) (by simp [results, Tryz.results46, go_sem, t1, t2]) rfl ⟨rfl, ?_⟩
        exact (hw2.setCell (Nat.le_refl _) _).setCell (Nat.le_refl _) _
      · have HC : Hid (chk nv dv = 2) := hc
        have e : ck nv dv = ⟨0, 0, 2⟩ := by unfold ck; rw [if_neg (by omega), hc]
        rw [e]
        clear e hc
        go_enter Tryz.func46, Tryz.ntmps46
        go_wp2_with (first | (go_at_call 44; refine (CutS2 s a b _ hm HP.out).mono ?_; rintro e w1 ⟨g, cap, rfl, hcap, k0, k1, hg, hb⟩; have hw := ((Below.refl w.heap.size w).alloc (Nat.le_refl _) _).trans (hb.mono (by simp)); obtain ⟨r1, r2, r3, r4⟩ := (Two.new w _ _ _).below hb (Nat.le_refl _); have hzz := hb.size; simp only [World.size_alloc] at hzz; clear hb; have k1A : ∀ o, (w1.alloc o).cell? ⟨g, 1, none⟩ = some (.string b) := fun o => (World.cell?_alloc_lt _ _ ⟨g, 1, none⟩ (cell_lt k1)).trans k1; obtain ⟨q1, q2, q3, q4⟩ := two_allA (Two.mk r1 r2 r3 r4)) | (go_at_call_of 62 (Value.string b); refine (NumberOf_at b bd dv _ HDB.out HVB.out).mono ?_; rintro e w' ⟨rfl, rfl⟩) | (go_at_call 62; refine (NumberOf_at a bt nv _ HD.out HV.out).mono ?_; rintro e w' ⟨rfl, rfl⟩) | (go_at_call 30; refine (FracError_at nv dv 2 _ ⟨by omega, by omega⟩ ⟨by omega, by omega⟩ HC.out).mono ?_; rintro e w2 ⟨rfl, hb2⟩; obtain ⟨u1, u2, u3, u4⟩ := (Two.new w1 _ _ _).below hb2 (Nat.le_refl _); obtain ⟨t1, t2, t3, t4⟩ := ((Two.mk r1 r2 r3 r4).alloc _).below hb2 (Nat.le_refl _); have hw2 := (hw.alloc hw.size _).trans (hb2.mono (by have := hw.size; simp; omega))))
        refine bodyPost_ret (v := .tuple #[.agg #[.int .i64 0, .int .i64 0], .int .i64 2]) (by simp [results, Tryz.results46, go_sem, t1, t2]) rfl ⟨rfl, ?_⟩
        exact (hw2.setCell (Nat.le_refl _) _).setCell (Nat.le_refl _) _
      · have HC : Hid (chk nv dv = 3) := hc
        have e : ck nv dv = ⟨0, 0, 3⟩ := by unfold ck; rw [if_neg (by omega), hc]
        rw [e]
        clear e hc
        go_enter Tryz.func46, Tryz.ntmps46
        go_wp2_with (first | (go_at_call 44; refine (CutS2 s a b _ hm HP.out).mono ?_; rintro e w1 ⟨g, cap, rfl, hcap, k0, k1, hg, hb⟩; have hw := ((Below.refl w.heap.size w).alloc (Nat.le_refl _) _).trans (hb.mono (by simp)); obtain ⟨r1, r2, r3, r4⟩ := (Two.new w _ _ _).below hb (Nat.le_refl _); have hzz := hb.size; simp only [World.size_alloc] at hzz; clear hb; have k1A : ∀ o, (w1.alloc o).cell? ⟨g, 1, none⟩ = some (.string b) := fun o => (World.cell?_alloc_lt _ _ ⟨g, 1, none⟩ (cell_lt k1)).trans k1; obtain ⟨q1, q2, q3, q4⟩ := two_allA (Two.mk r1 r2 r3 r4)) | (go_at_call_of 62 (Value.string b); refine (NumberOf_at b bd dv _ HDB.out HVB.out).mono ?_; rintro e w' ⟨rfl, rfl⟩) | (go_at_call 62; refine (NumberOf_at a bt nv _ HD.out HV.out).mono ?_; rintro e w' ⟨rfl, rfl⟩) | (go_at_call 30; refine (FracError_at nv dv 3 _ ⟨by omega, by omega⟩ ⟨by omega, by omega⟩ HC.out).mono ?_; rintro e w2 ⟨rfl, hb2⟩; obtain ⟨u1, u2, u3, u4⟩ := (Two.new w1 _ _ _).below hb2 (Nat.le_refl _); obtain ⟨t1, t2, t3, t4⟩ := ((Two.mk r1 r2 r3 r4).alloc _).below hb2 (Nat.le_refl _); have hw2 := (hw.alloc hw.size _).trans (hb2.mono (by have := hw.size; simp; omega))))
        refine bodyPost_ret (v := .tuple #[.agg #[.int .i64 0, .int .i64 0], .int .i64 3]) (by simp [results, Tryz.results46, go_sem, t1, t2]) rfl ⟨rfl, ?_⟩
        exact (hw2.setCell (Nat.le_refl _) _).setCell (Nat.le_refl _) _

set_option maxHeartbeats 8000000 in
theorem of_den (s a t b : ByteArray) (w : World) (hm : s.size ≤ 1000000) (neg : Bool) (hbeg : Begins s a t neg) (hp : pieces 47 s.data.toList = [a.data.toList, b.data.toList]) (bt : Bool) (nv : Int) (hd : digs t.data.toList = bt) (hv : (if bt = true then (val t.data.toList : Int) else -1) = nv) (n0 : 0 ≤ nv) (n2 : nv < 10000000000) (hz : neg = true → (nv == 0) = false) (bd : Bool) (dv : Int) (hdb : digs b.data.toList = bd) (hvb : (if bd = true then (val b.data.toList : Int) else -1) = dv) (hbad : dv < 0 ∨ dv = 1) :
    Calls Tryz.prog 46 #[.string s] w fun e w' => e = .returned (.tuple #[.agg #[.int .i64 (⟨0, 0, 1⟩ : R3).n, .int .i64 (⟨0, 0, 1⟩ : R3).d], .int .i64 (⟨0, 0, 1⟩ : R3).c]) ∧ Below w.heap.size w w' := by
  have HP : Hid (pieces 47 s.data.toList = [a.data.toList, b.data.toList]) := hp
  clear hp
  have HD : Hid (digs t.data.toList = bt) := hd
  have HV : Hid ((if bt = true then (val t.data.toList : Int) else -1) = nv) := hv
  clear hd hv
  have HDB : Hid (digs b.data.toList = bd) := hdb
  have HVB : Hid ((if bd = true then (val b.data.toList : Int) else -1) = dv) := hvb
  clear hdb hvb
  cases hbeg with
  | minus h0 h45 ha1 ea =>
    have ha1' : (1 : Int) ≤ (a.size : Int) := by omega
    have h0' : (0 : Int) < (s.size : Int) := by omega
    have hz' := hz rfl
    clear hz
    rcases hbad with hbad | rfl
    · skip
      go_enter Tryz.func46, Tryz.ntmps46
      go_wp2_with (first | (go_at_call 44; refine (CutS2 s a b _ hm HP.out).mono ?_; rintro e w1 ⟨g, cap, rfl, hcap, k0, k1, hg, hb⟩; have hw := ((Below.refl w.heap.size w).alloc (Nat.le_refl _) _).trans (hb.mono (by simp)); obtain ⟨r1, r2, r3, r4⟩ := (Two.new w _ _ _).below hb (Nat.le_refl _); have hzz := hb.size; simp only [World.size_alloc] at hzz; clear hb; have k1A : ∀ o, (w1.alloc o).cell? ⟨g, 1, none⟩ = some (.string b) := fun o => (World.cell?_alloc_lt _ _ ⟨g, 1, none⟩ (cell_lt k1)).trans k1; obtain ⟨q1, q2, q3, q4⟩ := two_allA (Two.mk r1 r2 r3 r4)) | (go_at_call_of 62 (Value.string b); refine (NumberOf_at b bd dv _ HDB.out HVB.out).mono ?_; rintro e w' ⟨rfl, rfl⟩) | (go_at_call 62; refine (NumberOf_at t bt nv _ HD.out HV.out).mono ?_; rintro e w' ⟨rfl, rfl⟩))
      refine bodyPost_ret (v := .tuple #[.agg #[.int .i64 0, .int .i64 0], .int .i64 1]) (by simp [results, Tryz.results46, go_sem, q1, q2]) rfl ⟨rfl, ?_⟩
      first | exact ((hw.setCell (Nat.le_refl _) _).setCell (Nat.le_refl _) _).alloc (by simp [World.setCell]; have := hw.size; omega) _ | exact ((hw.alloc hw.size _).setCell (Nat.le_refl _) _).setCell (Nat.le_refl _) _
    · skip
      go_enter Tryz.func46, Tryz.ntmps46
      go_wp2_with (first | (go_at_call 44; refine (CutS2 s a b _ hm HP.out).mono ?_; rintro e w1 ⟨g, cap, rfl, hcap, k0, k1, hg, hb⟩; have hw := ((Below.refl w.heap.size w).alloc (Nat.le_refl _) _).trans (hb.mono (by simp)); obtain ⟨r1, r2, r3, r4⟩ := (Two.new w _ _ _).below hb (Nat.le_refl _); have hzz := hb.size; simp only [World.size_alloc] at hzz; clear hb; have k1A : ∀ o, (w1.alloc o).cell? ⟨g, 1, none⟩ = some (.string b) := fun o => (World.cell?_alloc_lt _ _ ⟨g, 1, none⟩ (cell_lt k1)).trans k1; obtain ⟨q1, q2, q3, q4⟩ := two_allA (Two.mk r1 r2 r3 r4)) | (go_at_call_of 62 (Value.string b); refine (NumberOf_at b bd 1 _ HDB.out HVB.out).mono ?_; rintro e w' ⟨rfl, rfl⟩) | (go_at_call 62; refine (NumberOf_at t bt nv _ HD.out HV.out).mono ?_; rintro e w' ⟨rfl, rfl⟩))
      refine bodyPost_ret (v := .tuple #[.agg #[.int .i64 0, .int .i64 0], .int .i64 1]) (by simp [results, Tryz.results46, go_sem, q1, q2]) rfl ⟨rfl, ?_⟩
      first | exact ((hw.setCell (Nat.le_refl _) _).setCell (Nat.le_refl _) _).alloc (by simp [World.setCell]; have := hw.size; omega) _ | exact ((hw.alloc hw.size _).setCell (Nat.le_refl _) _).setCell (Nat.le_refl _) _
  | none hh ea =>
    subst ea
    clear hz
    rcases hh with h0 | ⟨h0, h45⟩
    · have h0' : (s.size : Int) = 0 := by omega
      rcases hbad with hbad | rfl
      · skip
        go_enter Tryz.func46, Tryz.ntmps46
        go_wp2_with (first | (go_at_call 44; refine (CutS2 s a b _ hm HP.out).mono ?_; rintro e w1 ⟨g, cap, rfl, hcap, k0, k1, hg, hb⟩; have hw := ((Below.refl w.heap.size w).alloc (Nat.le_refl _) _).trans (hb.mono (by simp)); obtain ⟨r1, r2, r3, r4⟩ := (Two.new w _ _ _).below hb (Nat.le_refl _); have hzz := hb.size; simp only [World.size_alloc] at hzz; clear hb; have k1A : ∀ o, (w1.alloc o).cell? ⟨g, 1, none⟩ = some (.string b) := fun o => (World.cell?_alloc_lt _ _ ⟨g, 1, none⟩ (cell_lt k1)).trans k1; obtain ⟨q1, q2, q3, q4⟩ := two_allA (Two.mk r1 r2 r3 r4)) | (go_at_call_of 62 (Value.string b); refine (NumberOf_at b bd dv _ HDB.out HVB.out).mono ?_; rintro e w' ⟨rfl, rfl⟩) | (go_at_call 62; refine (NumberOf_at a bt nv _ HD.out HV.out).mono ?_; rintro e w' ⟨rfl, rfl⟩))
        refine bodyPost_ret (v := .tuple #[.agg #[.int .i64 0, .int .i64 0], .int .i64 1]) (by simp [results, Tryz.results46, go_sem, q1, q2]) rfl ⟨rfl, ?_⟩
        first | exact ((hw.setCell (Nat.le_refl _) _).setCell (Nat.le_refl _) _).alloc (by simp [World.setCell]; have := hw.size; omega) _ | exact ((hw.alloc hw.size _).setCell (Nat.le_refl _) _).setCell (Nat.le_refl _) _
      · skip
        go_enter Tryz.func46, Tryz.ntmps46
        go_wp2_with (first | (go_at_call 44; refine (CutS2 s a b _ hm HP.out).mono ?_; rintro e w1 ⟨g, cap, rfl, hcap, k0, k1, hg, hb⟩; have hw := ((Below.refl w.heap.size w).alloc (Nat.le_refl _) _).trans (hb.mono (by simp)); obtain ⟨r1, r2, r3, r4⟩ := (Two.new w _ _ _).below hb (Nat.le_refl _); have hzz := hb.size; simp only [World.size_alloc] at hzz; clear hb; have k1A : ∀ o, (w1.alloc o).cell? ⟨g, 1, none⟩ = some (.string b) := fun o => (World.cell?_alloc_lt _ _ ⟨g, 1, none⟩ (cell_lt k1)).trans k1; obtain ⟨q1, q2, q3, q4⟩ := two_allA (Two.mk r1 r2 r3 r4)) | (go_at_call_of 62 (Value.string b); refine (NumberOf_at b bd 1 _ HDB.out HVB.out).mono ?_; rintro e w' ⟨rfl, rfl⟩) | (go_at_call 62; refine (NumberOf_at a bt nv _ HD.out HV.out).mono ?_; rintro e w' ⟨rfl, rfl⟩))
        refine bodyPost_ret (v := .tuple #[.agg #[.int .i64 0, .int .i64 0], .int .i64 1]) (by simp [results, Tryz.results46, go_sem, q1, q2]) rfl ⟨rfl, ?_⟩
        first | exact ((hw.setCell (Nat.le_refl _) _).setCell (Nat.le_refl _) _).alloc (by simp [World.setCell]; have := hw.size; omega) _ | exact ((hw.alloc hw.size _).setCell (Nat.le_refl _) _).setCell (Nat.le_refl _) _
    · have h0' : (0 : Int) < (s.size : Int) := by omega
      rcases hbad with hbad | rfl
      · skip
        go_enter Tryz.func46, Tryz.ntmps46
        go_wp2_with (first | (go_at_call 44; refine (CutS2 s a b _ hm HP.out).mono ?_; rintro e w1 ⟨g, cap, rfl, hcap, k0, k1, hg, hb⟩; have hw := ((Below.refl w.heap.size w).alloc (Nat.le_refl _) _).trans (hb.mono (by simp)); obtain ⟨r1, r2, r3, r4⟩ := (Two.new w _ _ _).below hb (Nat.le_refl _); have hzz := hb.size; simp only [World.size_alloc] at hzz; clear hb; have k1A : ∀ o, (w1.alloc o).cell? ⟨g, 1, none⟩ = some (.string b) := fun o => (World.cell?_alloc_lt _ _ ⟨g, 1, none⟩ (cell_lt k1)).trans k1; obtain ⟨q1, q2, q3, q4⟩ := two_allA (Two.mk r1 r2 r3 r4)) | (go_at_call_of 62 (Value.string b); refine (NumberOf_at b bd dv _ HDB.out HVB.out).mono ?_; rintro e w' ⟨rfl, rfl⟩) | (go_at_call 62; refine (NumberOf_at a bt nv _ HD.out HV.out).mono ?_; rintro e w' ⟨rfl, rfl⟩))
        refine bodyPost_ret (v := .tuple #[.agg #[.int .i64 0, .int .i64 0], .int .i64 1]) (by simp [results, Tryz.results46, go_sem, q1, q2]) rfl ⟨rfl, ?_⟩
        first | exact ((hw.setCell (Nat.le_refl _) _).setCell (Nat.le_refl _) _).alloc (by simp [World.setCell]; have := hw.size; omega) _ | exact ((hw.alloc hw.size _).setCell (Nat.le_refl _) _).setCell (Nat.le_refl _) _
      · skip
        go_enter Tryz.func46, Tryz.ntmps46
        go_wp2_with (first | (go_at_call 44; refine (CutS2 s a b _ hm HP.out).mono ?_; rintro e w1 ⟨g, cap, rfl, hcap, k0, k1, hg, hb⟩; have hw := ((Below.refl w.heap.size w).alloc (Nat.le_refl _) _).trans (hb.mono (by simp)); obtain ⟨r1, r2, r3, r4⟩ := (Two.new w _ _ _).below hb (Nat.le_refl _); have hzz := hb.size; simp only [World.size_alloc] at hzz; clear hb; have k1A : ∀ o, (w1.alloc o).cell? ⟨g, 1, none⟩ = some (.string b) := fun o => (World.cell?_alloc_lt _ _ ⟨g, 1, none⟩ (cell_lt k1)).trans k1; obtain ⟨q1, q2, q3, q4⟩ := two_allA (Two.mk r1 r2 r3 r4)) | (go_at_call_of 62 (Value.string b); refine (NumberOf_at b bd 1 _ HDB.out HVB.out).mono ?_; rintro e w' ⟨rfl, rfl⟩) | (go_at_call 62; refine (NumberOf_at a bt nv _ HD.out HV.out).mono ?_; rintro e w' ⟨rfl, rfl⟩))
        refine bodyPost_ret (v := .tuple #[.agg #[.int .i64 0, .int .i64 0], .int .i64 1]) (by simp [results, Tryz.results46, go_sem, q1, q2]) rfl ⟨rfl, ?_⟩
        first | exact ((hw.setCell (Nat.le_refl _) _).setCell (Nat.le_refl _) _).alloc (by simp [World.setCell]; have := hw.size; omega) _ | exact ((hw.alloc hw.size _).setCell (Nat.le_refl _) _).setCell (Nat.le_refl _) _

set_option maxHeartbeats 400000 in
theorem of_three (s : ByteArray) (w : World) (hm : s.size ≤ 1000000) (hp : 3 ≤ (pieces 47 s.data.toList).length) :
    Calls Tryz.prog 46 #[.string s] w fun e w' => e = .returned (.tuple #[.agg #[.int .i64 (⟨0, 0, 1⟩ : R3).n, .int .i64 (⟨0, 0, 1⟩ : R3).d], .int .i64 (⟨0, 0, 1⟩ : R3).c]) ∧ Below w.heap.size w w' := by
  have HP : Hid (3 ≤ (pieces 47 s.data.toList).length) := hp
  clear hp
  go_enter Tryz.func46, Tryz.ntmps46
  go_wp2_with (go_at_call 44; refine (CutS3 s _ hm HP.out).mono ?_; rintro e w1 ⟨g, n, cap, rfl, hn, hb⟩; have hn' : (2 : Int) < (n : Int) := (by omega); have hw := ((Below.refl w.heap.size w).alloc (Nat.le_refl _) _).trans (hb.mono (by simp)); obtain ⟨r1, r2, r3, r4⟩ := (Two.new w _ _ _).below hb (Nat.le_refl _); clear hb)
  refine bodyPost_ret (v := .tuple #[.agg #[.int .i64 0, .int .i64 0], .int .i64 1]) (by simp [results, Tryz.results46, go_sem, r1, r2]) rfl ⟨rfl, ?_⟩
  exact (hw.setCell (Nat.le_refl _) _).setCell (Nat.le_refl _) _

theorem FracOf_any (s : ByteArray) (w : World) (hm : s.size ≤ 1000000) :
    Calls Tryz.prog 46 #[.string s] w fun e w' => e = .returned (.tuple #[.agg #[.int .i64 (rd s.data.toList).n, .int .i64 (rd s.data.toList).d], .int .i64 (rd s.data.toList).c]) ∧ Below w.heap.size w w' := by
  obtain ⟨a, ha⟩ : ∃ a : ByteArray, ahead 47 s.data.toList = a.data.toList := ⟨⟨(ahead 47 s.data.toList).toArray⟩, by simp⟩
  obtain ⟨t, ht⟩ : ∃ t : ByteArray, Lib.trimPrefix a.data.toList [45] = t.data.toList := ⟨⟨(Lib.trimPrefix a.data.toList [45]).toArray⟩, by simp⟩
  have hbeg := begins s a t ha ht
  obtain ⟨neg, hn⟩ : ∃ neg, Lib.hasPrefix a.data.toList [45] = neg := ⟨_, rfl⟩
  rw [hn] at hbeg
  obtain ⟨bt, hd⟩ : ∃ bt, digs t.data.toList = bt := ⟨_, rfl⟩
  obtain ⟨nv, hv⟩ : ∃ nv : Int, (if bt = true then (val t.data.toList : Int) else -1) = nv := ⟨_, rfl⟩
  have hnum : (numTxt a.data.toList = none ∧ (nv < 0 ∨ neg = true ∧ nv = 0)) ∨ (numTxt a.data.toList = some (if neg = true then -nv else nv) ∧ 0 ≤ nv ∧ nv < 10000000000 ∧ (neg = true → (nv == 0) = false)) := by
    unfold numTxt
    rw [ht, hn, hd]
    cases bt with
    | false =>
      rw [if_neg (by simp)] at hv ⊢
      exact Or.inl ⟨rfl, Or.inl (by omega)⟩
    | true =>
      rw [if_pos rfl] at hv
      have hb := digs_bound hd
      by_cases hz : neg = true ∧ val t.data.toList = 0
      · rw [if_neg (by rintro ⟨_, h⟩; exact h hz)]
        exact Or.inl ⟨rfl, Or.inr ⟨hz.1, by omega⟩⟩
      · rw [if_pos ⟨rfl, hz⟩, hv]
        refine Or.inr ⟨rfl, by omega, by omega, fun h => ?_⟩
        rw [beq_eq_false_iff_ne]
        exact fun e => hz ⟨h, by omega⟩
  cases hb : behind 47 s.data.toList with
  | none =>
    have hp := pieces_of_none hb
    rw [show s.data.toList = a.data.toList from (index_none 47 _ hb).2.symm.trans ha] at hp
    have hp' : pieces 47 s.data.toList = [a.data.toList] := by rw [show s.data.toList = a.data.toList from (index_none 47 _ hb).2.symm.trans ha]; exact hp
    rcases hnum with ⟨h1, h2⟩ | ⟨h1, h2, h3, h4⟩
    · have e : rd s.data.toList = ⟨0, 0, 1⟩ := by unfold rd; rw [ha, h1]
      rw [e]; exact of_no1 s a t w hm neg hbeg hp' bt nv hd hv h2
    · have e : rd s.data.toList = ck (if neg = true then -nv else nv) 1 := by unfold rd; rw [ha, h1, hb]
      rw [e]; exact of_yes1 s a t w hm neg hbeg hp' bt nv hd hv h2 h3 h4
  | some r =>
    obtain ⟨b, hbr⟩ : ∃ b : ByteArray, r = b.data.toList := ⟨⟨r.toArray⟩, by simp⟩
    subst hbr
    have hp := pieces_of_some hb
    rw [ha] at hp
    cases hb2 : behind 47 b.data.toList with
    | some r2 =>
      have hdb := digs_slash (l := b.data.toList) (by rw [hb2]; simp)
      have e : rd s.data.toList = ⟨0, 0, 1⟩ := by
        unfold rd
        rw [ha, hb]
        cases numTxt a.data.toList with
        | none => rfl
        | some n => simp only; rw [if_neg (by rw [hdb]; simp)]
      rw [e]
      refine of_three s w hm ?_
      rw [hp, pieces_of_some hb2]
      have := pieces_pos 47 r2
      simp
      omega
    | none =>
      rw [pieces_of_none hb2] at hp
      rcases hnum with ⟨h1, h2⟩ | ⟨h1, h2, h3, h4⟩
      · have e : rd s.data.toList = ⟨0, 0, 1⟩ := by unfold rd; rw [ha, h1]
        rw [e]; exact of_no2 s a t b w hm neg hbeg hp bt nv hd hv h2
      · have e : rd s.data.toList = if digs b.data.toList = true ∧ val b.data.toList ≠ 1 then ck (if neg = true then -nv else nv) (val b.data.toList) else ⟨0, 0, 1⟩ := by unfold rd; rw [ha, h1, hb]
        rw [e]
        cases hdb : digs b.data.toList with
        | false =>
          rw [if_neg (by simp)]
          exact of_den s a t b w hm neg hbeg hp bt nv hd hv h2 h3 h4 false (-1) hdb (by simp) (Or.inl (by decide))
        | true =>
          have hbb := digs_bound hdb
          by_cases h5 : val b.data.toList = 1
          · rw [if_neg (by simp [h5])]
            exact of_den s a t b w hm neg hbeg hp bt nv hd hv h2 h3 h4 true 1 hdb (by rw [if_pos rfl, h5]; rfl) (Or.inr rfl)
          · rw [if_pos ⟨rfl, h5⟩]
            exact of_yes2 s a t b w hm neg hbeg hp bt nv hd hv h2 h3 h4 true (val b.data.toList) hdb (by rw [if_pos rfl]) (by omega) (by rw [beq_eq_false_iff_ne]; omega) hbb
end Go.Proofs.YtlnnpileegoglabGreatDoor

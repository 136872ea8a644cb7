/-
  The document's stepOf at its places, as plain mathematics: where its first loop ends, and one round of its second.
-/
import Derived.Test.YtnoecobddhmhlaaGreatDoorJ24
import Derived.Test.YtnoecobddhmhlaaGreatDoorJ25
import Derived.Test.YtnoecobddhmhlaaGreatDoorJ30
import Derived.Deep.AppendLies
import Derived.Deep.RegionLaw
namespace Go.Proofs.YtnoecobddhmhlaaGreatDoor

/-- A text that is at an end, or at a mark. -/
def atMk (b : Bs) : Prop := b = [] ∨ ∃ m r, b = m :: r ∧ isMk m = true
theorem stR_at {L : Bs} {k : Nat} (ha : (L.take k).all (fun c => !isMk c) = true) (hb : atMk (L.drop k)) :
    stR L = if L = [] then none else if anyNm (L.take k) || isNm (L.take k) then (wantsR (L.length + 1) [] (L.drop k)).map (fun w => (L.take k, w)) else none := by
  unfold stR
  by_cases hL : L = []
  · rw [if_pos hL, if_pos hL]
  · rw [if_neg hL, if_neg hL]
    have hs := List.take_append_drop k L
    rcases hb with h0 | ⟨m, r, h0, hm⟩
    · rw [h0, List.append_nil] at hs
      rw [hs] at ha
      rw [h0, hs, firstMk_no ha]
      rfl
    · have hf := firstMk_app (L.take k) r m ha hm
      rw [← h0, hs] at hf
      rw [hf, h0]
theorem wants_step {f : Nat} {acc : List Bs} {m : UInt8} {n t : Bs} (hn : n.all (fun c => !enB c) = true) (ht : t = [] ∨ ∃ c t', t = c :: t' ∧ enB c = true) :
    wantsR (f + 1) acc (m :: (n ++ t)) = if isNm n && decide (acc.length < 8) then
      (match t with
      | [] => if m = 91 then none else some (acc ++ [m :: n])
      | c :: t => if c = 93 then (if m = 91 then (match t with
          | [] => some (acc ++ [m :: n])
          | d :: _ => if isMk d then wantsR f (acc ++ [m :: n]) t else none) else none)
        else if m = 91 then none else wantsR f (acc ++ [m :: n]) (c :: t))
    else none := by
  have hn' : ∀ c ∈ n, (!enB c) = true := by simpa using hn
  obtain ⟨t1, t2⟩ := takeW_app (b := t) hn'
  have e : t.takeWhile (fun c => !enB c) = [] ∧ t.dropWhile (fun c => !enB c) = t := by
    rcases ht with rfl | ⟨c, t', rfl, hc⟩
    · exact ⟨rfl, rfl⟩
    · exact takeW_stop (by rw [hc]; rfl)
  rw [e.1, List.append_nil] at t1
  rw [e.2] at t2
  rw [wantsR, t1, t2]
  cases t with
  | nil => rfl
  | cons c t => cases t <;> rfl
theorem wants_bad {f : Nat} {acc : List Bs} {m : UInt8} {n t : Bs} (hn : n.all (fun c => !enB c) = true) (ht : t = [] ∨ ∃ c t', t = c :: t' ∧ enB c = true) (h : isNm n = false ∨ 8 ≤ acc.length) : wantsR (f + 1) acc (m :: (n ++ t)) = none := by
  rw [wants_step hn ht, if_neg]
  rcases h with h | h
  · simp [h]
  · simp [Nat.not_lt.2 h]
/-- Is it closed here? -/
def clB (t : Bs) : Bool := t.head? == some 93
theorem wants_open {f : Nat} {acc : List Bs} {m : UInt8} {n t : Bs} (hn : n.all (fun c => !enB c) = true) (ht : t = [] ∨ ∃ c t', t = c :: t' ∧ enB c = true) (h : clB t ≠ (m == 91)) : wantsR (f + 1) acc (m :: (n ++ t)) = none := by
  rw [wants_step hn ht]
  split
  · cases t with
    | nil =>
      have hm : m = 91 := by
        have : (m == 91) = true := by
          cases hb : (m == 91) with
          | true => rfl
          | false => rw [hb] at h; exact absurd rfl h
        simpa using this
      show (if m = 91 then none else _) = none
      rw [if_pos hm]
    | cons c t' =>
      by_cases hc : c = 93
      · have hm : m ≠ 91 := fun e => h (by subst hc; subst e; rfl)
        show (if c = 93 then _ else _) = none
        rw [if_pos hc, if_neg hm]
      · have hm : m = 91 := by
          have e : clB (c :: t') = false := by unfold clB; simp [hc]
          rw [e] at h
          cases hb : (m == 91) with
          | true => simpa using hb
          | false => rw [hb] at h; exact absurd rfl h
        show (if c = 93 then _ else _) = none
        rw [if_neg hc, if_pos hm]
  · rfl
theorem wants_ends {f : Nat} {acc : List Bs} {n t' : Bs} (hn : n.all (fun c => !enB c) = true) (h : ¬ atMk t') : wantsR (f + 1) acc (91 :: (n ++ 93 :: t')) = none := by
  rw [wants_step hn (.inr ⟨93, t', rfl, rfl⟩)]
  split
  · show (if (93 : UInt8) = 93 then _ else _) = none
    rw [if_pos rfl, if_pos rfl]
    cases t' with
    | nil => exact absurd (.inl rfl) h
    | cons d t2 =>
      show (if isMk d then _ else none) = none
      rw [if_neg (fun hd => h (.inr ⟨d, t2, rfl, hd⟩))]
  · rfl
theorem wants_shut {f : Nat} {acc : List Bs} {n t' : Bs} (hn : n.all (fun c => !enB c) = true) (hnm : isNm n = true) (ha : acc.length < 8) (h : atMk t') : wantsR (f + 2) acc (91 :: (n ++ 93 :: t')) = wantsR (f + 1) (acc ++ [91 :: n]) t' := by
  rw [wants_step hn (.inr ⟨93, t', rfl, rfl⟩), if_pos (by rw [hnm]; simp [ha])]
  show (if (93 : UInt8) = 93 then _ else _) = _
  rw [if_pos rfl, if_pos rfl]
  rcases h with rfl | ⟨d, r, rfl, hd⟩
  · rfl
  · show (if isMk d then _ else none) = _
    rw [if_pos hd]
theorem wants_on {f : Nat} {acc : List Bs} {m : UInt8} {n t : Bs} (hn : n.all (fun c => !enB c) = true) (hnm : isNm n = true) (ha : acc.length < 8) (hm : m ≠ 91) (h : atMk t) : wantsR (f + 2) acc (m :: (n ++ t)) = wantsR (f + 1) (acc ++ [m :: n]) t := by
  rw [wants_step hn (by rcases h with h | ⟨d, r, h, hd⟩
                        · exact .inl h
                        · exact .inr ⟨d, r, h, by unfold enB; rw [hd]; rfl⟩), if_pos (by rw [hnm]; simp [ha])]
  rcases h with rfl | ⟨d, r, rfl, hd⟩
  · show (if m = 91 then _ else _) = _
    rw [if_neg hm]
    rfl
  · show (if d = 93 then _ else _) = _
    rw [if_neg (mk_not93 hd), if_neg hm]
/-- An end of a name is a mark, or shuts. -/
theorem en_mk {t : Bs} (ht : t = [] ∨ ∃ c t', t = c :: t' ∧ enB c = true) (h : clB t = false) : atMk t := by
  rcases ht with rfl | ⟨c, t', rfl, hc⟩
  · exact .inl rfl
  · refine .inr ⟨c, t', rfl, ?_⟩
    have h9 : (c == 93) = false := by
      cases hb : (c == 93) with
      | false => rfl
      | true =>
        have : c = 93 := by simpa using hb
        subst this
        cases h
    unfold enB at hc
    rw [h9, Bool.or_false] at hc
    exact hc
end Go.Proofs.YtnoecobddhmhlaaGreatDoor

namespace Go.Proofs.YtnoecobddhmhlaaGreatDoor
open Go.RowKit

abbrev Zst : Obj := .cells #[.string ⟨#[]⟩, .slice none 0 0, .bool false] 133
/-- What stepOf answers, with what memory of its own. -/
def StepV (W : World) (base : Nat) (v : Value) : Option (Bs × List Bs) → Prop
  | none => v = .tuple #[.agg #[.string ⟨#[]⟩, .slice none 0 0, .bool false], .bool false]
  | some (a, ws) => ∃ r, v = .tuple #[.agg #[.string ⟨a.toArray⟩, r, .bool false], .bool true] ∧ W.ownsRow base 9 1 r ws.length (strs ws)
def inB (s : ByteArray) (k : Nat) : Bool := if h : k < s.size then !enB s[k] else false
def goB (s : ByteArray) (k : Nat) : Bool := if h : k < s.size then !isMk s[k] else false
theorem drop_atS {s : ByteArray} {k : Nat} (h : k < s.size) : s.data.toList.drop k = s[k] :: s.data.toList.drop (k + 1) := by
  rw [List.drop_eq_getElem_cons (by rw [len_eq]; exact h)]
  rfl
theorem goB_on {s : ByteArray} {k : Nat} (h : goB s k = true) (ha : (s.data.toList.take k).all (fun c => !isMk c) = true) : k < s.size ∧ (s.data.toList.take (k + 1)).all (fun c => !isMk c) = true := by
  unfold goB at h
  by_cases hk : k < s.size
  · rw [dif_pos hk] at h
    refine ⟨hk, ?_⟩
    have e : s.data.toList[k]? = some s[k] := by
      rw [List.getElem?_eq_getElem (by rw [len_eq]; exact hk)]
      rfl
    rw [List.take_add_one, List.all_append, ha, e]
    simp [h]
  · rw [dif_neg hk] at h
    cases h
theorem goB_off {s : ByteArray} {k : Nat} (h : goB s k = false) (hk : k ≤ s.size) : atMk (s.data.toList.drop k) := by
  unfold goB at h
  by_cases hl : k < s.size
  · rw [dif_pos hl] at h
    exact .inr ⟨_, _, drop_atS hl, by simpa using h⟩
  · exact .inl (by rw [List.drop_eq_nil_iff, len_eq]; omega)
theorem inB_on {s : ByteArray} {k j : Nat} (h : inB s j = true) (hk : k + 1 ≤ j) (ha : ((s.data.toList.drop (k + 1)).take (j - (k + 1))).all (fun c => !enB c) = true) : j < s.size ∧ ((s.data.toList.drop (k + 1)).take (j + 1 - (k + 1))).all (fun c => !enB c) = true := by
  unfold inB at h
  by_cases hj : j < s.size
  · rw [dif_pos hj] at h
    refine ⟨hj, ?_⟩
    have e : (s.data.toList.drop (k + 1))[j - (k + 1)]? = some s[j] := by
      rw [List.getElem?_drop, show k + 1 + (j - (k + 1)) = j by omega, List.getElem?_eq_getElem (by rw [len_eq]; exact hj)]
      rfl
    rw [show j + 1 - (k + 1) = j - (k + 1) + 1 by omega, List.take_add_one, List.all_append, ha, e]
    simp [h]
  · rw [dif_neg hj] at h
    cases h
theorem inB_off {s : ByteArray} {k : Nat} (h : inB s k = false) (hk : k ≤ s.size) : s.data.toList.drop k = [] ∨ ∃ c t', s.data.toList.drop k = c :: t' ∧ enB c = true := by
  unfold inB at h
  by_cases hl : k < s.size
  · rw [dif_pos hl] at h
    exact .inr ⟨_, _, drop_atS hl, by simpa using h⟩
  · exact .inl (by rw [List.drop_eq_nil_iff, len_eq]; omega)
theorem goB_no {s : ByteArray} {k : Nat} (h : atMk (s.data.toList.drop k)) : goB s k = false := by
  unfold goB
  by_cases hl : k < s.size
  · rw [dif_pos hl]
    rw [drop_atS hl] at h
    rcases h with h | ⟨m, r, h, hm⟩
    · cases h
    · injection h with h1 h2
      rw [h1, hm]
      rfl
  · rw [dif_neg hl]
theorem goB_not {s : ByteArray} {k : Nat} (h : goB s k = true) : ¬ atMk (s.data.toList.drop k) := fun ha => by
  rw [goB_no ha] at h
  cases h
theorem bad_empty {L A : Bs} (h0 : L = []) : true = !(L != [] && (anyNm A || isNm A)) := by subst h0; rfl
theorem bad_none {L A : Bs} (h0 : ¬ L = []) (h1 : A = []) : L.isEmpty = !(L != [] && (anyNm A || isNm A)) := by
  subst h1
  cases L with
  | nil => exact absurd rfl h0
  | cons => rfl
theorem bad_star {L A : Bs} (h0 : ¬ L = []) (h1 : A = [42]) : L.isEmpty = !(L != [] && (anyNm A || isNm A)) := by
  subst h1
  cases L with
  | nil => exact absurd rfl h0
  | cons => rfl
theorem bad_name {L A : Bs} (h0 : ¬ L = []) (h1 : ¬ A = []) (h2 : ¬ A = [42]) : (L.isEmpty || !A.isEmpty && !A == [42] && !isNm A) = !(L != [] && (anyNm A || isNm A)) := by
  have e : anyNm A = false := by unfold anyNm; simp [h1, h2]
  have e2 : (A == [42]) = false := by simp [h2]
  rw [e, e2]
  cases L with
  | nil => exact absurd rfl h0
  | cons => cases A with
    | nil => exact absurd rfl h1
    | cons => cases isNm _ <;> rfl
theorem u8_eqb (c : UInt8) (n : UInt8) : ((c.toNat : Int) == (n.toNat : Int)) = (c == n) := by
  rw [Bool.eq_iff_iff]
  constructor
  · intro h
    have h1 : (c.toNat : Int) = n.toNat := by simpa using h
    have : c = n := byte_eq h1
    simp [this]
  · intro h
    have : c = n := by simpa using h
    simp [this]
set_option maxRecDepth 20000 in
set_option maxHeartbeats 16000000 in
theorem stepOf_any (s : ByteArray) (w : World) (hm : s.size ≤ 1000000) :
    Calls Tryz.prog 81 #[.string s] w fun e W => ∃ v, e = .returned v ∧ StepV W w.heap.size v (stR s.data.toList) ∧ Below w.heap.size w W := by
  obtain ⟨i0, hi, hz0, hz1, hz2⟩ := info_parts infoStr
  obtain ⟨B, hB⟩ : ∃ B, w.heap.size = B := ⟨_, rfl⟩
  go_enter Tryz.func81, Tryz.ntmps81
  go_upto_region 2 with fail
  have b0 : Below w.heap.size w (w.alloc Zst) := (Below.refl _ _).alloc (Nat.le_refl _) _
  have bU : Below B w ((w.alloc Zst).alloc Zst) := by rw [← hB]; exact b0.alloc (Nat.le_of_lt (by rw [World.size_alloc]; exact Nat.lt_succ_self _)) _
  have r1 : ((w.alloc Zst).alloc Zst).heap[B]? = some Zst := by rw [← hB]; exact (Below.heap_alloc _ _ _ (by rw [World.size_alloc]; exact Nat.lt_succ_self _)).trans (World.alloc_heap_new w _)
  have r2 : ((w.alloc Zst).alloc Zst).heap[B + 1]? = some Zst := by have := World.alloc_heap_new (w.alloc Zst) Zst; rwa [World.size_alloc, hB] at this
  have sU : ((w.alloc Zst).alloc Zst).heap.size = B + 2 := by rw [World.size_alloc, World.size_alloc, hB]
  obtain ⟨U, hU⟩ : ∃ U, (w.alloc Zst).alloc Zst = U := ⟨_, rfl⟩
  rw [hU] at bU r1 r2 sU
  rw [hU]
  clear hU b0
  have HL : Hid (s.data.toList.length = s.size) := len_eq s
  go_wp2_with fail
  go_loopw [5] (fun i wr => ∃ k : Nat, k ≤ s.size ∧ i = .int .i64 k ∧ (s.data.toList.take k).all (fun c => !isMk c) = true ∧ wr = U) (fun i _ => s.size - (intOf i).toNat)
  case atStart => exact ⟨0, Nat.zero_le _, rfl, rfl, rfl⟩
  case round =>
    obtain ⟨k, hk, rfl, hall, rfl⟩ := hrel
    go_upto_region 3 with fail
    go_cut [33] from 12 to 35 (fun v wx => v = .bool (goB s k) ∧ wx = wr)
    case first =>
      by_cases hlt : k < s.size
      · have hlt' : (k : Int) < (s.size : Int) := by omega
        have hb : goB s k = (!(s[k] == 35) && !(s[k] == 46) && !(s[k] == 91)) := by unfold goB isMk; rw [dif_pos hlt]; simp only [Bool.not_or]
        have e1 : ((s[k].toNat : Int) == 35) = (s[k] == 35) := u8_eqb s[k] 35
        have e2 : ((s[k].toNat : Int) == 46) = (s[k] == 46) := u8_eqb s[k] 46
        have e3 : ((s[k].toNat : Int) == 91) = (s[k] == 91) := u8_eqb s[k] 91
        go_wp2_with fail
        all_goals
          go_meet
          refine ⟨congrArg Value.bool ?_, rfl⟩
          rw [hb, ← e1, ← e2, ← e3]
          clear hb e1 e2 e3
          first
            | rfl
            | (rename_i h; simp [h])
      · have hlt' : ¬ (k : Int) < (s.size : Int) := by omega
        have hb : goB s k = false := by unfold goB; rw [dif_neg hlt]
        go_wp2_with fail
        go_meet
        exact ⟨by rw [hb], rfl⟩
    case rest =>
      obtain ⟨rfl, rfl⟩ := hcut
      cases hg : goB s k with
      | true =>
        obtain ⟨hlt, hall'⟩ := goB_on hg hall
        go_wp2_with fail
        go_roundw
        case rel => exact ⟨k + 1, hlt, by go_num, hall', trivial⟩
        case measure => simp [intOf]; omega
      | false =>
        obtain ⟨K0, rfl⟩ : ∃ K0, K0 = k := ⟨k, rfl⟩
        have HM : Hid (atMk (s.data.toList.drop K0)) := goB_off hg hk
        have HR := stR_at hall HM.out
        have hk' : (K0 : Int) ≤ (s.size : Int) := by omega
        obtain ⟨x0, x1, x2, f0, f1, f2⟩ := Cel3.of r2
        go_upto_region 6 with fail
        have hne : B ≠ B + 1 := by omega
        obtain ⟨V, hV⟩ : ∃ V, wc.setCell ⟨B + 1, 0, none⟩ (.string (s.extract 0 K0)) = V := ⟨_, rfl⟩
        have bV1 : Below B w V := by rw [← hV]; exact bU.setCell (Nat.le_succ B) _
        have v1 : V.heap[B]? = some Zst := by rw [← hV]; exact (Below.heap_setCell _ _ _ _ (by simp)).trans r1
        have v2 : V.heap[B + 1]? = some (.cells #[.string (s.extract 0 K0), .slice none 0 0, .bool false] 133) := by rw [← hV]; rw [heap_setCell_same wc (B + 1) 0 _ _ _ r2]; rfl
        have sV : V.heap.size = B + 2 := by rw [← hV, World.size_setCell, sU]
        rw [hV]
        clear hV bU r1 r2 sU x0 x1 x2 f0 f1 f2
        obtain ⟨x0, x1, x2, f0, f1, f2⟩ := Cel3.of v2
        obtain ⟨y0, y1, y2, g0, g1, g2⟩ := Cel3.of v1
        obtain ⟨A, hA⟩ : ∃ A, s.data.toList.take K0 = A := ⟨_, rfl⟩
        rw [hA] at HR hall
        have HA : Hid (s.data.toList.take K0 = A) := hA
        have hex : (s.extract 0 K0).data.toList = A := by rw [← hA, Lib.extract_data s 0 K0]; simp
        clear hA
        have hE1 : (s.extract 0 K0).toList = A := by rw [ByteArray.toList_eq, hex]
        have E1 : Hid ((s.extract 0 K0).toList = A) := hE1
        clear hE1
        have IN := RIsName_any (s.extract 0 K0) (by rw [ByteArray.size_extract]; omega) V
        rw [hex] at IN
        have HEX : Hid ((s.extract 0 K0).data.toList = A) := hex
        clear hex
        go_upto_region 7 with (go_at_call 52; refine IN.mono ?_; rintro e w1 ⟨rfl, rfl⟩)
        go_cut [58] from 43 to 58 (fun v wx => v = .bool (!(s.data.toList != [] && (anyNm A || isNm A))) ∧ wx = w1)
        case first =>
          go_wp2_with fail
          all_goals
            go_meet
            refine And.intro (congrArg Value.bool ?_) (by first | rfl | trivial)
            have E0 := ByteArray.toList_eq s
            have E1 := E1.out
            try simp only [E0, E1]
            first
              | (rename_i h0 h1 h2; rw [E0] at h0; rw [E1] at h1 h2; exact bad_name h0 h1 h2)
              | (rename_i h0 h1 h2; rw [E0] at h0; rw [E1] at h1 h2; exact bad_star h0 h2)
              | (rename_i h0 h1; rw [E0] at h0; rw [E1] at h1; exact bad_none h0 h1)
              | (rename_i h0; rw [E0] at h0; exact bad_empty h0)
        case rest =>
          obtain ⟨rfl, rfl⟩ := hcut
          have b2 : Below w.heap.size w wc := by rw [hB]; exact bV1
          cases hbad : (s.data.toList != [] && (anyNm A || isNm A)) with
          | false =>
            have hst : stR s.data.toList = none := by
              rw [HR]
              split
              · rfl
              · rename_i hne
                have h1 : (s.data.toList != []) = true := by simpa using hne
                rw [h1, Bool.true_and] at hbad
                rw [hbad]
                rfl
            have r4 := setT3 v1 (.string ⟨#[]⟩) (.slice none 0 0) (.bool false)
            obtain ⟨t0, t1, t2, -, -, -⟩ := Cel3.of r4
            go_wp2_with fail
            refine bodyPost_ret (v := .tuple #[.agg #[.string ⟨#[]⟩, .slice none 0 0, .bool false], .bool false]) (by simp [results, Tryz.results81, go_sem, t0, t1, t2]) rfl ?_
            rw [hst]
            exact ⟨_, rfl, rfl, ((b2.setCell (by rw [hB]; exact Nat.le_refl _) _).setCell (by rw [hB]; exact Nat.le_refl _) _).setCell (by rw [hB]; exact Nat.le_refl _) _⟩
          | true =>
            simp only [Bool.not_true]
            have HST : Hid (stR s.data.toList = (wantsR (s.data.toList.length + 1) [] (s.data.toList.drop K0)).map (fun ws => (A, ws))) := by
              rw [Bool.and_eq_true] at hbad
              have h1 : s.data.toList ≠ [] := by simpa using hbad.1
              rw [if_neg h1, if_pos hbad.2] at HR
              exact HR
            clear HR hbad x0 x1 x2 f0 f1 f2 y0 y1 y2 g0 g1 g2
            go_wp2_with fail
            go_loopw [5] (fun i wr => ∃ (k : Nat) (o : Option Addr) (cap : Nat) (acc : List Bs) (f : Nat), k ≤ s.size ∧ i = .int .i64 k ∧ atMk (s.data.toList.drop k) ∧ wr.heap[B]? = some Zst ∧ wr.heap[B + 1]? = some (.cells #[.string (s.extract 0 K0), .slice o acc.length cap, .bool false] 133) ∧ wr.ownsRow (B + 2) 9 1 (.slice o acc.length cap) acc.length (strs acc) ∧ Below B w wr ∧ acc.length ≤ 8 ∧ s.size - k < f ∧ stR s.data.toList = (wantsR f acc (s.data.toList.drop k)).map (fun ws => (A, ws))) (fun i _ => s.size - (intOf i).toNat)
            case atStart => exact ⟨K0, none, 0, [], _, hk, rfl, HM.out, v1, v2, World.ownsRow_nil _ _ _ _, bV1, Nat.zero_le _, by rw [HL.out]; omega, HST.out⟩
            case round =>
              clear hk hk' HM HST hall v1 v2 sV bV1 b2 IN hne
              obtain ⟨k, o, cap, acc, f, hk, rfl, hat, v1, v2, hown, hb, ha8, hf, hst⟩ := hrel
              obtain ⟨x0, x1, x2, f0, f1, f2⟩ := Cel3.of v2
              obtain ⟨y0, y1, y2, g0, g1, g2⟩ := Cel3.of v1
              have HST : Hid (stR s.data.toList = (wantsR f acc (s.data.toList.drop k)).map (fun ws => (A, ws))) := hst
              have b2 : Below w.heap.size w wr := by rw [hB]; exact hb
              clear hst
              by_cases hlt : k < s.size
              · have hlt' : (k : Int) < (s.size : Int) := by omega
                obtain ⟨m, hmk⟩ : ∃ m, s[k] = m := ⟨_, rfl⟩
                have hdr := drop_atS hlt
                have hism : isMk m = true := by
                  rcases hat with h0 | ⟨m', r', h0, hm'⟩
                  · rw [h0] at hdr; cases hdr
                  · rw [h0] at hdr
                    injection hdr with h1 h2
                    rw [← hmk, ← h1]
                    exact hm'
                rw [hmk] at hdr
                have HMK : Hid (s[k] = m) := hmk
                clear hmk
                have HDR : Hid (s.data.toList.drop k = m :: s.data.toList.drop (k + 1)) := hdr
                clear hdr hat
                obtain ⟨X, rfl⟩ : ∃ X, X = wr := ⟨wr, rfl⟩
                go_wp2_with fail
                go_loopw [7] (fun i wx => ∃ j : Nat, k + 1 ≤ j ∧ j ≤ s.size ∧ i = .int .i64 j ∧ ((s.data.toList.drop (k + 1)).take (j - (k + 1))).all (fun c => !enB c) = true ∧ wx = X) (fun i _ => s.size - (intOf i).toNat)
                case atStart => exact ⟨k + 1, Nat.le_refl _, hlt, by go_num, by rw [Nat.sub_self]; rfl, rfl⟩
                case round =>
                  obtain ⟨j, hj1, hj2, rfl, hnn, hw⟩ := hrel
                  subst hw
                  go_upto_region 11 with fail
                  go_cut [93] from 66 to 95 (fun v wx => v = .bool (inB s j) ∧ wx = wr)
                  case first =>
                    by_cases hjl : j < s.size
                    · have hjl' : (j : Int) < (s.size : Int) := by omega
                      have hb : inB s j = (!(s[j] == 35) && !(s[j] == 46) && !(s[j] == 91) && !(s[j] == 93)) := by unfold inB enB isMk; rw [dif_pos hjl]; simp only [Bool.not_or]
                      have e1 : ((s[j].toNat : Int) == 35) = (s[j] == 35) := u8_eqb s[j] 35
                      have e2 : ((s[j].toNat : Int) == 46) = (s[j] == 46) := u8_eqb s[j] 46
                      have e3 : ((s[j].toNat : Int) == 91) = (s[j] == 91) := u8_eqb s[j] 91
                      have e4 : ((s[j].toNat : Int) == 93) = (s[j] == 93) := u8_eqb s[j] 93
                      rw [← e1, ← e2, ← e3, ← e4] at hb
                      clear e1 e2 e3 e4
                      have HB : Hid (inB s j = (!((s[j].toNat : Int) == 35) && !((s[j].toNat : Int) == 46) && !((s[j].toNat : Int) == 91) && !((s[j].toNat : Int) == 93))) := hb
                      clear hb
                      go_wp2_with fail
                      all_goals
                        go_meet
                        refine And.intro (congrArg Value.bool ?_) (by first | rfl | trivial)
                        rw [HB.out]
                        first
                          | rfl
                          | (rename_i h; simp [h]; done)
                    · have hjl' : ¬ (j : Int) < (s.size : Int) := by omega
                      have hb : inB s j = false := by unfold inB; rw [dif_neg hjl]
                      go_wp2_with fail
                      go_meet
                      exact And.intro (by rw [hb]) (by first | rfl | trivial)
                  case rest =>
                    obtain ⟨rfl, rfl⟩ := hcut
                    cases hg : inB s j with
                    | true =>
                      obtain ⟨hjl, hnn'⟩ := inB_on hg hj1 hnn
                      go_wp2_with fail
                      go_roundw
                      case rel => exact ⟨j + 1, by omega, hjl, by go_num, hnn', by first | rfl | trivial⟩
                      case measure => simp [intOf]; omega
                    | false =>
                      have hen := inB_off hg hj2
                      have hj' : (j : Int) ≤ (s.size : Int) := by omega
                      obtain ⟨K1, hK1⟩ : ∃ K1 : Nat, k + 1 = K1 := ⟨_, rfl⟩
                      have hKI : (k : Int) + 1 = (K1 : Int) := by omega
                      have hkj : (K1 : Int) ≤ (j : Int) := by omega
                      have hkj2 : (k : Int) ≤ (j : Int) := by omega
                      obtain ⟨Nn, hNn⟩ : ∃ Nn, (s.data.toList.drop (k + 1)).take (j - (k + 1)) = Nn := ⟨_, rfl⟩
                      have hex2 : (s.extract K1 j).data.toList = Nn := by rw [← hNn, ← hK1, Lib.extract_data]
                      have hsp : s.data.toList.drop (k + 1) = Nn ++ s.data.toList.drop j := by
                        rw [← hNn, show s.data.toList.drop j = (s.data.toList.drop (k + 1)).drop (j - (k + 1)) by rw [List.drop_drop, show k + 1 + (j - (k + 1)) = j by omega], List.take_append_drop]
                      rw [hNn] at hnn
                      obtain ⟨f', rfl⟩ : ∃ f', f = f' + 2 := ⟨f - 2, by omega⟩
                      have HS2 : Hid (stR s.data.toList = (wantsR (f' + 2) acc (m :: (Nn ++ s.data.toList.drop j))).map (fun ws => (A, ws))) := by
                        have := HST.out
                        rw [HDR.out, hsp] at this
                        exact this
                      have HEN : Hid (s.data.toList.drop j = [] ∨ ∃ c t', s.data.toList.drop j = c :: t' ∧ enB c = true) := hen
                      have HNN : Hid (Nn.all (fun c => !enB c) = true) := hnn
                      have HEX2 : Hid ((s.extract K1 j).data.toList = Nn) := hex2
                      have HK1 : Hid (k + 1 = K1) := hK1
                      have IN := RIsName_any (s.extract K1 j) (by rw [ByteArray.size_extract]; omega) wc
                      rw [hex2] at IN
                      clear hen hnn hex2 hNn hsp HST hK1
                      have r4 := setT3 v1 (.string ⟨#[]⟩) (.slice none 0 0) (.bool false)
                      obtain ⟨t0, t1, t2, -, -, -⟩ := Cel3.of r4
                      by_cases hbad : isNm Nn = false ∨ 8 ≤ acc.length
                      · have HNO : Hid (stR s.data.toList = none) := by
                          have := HS2.out
                          rw [wants_bad HNN.out HEN.out hbad] at this
                          exact this
                        rcases hbad with hnm | h8
                        · rw [hnm] at IN
                          go_wp2_with (go_at_call 52; refine IN.mono ?_; rintro e w1 ⟨rfl, rfl⟩)
                          refine bodyPost_ret (v := .tuple #[.agg #[.string ⟨#[]⟩, .slice none 0 0, .bool false], .bool false]) (by simp [results, Tryz.results81, go_sem, t0, t1, t2]) rfl ?_
                          rw [HNO.out, hB]
                          exact ⟨_, rfl, rfl, ((hb.setCell (Nat.le_refl _) _).setCell (Nat.le_refl _) _).setCell (Nat.le_refl _) _⟩
                        · cases hnm : isNm Nn with
                          | false =>
                            rw [hnm] at IN
                            go_wp2_with (go_at_call 52; refine IN.mono ?_; rintro e w1 ⟨rfl, rfl⟩)
                            refine bodyPost_ret (v := .tuple #[.agg #[.string ⟨#[]⟩, .slice none 0 0, .bool false], .bool false]) (by simp [results, Tryz.results81, go_sem, t0, t1, t2]) rfl ?_
                            rw [HNO.out, hB]
                            exact ⟨_, rfl, rfl, ((hb.setCell (Nat.le_refl _) _).setCell (Nat.le_refl _) _).setCell (Nat.le_refl _) _⟩
                          | true =>
                            rw [hnm] at IN
                            have h8' : (8 : Int) ≤ (acc.length : Int) := by omega
                            go_wp2_with (go_at_call 52; refine IN.mono ?_; rintro e w1 ⟨rfl, rfl⟩)
                            refine bodyPost_ret (v := .tuple #[.agg #[.string ⟨#[]⟩, .slice none 0 0, .bool false], .bool false]) (by simp [results, Tryz.results81, go_sem, t0, t1, t2]) rfl ?_
                            rw [HNO.out, hB]
                            exact ⟨_, rfl, rfl, ((hb.setCell (Nat.le_refl _) _).setCell (Nat.le_refl _) _).setCell (Nat.le_refl _) _⟩
                      · have hnm : isNm Nn = true := by
                          cases h : isNm Nn with
                          | true => rfl
                          | false => exact absurd (.inl h) hbad
                        have h8 : acc.length < 8 := Nat.lt_of_not_le (fun h => hbad (.inr h))
                        have h8' : ¬ (8 : Int) ≤ (acc.length : Int) := by omega
                        clear hbad
                        rw [hnm] at IN
                        go_upto_region 16 with (go_at_call 52; refine IN.mono ?_; rintro e w1 ⟨rfl, rfl⟩)
                        clear IN r4 t0 t1 t2
                        go_cut [9] from 60 to 164 (fun v wx => ∃ g cp, v = .slice (some ⟨g, 0, none⟩) (acc.length + 1) cp ∧ wx.ownsRow (B + 2) 9 1 (.slice (some ⟨g, 0, none⟩) (acc.length + 1) cp) (acc.length + 1) (strs acc ++ [.string (s.extract k j)]) ∧ wx.heap[B]? = some Zst ∧ wx.heap[B + 1]? = some (.cells #[.string (s.extract 0 K0), .slice o acc.length cap, .bool false] 133) ∧ Below B w wx)
                        case first =>
                          have hsz : B + 2 ≤ w1.heap.size := (Array.getElem?_eq_some_iff.1 v2).1
                          have H0 := World.alloc_heap_new w1.drew (.cells #[.string (s.extract k j)] 9)
                          have owd : w1.drew.ownsRow (B + 2) 9 1 (.slice o acc.length cap) acc.length (strs acc) := hown
                          have KEEP : ∀ w7, (w1.drew.alloc (.cells #[.string (s.extract k j)] 9)).grownBy w7 (Value.slice o acc.length cap).ownBlock → w7.heap[B]? = some Zst ∧ w7.heap[B + 1]? = some (.cells #[.string (s.extract 0 K0), .slice o acc.length cap, .bool false] 133) ∧ Below B w w7 := fun w7 gr => by
                            have q1 : (w1.drew.alloc (.cells #[.string (s.extract k j)] 9)).heap[B]? = some Zst := (Below.heap_alloc w1.drew _ _ (show B < w1.heap.size by omega)).trans v1
                            have q2 : (w1.drew.alloc (.cells #[.string (s.extract k j)] 9)).heap[B + 1]? = some (.cells #[.string (s.extract 0 K0), .slice o acc.length cap, .bool false] 133) := (Below.heap_alloc w1.drew _ _ (show B + 1 < w1.heap.size by omega)).trans v2
                            refine ⟨(gr.block B (Array.getElem?_eq_some_iff.1 q1).1 (fun e => ?_)).trans q1, (gr.block (B + 1) (Array.getElem?_eq_some_iff.1 q2).1 (fun e => ?_)).trans q2, ?_⟩
                            · have := (hown.lt B e.symm).1; omega
                            · have := (hown.lt (B + 1) e.symm).1; omega
                            · exact (hb.drew.alloc (show B ≤ w1.heap.size by omega) _).grown gr (by rw [World.size_alloc]; show B ≤ w1.heap.size + 1; omega) (fun r e => by have := (hown.lt r e).1; omega)
                          clear x0 x2 y0 y1 y2 g0 g1 g2 f0 f2
                          have x1d : w1.drew.cell? ⟨B + 1, 1, none⟩ = some (.slice o acc.length cap) := x1
                          have x1a : (w1.alloc (.cells #[.string (s.extract k j)] 9)).drew.cell? ⟨B + 1, 1, none⟩ = some (.slice o acc.length cap) := by
                            have q2 : (w1.alloc (.cells #[.string (s.extract k j)] 9)).heap[B + 1]? = some (.cells #[.string (s.extract 0 K0), .slice o acc.length cap, .bool false] 133) := (Below.heap_alloc w1 _ _ (show B + 1 < w1.heap.size by omega)).trans v2
                            exact (Cel3.of q2).c1
                          go_region_law ((refine step_append_lies _ rfl (.tmp 112) (.tmp 117) 130 rfl (B + 2) 9 i0 (.string ByteArray.empty) 1 16 Tryz.underlying130 hi hz0 hz1 hz2 rfl (by decide) (.slice o acc.length cap) acc.length (strs acc) rfl (World.ownsRow.alloc owd _) ⟨w1.heap.size, 0, none⟩ 1 1 [.string (s.extract k j)] rfl rfl (World.news_of_block H0) (fun u hu => by simp at hu; subst hu; rfl) (by decide) (by simp only [maxLen]; omega) (by omega) (by simp; omega) _ rfl ?_; intro g7 cap7 w7 ow7 gr7 hat7 hlt7))
                          all_goals
                            obtain ⟨k1, k2, k3⟩ := KEEP _ gr7
                            go_wp2_with fail
                            go_meet
                            exact ⟨g7, cap7, rfl, ow7, k1, k2, k3⟩
                        case rest =>
                          obtain ⟨g, cp, rfl, ow7, k1, k2, k3⟩ := hcut
                          clear v1 v2 hown hb b2 x0 x1 x2 f0 f1 f2 y0 y1 y2 g0 g1 g2
                          obtain ⟨x0, x1, x2, f0, f1, f2⟩ := Cel3.of k2
                          go_upto_region 18 with fail
                          obtain ⟨Y, hY⟩ : ∃ Y, wc.setCell ⟨B + 1, 1, none⟩ (.slice (some ⟨g, 0, none⟩) (acc.length + 1) cp) = Y := ⟨_, rfl⟩
                          have hmn : (s.extract k j).data.toList = m :: Nn := by
                            rw [Lib.extract_data, HDR.out, show j - k = (j - (k + 1)) + 1 by omega, List.take_succ_cons, ← HEX2.out, ← HK1.out, Lib.extract_data]
                          have hl : (acc ++ [(s.extract k j).data.toList]).length = acc.length + 1 := by rw [List.length_append]; rfl
                          have v1 : Y.heap[B]? = some Zst := by rw [← hY]; exact (Below.heap_setCell _ _ _ _ (by simp)).trans k1
                          have HFIN : Hid (Y.heap[B + 1]? = some (.cells #[.string (s.extract 0 K0), .slice (some ⟨g, 0, none⟩) (acc ++ [(s.extract k j).data.toList]).length cp, .bool false] 133) ∧ Y.ownsRow (B + 2) 9 1 (.slice (some ⟨g, 0, none⟩) (acc ++ [(s.extract k j).data.toList]).length cp) (acc ++ [(s.extract k j).data.toList]).length (strs (acc ++ [(s.extract k j).data.toList]))) := by
                            have hfin : Y.heap[B + 1]? = some (.cells #[.string (s.extract 0 K0), .slice (some ⟨g, 0, none⟩) (acc ++ [(s.extract k j).data.toList]).length cp, .bool false] 133) := by
                              rw [hl, ← hY, heap_setCell_same wc (B + 1) 1 _ _ _ k2]
                              rfl
                            have hown : Y.ownsRow (B + 2) 9 1 (.slice (some ⟨g, 0, none⟩) (acc ++ [(s.extract k j).data.toList]).length cp) (acc ++ [(s.extract k j).data.toList]).length (strs (acc ++ [(s.extract k j).data.toList])) := by
                              have := own_snoc (done := acc) (t := s.extract k j) ow7
                              rw [hl] at this ⊢
                              rw [← hY]
                              exact ownB_set this (by simp) _
                            exact ⟨hfin, hown⟩
                          have HL2 : Hid ((acc ++ [(s.extract k j).data.toList]).length = acc.length + 1) := hl
                          have HMN : Hid ((s.extract k j).data.toList = m :: Nn) := hmn
                          have k4 : Below B w Y := by rw [← hY]; exact k3.setCell (Nat.le_succ B) _
                          rw [hY]
                          clear hY ow7 k1 k2 k3 x0 x1 x2 f0 f1 f2 hl hmn
                          obtain ⟨k3, hk34⟩ : ∃ _ : Below B w Y, True := ⟨k4, trivial⟩
                          clear k4 hk34
                          obtain ⟨y0, y1, y2, g0, g1, g2⟩ := Cel3.of v1
                          have r4 := setT3 v1 (.string ⟨#[]⟩) (.slice none 0 0) (.bool false)
                          obtain ⟨t0, t1, t2, -, -, -⟩ := Cel3.of r4
                          go_cut [10] from 60 to 164 (fun v wx => v = .bool (clB (s.data.toList.drop j)) ∧ wx = Y)
                          case first =>
                            by_cases hjl : j < s.size
                            · have hjl' : (j : Int) < (s.size : Int) := by omega
                              have e4 : ((s[j].toNat : Int) == 93) = (s[j] == 93) := u8_eqb s[j] 93
                              have hc : clB (s.data.toList.drop j) = ((s[j].toNat : Int) == 93) := by
                                rw [e4, drop_atS hjl]
                                unfold clB
                                rw [List.head?_cons, Bool.eq_iff_iff]
                                simp
                              have HC : Hid (clB (s.data.toList.drop j) = ((s[j].toNat : Int) == 93)) := hc
                              clear hc e4
                              go_wp2_with fail
                              all_goals
                                go_meet
                                refine And.intro (congrArg Value.bool ?_) (by first | rfl | trivial)
                                first
                                  | exact HC.out.symm
                                  | (rename_i h; rw [HC.out]; simp [h]; done)
                            · have hjl' : ¬ (j : Int) < (s.size : Int) := by omega
                              have hc : clB (s.data.toList.drop j) = false := by rw [show s.data.toList.drop j = [] by rw [List.drop_eq_nil_iff, len_eq]; omega]; rfl
                              go_wp2_with fail
                              go_meet
                              exact And.intro (by rw [hc]) (by first | rfl | trivial)
                          case rest =>
                            obtain ⟨rfl, rfl⟩ := hcut
                            have e9 : ((s[k].toNat : Int) == 91) = (m == 91) := by rw [← HMK.out]; exact u8_eqb s[k] 91
                            have HE9 : Hid (((s[k].toNat : Int) == 91) = (m == 91)) := e9
                            clear e9
                            go_upto_region 19 with fail
                            obtain ⟨CL, hCL⟩ : ∃ CL, clB (s.data.toList.drop j) = CL := ⟨_, rfl⟩
                            have HCL : Hid (clB (s.data.toList.drop j) = CL) := hCL
                            rw [hCL]
                            clear hCL
                            go_cut [136] from 60 to 164 (fun v wx => v = .bool (CL != (m == 91)) ∧ wx = wc)
                            case first =>
                              go_wp2_with fail
                              all_goals
                                go_meet
                                refine And.intro (congrArg Value.bool ?_) (by first | rfl | trivial)
                                first
                                  | (rw [← HE9.out]; done)
                                  | (rw [← HE9.out]; rfl)
                                  | (rename_i h; rw [← HE9.out]; simp [h]; done)
                            case rest =>
                              obtain ⟨rfl, rfl⟩ := hcut
                              by_cases hco : CL = (m == 91)
                              · cases hop : (m == 91) with
                                | false =>
                                  rw [hop] at hco
                                  subst hco
                                  have hat := en_mk HEN.out HCL.out
                                  have HAT : Hid (atMk (s.data.toList.drop j)) := hat
                                  have hgo := goB_no hat
                                  have hm91 : m ≠ 91 := fun e => by rw [e] at hop; cases hop
                                  have HST : Hid (stR s.data.toList = (wantsR (f' + 1) (acc ++ [(s.extract k j).data.toList]) (s.data.toList.drop j)).map (fun ws => (A, ws))) := by
                                    have := HS2.out
                                    rw [wants_on HNN.out hnm h8 hm91 hat, ← HMN.out] at this
                                    exact this
                                  clear hat hm91
                                  go_upto_region 23 with fail
                                  go_cut [162] from 60 to 164 (fun v wx => v = .bool (goB s j) ∧ wx = wc)
                                  case first =>
                                    by_cases hjl : j < s.size
                                    · have hjl' : (j : Int) < (s.size : Int) := by omega
                                      have hb5 : goB s j = (!(s[j] == 35) && !(s[j] == 46) && !(s[j] == 91)) := by unfold goB isMk; rw [dif_pos hjl]; simp only [Bool.not_or]
                                      have e1 : ((s[j].toNat : Int) == 35) = (s[j] == 35) := u8_eqb s[j] 35
                                      have e2 : ((s[j].toNat : Int) == 46) = (s[j] == 46) := u8_eqb s[j] 46
                                      have e3 : ((s[j].toNat : Int) == 91) = (s[j] == 91) := u8_eqb s[j] 91
                                      rw [← e1, ← e2, ← e3] at hb5
                                      clear e1 e2 e3
                                      have HB : Hid (goB s j = (!((s[j].toNat : Int) == 35) && !((s[j].toNat : Int) == 46) && !((s[j].toNat : Int) == 91))) := hb5
                                      clear hb5
                                      go_wp2_with fail
                                      all_goals
                                        go_meet
                                        refine And.intro (congrArg Value.bool ?_) (by first | rfl | trivial)
                                        rw [HB.out]
                                        first
                                          | rfl
                                          | (rename_i h; simp [h]; done)
                                    · have hjl' : ¬ (j : Int) < (s.size : Int) := by omega
                                      have hb5 : goB s j = false := by unfold goB; rw [dif_neg hjl]
                                      go_wp2_with fail
                                      go_meet
                                      exact And.intro (by rw [hb5]) (by first | rfl | trivial)
                                  case rest =>
                                    obtain ⟨rfl, rfl⟩ := hcut
                                    rw [hgo]
                                    go_wp2_with fail
                                    go_roundw
                                    case rel => exact ⟨j, some ⟨g, 0, none⟩, cp, acc ++ [(s.extract k j).data.toList], f' + 1, hj2, rfl, HAT.out, v1, HFIN.out.1, HFIN.out.2, k3, by rw [HL2.out]; omega, by omega, HST.out⟩
                                    case measure => simp [intOf]; omega
                                | true =>
                                  rw [hop] at hco
                                  subst hco
                                  have hco := HCL.out
                                  have hm91 : m = 91 := by simpa using hop
                                  have HM91 : Hid (m = 91) := hm91
                                  clear hm91
                                  have hjl : j < s.size := by
                                    rcases Nat.lt_or_ge j s.size with h | h
                                    · exact h
                                    · rw [show s.data.toList.drop j = [] by rw [List.drop_eq_nil_iff, len_eq]; omega] at hco
                                      cases hco
                                  obtain ⟨J1, hJ1⟩ : ∃ J1 : Nat, j + 1 = J1 := ⟨_, rfl⟩
                                  have hJI : (j : Int) + 1 = (J1 : Int) := by omega
                                  have HJ1 : Hid (j + 1 = J1) := hJ1
                                  have hJs : J1 ≤ s.size := by omega
                                  have HD2 : Hid (s.data.toList.drop j = 93 :: s.data.toList.drop J1) := by
                                    have h := drop_atS hjl
                                    rw [h] at hco
                                    have h93 : s[j] = 93 := by unfold clB at hco; simpa using hco
                                    rw [h93, hJ1] at h
                                    exact h
                                  clear hco hJ1 hjl
                                  go_upto_region 23 with fail
                                  go_cut [162] from 60 to 164 (fun v wx => v = .bool (goB s J1) ∧ wx = wc)
                                  case first =>
                                    by_cases hjl : J1 < s.size
                                    · have hjl' : (J1 : Int) < (s.size : Int) := by omega
                                      have hb5 : goB s J1 = (!(s[J1] == 35) && !(s[J1] == 46) && !(s[J1] == 91)) := by unfold goB isMk; rw [dif_pos hjl]; simp only [Bool.not_or]
                                      have e1 : ((s[J1].toNat : Int) == 35) = (s[J1] == 35) := u8_eqb s[J1] 35
                                      have e2 : ((s[J1].toNat : Int) == 46) = (s[J1] == 46) := u8_eqb s[J1] 46
                                      have e3 : ((s[J1].toNat : Int) == 91) = (s[J1] == 91) := u8_eqb s[J1] 91
                                      rw [← e1, ← e2, ← e3] at hb5
                                      clear e1 e2 e3
                                      have HB : Hid (goB s J1 = (!((s[J1].toNat : Int) == 35) && !((s[J1].toNat : Int) == 46) && !((s[J1].toNat : Int) == 91))) := hb5
                                      clear hb5
                                      go_wp2_with fail
                                      all_goals
                                        go_meet
                                        refine And.intro (congrArg Value.bool ?_) (by first | rfl | trivial)
                                        rw [HB.out]
                                        first
                                          | rfl
                                          | (rename_i h; simp [h]; done)
                                    · have hjl' : ¬ (J1 : Int) < (s.size : Int) := by omega
                                      have hb5 : goB s J1 = false := by unfold goB; rw [dif_neg hjl]
                                      go_wp2_with fail
                                      go_meet
                                      exact And.intro (by rw [hb5]) (by first | rfl | trivial)
                                  case rest =>
                                    obtain ⟨rfl, rfl⟩ := hcut
                                    cases hgo : goB s J1 with
                                    | true =>
                                      have HNO : Hid (stR s.data.toList = none) := by
                                        have := HS2.out
                                        rw [HD2.out, HM91.out, wants_ends HNN.out (goB_not hgo)] at this
                                        exact this
                                      go_wp2_with fail
                                      refine bodyPost_ret (v := .tuple #[.agg #[.string ⟨#[]⟩, .slice none 0 0, .bool false], .bool false]) (by simp [results, Tryz.results81, go_sem, t0, t1, t2]) rfl ?_
                                      rw [HNO.out, hB]
                                      exact ⟨_, rfl, rfl, ((k3.setCell (Nat.le_refl _) _).setCell (Nat.le_refl _) _).setCell (Nat.le_refl _) _⟩
                                    | false =>
                                      have hat := goB_off hgo hJs
                                      have HAT : Hid (atMk (s.data.toList.drop J1)) := hat
                                      have HST : Hid (stR s.data.toList = (wantsR (f' + 1) (acc ++ [(s.extract k j).data.toList]) (s.data.toList.drop J1)).map (fun ws => (A, ws))) := by
                                        have := HS2.out
                                        rw [HD2.out, HM91.out, wants_shut HNN.out hnm h8 hat, ← HM91.out, ← HMN.out] at this
                                        exact this
                                      clear hat
                                      go_wp2_with fail
                                      go_roundw
                                      case rel => exact ⟨J1, some ⟨g, 0, none⟩, cp, acc ++ [(s.extract k j).data.toList], f' + 1, hJs, rfl, HAT.out, v1, HFIN.out.1, HFIN.out.2, k3, by rw [HL2.out]; omega, by have := HJ1.out; omega, HST.out⟩
                                      case measure => have := HJ1.out; simp [intOf]; omega
                              · have HNO : Hid (stR s.data.toList = none) := by
                                  have := HS2.out
                                  rw [wants_open HNN.out HEN.out (by rw [HCL.out]; exact hco)] at this
                                  exact this
                                cases hop : (m == 91) with
                                | true =>
                                  rw [hop] at hco
                                  have hco2 : CL = false := by simpa using hco
                                  subst hco2
                                  go_wp2_with fail
                                  refine bodyPost_ret (v := .tuple #[.agg #[.string ⟨#[]⟩, .slice none 0 0, .bool false], .bool false]) (by simp [results, Tryz.results81, go_sem, t0, t1, t2]) rfl ?_
                                  rw [HNO.out, hB]
                                  exact ⟨_, rfl, rfl, ((k3.setCell (Nat.le_refl _) _).setCell (Nat.le_refl _) _).setCell (Nat.le_refl _) _⟩
                                | false =>
                                  rw [hop] at hco
                                  have hco2 : CL = true := by simpa using hco
                                  subst hco2
                                  go_wp2_with fail
                                  refine bodyPost_ret (v := .tuple #[.agg #[.string ⟨#[]⟩, .slice none 0 0, .bool false], .bool false]) (by simp [results, Tryz.results81, go_sem, t0, t1, t2]) rfl ?_
                                  rw [HNO.out, hB]
                                  exact ⟨_, rfl, rfl, ((k3.setCell (Nat.le_refl _) _).setCell (Nat.le_refl _) _).setCell (Nat.le_refl _) _⟩
              · have hlt' : ¬ (k : Int) < (s.size : Int) := by omega
                have hst : stR s.data.toList = some (A, acc) := by
                  have h0 : s.data.toList.drop k = [] := by rw [List.drop_eq_nil_iff, len_eq]; omega
                  obtain ⟨f', rfl⟩ : ∃ f', f = f' + 1 := ⟨f - 1, by omega⟩
                  rw [HST.out, h0, wantsR]
                  rfl
                have r4 := setT3 v1 (.string (s.extract 0 K0)) (.slice o acc.length cap) (.bool false)
                obtain ⟨t0, t1, t2, -, -, -⟩ := Cel3.of r4
                have hA2 : (⟨A.toArray⟩ : ByteArray) = s.extract 0 K0 := by
                  rw [← HEX.out]
                go_wp2_with fail
                refine bodyPost_ret (v := .tuple #[.agg #[.string (s.extract 0 K0), .slice o acc.length cap, .bool false], .bool true]) (by simp [results, Tryz.results81, go_sem, t0, t1, t2]) rfl ?_
                refine ⟨_, rfl, ⟨.slice o acc.length cap, by rw [hA2], ?_⟩, ((hb.setCell (Nat.le_refl _) _).setCell (Nat.le_refl _) _).setCell (Nat.le_refl _) _⟩
                exact ownB_base (ownB_set (ownB_set (ownB_set hown (by simp) _) (by simp) _) (by simp) _) (by omega)
end Go.Proofs.YtnoecobddhmhlaaGreatDoor

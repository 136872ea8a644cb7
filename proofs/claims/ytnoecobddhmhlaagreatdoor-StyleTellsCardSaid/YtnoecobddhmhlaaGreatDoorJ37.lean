/-
  The document's small functions of style (leadlightref2), walked: firstOf, isWord, place.
-/
import Derived.Test.YtnoecobddhmhlaaGreatDoorJ34
import Derived.Test.YtnoecobddhmhlaaGreatDoorJ3
import Derived.Test.YtnoecobddhmhlaaGreatDoorJ30
import Derived.Deep.CutRange
import Derived.Test.YtnoecobddhmhlaaGreatDoorJ27
import Derived.Test.YtnoecobddhmhlaaGreatDoorJ29
namespace Go.Proofs.YtnoecobddhmhlaaGreatDoor
open Go.RowKit

theorem first_two (s : Bs) : firstM s = if s = kFill then [110, 111, 110, 101] else if s = kRule then [119, 105, 110, 100] else if s = kShow then [121, 101, 115] else if s = kLevel then [48] else [] := by
  unfold firstM
  by_cases h1 : s = kFill
  · rw [if_pos h1, if_pos h1]
  · rw [if_neg h1, if_neg h1]
    by_cases h2 : s = kShow
    · rw [if_pos h2, if_neg (by rw [h2]; decide), if_pos h2]
    · rw [if_neg h2]
      by_cases h3 : s = kRule
      · rw [if_pos h3, if_pos h3]
      · rw [if_neg h3, if_neg h3, if_neg h2]
set_option maxHeartbeats 1000000 in
theorem firstOf_ref (s : Bs) (w : World) : Calls Tryz.prog 100 #[bV s] w fun e w' => e = .returned (bV (firstM s)) ∧ w' = w := by
  have h0 := ba_toL s [102, 105, 108, 108]
  have h1 := ba_toL s [114, 117, 108, 101]
  have h2 := ba_toL s [115, 104, 111, 119]
  have h3 := ba_toL s [108, 101, 118, 101, 108]
  rw [first_two]
  unfold kFill kShow kRule kLevel
  cases ha : (s == [102, 105, 108, 108]) with
  | true =>
    rw [ha] at h0
    rw [if_pos (by simpa using ha)]
    clear h1 h2 h3
    go_enter Tryz.func100, Tryz.ntmps100
    go_wp2_with fail
    go_ret
    exact ⟨rfl, rfl⟩
  | false =>
    rw [ha] at h0
    rw [if_neg (by simpa using ha)]
    cases hb : (s == [114, 117, 108, 101]) with
    | true =>
      rw [hb] at h1
      rw [if_pos (by simpa using hb)]
      clear h2 h3
      go_enter Tryz.func100, Tryz.ntmps100
      go_wp2_with fail
      go_ret
      exact ⟨rfl, rfl⟩
    | false =>
      rw [hb] at h1
      rw [if_neg (by simpa using hb)]
      cases hc : (s == [115, 104, 111, 119]) with
      | true =>
        rw [hc] at h2
        rw [if_pos (by simpa using hc)]
        clear h3
        go_enter Tryz.func100, Tryz.ntmps100
        go_wp2_with fail
        go_ret
        exact ⟨rfl, rfl⟩
      | false =>
        rw [hc] at h2
        rw [if_neg (by simpa using hc)]
        cases hd : (s == [108, 101, 118, 101, 108]) with
        | true =>
          rw [hd] at h3
          rw [if_pos (by simpa using hd)]
          go_enter Tryz.func100, Tryz.ntmps100
          go_wp2_with fail
          go_ret
          exact ⟨rfl, rfl⟩
        | false =>
          rw [hd] at h3
          rw [if_neg (by simpa using hd)]
          go_enter Tryz.func100, Tryz.ntmps100
          go_wp2_with fail
          go_ret
          exact ⟨rfl, rfl⟩
theorem wrd_iff (c : UInt8) : wrdB c = true ↔ (97 ≤ (c.toNat : Int) ∧ (c.toNat : Int) ≤ 122) ∨ (48 ≤ (c.toNat : Int) ∧ (c.toNat : Int) ≤ 57) ∨ (c.toNat : Int) = 45 := by
  unfold wrdB
  simp only [Bool.or_eq_true, Bool.and_eq_true, decide_eq_true_eq, beq_iff_eq]
  omega
theorem wrd_no {c : UInt8} (h : ¬ ((97 ≤ (c.toNat : Int) ∧ (c.toNat : Int) ≤ 122) ∨ (48 ≤ (c.toNat : Int) ∧ (c.toNat : Int) ≤ 57) ∨ (c.toNat : Int) = 45)) : wrdB c = false := by
  cases hw : wrdB c with
  | false => rfl
  | true => exact absurd ((wrd_iff c).1 hw) h
set_option maxRecDepth 20000 in
set_option maxHeartbeats 4000000 in
theorem isWord_ref (s : ByteArray) (hs : s.size ≤ 100000) (w : World) : Calls Tryz.prog 132 #[.string s] w fun e w' => e = .returned (.bool (isWordR s.data.toList)) ∧ w' = w := by
  have hlen : s.data.toList.length = s.size := by rw [Array.length_toList]; rfl
  have hget : ∀ k (h : k < s.size), s.data.toList[k]? = some s[k] := fun k h => by
    rw [Array.getElem?_toList]
    exact Array.getElem?_eq_getElem h
  go_enter Tryz.func132, Tryz.ntmps132
  go_wp2_with fail
  go_loopw [3] (fun y wr => ∃ k : Nat, k ≤ s.size ∧ y = .int .i64 k ∧ (∀ c ∈ s.data.toList.take k, wrdB c = true) ∧ wr = w) (fun y _ => s.size - (intOf y).toNat)
  case atStart => exact ⟨0, Nat.zero_le _, rfl, (fun c hc => by simp at hc), rfl⟩
  case round =>
    obtain ⟨k, hk, rfl, hall, hw⟩ := hrel
    subst hw
    have HALL : Hid (∀ c ∈ s.data.toList.take k, wrdB c = true) := hall
    clear hall
    by_cases hlt : k < s.size
    · have hlt' : (k : Int) < (s.size : Int) := by omega
      have hb := m_lt255 s[k]
      have HG : Hid (s.data.toList[k]? = some s[k]) := hget k hlt
      have YES : Hid (wrdB s[k] = true → ∀ c ∈ s.data.toList.take (k + 1), wrdB c = true) := fun hc c hm => by
        rw [List.take_add_one, HG.out] at hm
        rcases List.mem_append.1 hm with hm | hm
        · exact HALL.out c hm
        · simp at hm; subst hm; exact hc
      have NO : Hid (wrdB s[k] = false → isWordR s.data.toList = false) := fun hc => by
        unfold isWordR
        have h1 : s.data.toList.all wrdB = false := by
          rw [List.all_eq_false]
          exact ⟨s[k], List.mem_of_getElem? HG.out, by rw [hc]; simp⟩
        rw [h1]
        rfl
      go_upto_region 5 with fail
      go_cut [5] from 6 to 34 (fun v wx => v = .bool (wrdB s[k]) ∧ wx = wr)
      case first =>
        by_cases h1 : 97 ≤ (s[k].toNat : Int)
        · by_cases h2 : (s[k].toNat : Int) ≤ 122
          · have HW : Hid (Value.bool true = .bool (wrdB s[k])) := congrArg Value.bool ((wrd_iff _).2 (.inl ⟨h1, h2⟩)).symm
            go_wp2_with fail
            go_meet
            exact ⟨HW.out, rfl⟩
          · have h3 : 48 ≤ (s[k].toNat : Int) := by omega
            have h4 : ¬ (s[k].toNat : Int) ≤ 57 := by omega
            have h5 : ((s[k].toNat : Int) == 45) = false := by rw [beq_eq_false_iff_ne]; omega
            have HW : Hid (Value.bool false = .bool (wrdB s[k])) := congrArg Value.bool (wrd_no (by omega)).symm
            go_wp2_with fail
            go_meet
            exact ⟨HW.out, rfl⟩
        · by_cases h3 : 48 ≤ (s[k].toNat : Int)
          · by_cases h4 : (s[k].toNat : Int) ≤ 57
            · have HW : Hid (Value.bool true = .bool (wrdB s[k])) := congrArg Value.bool ((wrd_iff _).2 (.inr (.inl ⟨h3, h4⟩))).symm
              go_wp2_with fail
              go_meet
              exact ⟨HW.out, rfl⟩
            · have h5 : ((s[k].toNat : Int) == 45) = false := by rw [beq_eq_false_iff_ne]; omega
              have HW : Hid (Value.bool false = .bool (wrdB s[k])) := congrArg Value.bool (wrd_no (by omega)).symm
              go_wp2_with fail
              go_meet
              exact ⟨HW.out, rfl⟩
          · by_cases h5 : (s[k].toNat : Int) = 45
            · have h5' : ((s[k].toNat : Int) == 45) = true := by rw [beq_iff_eq]; exact h5
              have HW : Hid (Value.bool true = .bool (wrdB s[k])) := congrArg Value.bool ((wrd_iff _).2 (.inr (.inr h5))).symm
              clear h5
              go_wp2_with fail
              go_meet
              exact ⟨HW.out, rfl⟩
            · have h5' : ((s[k].toNat : Int) == 45) = false := by rw [beq_eq_false_iff_ne]; exact h5
              have HW : Hid (Value.bool false = .bool (wrdB s[k])) := congrArg Value.bool (wrd_no (by omega)).symm
              go_wp2_with fail
              go_meet
              exact ⟨HW.out, rfl⟩
      case rest =>
        obtain ⟨rfl, rfl⟩ := hcut
        cases hc : wrdB s[k] with
        | true =>
          go_wp2_with fail
          go_roundw
          case rel => exact ⟨k + 1, by omega, by go_num, YES.out hc, by first | rfl | trivial⟩
          case measure => simp [intOf]; omega
        | false =>
          go_wp2_with fail
          go_ret
          exact ⟨by rw [NO.out hc]; rfl, rfl⟩
    · have hge : ¬ (k : Int) < (s.size : Int) := by omega
      have hall : s.data.toList.all wrdB = true := by
        rw [List.all_eq_true]
        have h1 := HALL.out
        rw [List.take_of_length_le (by omega)] at h1
        exact h1
      have HW : Hid (isWordR s.data.toList = (decide (1 ≤ s.size) && decide (s.size ≤ 12))) := by
        have e : isWordR s.data.toList = (decide (1 ≤ s.size) && decide (s.size ≤ 12)) := by unfold isWordR; rw [hall, hlen]; rfl
        exact e
      clear hall
      by_cases h1 : 1 ≤ s.size
      · have h1' : 1 ≤ (s.size : Int) := by omega
        by_cases h2 : s.size ≤ 12
        · have h2' : (s.size : Int) ≤ 12 := by omega
          go_wp2_with fail
          go_ret
          exact ⟨by rw [HW.out, decide_eq_true h1, decide_eq_true h2]; rfl, rfl⟩
        · have h2' : ¬ (s.size : Int) ≤ 12 := by omega
          go_wp2_with fail
          go_ret
          exact ⟨by rw [HW.out, decide_eq_true h1, decide_eq_false h2]; rfl, rfl⟩
      · have h1' : ¬ 1 ≤ (s.size : Int) := by omega
        go_wp2_with fail
        go_ret
        exact ⟨by rw [HW.out, decide_eq_false h1]; rfl, rfl⟩
theorem occ_take (s t : Bs) (i : Nat) : Lib.occAt s t i = ((s.drop i).take t.length == t) := by
  unfold Lib.occAt
  generalize s.drop i = u
  induction t generalizing u with
  | nil => simp [List.isPrefixOf]
  | cons b t ih =>
    cases u with
    | nil => rfl
    | cons c u =>
      rw [List.isPrefixOf, ih u, List.length_cons, List.take_succ_cons]
      show (b == c && _) = (c == b && _)
      rw [BEq.comm (a := b)]
      rfl
theorem ba_ext (s : Bs) (i j : Nat) : (⟨s.toArray⟩ : ByteArray).extract i j = ⟨((s.drop i).take (j - i)).toArray⟩ := by
  apply ByteArray.ext
  rw [ByteArray.data_extract]
  simp [List.extract_toArray]
set_option maxRecDepth 20000 in
set_option maxHeartbeats 4000000 in
theorem place_ref (s t : Bs) (hs : s.length ≤ 100000) (ht : t.length ≤ 1000) (ht0 : 0 < t.length) (w : World) : Calls Tryz.prog 131 #[bV s, bV t] w fun e w' => e = .returned (.int .i64 (Lib.index s t)) ∧ w' = w := by
  go_enter Tryz.func131, Tryz.ntmps131
  go_wp2_with fail
  go_loopw [5] (fun y wr => ∃ k : Nat, k ≤ s.length ∧ y = .int .i64 k ∧ (∀ j, j < k → Lib.occAt s t j = false) ∧ wr = w) (fun y _ => s.length - (intOf y).toNat)
  case atStart => exact ⟨0, Nat.zero_le _, rfl, (fun j hj => absurd hj (Nat.not_lt_zero _)), rfl⟩
  case round =>
    obtain ⟨k, hk, rfl, hall, hw⟩ := hrel
    subst hw
    have HALL : Hid (∀ j, j < k → Lib.occAt s t j = false) := hall
    clear hall
    by_cases hlt : k + t.length ≤ s.length
    · have hlt' : (k : Int) + (t.length : Int) ≤ (s.length : Int) := by omega
      have hkl : (k : Int) ≤ (k : Int) + (t.length : Int) := by omega
      have hex : (⟨s.toArray⟩ : ByteArray).extract k (k + t.length) = ⟨((s.drop k).take t.length).toArray⟩ := by rw [ba_ext, Nat.add_sub_cancel_left]
      have HO := occ_take s t k
      cases ho : ((s.drop k).take t.length == t) with
      | true =>
        rw [ho] at HO
        have HI : Hid (Lib.index s t = (k : Int)) := Lib.index_first (by omega) HO HALL.out
        clear HO
        go_wp2_with fail
        go_ret
        exact ⟨by rw [HI.out]; rfl, rfl⟩
      | false =>
        rw [ho] at HO
        have HN : Hid (∀ j, j < k + 1 → Lib.occAt s t j = false) := fun j hj => by
          by_cases e : j = k
          · subst e; exact HO
          · exact HALL.out j (by omega)
        clear HO
        go_wp2_with fail
        go_roundw
        case rel => exact ⟨k + 1, by omega, by go_num, HN.out, by first | rfl | trivial⟩
        case measure => simp [intOf]; omega
    · have hlt' : ¬ (k : Int) + (t.length : Int) ≤ (s.length : Int) := by omega
      have HI : Hid (Lib.index s t = -1) := by
        have e : Lib.index s t = -1 := by
          rcases Lib.index_spec s t with ⟨h1, -⟩ | ⟨i, h1, h2, h3, -⟩
          · exact h1
          · have hr := Lib.index_room s t (by omega)
            rw [h1] at hr
            have h9 : (i : Int) + (t.length : Int) ≤ (s.length : Int) := by simpa using hr
            have hr' : i + t.length ≤ s.length := by omega
            have h4 := HALL.out i (by omega)
            rw [h3] at h4
            cases h4
        exact e
      go_wp2_with fail
      go_ret
      exact ⟨by rw [HI.out]; rfl, rfl⟩
end Go.Proofs.YtnoecobddhmhlaaGreatDoor

namespace Go.Proofs.YtnoecobddhmhlaaGreatDoor
open Go.RowKit

/-- A rule of the document's make in memory. -/
structure R4 where
  wh : Bs
  o : Option Addr
  c : Nat
  m : List S3
  nm : Bs
  vl : Bs
def R4.rl (x : R4) : Rl := ⟨x.wh, x.nm, x.vl⟩
abbrev r4V (x : R4) : Value := .agg #[bV x.wh, .slice x.o x.m.length x.c, bV x.nm, bV x.vl]
/-- The steps of a rule in memory. -/
structure StIn (W : World) (x : R4) : Prop where
  s : S3At W x.o x.m
  w : WsOf W x.m
  t : Mt x.m (lnk x.wh)
  k : ∀ a, x.o = some a → ∃ cur, W.heap[a.block]? = some (.cells cur 133 (0, 0))
  b : WsB W x.m
  l : x.m.length ≤ 5
theorem StIn.below {w w' : World} {x : R4} (h : StIn w x) (hb : Below w.heap.size w w') : StIn w' x :=
  ⟨h.s.below hb, h.w.below hb, h.t, fun a ha => by
    obtain ⟨cur, hc⟩ := h.k a ha
    exact ⟨cur, (hb.block _ (heapD_lt hc)).trans hc⟩, h.b.below hb, h.l⟩
theorem StIn.turn {w w' : World} {x : R4} (h : StIn w x) (hk : ∀ (g : Nat), (∃ (cur : Array Value) (t : TypeId), w.heap[g]? = some (Obj.cells cur t (0, 0)) ∧ t ≠ 158) → w'.heap[g]? = w.heap[g]?) : StIn w' x := by
  have k1 : ∀ a, x.o = some a → w'.heap[a.block]? = w.heap[a.block]? := fun a ha => by
    obtain ⟨cur, hc⟩ := h.k a ha
    exact hk _ ⟨cur, _, hc, by decide⟩
  have k2 : ∀ y ∈ x.m, ∀ a, y.o = some a → w'.heap[a.block]? = w.heap[a.block]? := fun y hy a ha => by
    obtain ⟨cur, hc⟩ := h.b y hy a ha
    exact hk _ ⟨cur, _, hc, by decide⟩
  refine ⟨fun i y hy => ?_, fun y hy i q hq => ?_, h.t, fun a ha => ?_, fun y hy a ha => ?_, h.l⟩
  · obtain ⟨b, off, h1, h2, h3, h4⟩ := h.s i y hy
    have e : w'.heap[b]? = w.heap[b]? := k1 _ h1
    exact ⟨b, off, h1, (World.cell?_of_block (a := ⟨b, _, none⟩) e).trans h2, (World.cell?_of_block (a := ⟨b, _, none⟩) e).trans h3, (World.cell?_of_block (a := ⟨b, _, none⟩) e).trans h4⟩
  · obtain ⟨b, off, h1, h2⟩ := h.w y hy i q hq
    have e : w'.heap[b]? = w.heap[b]? := k2 y hy _ h1
    exact ⟨b, off, h1, (World.cell?_of_block (a := ⟨b, _, none⟩) e).trans h2⟩
  · obtain ⟨cur, hc⟩ := h.k a ha
    exact ⟨cur, (k1 a ha).trans hc⟩
  · obtain ⟨cur, hc⟩ := h.b y hy a ha
    exact ⟨cur, (k2 y hy a ha).trans hc⟩
/-- What ruleOf answers. -/
def RuleV (W : World) (v : Value) (s : Bs) : Prop := match ruleR s with
  | none => ∃ s0 o n c s2 s3, v = .tuple #[.agg #[.string s0, .slice o n c, .string s2, .string s3], .bool false]
  | some q => ∃ x : R4, v = .tuple #[r4V x, .bool true] ∧ x.rl = q ∧ StIn W x
theorem set4R {w : World} {b : Nat} {x0 x1 x2 x3 : Value} {t : TypeId} (h : w.heap[b]? = some (.cells #[x0, x1, x2, x3] t)) (u0 u1 u2 u3 : Value) : ((((w.setCell ⟨b, 0, none⟩ u0).setCell ⟨b, 1, none⟩ u1).setCell ⟨b, 2, none⟩ u2).setCell ⟨b, 3, none⟩ u3).heap[b]? = some (.cells #[u0, u1, u2, u3] t) := by
  have h1 := heap_setCell_same w b 0 _ _ u0 h
  have h2 := heap_setCell_same _ b 1 _ _ u1 h1
  have h3 := heap_setCell_same _ b 2 _ _ u2 h2
  have h4 := heap_setCell_same _ b 3 _ _ u3 h3
  rw [h4]
  rfl
structure Cel4 (w : World) (b : Nat) (x0 x1 x2 x3 : Value) : Prop where
  c0 : w.cell? ⟨b, 0, none⟩ = some x0
  c1 : w.cell? ⟨b, 1, none⟩ = some x1
  c2 : w.cell? ⟨b, 2, none⟩ = some x2
  c3 : w.cell? ⟨b, 3, none⟩ = some x3
  f0 : w.frozen? ⟨b, 0, none⟩ = false
  f1 : w.frozen? ⟨b, 1, none⟩ = false
  f2 : w.frozen? ⟨b, 2, none⟩ = false
  f3 : w.frozen? ⟨b, 3, none⟩ = false
theorem Cel4.of {w : World} {b : Nat} {x0 x1 x2 x3 : Value} {t : TypeId} (h : w.heap[b]? = some (.cells #[x0, x1, x2, x3] t)) : Cel4 w b x0 x1 x2 x3 := by
  have fz : ∀ j, w.frozen? ⟨b, j, none⟩ = false := fun j => froz_at h j
  exact ⟨by simp [World.cell?, h], by simp [World.cell?, h], by simp [World.cell?, h], by simp [World.cell?, h], fz 0, fz 1, fz 2, fz 3⟩
theorem ruleR_at {s : Bs} {k : Nat} (hI : Lib.index s [32, 123, 32] = k) {rest : Bs} (hrest : s.drop (k + 3) = rest) : ruleR s = if rest.length < 2 ∨ Lib.index rest [58, 32] < 0 then none else if rest.drop (rest.length - 2) ≠ [32, 125] ∨ rest.length - 2 < (Lib.index rest [58, 32]).toNat + 2 then none else if isSelM (s.take k) && isWordR ((rest.take (rest.length - 2)).drop ((Lib.index rest [58, 32]).toNat + 2)) && isNmS (rest.take (Lib.index rest [58, 32]).toNat) then some ⟨s.take k, rest.take (Lib.index rest [58, 32]).toNat, (rest.take (rest.length - 2)).drop ((Lib.index rest [58, 32]).toNat + 2)⟩ else none := by
  unfold ruleR
  rw [hI, if_neg (by omega)]
  simp only [Int.toNat_natCast, hrest]
end Go.Proofs.YtnoecobddhmhlaaGreatDoor

namespace Go.Proofs.YtnoecobddhmhlaaGreatDoor
open Go.RowKit

set_option maxRecDepth 20000 in
set_option maxHeartbeats 16000000 in
theorem ruleOf_ref (s : Bs) (hs : s.length ≤ 20000) (w : World) : Calls Tryz.prog 95 #[bV s] w fun e W => ∃ v, e = .returned v ∧ RuleV W v s ∧ Below w.heap.size w W := by
  have b0 : Below w.heap.size w (w.alloc (.cells #[.string ⟨#[]⟩, .slice none 0 0, .string ⟨#[]⟩, .string ⟨#[]⟩] 158)) := (Below.refl _ w).alloc (Nat.le_refl _) _
  have r0 := World.alloc_heap_new w (.cells #[.string ⟨#[]⟩, .slice none 0 0, .string ⟨#[]⟩, .string ⟨#[]⟩] 158)
  have PL := fun V => place_ref s [32, 123, 32] (by omega) (by decide) (by decide) V
  go_enter Tryz.func95, Tryz.ntmps95
  go_upto_region 1 with fail
  obtain ⟨U, hU⟩ : ∃ U, w.alloc (.cells #[.string ⟨#[]⟩, .slice none 0 0, .string ⟨#[]⟩, .string ⟨#[]⟩] 158) = U := ⟨_, rfl⟩
  rw [hU] at b0 r0 ⊢
  obtain ⟨P0, hP0⟩ : ∃ P, w.heap.size = P := ⟨_, rfl⟩
  rw [hP0] at r0 b0 ⊢
  clear hU
  have HP0 : Hid (w.heap.size = P0) := hP0
  clear hP0
  obtain ⟨z0, z1, z2, z3, f0, f1, f2, f3⟩ := Cel4.of r0
  obtain ⟨I, hI⟩ : ∃ I, Lib.index s [32, 123, 32] = I := ⟨_, rfl⟩
  rw [hI] at PL
  have PLU := PL U
  by_cases hneg : I < 0
  · have HR : Hid (ruleR s = none) := by
      have e : ruleR s = none := by unfold ruleR; rw [if_pos (by rw [hI]; exact hneg)]
      exact e
    have r1 := set4R r0 (.string ⟨#[]⟩) (.slice none 0 0) (.string ⟨#[]⟩) (.string ⟨#[]⟩)
    have b1 : Below P0 w ((((U.setCell ⟨P0, 0, none⟩ (.string ⟨#[]⟩)).setCell ⟨P0, 1, none⟩ (.slice none 0 0)).setCell ⟨P0, 2, none⟩ (.string ⟨#[]⟩)).setCell ⟨P0, 3, none⟩ (.string ⟨#[]⟩)) := (((b0.setCell (p := ⟨P0, 0, none⟩) (Nat.le_refl _) _).setCell (p := ⟨P0, 1, none⟩) (Nat.le_refl _) _).setCell (p := ⟨P0, 2, none⟩) (Nat.le_refl _) _).setCell (p := ⟨P0, 3, none⟩) (Nat.le_refl _) _
    clear hI
    go_wp2_with (go_at_call 131; refine PLU.mono ?_; rintro e w1 ⟨rfl, rfl⟩)
    obtain ⟨t0, t1, t2, t3, -, -, -, -⟩ := Cel4.of r1
    refine bodyPost_ret (v := .tuple #[.agg #[.string ⟨#[]⟩, .slice none 0 0, .string ⟨#[]⟩, .string ⟨#[]⟩], .bool false]) (by simp [results, Tryz.results95, go_sem, t0, t1, t2, t3]) rfl ?_
    refine ⟨_, rfl, ?_, by rw [HP0.out]; exact b1⟩
    unfold RuleV
    rw [HR.out]
    exact ⟨_, _, _, _, _, _, rfl⟩
  · obtain ⟨k, rfl⟩ : ∃ k : Nat, I = k := ⟨I.toNat, by omega⟩
    have hroom := Lib.index_room s [32, 123, 32] (by rw [hI]; omega)
    rw [hI] at hroom
    have hk3 : k + 3 ≤ s.length := by
      have h9 : (k : Int) + 3 ≤ (s.length : Int) := by simpa using hroom
      omega
    obtain ⟨rest, hrest⟩ : ∃ rest, s.drop (k + 3) = rest := ⟨_, rfl⟩
    have hRA := ruleR_at hI hrest
    have hrl : rest.length = s.length - (k + 3) := by rw [← hrest, List.length_drop]
    obtain ⟨K3, hK3⟩ : ∃ K : Nat, k + 3 = K := ⟨_, rfl⟩
    have hK3' : (k : Int) + 3 = (K3 : Int) := by omega
    have hK3l : (K3 : Int) ≤ (s.length : Int) := by omega
    have hex1 : (⟨s.toArray⟩ : ByteArray).extract K3 s.length = ⟨rest.toArray⟩ := by
      rw [ba_ext, ← hK3, hrest, ← hrl, List.take_length]
    have PL2 := place_ref rest [58, 32] (by omega) (by decide) (by decide) U
    obtain ⟨J, hJ⟩ : ∃ J, Lib.index rest [58, 32] = J := ⟨_, rfl⟩
    rw [hJ] at PL2 hRA
    have hnk : ¬ (k : Int) < 0 := by omega
    have hrl2 : rest.length ≤ 20000 := by omega
    have HRA : Hid (ruleR s = if rest.length < 2 ∨ J < 0 then none else if rest.drop (rest.length - 2) ≠ [32, 125] ∨ rest.length - 2 < J.toNat + 2 then none else if isSelM (s.take k) && isWordR ((rest.take (rest.length - 2)).drop (J.toNat + 2)) && isNmS (rest.take J.toNat) then some ⟨s.take k, rest.take J.toNat, (rest.take (rest.length - 2)).drop (J.toNat + 2)⟩ else none) := hRA
    have r1 := set4R r0 (.string ⟨#[]⟩) (.slice none 0 0) (.string ⟨#[]⟩) (.string ⟨#[]⟩)
    have b1 : Below P0 w ((((U.setCell ⟨P0, 0, none⟩ (.string ⟨#[]⟩)).setCell ⟨P0, 1, none⟩ (.slice none 0 0)).setCell ⟨P0, 2, none⟩ (.string ⟨#[]⟩)).setCell ⟨P0, 3, none⟩ (.string ⟨#[]⟩)) := (((b0.setCell (p := ⟨P0, 0, none⟩) (Nat.le_refl _) _).setCell (p := ⟨P0, 1, none⟩) (Nat.le_refl _) _).setCell (p := ⟨P0, 2, none⟩) (Nat.le_refl _) _).setCell (p := ⟨P0, 3, none⟩) (Nat.le_refl _) _
    obtain ⟨t0, t1, t2, t3, -, -, -, -⟩ := Cel4.of r1
    clear hI hRA PL hroom hK3 hrest hneg hrl
    go_upto_region 5 with (go_at_call 131; refine PLU.mono ?_; rintro e w1 ⟨rfl, rfl⟩)
    clear PLU
    by_cases hsh : rest.length < 2
    · have hsh' : (rest.length : Int) < 2 := by omega
      have HR : Hid (ruleR s = none) := by
        have e : ruleR s = none := by rw [HRA.out, if_pos (.inl hsh)]
        exact e
      go_wp2_with (go_at_call 131; refine PL2.mono ?_; rintro e w1 ⟨rfl, rfl⟩)
      refine bodyPost_ret (v := .tuple #[.agg #[.string ⟨#[]⟩, .slice none 0 0, .string ⟨#[]⟩, .string ⟨#[]⟩], .bool false]) (by simp [results, Tryz.results95, go_sem, t0, t1, t2, t3]) rfl ?_
      refine ⟨_, rfl, ?_, by rw [HP0.out]; exact b1⟩
      unfold RuleV
      rw [HR.out]
      exact ⟨_, _, _, _, _, _, rfl⟩
    by_cases hJn : J < 0
    · have hsh' : ¬ (rest.length : Int) < 2 := by omega
      have HR : Hid (ruleR s = none) := by
        have e : ruleR s = none := by rw [HRA.out, if_pos (.inr hJn)]
        exact e
      clear hJ
      go_wp2_with (go_at_call 131; refine PL2.mono ?_; rintro e w1 ⟨rfl, rfl⟩)
      refine bodyPost_ret (v := .tuple #[.agg #[.string ⟨#[]⟩, .slice none 0 0, .string ⟨#[]⟩, .string ⟨#[]⟩], .bool false]) (by simp [results, Tryz.results95, go_sem, t0, t1, t2, t3]) rfl ?_
      refine ⟨_, rfl, ?_, by rw [HP0.out]; exact b1⟩
      unfold RuleV
      rw [HR.out]
      exact ⟨_, _, _, _, _, _, rfl⟩
    obtain ⟨j, rfl⟩ : ∃ j : Nat, J = j := ⟨J.toNat, by omega⟩
    have hjroom := Lib.index_room rest [58, 32] (by rw [hJ]; omega)
    rw [hJ] at hjroom
    have hj2 : j + 2 ≤ rest.length := by
      have h9 : (j : Int) + 2 ≤ (rest.length : Int) := by simpa using hjroom
      omega
    have hsh' : ¬ (rest.length : Int) < 2 := by omega
    have hJn' : ¬ (j : Int) < 0 := by omega
    obtain ⟨N2, hN2⟩ : ∃ N : Nat, rest.length - 2 = N := ⟨_, rfl⟩
    have hN2' : (rest.length : Int) - 2 = (N2 : Int) := by omega
    have hN2l : (N2 : Int) ≤ (rest.length : Int) := by omega
    have hex2 : (⟨rest.toArray⟩ : ByteArray).extract N2 rest.length = ⟨(rest.drop N2).toArray⟩ := by
      rw [ba_ext, List.take_of_length_le (by rw [List.length_drop]; exact Nat.le_refl _)]
    obtain ⟨J2, hJ2⟩ : ∃ N : Nat, j + 2 = N := ⟨_, rfl⟩
    have hJ2' : (j : Int) + 2 = (J2 : Int) := by omega
    have HRB : Hid (ruleR s = if rest.drop N2 ≠ [32, 125] ∨ N2 < J2 then none else if isSelM (s.take k) && isWordR ((rest.take N2).drop J2) && isNmS (rest.take j) then some ⟨s.take k, rest.take j, (rest.take N2).drop J2⟩ else none) := by
      have e := HRA.out
      rw [if_neg (by omega), Int.toNat_natCast, hN2, hJ2] at e
      exact e
    have hJ2r : J2 ≤ rest.length := by omega
    have hjr : j ≤ rest.length := by omega
    have hN2n : N2 ≤ rest.length := by omega
    clear HRA hJ hjroom hN2 hJ2 hj2 hJn hsh
    by_cases he : rest.drop N2 = [32, 125]
    · have heb : (rest.drop N2 == [32, 125]) = true := by rw [he]; rfl
      by_cases hv : N2 < J2
      · have hv' : (N2 : Int) < (J2 : Int) := by omega
        have HR : Hid (ruleR s = none) := by
          have e : ruleR s = none := by rw [HRB.out, if_pos (.inr hv)]
          exact e
        clear he
        go_wp2_with (go_at_call 131; refine PL2.mono ?_; rintro e w1 ⟨rfl, rfl⟩)
        refine bodyPost_ret (v := .tuple #[.agg #[.string ⟨#[]⟩, .slice none 0 0, .string ⟨#[]⟩, .string ⟨#[]⟩], .bool false]) (by simp [results, Tryz.results95, go_sem, t0, t1, t2, t3]) rfl ?_
        refine ⟨_, rfl, ?_, by rw [HP0.out]; exact b1⟩
        unfold RuleV
        rw [HR.out]
        exact ⟨_, _, _, _, _, _, rfl⟩
      · have hv' : ¬ (N2 : Int) < (J2 : Int) := by omega
        have hv2 : (J2 : Int) ≤ (N2 : Int) := by omega
        have HRC : Hid (ruleR s = if isSelM (s.take k) && isWordR ((rest.take N2).drop J2) && isNmS (rest.take j) then some ⟨s.take k, rest.take j, (rest.take N2).drop J2⟩ else none) := by
          have e := HRB.out
          rw [if_neg (by rw [not_or]; exact ⟨fun h => h he, hv⟩)] at e
          exact e
        obtain ⟨vl, hvl⟩ : ∃ v, (rest.take N2).drop J2 = v := ⟨_, rfl⟩
        obtain ⟨wh, hwh⟩ : ∃ v, s.take k = v := ⟨_, rfl⟩
        obtain ⟨nm, hnm⟩ : ∃ v, rest.take j = v := ⟨_, rfl⟩
        have hex3 : (⟨rest.toArray⟩ : ByteArray).extract J2 N2 = ⟨vl.toArray⟩ := by rw [ba_ext, ← hvl, List.drop_take]
        have hex4 : (⟨s.toArray⟩ : ByteArray).extract 0 k = ⟨wh.toArray⟩ := by rw [ba_ext, ← hwh, List.drop_zero, Nat.sub_zero]
        have hex5 : (⟨rest.toArray⟩ : ByteArray).extract 0 j = ⟨nm.toArray⟩ := by rw [ba_ext, ← hnm, List.drop_zero, Nat.sub_zero]
        rw [hvl, hwh, hnm] at HRC
        have hvll : vl.length ≤ 20000 := by rw [← hvl, List.length_drop, List.length_take]; omega
        have hwhl : wh.length ≤ 20000 := by rw [← hwh, List.length_take]; omega
        have hks : (k : Int) ≤ (s.length : Int) := by omega
        have hjr' : (j : Int) ≤ (rest.length : Int) := by omega
        clear hvl hwh hnm he HRB
        have IW := fun V => isWord_ref ⟨vl.toArray⟩ (by rw [ba_size]; omega) V
        have esd2 : (⟨vl.toArray⟩ : ByteArray).data.toList = vl := by simp
        rw [esd2] at IW
        clear esd2
        go_upto_region 11 with (go_at_call 131; refine PL2.mono ?_; rintro e w1 ⟨rfl, rfl⟩)
        have SO := StepsOf_any ⟨wh.toArray⟩ w1 (by rw [ba_size]; omega)
        have esd : (⟨wh.toArray⟩ : ByteArray).data.toList = wh := by simp
        rw [esd] at SO
        clear esd
        have SO2 : Calls Tryz.prog 28 #[.string ⟨wh.toArray⟩] w1 fun e X => (∃ o n c, e = .returned (.tuple #[.slice o n c, .bool (isSelM wh)]) ∧ (isSelM wh = true → ∃ m, n = m.length ∧ StIn X ⟨wh, o, c, m, nm, vl⟩)) ∧ Below w1.heap.size w1 X := SO.mono (by
          rintro e X ⟨v, rfl, hv, hb⟩
          cases hq : sR true (pcs wh) with
          | none =>
            rw [hq] at hv
            obtain ⟨o, n, c, rfl⟩ := hv
            have hns : isSelM wh = false := by
              cases hs' : isSelM wh with
              | false => rfl
              | true =>
                obtain ⟨l, hl, -⟩ := (sel_iff wh).1 hs'
                rw [hq] at hl
                cases hl
            rw [hns]
            exact ⟨⟨o, n, c, rfl, fun h => by cases h⟩, hb⟩
          | some l =>
            rw [hq] at hv
            obtain ⟨r, m, rfl, h1, h2, h3, h4⟩ := hv
            obtain ⟨o, c, rfl, h5⟩ := S3At.of h1
            have hiff : decide (l.length ≤ 5) = isSelM wh := by
              cases hs' : isSelM wh with
              | true =>
                obtain ⟨l', hl, h6⟩ := (sel_iff wh).1 hs'
                rw [hq] at hl
                injection hl with hl
                subst hl
                exact decide_eq_true h6
              | false =>
                refine decide_eq_false fun h6 => ?_
                rw [(sel_iff wh).2 ⟨l, hq, h6⟩] at hs'
                cases hs'
            rw [hiff]
            refine ⟨⟨o, m.length, c, rfl, fun hs' => ⟨m, rfl, h5, h2, ?_, ?_, h4, ?_⟩⟩, hb⟩
            · rw [← (sel_steps hq).1]; exact h3
            · intro a ha
              rcases h1.2 with ⟨h7, -⟩ | ⟨g, cc, cur, h7, -, h8, -⟩
              · injection h7 with h7
                rw [h7] at ha
                cases ha
              · injection h7 with h7
                have ha' : o = some a := ha
                rw [h7] at ha'
                cases ha'
                exact ⟨cur, h8⟩
            · rw [hs'] at hiff
              have := h3.len
              have := of_decide_eq_true hiff
              show m.length ≤ 5
              omega)
        clear SO
        go_upto_region 13 with (first | (go_at_call 28; refine SO2.mono ?_; rintro e w2 ⟨⟨o, n, c, rfl, hSt⟩, b2⟩) | (go_at_call 132; refine (IW _).mono ?_; rintro e w3 ⟨rfl, rfl⟩))
        clear SO2 IW PL2
        have HST : Hid (isSelM wh = true → ∃ m, n = m.length ∧ StIn w3 ⟨wh, o, c, m, nm, vl⟩) := hSt
        clear hSt t0 t1 t2 t3 r1 b1 z0 z1 z2 z3 f0 f1 f2 f3
        have bw3 : Below P0 w w3 := b0.trans (b2.mono (by have := heapD_lt r0; omega))
        have r3 := (b2.block P0 (heapD_lt r0)).trans r0
        go_cut [11] from 12 to 81 (fun p wx => p = .pointer (some ⟨w3.heap.size, 0, none⟩) ∧ wx = w3.drew.alloc (.cells #[bV wh, .slice o n c, bV nm, bV vl] 158))
        case first =>
          go_region
          all_goals
            go_wp2_with fail
            go_meet
            exact ⟨rfl, rfl⟩
        case rest =>
          obtain ⟨rfl, rfl⟩ := hcut
          have b4 : Below w3.heap.size w3 (w3.drew.alloc (.cells #[bV wh, .slice o n c, bV nm, bV vl] 158)) := (Below.refl _ w3).drew.alloc (Nat.le_refl _) _
          have r4 : (w3.drew.alloc (.cells #[bV wh, .slice o n c, bV nm, bV vl] 158)).heap[w3.heap.size]? = some (.cells #[bV wh, .slice o n c, bV nm, bV vl] 158) := World.alloc_heap_new w3.drew _
          obtain ⟨U3, hU3⟩ : ∃ U, w3.drew.alloc (.cells #[bV wh, .slice o n c, bV nm, bV vl] 158) = U := ⟨_, rfl⟩
          rw [hU3] at b4 r4 ⊢
          obtain ⟨PR, hPR⟩ : ∃ P, w3.heap.size = P := ⟨_, rfl⟩
          rw [hPR] at r4 ⊢
          have r5 := (b4.block P0 (heapD_lt r3)).trans r3
          have bw4 : Below P0 w U3 := bw3.trans (b4.mono (by have := heapD_lt r3; omega))
          have hne : PR ≠ P0 := by have := heapD_lt r3; omega
          clear hU3 hPR
          obtain ⟨z0, z1, z2, z3, f0, f1, f2, f3⟩ := Cel4.of r5
          obtain ⟨y0, y1, y2, y3, -, -, -, -⟩ := Cel4.of r4
          have r6 := set4R (w := U3) r5 (bV wh) (.slice o n c) (bV nm) (bV vl)
          have b6 : Below P0 w ((((U3.setCell ⟨P0, 0, none⟩ (bV wh)).setCell ⟨P0, 1, none⟩ (.slice o n c)).setCell ⟨P0, 2, none⟩ (bV nm)).setCell ⟨P0, 3, none⟩ (bV vl)).drew := ((((bw4.setCell (p := ⟨P0, 0, none⟩) (Nat.le_refl _) _).setCell (p := ⟨P0, 1, none⟩) (Nat.le_refl _) _).setCell (p := ⟨P0, 2, none⟩) (Nat.le_refl _) _).setCell (p := ⟨P0, 3, none⟩) (Nat.le_refl _) _).drew
          obtain ⟨t0, t1, t2, t3, -, -, -, -⟩ := Cel4.of (w := ((((U3.setCell ⟨P0, 0, none⟩ (bV wh)).setCell ⟨P0, 1, none⟩ (.slice o n c)).setCell ⟨P0, 2, none⟩ (bV nm)).setCell ⟨P0, 3, none⟩ (bV vl)).drew) r6
          have FIN : ∀ bo, (isSelM wh && isWordR vl && isNmS nm) = bo → RuleV ((((U3.setCell ⟨P0, 0, none⟩ (bV wh)).setCell ⟨P0, 1, none⟩ (.slice o n c)).setCell ⟨P0, 2, none⟩ (bV nm)).setCell ⟨P0, 3, none⟩ (bV vl)).drew (.tuple #[.agg #[bV wh, .slice o n c, bV nm, bV vl], .bool bo]) s := fun bo hbo => by
            unfold RuleV
            rw [HRC.out, hbo]
            cases bo with
            | false => exact ⟨_, _, _, _, _, _, rfl⟩
            | true =>
              simp only [Bool.and_eq_true] at hbo
              obtain ⟨m, rfl, hst⟩ := HST.out hbo.1.1
              refine ⟨⟨wh, o, c, m, nm, vl⟩, rfl, rfl, ?_⟩
              have h8 := hst.below b4
              have key : ∀ (g : Nat), (∃ (cur : Array Value) (t : TypeId), U3.heap[g]? = some (Obj.cells cur t (0, 0)) ∧ t ≠ 158) → ((((U3.setCell ⟨P0, 0, none⟩ (bV wh)).setCell ⟨P0, 1, none⟩ (.slice o m.length c)).setCell ⟨P0, 2, none⟩ (bV nm)).setCell ⟨P0, 3, none⟩ (bV vl)).drew.heap[g]? = U3.heap[g]? := fun g hg => by
                obtain ⟨cur, t, hg1, hg2⟩ := hg
                have hgP : g ≠ P0 := fun e => by
                  rw [e, r5] at hg1
                  injection hg1 with hg1
                  injection hg1 with _ hg1
                  exact hg2 hg1.symm
                show ((((U3.setCell ⟨P0, 0, none⟩ (bV wh)).setCell ⟨P0, 1, none⟩ (.slice o m.length c)).setCell ⟨P0, 2, none⟩ (bV nm)).setCell ⟨P0, 3, none⟩ (bV vl)).heap[g]? = U3.heap[g]?
                rw [Below.heap_setCell _ ⟨P0, 3, none⟩ _ g hgP, Below.heap_setCell _ ⟨P0, 2, none⟩ _ g hgP, Below.heap_setCell _ ⟨P0, 1, none⟩ _ g hgP, Below.heap_setCell _ ⟨P0, 0, none⟩ _ g hgP]
              exact h8.turn key
          have HFIN : Hid (∀ bo, (isSelM wh && isWordR vl && isNmS nm) = bo → RuleV ((((U3.setCell ⟨P0, 0, none⟩ (bV wh)).setCell ⟨P0, 1, none⟩ (.slice o n c)).setCell ⟨P0, 2, none⟩ (bV nm)).setCell ⟨P0, 3, none⟩ (bV vl)).drew (.tuple #[.agg #[bV wh, .slice o n c, bV nm, bV vl], .bool bo]) s) := FIN
          clear FIN HRC HST b2 b4 r6 r4 r5
          go_upto_region 14 with fail
          cases hsel : isSelM wh with
          | false =>
            go_region
            all_goals
              go_wp2_with fail
              refine bodyPost_ret (v := .tuple #[.agg #[bV wh, .slice o n c, bV nm, bV vl], .bool false]) (by simp [results, Tryz.results95, go_sem, t0, t1, t2, t3]) rfl ?_
              exact ⟨_, rfl, HFIN.out false (by rw [hsel]; rfl), by rw [HP0.out]; exact b6⟩
          | true =>
            cases hword : isWordR vl with
            | false =>
              go_region
              all_goals
                go_wp2_with fail
                refine bodyPost_ret (v := .tuple #[.agg #[bV wh, .slice o n c, bV nm, bV vl], .bool false]) (by simp [results, Tryz.results95, go_sem, t0, t1, t2, t3]) rfl ?_
                exact ⟨_, rfl, HFIN.out false (by rw [hsel, hword]; rfl), by rw [HP0.out]; exact b6⟩
            | true =>
              have hfe : List.isEmpty (firstM nm) = !isNmS nm := by
                unfold isNmS
                cases firstM nm <;> rfl
              have FO := fun V => firstOf_ref nm V
              obtain ⟨bn, hbn⟩ : ∃ b, isNmS nm = b := ⟨_, rfl⟩
              rw [hbn] at hfe
              have HBN : Hid ((isSelM wh && isWordR vl && isNmS nm) = bn) := by
                have e : (isSelM wh && isWordR vl && isNmS nm) = bn := by rw [hsel, hword, hbn]; rfl
                exact e
              clear hbn
              cases bn with
              | true =>
                go_region_law (go_simp; go_wp2_with (go_at_call 100; refine (FO _).mono ?_; rintro e w9 ⟨rfl, rfl⟩))
                all_goals
                  go_wp2_with fail
                  refine bodyPost_ret (v := .tuple #[.agg #[bV wh, .slice o n c, bV nm, bV vl], .bool true]) (by simp [results, Tryz.results95, go_sem, t0, t1, t2, t3]) rfl ?_
                  exact ⟨_, rfl, HFIN.out true HBN.out, by rw [HP0.out]; exact b6⟩
              | false =>
                go_region_law (go_simp; go_wp2_with (go_at_call 100; refine (FO _).mono ?_; rintro e w9 ⟨rfl, rfl⟩))
                all_goals
                  go_wp2_with fail
                  refine bodyPost_ret (v := .tuple #[.agg #[bV wh, .slice o n c, bV nm, bV vl], .bool false]) (by simp [results, Tryz.results95, go_sem, t0, t1, t2, t3]) rfl ?_
                  exact ⟨_, rfl, HFIN.out false HBN.out, by rw [HP0.out]; exact b6⟩
    · have heb : (rest.drop N2 == [32, 125]) = false := by simpa using he
      have HR : Hid (ruleR s = none) := by
        have e : ruleR s = none := by rw [HRB.out, if_pos (.inl he)]
        exact e
      clear he
      go_wp2_with (go_at_call 131; refine PL2.mono ?_; rintro e w1 ⟨rfl, rfl⟩)
      refine bodyPost_ret (v := .tuple #[.agg #[.string ⟨#[]⟩, .slice none 0 0, .string ⟨#[]⟩, .string ⟨#[]⟩], .bool false]) (by simp [results, Tryz.results95, go_sem, t0, t1, t2, t3]) rfl ?_
      refine ⟨_, rfl, ?_, by rw [HP0.out]; exact b1⟩
      unfold RuleV
      rw [HR.out]
      exact ⟨_, _, _, _, _, _, rfl⟩
end Go.Proofs.YtnoecobddhmhlaaGreatDoor

/-
  The document's Cut (leadlightref1), walked: a text cut by a byte, for every text that is not too long; into how many pieces (for PickWeighs).
-/
import Derived.Test.YtnoecobddhmhlaaGreatDoorJ3
import Derived.OwnWalk
import Derived.Maps.AppendAt
import Derived.Deep.Cut
import Derived.Deep.CutRange
namespace Go.Proofs.YtnoecobddhmhlaaGreatDoor
open Go.RowKit

theorem len_eq (s : ByteArray) : s.data.toList.length = s.size := by rw [Array.length_toList]; rfl

/-- the pieces of a text between such bytes -/
def pieces (c : UInt8) : List UInt8 → List (List UInt8)
  | [] => [[]]
  | b :: l => if b = c then [] :: pieces c l else match pieces c l with
    | [] => [[b]]
    | p :: ps => (b :: p) :: ps
theorem pieces_none {c : UInt8} : ∀ {x : List UInt8}, (∀ b ∈ x, b ≠ c) → pieces c x = [x]
  | [], _ => rfl
  | b :: l, h => by
    have h1 := pieces_none (c := c) (x := l) (fun b' hb => h b' (List.mem_cons_of_mem _ hb))
    unfold pieces
    rw [if_neg (h b (List.mem_cons_self ..)), h1]
theorem pieces_cut {c : UInt8} {y : List UInt8} : ∀ {x : List UInt8}, (∀ b ∈ x, b ≠ c) → pieces c (x ++ c :: y) = x :: pieces c y
  | [], _ => by simp [pieces]
  | b :: l, h => by
    have h1 := pieces_cut (c := c) (y := y) (x := l) (fun b' hb => h b' (List.mem_cons_of_mem _ hb))
    rw [List.cons_append]
    show (if b = c then [] :: pieces c (l ++ c :: y) else match pieces c (l ++ c :: y) with | [] => [[b]] | p :: ps => (b :: p) :: ps) = _
    rw [if_neg (h b (List.mem_cons_self ..)), h1]

def strs (ps : List (List UInt8)) : List Value := ps.map fun p => .string ⟨p.toArray⟩
theorem infoStr : (Tryz.prog.info? 9).map (fun i => (i.zero, i.size, i.bytes)) = some (some (.string ByteArray.empty), 1, 16) := by kernel_rfl

/-- what the loop holds: the pieces so far, and that none has been passed by -/
structure CutRel (c : UInt8) (s : ByteArray) (done : List (List UInt8)) (from_ k : Nat) : Prop where
  all : pieces c s.data.toList = done ++ pieces c (s.data.toList.drop from_)
  le : from_ ≤ k
  none : ∀ b ∈ (s.data.toList.drop from_).take (k - from_), b ≠ c
  few : done.length ≤ from_
theorem CutRel.start (c : UInt8) (s : ByteArray) : CutRel c s [] 0 0 := ⟨by simp, Nat.le_refl _, by simp, Nat.le_refl _⟩
theorem piece_split {s : ByteArray} {from_ k : Nat} (hk : k < s.size) (hf : from_ ≤ k) : s.data.toList.drop from_ = (s.data.toList.drop from_).take (k - from_) ++ s[k] :: s.data.toList.drop (k + 1) := by
  have e : (s.data.toList.drop from_).drop (k - from_) = s[k] :: s.data.toList.drop (k + 1) := by
    rw [List.drop_drop, show from_ + (k - from_) = k by omega, List.drop_eq_getElem_cons (by rw [len_eq]; exact hk)]
    rfl
  rw [← e, List.take_append_drop]
theorem CutRel.hit {c : UInt8} {s : ByteArray} {done : List (List UInt8)} {from_ k : Nat} (h : CutRel c s done from_ k) (hk : k < s.size) (hc : s[k] = c) :
    CutRel c s (done ++ [(s.extract from_ k).data.toList]) (k + 1) (k + 1) := by
  have e : (s.extract from_ k).data.toList = (s.data.toList.drop from_).take (k - from_) := Lib.extract_data s from_ k
  refine ⟨?_, Nat.le_refl _, by simp, ?_⟩
  · have hs := piece_split hk h.le
    rw [hc] at hs
    rw [h.all, hs, pieces_cut h.none, e, List.append_assoc]
    rfl
  · have := h.few
    have := h.le
    simp
    omega
theorem CutRel.miss {c : UInt8} {s : ByteArray} {done : List (List UInt8)} {from_ k : Nat} (h : CutRel c s done from_ k) (hk : k < s.size) (hc : s[k] ≠ c) : CutRel c s done from_ (k + 1) := by
  refine ⟨h.all, Nat.le_succ_of_le h.le, ?_, h.few⟩
  have e : (s.data.toList.drop from_).take (k + 1 - from_) = (s.data.toList.drop from_).take (k - from_) ++ [s[k]] := by
    have hs := piece_split hk h.le
    have hl : ((s.data.toList.drop from_).take (k - from_)).length = k - from_ := by rw [List.length_take, List.length_drop, len_eq]; have := h.le; omega
    conv => lhs; rw [hs]
    rw [List.take_append, hl, List.take_of_length_le (by rw [hl]; omega), show k + 1 - from_ - (k - from_) = 1 by have := h.le; omega]
    rfl
  rw [e]
  intro b hb
  rcases List.mem_append.1 hb with hb | hb
  · exact h.none b hb
  · rw [List.mem_singleton.1 hb]; exact hc
theorem CutRel.fin {c : UInt8} {s : ByteArray} {done : List (List UInt8)} {from_ : Nat} (h : CutRel c s done from_ s.size) : done ++ [(s.extract from_ s.size).data.toList] = pieces c s.data.toList := by
  have e : (s.extract from_ s.size).data.toList = s.data.toList.drop from_ := Lib.extract_to_end s from_
  have hn : ∀ b ∈ s.data.toList.drop from_, b ≠ c := by
    have := h.none
    rwa [List.take_of_length_le (by rw [List.length_drop, len_eq]; exact Nat.le_refl _)] at this
  rw [h.all, pieces_none hn, e]
theorem strs_snoc (ps : List (List UInt8)) (t : ByteArray) : strs (ps ++ [t.data.toList]) = strs ps ++ [.string t] := by
  have : (⟨t.data.toList.toArray⟩ : ByteArray) = t := by cases t; simp
  simp [strs, this]
theorem byte_eq {a b : UInt8} (h : (a.toNat : Int) = b.toNat) : a = b := UInt8.toNat_inj.1 (by omega)

theorem own_ge {w : World} {base : Nat} {e : TypeId} {size : Nat} {v : Value} {n : Nat} {xs : List Value} (h : w.ownsRow base e size v n xs) : ∀ k, v.ownBlock = some k → base ≤ k := by
  obtain ⟨_, h2⟩ := h
  rcases h2 with ⟨rfl, _⟩ | ⟨g, cap, cur, rfl, hg, _⟩
  · intro k hk; cases hk
  · intro k hk
    cases hk
    exact hg
theorem own_snoc {w : World} {base : Nat} {e : TypeId} {v : Value} {done : List (List UInt8)} {t : ByteArray} (h : w.ownsRow base e 1 v (done.length + 1) (strs done ++ [.string t])) : w.ownsRow base e 1 v (done ++ [t.data.toList]).length (strs (done ++ [t.data.toList])) := by
  rw [strs_snoc, List.length_append]; exact h

set_option maxRecDepth 20000 in
set_option maxHeartbeats 4000000 in
theorem Cut_ref (s : ByteArray) (c : UInt8) (w : World) (hm : s.size ≤ 1000000) :
    Calls Tryz.prog 80 #[.string s, .int .u8 c.toNat] w fun e w' => ∃ v, e = .returned v ∧ w'.ownsRow w.heap.size 9 1 v (pieces c s.data.toList).length (strs (pieces c s.data.toList)) ∧ Below w.heap.size w w' := by
  obtain ⟨i0, hi, hz0, hz1, hz2⟩ := info_parts infoStr
  go_enter Tryz.func80, Tryz.ntmps80
  go_wp2
  go_loopw [5, 6, 7] (fun v x y wr => ∃ (done : List (List UInt8)) (from_ k : Nat), k ≤ s.size ∧ x = .int .i64 from_ ∧ y = .int .i64 k ∧ CutRel c s done from_ k ∧ wr.ownsRow w.heap.size 9 1 v done.length (strs done) ∧ Below w.heap.size w wr) (fun _ _ y _ => s.size - (intOf y).toNat)
  case atStart => exact ⟨[], 0, 0, Nat.zero_le _, rfl, rfl, CutRel.start c s, World.ownsRow_nil _ _ _ _, Below.refl _ _⟩
  case round =>
    obtain ⟨done, from_, k, hk, rfl, rfl, hrel', hown, hb⟩ := hrel
    have HC : Hid (CutRel c s done from_ k) := hrel'
    have HO : Hid (wr.ownsRow w.heap.size 9 1 u5 done.length (strs done)) := hown
    have hf1 := hrel'.le
    have hf2 := hrel'.few
    have hwz := hb.size
    clear hrel' hown
    by_cases hlt : k < s.size
    · have hlt' : (k : Int) < (s.size : Int) := by omega
      have hf1' : (from_ : Int) ≤ (k : Int) := by omega
      by_cases hc : s[k] = c
      · have hcb : ((s[k].toNat : Int) == (c.toNat : Int)) = true := by rw [hc]; simp
        go_wp2_with (at_builtin; refine wpList_append_own _ rfl _ _ 130 rfl w.heap.size 9 i0 (.string ByteArray.empty) 1 16 Tryz.underlying130 hi hz0 hz1 hz2 rfl (by decide) _ _ _ rfl (World.ownsRow.alloc HO.out _) ⟨wr.heap.size, 0, none⟩ 1 1 [.string (s.extract from_ k)] rfl rfl (cell_one_new _ _ _) (fun x hx => by simp at hx; subst hx; rfl) (by unfold maxLen; omega) (by omega) (by simp; omega) ?_; intro v' w1 hown' hgrow _)
        have hb1 := (hb.alloc hwz _).grown hgrow (by simp; omega) (own_ge HO.out)
        go_roundw
        case rel => exact ⟨_, k + 1, k + 1, by omega, by go_num, by go_num, HC.out.hit hlt hc, own_snoc hown', hb1⟩
        case measure => simp [intOf]; omega
      · have hcb : ((s[k].toNat : Int) == (c.toNat : Int)) = false := by rw [beq_eq_false_iff_ne]; exact fun e => hc (byte_eq e)
        go_wp2
        go_roundw
        case rel => exact ⟨done, from_, k + 1, by omega, rfl, by go_num, HC.out.miss hlt hc, HO.out, hb⟩
        case measure => simp [intOf]; omega
    · obtain rfl : k = s.size := by omega
      have hf1' : (from_ : Int) ≤ (s.size : Int) := by omega
      go_wp2_with (at_builtin; refine wpList_append_own _ rfl _ _ 130 rfl w.heap.size 9 i0 (.string ByteArray.empty) 1 16 Tryz.underlying130 hi hz0 hz1 hz2 rfl (by decide) _ _ _ rfl (World.ownsRow.alloc HO.out _) ⟨wr.heap.size, 0, none⟩ 1 1 [.string (s.extract from_ s.size)] rfl rfl (cell_one_new _ _ _) (fun x hx => by simp at hx; subst hx; rfl) (by unfold maxLen; omega) (by omega) (by simp; omega) ?_; intro v' w1 hown' hgrow _)
      have hb1 := (hb.alloc hwz _).grown hgrow (by simp; omega) (own_ge HO.out)
      have hown2 := own_snoc hown'
      rw [HC.out.fin] at hown2
      go_ret
      exact ⟨_, rfl, hown2, hb1⟩
theorem pieces_len (c : UInt8) : ∀ s : List UInt8, (pieces c s).length = s.count c + 1
  | [] => rfl
  | b :: l => by
    have h := pieces_len c l
    unfold pieces
    by_cases hb : b = c
    · subst hb
      rw [if_pos rfl, List.length_cons, h, List.count_cons_self]
    · rw [if_neg hb, List.count_cons_of_ne hb]
      cases hp : pieces c l with
      | nil => rw [hp] at h; simp at h
      | cons p ps => rw [hp] at h; simpa using h
/-- how many pieces a text is cut into at its blanks -/
theorem Cut_blanks (s : Bs) (w : World) (hs : s.length ≤ 1000) :
    Calls Tryz.prog 80 #[bV s, .int .u8 32] w fun e w' => ∃ (o : Option Addr) (g : Nat), e = .returned (.slice o (s.count 32 + 1) g) ∧ Below w.heap.size w w' := (Cut_ref ⟨s.toArray⟩ 32 w (by simp [ByteArray.size]; omega)).mono fun e w' h => by
  obtain ⟨v, rfl, ho, hb⟩ := h
  have e1 : (⟨s.toArray⟩ : ByteArray).data.toList = s := by simp
  rw [e1, pieces_len] at ho
  rcases ho.2 with ⟨rfl, h0⟩ | ⟨g, cap, cur, rfl, -⟩
  · omega
  · exact ⟨_, _, rfl, hb⟩
end Go.Proofs.YtnoecobddhmhlaaGreatDoor

namespace Go.Proofs.YtnoecobddhmhlaaGreatDoor
open Go.RowKit

theorem setT3 {w : World} {b : Nat} {x y z : Value} {t : TypeId} (h : w.heap[b]? = some (.cells #[x, y, z] t)) (u0 u1 u2 : Value) : (((w.setCell ⟨b, 0, none⟩ u0).setCell ⟨b, 1, none⟩ u1).setCell ⟨b, 2, none⟩ u2).heap[b]? = some (.cells #[u0, u1, u2] t) := by
  have h1 := heap_setCell_same w b 0 _ _ u0 h
  have h2 := heap_setCell_same _ b 1 _ _ u1 h1
  have h3 := heap_setCell_same _ b 2 _ _ u2 h2
  rw [h3]
  rfl
structure Cel3 (w : World) (b : Nat) (x y z : Value) : Prop where
  c0 : w.cell? ⟨b, 0, none⟩ = some x
  c1 : w.cell? ⟨b, 1, none⟩ = some y
  c2 : w.cell? ⟨b, 2, none⟩ = some z
  f0 : w.frozen? ⟨b, 0, none⟩ = false
  f1 : w.frozen? ⟨b, 1, none⟩ = false
  f2 : w.frozen? ⟨b, 2, none⟩ = false
theorem Cel3.of {w : World} {b : Nat} {x y z : Value} {t : TypeId} (h : w.heap[b]? = some (.cells #[x, y, z] t)) : Cel3 w b x y z := by
  have fz : ∀ j, w.frozen? ⟨b, j, none⟩ = false := fun j => by unfold World.frozen?; rw [h]; simp
  exact ⟨by simp [World.cell?, h], by simp [World.cell?, h], by simp [World.cell?, h], fz 0, fz 1, fz 2⟩
theorem ownB_base {w : World} {base base' : Nat} {e : TypeId} {size : Nat} {v : Value} {n : Nat} {xs : List Value} (h : w.ownsRow base e size v n xs) (hb : base' ≤ base) : w.ownsRow base' e size v n xs := by
  refine ⟨h.1, ?_⟩
  rcases h.2 with h0 | ⟨g, cap, cur, h1, h2, h3⟩
  · exact .inl h0
  · exact .inr ⟨g, cap, cur, h1, Nat.le_trans hb h2, h3⟩
theorem ownB_below {w w' : World} {base : Nat} {e : TypeId} {size : Nat} {v : Value} {n : Nat} {xs : List Value} (h : w.ownsRow base e size v n xs) (hb : Below w.heap.size w w') : w'.ownsRow base e size v n xs := by
  refine ⟨h.1, ?_⟩
  rcases h.2 with h0 | ⟨g, cap, cur, h1, h2, h3, h4⟩
  · exact .inl h0
  · exact .inr ⟨g, cap, cur, h1, h2, (hb.block g (Array.getElem?_eq_some_iff.1 h3).1).trans h3, h4⟩
theorem ownB_set {w : World} {base : Nat} {e : TypeId} {size : Nat} {v : Value} {n : Nat} {xs : List Value} (h : w.ownsRow base e size v n xs) {p : Addr} (hp : p.block < base) (u : Value) : (w.setCell p u).ownsRow base e size v n xs := by
  refine ⟨h.1, ?_⟩
  rcases h.2 with h0 | ⟨g, cap, cur, h1, h2, h3, h4⟩
  · exact .inl h0
  · exact .inr ⟨g, cap, cur, h1, h2, (Below.heap_setCell w p u g (by omega)).trans h3, h4⟩
end Go.Proofs.YtnoecobddhmhlaaGreatDoor

namespace Go.Proofs.YtnoecobddhmhlaaGreatDoor
open Go.RowKit

/-- A row of texts in memory. -/
def StrsAt (w : World) (o : Option Addr) (l : List Bs) : Prop := ∀ i p, l[i]? = some p → ∃ b off, o = some ⟨b, off, none⟩ ∧ w.cell? ⟨b, off + i, none⟩ = some (.string ⟨p.toArray⟩)
theorem StrsAt.of {w : World} {base : Nat} {v : Value} {l : List Bs} (h : w.ownsRow base 9 1 v l.length (strs l)) : ∃ o cap, v = .slice o l.length cap ∧ StrsAt w o l := by
  have h2 := h
  rcases h.2 with ⟨h0, hn⟩ | ⟨g, cap, cur, h1, -⟩
  · have hl : l = [] := List.eq_nil_of_length_eq_zero (by first | exact hn | exact hn.symm | omega)
    subst hl
    exact ⟨none, 0, h0, fun i p hp => by simp at hp⟩
  · refine ⟨some ⟨g, 0, none⟩, cap, h1, fun i p hp => ⟨g, 0, rfl, ?_⟩⟩
    subst h1
    have := World.ownsRow.cells h2 (g := g) rfl i (.string ⟨p.toArray⟩) (by unfold strs; rw [List.getElem?_map, hp]; rfl)
    rw [Nat.zero_add]
    rwa [show (⟨g, 0, none⟩ : Addr).add i = ⟨g, i, none⟩ from by unfold Addr.add; simp; exact fun h => h.symm] at this
set_option maxRecDepth 20000 in
set_option maxHeartbeats 4000000 in
theorem Index_any (l : List Bs) (o : Option Addr) (cap : Nat) (t : Bs) (w : World) (hl : l.length ≤ 1000000) (h : StrsAt w o l) :
    Calls Tryz.prog 128 #[.slice o l.length cap, .string ⟨t.toArray⟩] w fun e w' => (∃ r : Int, e = .returned (.int .i64 r) ∧ (0 ≤ r ↔ t ∈ l)) ∧ w' = w := by
  go_enter Tryz.func128, Tryz.ntmps128
  go_wp2
  go_loopw [5] (fun i wr => ∃ k : Nat, k ≤ l.length ∧ i = .int .i64 k ∧ t ∉ l.take k ∧ wr = w) (fun i _ => l.length - (intOf i).toNat)
  case atStart => exact ⟨0, Nat.zero_le _, rfl, by simp, rfl⟩
  case round =>
    obtain ⟨k, hk, rfl, hno, hw⟩ := hrel
    subst hw
    have HNO : Hid (t ∉ l.take k) := hno
    clear hno
    by_cases hlt : k < l.length
    · have hlt' : (k : Int) < (l.length : Int) := by omega
      obtain ⟨p, hp⟩ : ∃ p, l[k]? = some p := ⟨_, List.getElem?_eq_getElem hlt⟩
      obtain ⟨b, off, rfl, c0⟩ := h k p hp
      have HP : Hid (l[k]? = some p) := hp
      clear hp h
      by_cases he : p = t
      · subst he
        go_wp2_with fail
        go_ret
        exact ⟨⟨k, rfl, ⟨fun _ => List.mem_of_getElem? HP.out, fun _ => Int.natCast_nonneg k⟩⟩, rfl⟩
      · have hb : (p == t) = false := by simpa using he
        go_wp2_with fail
        go_roundw
        case rel =>
          refine ⟨k + 1, hlt, by go_num, ?_, by first | rfl | trivial⟩
          rw [List.take_add_one, HP.out]
          intro hm
          rcases List.mem_append.1 hm with hm | hm
          · exact HNO.out hm
          · simp at hm
            exact he hm.symm
        case measure => simp [intOf]; omega
    · have hlt' : ¬ (k : Int) < (l.length : Int) := by omega
      go_wp2_with fail
      go_ret
      exact ⟨⟨-1, rfl, by
        have := HNO.out
        rw [List.take_of_length_le (by omega)] at this
        exact ⟨fun h => absurd h (by decide), fun h => absurd h this⟩⟩, rfl⟩
end Go.Proofs.YtnoecobddhmhlaaGreatDoor

/-
  A value with the mark that ends it, as the reader reads it.
-/
import Derived.Test.YtdebekonggnckabDoorMark19
namespace Go.Proofs.YtdebekonggnckabDoor
open Go.RowKit

/-- How much the reader has ahead. -/
def left (R : Nat) (w : World) : Nat := match w.cell? ⟨R, 0, none⟩ with
  | some (.string s) => s.size
  | _ => 0
theorem RD.left {R : Nat} {s : Bs} {w : World} (h : RD R s w) : left R w = s.length := by
  unfold Go.Proofs.YtdebekonggnckabDoor.left
  rw [h.cell]
  exact strV_size s
theorem rdV_end {f : Nat} {s : Bs} (h : [34].isPrefixOf (drM s) = true) : rdV (f + 1) s = some (tkM s, (drM s).drop 1) := by rw [rdV, if_pos h]
theorem rdV_no {f : Nat} {s : Bs} (h : [34].isPrefixOf (drM s) = false) (hm : mkW (drM s) = none) : rdV (f + 1) s = none := by rw [rdV, if_neg (by rw [h]; simp), hm]
theorem rdV_on {f : Nat} {s : Bs} {c : UInt8} {r : Bs} (h : [34].isPrefixOf (drM s) = false) (hm : mkW (drM s) = some (c, r)) : rdV (f + 1) s = preV (tkM s ++ [c]) (rdV f r) := by rw [rdV, if_neg (by rw [h]; simp), hm]
theorem RD.low {R B : Nat} {s : Bs} {w w' : World} (h : RD R s w) (hb : Below B w w') (hR : R < B) : RD R s w' := by
  unfold RD at h ⊢
  rw [← h]
  exact hb.block R hR
theorem skip_yes (R : Nat) (s wd : Bs) (W : World) (h : RD R s W) (hp : wd.isPrefixOf s = true) : Calls Tryd.prog 62 #[.pointer (some ⟨R, 0, none⟩), .string ⟨wd.toArray⟩] W fun e w' => e = .returned (.bool true) ∧ RD R (s.drop wd.length) w' ∧ Keep R W w' := by
  have := skip_any R s wd W h
  rw [hp, cutW_yes hp] at this
  exact this
theorem skip_no (R : Nat) (s wd : Bs) (W : World) (h : RD R s W) (hp : wd.isPrefixOf s = false) : Calls Tryd.prog 62 #[.pointer (some ⟨R, 0, none⟩), .string ⟨wd.toArray⟩] W fun e w' => e = .returned (.bool false) ∧ RD R s w' ∧ Keep R W w' := by
  have := skip_any R s wd W h
  rw [hp, cutW_no hp] at this
  exact this
/-- What is taken of a value; of a name. -/
theorem takeM_any (R : Nat) (s : Bs) (B : Nat) (W : World) (h : RD R s W) (hB : W.heap[B]? = some (.cells #[.string ⟨([60, 62, 38, 34] : Bs).toArray⟩] 9)) (hl : s.length ≤ 100000) :
    Calls Tryd.prog 63 #[.pointer (some ⟨R, 0, none⟩), .func (.func 92) #[] #[.pointer (some ⟨B, 0, none⟩)]] W fun e w' => e = .returned (.string ⟨(tkM s).toArray⟩) ∧ RD R (drM s) w' ∧ Keep R W w' := by
  have := take_any R s _ B W h hB hl
  rw [ft_mB] at this
  exact this
theorem takeE_any (R : Nat) (s : Bs) (B : Nat) (W : World) (h : RD R s W) (hB : W.heap[B]? = some (.cells #[.string ⟨([32, 61, 34, 60, 62, 47] : Bs).toArray⟩] 9)) (hl : s.length ≤ 100000) :
    Calls Tryd.prog 63 #[.pointer (some ⟨R, 0, none⟩), .func (.func 92) #[] #[.pointer (some ⟨B, 0, none⟩)]] W fun e w' => e = .returned (.string ⟨(tkE s).toArray⟩) ∧ RD R (drE s) w' ∧ Keep R W w' := by
  have := take_any R s _ B W h hB hl
  rw [ft_eB] at this
  exact this
/-- What the reader of a value tells. -/
def VlR (R : Nat) (o : Option (Bs × Bs)) (e : Ending) (w : World) : Prop := (o = none ∧ e = .returned (.tuple #[.string ⟨#[]⟩, .bool false])) ∨ ∃ v r : Bs, o = some (v, r) ∧ e = .returned (.tuple #[.string ⟨v.toArray⟩, .bool true]) ∧ RD R r w

set_option maxRecDepth 20000 in
set_option maxHeartbeats 4000000 in
theorem value_any (R : Nat) (s : Bs) (W : World) (h : RD R s W) (hl : s.length ≤ 10000) :
    Calls Tryd.prog 94 #[.pointer (some ⟨R, 0, none⟩)] W fun e w' => Keep R W w' ∧ VlR R (rdV (s.length + 1) s) e w' := by
  have hR := h.lt
  have b0 := mal W (.cells #[.pointer none, .slice none 0 0] 85)
  have hbd0 := Bd.fresh W.heap.size W (Nat.le_refl _)
  go_enter Tryd.func94, Tryd.ntmps94
  go_wp2_with fail
  obtain ⟨V, hV⟩ : ∃ V, W.alloc (.cells #[.pointer none, .slice none 0 0] 85) = V := ⟨_, rfl⟩
  have hrd0 := h.al (.cells #[.pointer none, .slice none 0 0] 85)
  rw [hV] at b0 hbd0 hrd0 ⊢
  clear hV
  go_loopw [] (fun wr => ∃ (acc rest : Bs) (f : Nat), rest.length < f ∧ acc.length + rest.length ≤ s.length ∧ rdV (s.length + 1) s = preV acc (rdV f rest) ∧ RD R rest wr ∧ Bd W.heap.size W.heap.size acc wr ∧ Keep R W wr) (fun wr => left R wr)
  case atStart => exact ⟨[], s, s.length + 1, by omega, by simp, (preV_nil _).symm, hrd0, hbd0, Keep.of_below b0⟩
  case round =>
    obtain ⟨acc, rest, f, hf, hal, heq, hrd, hbd, hkp⟩ := hrel
    have HQ : Hid (rdV (s.length + 1) s = preV acc (rdV f rest)) := heq
    clear heq
    obtain ⟨f, rfl⟩ : ∃ g, f = g + 1 := ⟨f - 1, by omega⟩
    have hml := tkM_len rest
    have hsz := hkp.size
    have NO := noneOf_any [60, 62, 38, 34] wr
    have rd1 := hrd.al (.cells #[.string ⟨([60, 62, 38, 34] : Bs).toArray⟩] 9)
    have nb := mbox wr #[.string ⟨([60, 62, 38, 34] : Bs).toArray⟩] 9
    have TK := takeM_any R rest wr.heap.size _ rd1 nb (by omega)
    have k1 := hkp.trans (Keep.of_below (mal wr (.cells #[.string ⟨([60, 62, 38, 34] : Bs).toArray⟩] 9)))
    have bd1 := hbd.al (.cells #[.string ⟨([60, 62, 38, 34] : Bs).toArray⟩] 9)
    have HL : Hid (left R wr = rest.length) := hrd.left
    clear hrd hbd nb rd1
    cases hp : [34].isPrefixOf (drM rest) with
    | true =>
      have HZ : Hid (rdV (s.length + 1) s = some (acc ++ tkM rest, (drM rest).drop 1)) := (by rw [HQ.out, rdV_end hp]; rfl : rdV (s.length + 1) s = some (acc ++ tkM rest, (drM rest).drop 1))
      go_wp2_with (first | (go_at_call 64; refine NO.mono ?_; rintro e w1 ⟨rfl, rfl⟩) | (go_at_call 63; refine TK.mono ?_; rintro e w2 ⟨rfl, rd2, k2⟩; have K2 := k1.trans k2; have bd2 := bd1.keep k2 hR) | (go_at_call 56; refine (WriteString_any W.heap.size W.heap.size acc (tkM rest) _ bd2 (by omega) K2.size).mono ?_; rintro e w3 ⟨rfl, bd3, bk3⟩; have rd3 := rd2.low bk3.low hR; have K3 := K2.low bk3.low) | (go_at_call 62; refine (skip_yes R _ [34] _ rd3 hp).mono ?_; rintro e w4 ⟨rfl, rd4, k4⟩; have bd4 := bd3.keep k4 hR; have K4 := K3.trans k4) | (go_at_call 36; refine (Tryd.Builder_String_any_k W.heap.size _ _ _ bd4 K4.size).mono ?_; rintro e w5 ⟨rfl, -, hb5, -⟩))
      go_ret2
      exact ⟨K4.low hb5, .inr ⟨_, _, HZ.out, rfl, rd4.low hb5 hR⟩⟩
    | false =>
      cases hm : mkW (drM rest) with
      | none =>
        have HZ : Hid (rdV (s.length + 1) s = none) := (by rw [HQ.out, rdV_no hp hm]; rfl : rdV (s.length + 1) s = none)
        have MK : ∀ W, RD R (drM rest) W → Calls Tryd.prog 112 #[.pointer (some ⟨R, 0, none⟩)] W fun e w' => Keep R W w' ∧ e = .returned (.tuple #[.int .u8 0, .bool false]) := fun W h => (mark_any R _ W h).mono (fun e w' ⟨h1, h2⟩ => ⟨h1, by
          rcases h2 with h2 | ⟨c, r, h2, -⟩
          · exact h2.2
          · rw [hm] at h2; cases h2⟩)
        clear hm
        go_wp2_with (first | (go_at_call 64; refine NO.mono ?_; rintro e w1 ⟨rfl, rfl⟩) | (go_at_call 63; refine TK.mono ?_; rintro e w2 ⟨rfl, rd2, k2⟩; have K2 := k1.trans k2; have bd2 := bd1.keep k2 hR) | (go_at_call 56; refine (WriteString_any W.heap.size W.heap.size acc (tkM rest) _ bd2 (by omega) K2.size).mono ?_; rintro e w3 ⟨rfl, bd3, bk3⟩; have rd3 := rd2.low bk3.low hR; have K3 := K2.low bk3.low) | (go_at_call 62; refine (skip_no R _ [34] _ rd3 hp).mono ?_; rintro e w4 ⟨rfl, rd4, k4⟩; have K4 := K3.trans k4) | (go_at_call 112; refine (MK _ rd4).mono ?_; rintro e w5 ⟨k5, rfl⟩))
        go_ret2
        exact ⟨K4.trans k5, .inl ⟨HZ.out, rfl⟩⟩
      | some q =>
        obtain ⟨c, r⟩ := q
        have hlen := mkW_len hm
        have HZ : Hid (rdV (s.length + 1) s = preV (acc ++ tkM rest ++ [c]) (rdV f r)) := (by rw [HQ.out, rdV_on hp hm, preV_app, List.append_assoc] : rdV (s.length + 1) s = preV (acc ++ tkM rest ++ [c]) (rdV f r))
        have MK : ∀ W, RD R (drM rest) W → Calls Tryd.prog 112 #[.pointer (some ⟨R, 0, none⟩)] W fun e w' => Keep R W w' ∧ e = .returned (.tuple #[.int .u8 (UInt8.toNat c), .bool true]) ∧ RD R r w' := fun W h => (mark_any R _ W h).mono (fun e w' ⟨h1, h2⟩ => ⟨h1, by
          rcases h2 with h2 | ⟨c', r', h2, h3, h4⟩
          · rw [hm] at h2; cases h2.1
          · rw [hm] at h2; cases h2; exact ⟨h3, h4⟩⟩)
        clear hm
        go_wp2_with (first | (go_at_call 64; refine NO.mono ?_; rintro e w1 ⟨rfl, rfl⟩) | (go_at_call 63; refine TK.mono ?_; rintro e w2 ⟨rfl, rd2, k2⟩; have K2 := k1.trans k2; have bd2 := bd1.keep k2 hR) | (go_at_call 56; refine (WriteString_any W.heap.size W.heap.size acc (tkM rest) _ bd2 (by omega) K2.size).mono ?_; rintro e w3 ⟨rfl, bd3, bk3⟩; have rd3 := rd2.low bk3.low hR; have K3 := K2.low bk3.low) | (go_at_call 62; refine (skip_no R _ [34] _ rd3 hp).mono ?_; rintro e w4 ⟨rfl, rd4, k4⟩; have bd4 := bd3.keep k4 hR; have K4 := K3.trans k4) | (go_at_call 112; refine (MK _ rd4).mono ?_; rintro e w5 ⟨k5, rfl, rd5⟩; have bd5 := bd4.keep k5 hR; have K5 := K4.trans k5) | (go_at_call 79; refine (WriteByte_any W.heap.size W.heap.size _ c _ bd5 (by simp; omega) K5.size).mono ?_; rintro e w6 ⟨rfl, bd6, bk6⟩))
        go_roundw
        case rel => exact ⟨_, _, f, by omega, by simp; omega, HZ.out, rd5.low bk6.low hR, bd6, K5.low bk6.low⟩
        case measure => have h1 := HL.out; have h2 := (rd5.low bk6.low hR).left; omega

end Go.Proofs.YtdebekonggnckabDoor

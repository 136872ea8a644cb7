/-
  The laws over pictures: the document's SameTexts.
-/
import Derived.Test.YtmbdojcljgicaaaDoorPaint10
namespace Go.Proofs.YtmbdojcljgicaaaDoor
open Go.RowKit

/-- A row of texts. -/
def TxAt (w : World) (o : Option Addr) (l : List ByteArray) : Prop := ∀ i s, l[i]? = some s → ∃ b off, o = some ⟨b, off, none⟩ ∧ w.cell? ⟨b, off + i, none⟩ = some (.string s)
theorem TxAt.below {w w' : World} {o : Option Addr} {l : List ByteArray} (h : TxAt w o l) (hb : Below w.heap.size w w') : TxAt w' o l := fun i s hs => by
  obtain ⟨b, off, h1, h2⟩ := h i s hs
  exact ⟨b, off, h1, (hb.cell (cell_lt h2)).trans h2⟩
theorem TxAt.own {w : World} {base : Nat} {v : Value} {n : Nat} {l : List ByteArray} (h : w.ownsRow base 9 1 v n (l.map .string)) : ∃ o cap, v = .slice o l.length cap ∧ l.length = n ∧ l.length ≤ cap ∧ TxAt w o l := by
  have hn : l.length = n := by have := h.1; rw [List.length_map, Nat.mul_one] at this; exact this
  have hO := h
  rcases h.2 with ⟨rfl, h0⟩ | ⟨g, cap, cur, rfl, -, -, hle, -⟩
  · have : l = [] := List.length_eq_zero_iff.1 (by omega)
    subst this
    exact ⟨none, 0, rfl, hn, Nat.le_refl _, fun i s hs => by simp at hs⟩
  · refine ⟨_, cap, by rw [hn], hn, by omega, fun i s hs => ⟨g, 0, rfl, ?_⟩⟩
    have := own_news hO i (.string s) (by rw [List.getElem?_map, hs]; rfl)
    rw [addr_add] at this
    exact this
theorem TxAt.slice {w : World} {b off : Nat} {l : List ByteArray} (h : TxAt w (some ⟨b, off, none⟩) l) (i n : Nat) : TxAt w (some ⟨b, off + i, none⟩) ((l.drop i).take n) := fun j s hs => by
  rw [List.getElem?_take] at hs
  split at hs
  · rw [List.getElem?_drop] at hs
    obtain ⟨b', off', h1, h2⟩ := h (i + j) s hs
    cases h1
    rw [← Nat.add_assoc] at h2
    exact ⟨b, off + i, rfl, h2⟩
  · exact absurd hs (by simp)
/-- What SameTexts answers. -/
def SameR (a b : List ByteArray) (e : Ending) : Prop := (a = b ∧ e = .returned (.bool true)) ∨ (a ≠ b ∧ e = .returned (.bool false))
set_option maxRecDepth 20000 in
set_option maxHeartbeats 4000000 in
theorem SameTexts_any (a b : List ByteArray) (oa ob : Option Addr) (ca cb : Nat) (w : World) (hla : a.length ≤ 10000) (ha : TxAt w oa a) (hb : TxAt w ob b) :
    Calls Tryd.prog 9 #[.slice oa a.length ca, .slice ob b.length cb] w fun e W => SameR a b e ∧ Below w.heap.size w W := by
  by_cases hne : a.length = b.length
  · have hne' : ((a.length : Int) == (b.length : Int)) = true := by rw [hne]; simp
    have hnb : ((a.length : Int) != (b.length : Int)) = false := by rw [hne]; simp
    have HNE : Hid (a.length = b.length) := hne
    clear hne
    go_enter Tryd.func9, Tryd.ntmps9
    go_wp2_with fail
    go_loopw [5] (fun i wr => ∃ k : Nat, k ≤ a.length ∧ i = .int .i64 k ∧ a.take k = b.take k ∧ Below w.heap.size w wr) (fun i _ => a.length - (intOf i).toNat)
    case atStart => exact ⟨0, Nat.zero_le _, rfl, rfl, Below.refl _ _⟩
    case round =>
      obtain ⟨k, hk, rfl, hrt, hB⟩ := hrel
      by_cases hlt : k < a.length
      · have hlt' : (k : Int) < (a.length : Int) := by omega
        have hltb : (k : Int) < (b.length : Int) := by have := HNE.out; omega
        obtain ⟨x, hx⟩ : ∃ x, a[k]? = some x := ⟨_, List.getElem?_eq_getElem hlt⟩
        obtain ⟨y, hy⟩ : ∃ y, b[k]? = some y := ⟨_, List.getElem?_eq_getElem (by have := HNE.out; omega)⟩
        obtain ⟨b1, f1, rfl, c1⟩ := ha.below hB k x hx
        obtain ⟨b2, f2, rfl, c2⟩ := hb.below hB k y hy
        have HX : Hid (a[k]? = some x ∧ b[k]? = some y) := ⟨hx, hy⟩
        clear hx hy
        have d1 : wr.drew.cell? ⟨b1, f1 + k, none⟩ = some (.string x) := c1
        have d2 : wr.drew.cell? ⟨b2, f2 + k, none⟩ = some (.string y) := c2
        by_cases hxy : x = y
        · subst hxy
          go_upto_region 6 with fail
          go_region
          all_goals
            go_wp2_with fail
            go_roundw
            case rel => exact ⟨k + 1, by omega, by go_num, by rw [List.take_add_one, List.take_add_one, hrt, HX.out.1, HX.out.2], hB.drew⟩
            case measure => simp [intOf]; omega
        · have hxl : (x.toList == y.toList) = false := beq_eq_false_iff_ne.2 (fun h => hxy (ba_eq h))
          have hno : a ≠ b := fun h => hxy (by
            have := HX.out.1
            rw [h, HX.out.2] at this
            cases this
            rfl)
          go_upto_region 6 with fail
          go_region
          all_goals
            go_wp2_with fail
            go_ret
            exact ⟨.inr ⟨hno, rfl⟩, hB.drew⟩
      · obtain rfl : k = a.length := by omega
        have hab : a = b := by
          rw [List.take_length] at hrt
          rw [HNE.out, List.take_length] at hrt
          exact hrt
        go_wp2_with fail
        go_ret
        exact ⟨.inl ⟨hab, rfl⟩, hB⟩
  · have hno : a ≠ b := fun h => hne (by rw [h])
    have hne' : ((a.length : Int) == (b.length : Int)) = false := by rw [beq_eq_false_iff_ne]; omega
    have hnb : ((a.length : Int) != (b.length : Int)) = true := by rw [bne, hne']; rfl
    clear hne
    go_enter Tryd.func9, Tryd.ntmps9
    go_wp2_with fail
    go_ret
    exact ⟨.inr ⟨hno, rfl⟩, Below.refl _ _⟩
theorem SameTexts_same (a b : List ByteArray) (oa ob : Option Addr) (ca cb : Nat) (w : World) (hla : a.length ≤ 10000) (ha : TxAt w oa a) (hb : TxAt w ob b) (hab : a = b) :
    Calls Tryd.prog 9 #[.slice oa a.length ca, .slice ob b.length cb] w fun e W => e = .returned (.bool true) ∧ Below w.heap.size w W := by
  refine (SameTexts_any a b oa ob ca cb w hla ha hb).mono fun e W h => ?_
  rcases h.1 with ⟨-, h1⟩ | ⟨h1, -⟩
  · exact ⟨h1, h.2⟩
  · exact absurd hab h1
end Go.Proofs.YtmbdojcljgicaaaDoor

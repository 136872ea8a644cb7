/-
  A row of points in memory; the walks of package shape's firstFault, for both of its checks, and of Check.
-/
import Derived.Test.YtmbdojcljgicaaaGreatDoorShape4
namespace Go.Proofs.YtmbdojcljgicaaaGreatDoor
open Go.RowKit

/-- One point's cells. -/
structure PtC (w : World) (b i : Nat) (a : Qt) : Prop where
  c0 : w.cell? ⟨b, i, none⟩ = some (.int .i64 a.xn)
  c1 : w.cell? ⟨b, i + 1, none⟩ = some (.int .i64 a.xd)
  c2 : w.cell? ⟨b, i + 2, none⟩ = some (.int .i64 a.yn)
  c3 : w.cell? ⟨b, i + 3, none⟩ = some (.int .i64 a.yd)
  pi : PI a
theorem PtC.below {w w' : World} {b i n : Nat} {a : Qt} (h : PtC w b i a) (hb : Below n w w') (hn : w.heap.size ≤ n) : PtC w' b i a := by
  have hl : b < n := Nat.lt_of_lt_of_le (cell_lt h.c0) hn
  exact ⟨(hb.cell (p := ⟨b, i, none⟩) hl).trans h.c0, (hb.cell (p := ⟨b, i + 1, none⟩) hl).trans h.c1, (hb.cell (p := ⟨b, i + 2, none⟩) hl).trans h.c2, (hb.cell (p := ⟨b, i + 3, none⟩) hl).trans h.c3, h.pi⟩
/-- A row of points. -/
def PtsAt (w : World) (o : Option Addr) (l : List Qt) : Prop := ∀ i a, l[i]? = some a → ∃ b off, o = some ⟨b, off, none⟩ ∧ PtC w b (off + i * 4) a
theorem PtsAt.below {w w' : World} {o : Option Addr} {l : List Qt} {n : Nat} (h : PtsAt w o l) (hb : Below n w w') (hn : w.heap.size ≤ n) : PtsAt w' o l := fun i a ha => by
  obtain ⟨b, off, h1, h2⟩ := h i a ha
  exact ⟨b, off, h1, h2.below hb hn⟩
theorem PtsAt.pi {w : World} {o : Option Addr} {l : List Qt} (h : PtsAt w o l) {a : Qt} (ha : a ∈ l) : PI a := by
  obtain ⟨i, hi⟩ := List.getElem?_of_mem ha
  obtain ⟨b, off, -, h2⟩ := h i a hi
  exact h2.pi
/-- What firstFault answers: the first point that is not well, with its number. -/
def FirstF (aB aS aZ : Addr) (ef : Qt → Nat) (w : World) (l : List Qt) (e : Ending) (W : World) : Prop :=
  ((∀ y ∈ l, ef y = 0) ∧ e = .returned .nilIface) ∨
  (∃ q x r pb, l = q ++ x :: r ∧ (∀ y ∈ q, ef y = 0) ∧ ef x ≠ 0 ∧ w.heap.size ≤ pb ∧ e = .returned (.iface 69 (.pointer (some ⟨pb, 0, none⟩))) ∧ W.cell? ⟨pb, 0, none⟩ = some (.int .i64 q.length) ∧ W.cell? ⟨pb, 1, none⟩ = some (er aB aS aZ (ef x)))
theorem all_take {ef : Qt → Nat} {l : List Qt} {k : Nat} {a : Qt} (h : ∀ y ∈ l.take k, ef y = 0) (ha : l[k]? = some a) (h0 : ef a = 0) : ∀ y ∈ l.take (k + 1), ef y = 0 := fun y hy => by
  rw [List.take_add_one, ha] at hy
  rcases List.mem_append.1 hy with hy | hy
  · exact h y hy
  · simp at hy
    subst hy
    exact h0
theorem split_at {l : List Qt} {k : Nat} {a : Qt} (ha : l[k]? = some a) : l = l.take k ++ a :: l.drop (k + 1) ∧ (l.take k).length = k := by
  obtain ⟨hk, e⟩ := List.getElem?_eq_some_iff.1 ha
  refine ⟨?_, by rw [List.length_take]; omega⟩
  rw [← e, List.getElem_cons_drop, List.take_append_drop]

set_option maxRecDepth 20000 in
set_option maxHeartbeats 4000000 in
theorem firstRight (aB aS aZ : Addr) (l : List Qt) (o : Option Addr) (cap : Nat) (w : World) (hl : l.length ≤ 1000) (h : PtsAt w o l) (hE : E3 aB aS aZ w) :
    Calls Tryz.prog 47 #[.slice o l.length cap, .func (.func 48) #[] #[]] w fun e W => FirstF aB aS aZ chkP w l e W ∧ Below w.heap.size w W := by
  go_enter Tryz.func47, Tryz.ntmps47
  go_wp2
  go_loopw [10] (fun y wr => ∃ k : Nat, k ≤ l.length ∧ y = .int .i64 k ∧ (∀ y ∈ l.take k, chkP y = 0) ∧ Below w.heap.size w wr) (fun y _ => l.length - (intOf y).toNat)
  case atStart => exact ⟨0, Nat.zero_le _, rfl, by simp, Below.refl _ _⟩
  case round =>
    obtain ⟨k, hk, rfl, hall, hb⟩ := hrel
    have HA : Hid (∀ y ∈ l.take k, chkP y = 0) := hall
    clear hall
    by_cases hlt : k < l.length
    · have hlt' : (k : Int) < (l.length : Int) := by omega
      obtain ⟨a, ha⟩ : ∃ a, l[k]? = some a := ⟨_, List.getElem?_eq_getElem hlt⟩
      obtain ⟨b, off, ho, hp⟩ := h k a ha
      subst ho
      obtain ⟨c0, c1, c2, c3, hpi⟩ := hp.below hb (Nat.le_refl _)
      have HL : Hid (l[k]? = some a) := ha
      have hbx := hb.alloc hb.size (.cells #[.int .i64 a.xn, .int .i64 a.xd, .int .i64 a.yn, .int .i64 a.yd] 61)
      have HK := checkRight_any aB aS aZ a _ hpi (hE.below hbx (Nat.le_refl _))
      clear ha
      by_cases hx : chkP a = 0
      · rw [hx] at HK
        have HX : Hid (chkP a = 0) := hx
        clear hx
        go_wp2_with (go_at_call 48; refine HK.mono ?_; rintro e w1 ⟨rfl, b1⟩; simp only [er_0])
        go_roundw
        case rel => exact ⟨k + 1, by omega, by go_num, all_take HA.out HL.out HX.out, hbx.trans (b1.mono (by have := hbx.size; omega))⟩
        case measure => simp [intOf]; omega
      · obtain ⟨ad, hea⟩ := er_cases aB aS aZ (show chkP a = 2 ∨ chkP a = 3 by have := chkP_cases a; omega)
        have HX : Hid (¬ chkP a = 0) := hx
        have HC : Hid (er aB aS aZ (chkP a) = .iface 165 (.pointer (some ad))) := hea
        rw [hea] at HK
        clear hx hea
        go_wp2_with (go_at_call 48; refine HK.mono ?_; rintro e w1 ⟨rfl, b1⟩)
        have hb1 := hbx.trans (b1.mono (by have := hbx.size; omega))
        go_ret
        obtain ⟨e1, e2⟩ := split_at HL.out
        refine ⟨.inr ⟨_, _, _, w1.heap.size, e1, HA.out, HX.out, hb1.size, rfl, ?_, ?_⟩, hb1.alloc hb1.size _⟩
        · rw [e2]; simp
        · rw [HC.out]; simp
    · obtain rfl : k = l.length := by omega
      go_wp2
      go_ret
      have hall := HA.out
      rw [List.take_length] at hall
      exact ⟨.inl ⟨hall, rfl⟩, hb⟩

set_option maxRecDepth 20000 in
set_option maxHeartbeats 4000000 in
theorem firstSize (aB aS aZ : Addr) (l : List Qt) (o : Option Addr) (cap : Nat) (w : World) (hl : l.length ≤ 1000) (h : PtsAt w o l) (hE : E3 aB aS aZ w) (hr : ∀ a ∈ l, chkP a = 0) :
    Calls Tryz.prog 47 #[.slice o l.length cap, .func (.func 49) #[] #[]] w fun e W => FirstF aB aS aZ bigP w l e W ∧ Below w.heap.size w W := by
  go_enter Tryz.func47, Tryz.ntmps47
  go_wp2
  go_loopw [10] (fun y wr => ∃ k : Nat, k ≤ l.length ∧ y = .int .i64 k ∧ (∀ y ∈ l.take k, bigP y = 0) ∧ Below w.heap.size w wr) (fun y _ => l.length - (intOf y).toNat)
  case atStart => exact ⟨0, Nat.zero_le _, rfl, by simp, Below.refl _ _⟩
  case round =>
    obtain ⟨k, hk, rfl, hall, hb⟩ := hrel
    have HA : Hid (∀ y ∈ l.take k, bigP y = 0) := hall
    clear hall
    by_cases hlt : k < l.length
    · have hlt' : (k : Int) < (l.length : Int) := by omega
      obtain ⟨a, ha⟩ : ∃ a, l[k]? = some a := ⟨_, List.getElem?_eq_getElem hlt⟩
      obtain ⟨b, off, ho, hp⟩ := h k a ha
      subst ho
      obtain ⟨c0, c1, c2, c3, hpi⟩ := hp.below hb (Nat.le_refl _)
      have HL : Hid (l[k]? = some a) := ha
      have hbx := hb.alloc hb.size (.cells #[.int .i64 a.xn, .int .i64 a.xd, .int .i64 a.yn, .int .i64 a.yd] 61)
      have HK := checkSize_any aB aS aZ a _ hpi (chkP_pos (hr a (List.mem_of_getElem? ha))) (hE.below hbx (Nat.le_refl _))
      clear ha
      by_cases hx : bigP a = 0
      · rw [hx] at HK
        have HX : Hid (bigP a = 0) := hx
        clear hx
        go_wp2_with (go_at_call 49; refine HK.mono ?_; rintro e w1 ⟨rfl, b1⟩; simp only [er_0])
        go_roundw
        case rel => exact ⟨k + 1, by omega, by go_num, all_take HA.out HL.out HX.out, hbx.trans (b1.mono (by have := hbx.size; omega))⟩
        case measure => simp [intOf]; omega
      · obtain ⟨ad, hea⟩ := er_cases aB aS aZ (show bigP a = 2 ∨ bigP a = 3 by have := bigP_cases a; omega)
        have HX : Hid (¬ bigP a = 0) := hx
        have HC : Hid (er aB aS aZ (bigP a) = .iface 165 (.pointer (some ad))) := hea
        rw [hea] at HK
        clear hx hea
        go_wp2_with (go_at_call 49; refine HK.mono ?_; rintro e w1 ⟨rfl, b1⟩)
        have hb1 := hbx.trans (b1.mono (by have := hbx.size; omega))
        go_ret
        obtain ⟨e1, e2⟩ := split_at HL.out
        refine ⟨.inr ⟨_, _, _, w1.heap.size, e1, HA.out, HX.out, hb1.size, rfl, ?_, ?_⟩, hb1.alloc hb1.size _⟩
        · rw [e2]; simp
        · rw [HC.out]; simp
    · obtain rfl : k = l.length := by omega
      go_wp2
      go_ret
      have hall := HA.out
      rw [List.take_length] at hall
      exact ⟨.inl ⟨hall, rfl⟩, hb⟩
end Go.Proofs.YtmbdojcljgicaaaGreatDoor

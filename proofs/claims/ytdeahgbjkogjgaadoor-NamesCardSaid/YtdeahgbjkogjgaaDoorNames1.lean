/-
  The walk of the law Names: it answers true.
-/
import Derived.Test.YtdeahgbjkogjgaaDoorCode2
import Derived.Test.YtdeahgbjkogjgaaDoorRef1
namespace Go.Proofs.YtdeahgbjkogjgaaDoor
open Go.RowKit

set_option maxHeartbeats 1000000 in
theorem SameInts_eq (b1 b2 n : Nat) (f : Nat → Int) (w : World) (hn : n ≤ 1000000) (h1 : ∀ i, i < n → w.cell? ⟨b1, i, none⟩ = some (.int .i64 (f i))) (h2 : ∀ i, i < n → w.cell? ⟨b2, i, none⟩ = some (.int .i64 (f i))) :
    Calls Tryd.prog 8 #[.slice (some ⟨b1, 0, none⟩) n n, .slice (some ⟨b2, 0, none⟩) n n] w fun e w' => e = .returned (.bool true) ∧ ∃ k, w' = w.drewN k := by
  have H1 : Hid (∀ i, i < n → w.cell? ⟨b1, i, none⟩ = some (.int .i64 (f i))) := h1
  have H2 : Hid (∀ i, i < n → w.cell? ⟨b2, i, none⟩ = some (.int .i64 (f i))) := h2
  clear h1 h2
  go_enter Tryd.func8, Tryd.ntmps8
  go_wp2
  go_loopw [5] (fun x wr => ∃ i : Nat, i ≤ n ∧ x = .int .i64 i ∧ ∃ k, wr = w.drewN k) (fun x _ => n - (intOf x).toNat)
  case atStart => exact ⟨0, Nat.zero_le _, rfl, 0, rfl⟩
  case round =>
    obtain ⟨i, hi, rfl, k, rfl⟩ := hrel
    by_cases hlt : i < n
    · have hc1 := H1.out i hlt
      have hc2 := H2.out i hlt
      have hlt' : (i : Int) < (n : Int) := by omega
      have h0 : (0 : Int) ≤ (i : Int) := by omega
      go_wp2
      go_quiet (fail)
      go_wp2
      go_roundw
      case rel => exact ⟨i + 1, by omega, by go_num, _, rfl⟩
      case measure => simp [intOf]; omega
    · go_wp2
      go_ret
      exact ⟨rfl, _, rfl⟩

theorem Code_fault_at {E : Nat → Addr} (k : Nat) (m : Int) (hm : (k : Int) = m) (pb po : Nat) (n : Int) (k1 : 1 ≤ k) (k2 : k ≤ 11) (w : World) (h : EE E w) (hp : w.cell? ⟨pb, po, none⟩ = some (.int .i64 n)) (hq : w.cell? ⟨pb, po + 1, none⟩ = some (eV (E k))) :
    Calls Tryd.prog 9 #[.iface 29 (.pointer (some ⟨pb, po, none⟩))] w fun e w' => e = .returned (.tuple #[.int .i64 m, .int .i64 n]) ∧ Below w.heap.size w w' := by
  subst hm; exact Code_fault k pb po n k1 k2 w h hp hq
theorem coded_at {E : Nat → Addr} (k : Nat) (m : Int) (hm : (k : Int) = m) (k1 : 1 ≤ k) (k2 : k ≤ 11) (w : World) (h : EE E w) :
    Calls Tryd.prog 10 #[.iface 57 (.pointer (some (E k))), .int .i64 m] w fun e w' => e = .returned (.bool true) ∧ Below w.heap.size w w' := by
  subst hm
  have := coded_ev (E := E) k k2 w h
  rw [ev_pos E k1] at this
  exact this
theorem coded_nil {E : Nat → Addr} (w : World) (h : EE E w) :
    Calls Tryd.prog 10 #[.nilIface, .int .i64 0] w fun e w' => e = .returned (.bool true) ∧ Below w.heap.size w w' := coded_ev (E := E) 0 (by decide) w h
theorem New_any (s : ByteArray) (w : World) : Calls Tryd.prog 11 #[.string s] w fun e w' => e = .returned (eV ⟨w.heap.size, 0, none⟩) ∧ w' = w.alloc (.cells #[.string s] 59) := by
  go_enter Tryd.func11, Tryd.ntmps11
  go_wp2
  go_ret
  exact ⟨rfl, rfl⟩

theorem Code_new {E : Nat → Addr} (s : ByteArray) (w : World) (h : EE E w) :
    Calls Tryd.prog 9 #[.iface 57 (.pointer (some ⟨w.heap.size, 0, none⟩))] (w.alloc (.cells #[.string s] 59)) fun e w' => e = .returned (.tuple #[.int .i64 (-1), .int .i64 (-1)]) ∧ Below (w.alloc (.cells #[.string s] 59)).heap.size (w.alloc (.cells #[.string s] 59)) w' := by
  refine Code_none (E := E) ⟨w.heap.size, 0, none⟩ #[.string s] 59 _ (h.alloc _) ?_ ?_
  · intro j j1 j2 ej
    obtain ⟨c, t, hc⟩ := h.blk j j1 j2
    rw [← ej] at hc
    simp at hc
  · show (w.heap.push _)[w.heap.size]? = _
    simp

abbrev nums : Array Value := #[.int .i64 1073741824, .int .i64 12, .int .i64 200, .int .i64 10000, .int .i64 10, .int .i64 100, .int .i64 12, .int .i64 40, .int .i64 5, .int .i64 30, .int .i64 40, .int .i64 300, .int .i64 100, .int .i64 16]
def numAt (i : Nat) : Int := [1073741824, 12, 200, 10000, 10, 100, 12, 40, 5, 30, 40, 300, 100, 16].getD i 0
theorem nums_at (w : World) (t : TypeId) (i : Nat) (hi : i < 14) : (w.alloc (.cells nums t)).cell? ⟨w.heap.size, i, none⟩ = some (.int .i64 (numAt i)) := by
  rcases i with _ | _ | _ | _ | _ | _ | _ | _ | _ | _ | _ | _ | _ | _ | i
  all_goals first | omega | simp [nums, numAt]

set_option maxHeartbeats 4000000 in
theorem names_any (E : Nat → Addr) (w : World) (h : EE E w) :
    Calls Tryd.prog 3 #[] w fun e w' => e = .returned (.bool true) ∧ Below w.heap.size w w' := by
  have hs1 : ∀ i, i < 14 → ((w.alloc (.cells nums 3)).alloc (.cells nums 3)).cell? ⟨w.heap.size, i, none⟩ = some (.int .i64 (numAt i)) := fun i hi => by
    rw [World.cell?_alloc_lt _ _ ⟨w.heap.size, i, none⟩ (by simp)]; exact nums_at w _ i hi
  have hs2 : ∀ i, i < 14 → ((w.alloc (.cells nums 3)).alloc (.cells nums 3)).cell? ⟨w.heap.size + 1, i, none⟩ = some (.int .i64 (numAt i)) := fun i hi => by
    have := nums_at (w.alloc (.cells nums 3)) 3 i hi
    simpa using this
  have HS := SameInts_eq w.heap.size (w.heap.size + 1) 14 numAt _ (by decide) hs1 hs2
  have hB : Below w.heap.size w ((w.alloc (.cells nums 3)).alloc (.cells nums 3)) := ((Below.refl _ _).alloc (Nat.le_refl _) _).alloc (by simp) _
  have h2 := h.below hB (Nat.le_refl _)
  clear hs1 hs2
  simp only [nums] at HS hB h2
  go_enter Tryd.func3, Tryd.ntmps3
  go_wp2_with fail
  refine HS.mono ?_
  rintro e w1 ⟨rfl, k, rfl⟩
  clear HS
  have h3 := h2.below (below_drewN (Below.refl _ _) k) (Nat.le_refl _)
  have hB3 := below_drewN hB k
  clear h2 hB
  generalize (((w.alloc (.cells #[.int .i64 1073741824, .int .i64 12, .int .i64 200, .int .i64 10000, .int .i64 10, .int .i64 100, .int .i64 12, .int .i64 40, .int .i64 5, .int .i64 30, .int .i64 40, .int .i64 300, .int .i64 100, .int .i64 16] 3)).alloc (.cells #[.int .i64 1073741824, .int .i64 12, .int .i64 200, .int .i64 10000, .int .i64 10, .int .i64 100, .int .i64 12, .int .i64 40, .int .i64 5, .int .i64 30, .int .i64 40, .int .i64 300, .int .i64 100, .int .i64 16] 3)).drewN k) = w2 at h3 hB3 ⊢
  obtain ⟨d1, d2, d3, d4, d5, d6, d7, d8, d9, d10, d11, _, _, _⟩ := id h3
  go_wp2
  have hrow := row11_at E w2 25
  have hE2 := h3.alloc (.cells (row11 E) 25)
  have hB2 : Below w.heap.size w (w2.alloc (.cells (row11 E) 25)) := hB3.alloc hB3.size _
  have hlt : w2.heap.size < (w2.alloc (.cells (row11 E) 25)).heap.size := by simp
  have hle : w.heap.size ≤ w2.heap.size := hB3.size
  clear h3 hB3 d1 d2 d3 d4 d5 d6 d7 d8 d9 d10 d11
  simp only [row11, eV] at hrow hE2 hB2 hlt ⊢
  generalize (w2.alloc (.cells #[.iface 57 (.pointer (some (E 1))), .iface 57 (.pointer (some (E 2))), .iface 57 (.pointer (some (E 3))), .iface 57 (.pointer (some (E 4))), .iface 57 (.pointer (some (E 5))), .iface 57 (.pointer (some (E 6))), .iface 57 (.pointer (some (E 7))), .iface 57 (.pointer (some (E 8))), .iface 57 (.pointer (some (E 9))), .iface 57 (.pointer (some (E 10))), .iface 57 (.pointer (some (E 11)))] 25)) = W2 at hrow hE2 hB2 hlt ⊢
  go_loopw [4] (fun x wr => ∃ i : Nat, i ≤ 11 ∧ x = .int .i64 i ∧ Below W2.heap.size W2 wr) (fun x _ => 11 - (intOf x).toNat)
  case atStart => exact ⟨0, Nat.zero_le _, rfl, Below.refl _ _⟩
  case round =>
    obtain ⟨i, hi, rfl, hbr⟩ := hrel
    have hEr := hE2.below hbr (Nat.le_refl _)
    by_cases hi11 : (i : Int) < 11
    · have h0 : (0 : Int) ≤ (i : Int) := by omega
      have hc : wr.cell? ⟨w2.heap.size, i, none⟩ = some (.iface 57 (.pointer (some (E (i + 1))))) := (hbr.cell (p := ⟨w2.heap.size, i, none⟩) hlt).trans (hrow i (by omega))
      go_wp2_with fail
      refine (Code_fault_at (i + 1) ((i : Int) + 1) (by omega) wr.heap.size 0 7 (by omega) (by omega) _ (hEr.alloc _) (by simp) (by simp)).mono ?_
      rintro e w3 ⟨rfl, hb3⟩
      have hb3' : Below W2.heap.size W2 w3 := (hbr.alloc hbr.size _).trans (hb3.mono (by have := hbr.size; simp; omega))
      have hE3 := hE2.below hb3' (Nat.le_refl _)
      have hc3 : w3.cell? ⟨w2.heap.size, i, none⟩ = some (.iface 57 (.pointer (some (E (i + 1))))) := (hb3'.cell (p := ⟨w2.heap.size, i, none⟩) hlt).trans (hrow i (by omega))
      clear hb3 hc hEr
      go_wp2_with (go_at_call 10; refine (coded_at (i + 1) _ (by omega) (by omega) (by omega) _ hE3).mono ?_; rintro e w4 ⟨rfl, hb4⟩)
      go_roundw
      case rel => exact ⟨i + 1, by omega, by go_num, hb3'.trans (hb4.mono hb3'.size)⟩
      case measure => simp [intOf]; omega
    · have hBr : Below w.heap.size w wr := hB2.trans (hbr.mono hB2.size)
      clear hrow
      go_wp2_with (first | (go_at_call 11; refine (New_any _ _).mono ?_; rintro e w3 ⟨rfl, rfl⟩) | (go_at_call 9; refine (Code_new _ _ hEr).mono ?_; rintro e w4 ⟨rfl, hb4⟩; have hE4 := (hEr.alloc _).below hb4 (Nat.le_refl _); have hB4 := (hBr.alloc hBr.size _).trans (hb4.mono (by have := hBr.size; simp; omega))) | (go_at_call 10; refine (coded_nil _ hE4).mono ?_; rintro e w5 ⟨rfl, hb5⟩))
      go_ret
      exact ⟨rfl, hB4.trans (hb5.mono hB4.size)⟩
end Go.Proofs.YtdeahgbjkogjgaaDoor

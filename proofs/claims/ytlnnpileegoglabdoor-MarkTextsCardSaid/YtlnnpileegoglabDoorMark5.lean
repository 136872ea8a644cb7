/-
  Is an attribute's name ahead of it? slices.ContainsFunc over attributes.
-/
import Derived.Test.YtlnnpileegoglabDoorMark4
namespace Go.Proofs.YtlnnpileegoglabDoor
open Go.RowKit

theorem maxLen_eq : maxLen = 9223372036854775807 := by decide
/-- An attribute's value. -/
def atV (x : Bs × Bs) : Value := .agg #[strV x.1, strV x.2]

theorem mbel {W A w : World} (h : Below W.heap.size W A) (hb : Below A.heap.size A w) : Below W.heap.size W w := h.trans (hb.mono h.size)
theorem mcell_al {W : World} {a : Addr} {v : Value} (o : Obj) (h : W.cell? a = some v) : (W.alloc o).cell? a = some v := (((Below.refl W.heap.size W).alloc (Nat.le_refl _) o).cell (cell_lt3 h)).trans h
set_option maxHeartbeats 1000000 in
theorem sameName_any (x : Bs × Bs) (nm : Bs) (B : Nat) (W : World) (hB : W.cell? ⟨B, 0, none⟩ = some (strV nm)) :
    Calls Tryd.prog 89 #[atV x, .pointer (some ⟨B, 0, none⟩)] W fun e w' => e = .returned (.bool (x.1 == nm)) ∧ Below W.heap.size W w' := by
  have hB' := fun o => mcell_al o hB
  unfold atV strV at *
  go_enter Tryd.func89, Tryd.ntmps89
  go_wp2
  go_ret
  exact ⟨rfl, (Below.refl _ W).alloc (Nat.le_refl _) _⟩

/-- The first one of that name, from number k on; below 0: none. -/
def fI (nm : Bs) : Nat → List (Bs × Bs) → Int
  | _, [] => -1
  | k, x :: r => if (x.1 == nm) = true then k else fI nm (k + 1) r
theorem fI_any (nm : Bs) : ∀ (l : List (Bs × Bs)) (k : Nat), decide (0 ≤ fI nm k l) = l.any (fun x => x.1 == nm)
  | [], _ => rfl
  | x :: r, k => by
    unfold fI
    cases hx : (x.1 == nm) with
    | true => simp [hx]
    | false => simp only [Bool.false_eq_true, if_false, List.any_cons, hx, Bool.false_or]; exact fI_any nm r (k + 1)
theorem drop_at {α : Type} {l : List α} {k : Nat} (h : k < l.length) : ∃ x, l[k]? = some x ∧ l.drop k = x :: l.drop (k + 1) := ⟨l[k], List.getElem?_eq_getElem h, (List.getElem_cons_drop h).symm⟩

set_option maxHeartbeats 2000000 in
theorem IndexFunc_any (ats : List (Bs × Bs)) (nm : Bs) (B : Nat) (v : Value) (W : World) (h : AtsIn W v ats) (hB : W.cell? ⟨B, 0, none⟩ = some (strV nm)) :
    Calls Tryd.prog 109 #[v, .func (.func 89) #[] #[.pointer (some ⟨B, 0, none⟩)]] W fun e w' => e = .returned (.int .i64 (fI nm 0 ats)) ∧ Below W.heap.size W w' := by
  obtain ⟨o, cap, rfl, h1, h2, h3, h4⟩ := h
  have hlen : (ats.length : Int) ≤ 9223372036854775807 := by rw [maxLen_eq] at h2; omega
  by_cases h0 : ats.length = 0
  · obtain rfl : ats = [] := List.length_eq_zero_iff.1 h0
    clear h4
    go_enter Tryd.func109, Tryd.ntmps109
    go_wp2_with fail
    go_loopw [8] (fun y wr => y = .int .i64 0 ∧ wr = W) (fun _ _ => 0)
    case atStart => exact ⟨rfl, rfl⟩
    case round =>
      obtain ⟨rfl, rfl⟩ := hrel
      go_wp2_with fail
      go_ret
      exact ⟨rfl, Below.refl _ _⟩
  · obtain ⟨x0, hx0, -⟩ := drop_at (l := ats) (k := 0) (by omega)
    obtain ⟨b, off, rfl, -⟩ := h4 0 x0 hx0
    have H4 : Hid (AtsAt W (some ⟨b, off, none⟩) ats) := h4
    clear h4 hx0 h3 x0
    have hcap : (ats.length : Int) ≤ (cap : Int) := by omega
    go_enter Tryd.func109, Tryd.ntmps109
    go_wp2_with fail
    go_loopw [8] (fun y wr => ∃ k : Nat, k ≤ ats.length ∧ y = .int .i64 k ∧ fI nm 0 ats = fI nm k (ats.drop k) ∧ Below W.heap.size W wr) (fun y _ => ats.length - (intOf y).toNat)
    case atStart => exact ⟨0, Nat.zero_le _, rfl, rfl, Below.refl _ _⟩
    case round =>
      obtain ⟨k, hk, rfl, hf, hb⟩ := hrel
      by_cases hlt : k < ats.length
      · have hlt' : (k : Int) < (ats.length : Int) := by omega
        obtain ⟨x, hx, hd⟩ := drop_at hlt
        obtain ⟨b', off', e, c0, c1, -⟩ := H4.out k x hx
        simp only [Option.some.injEq, Addr.mk.injEq, and_true] at e
        obtain ⟨rfl, rfl⟩ := e
        have k0 := (hb.cell (cell_lt3 c0)).trans c0
        have k1 := (hb.cell (cell_lt3 c1)).trans c1
        have hB1 := (hb.cell (cell_lt3 hB)).trans hB
        have HS := sameName_any x nm B wr hB1
        rw [hd] at hf
        clear c0 c1 hx hd
        unfold strV at k0 k1
        cases hs : (x.1 == nm) with
        | true =>
          rw [hs] at HS
          have hf' : Hid (fI nm 0 ats = k) := (by rw [hf]; unfold fI; rw [if_pos hs] : fI nm 0 ats = k)
          clear hf hs
          go_wp2_with (go_at_call 89; refine HS.mono ?_; rintro e w1 ⟨rfl, hb1⟩)
          go_ret
          exact ⟨by rw [hf'.out]; rfl, mbel hb hb1⟩
        | false =>
          rw [hs] at HS
          have hf0 : fI nm k (x :: ats.drop (k + 1)) = fI nm (k + 1) (ats.drop (k + 1)) := by rw [fI, if_neg (by rw [hs]; simp)]
          have hf' : Hid (fI nm 0 ats = fI nm (k + 1) (ats.drop (k + 1))) := hf.trans hf0
          clear hf0
          clear hf hs
          go_wp2_with (go_at_call 89; refine HS.mono ?_; rintro e w1 ⟨rfl, hb1⟩)
          go_roundw
          case rel => exact ⟨k + 1, by omega, by go_num, hf'.out, mbel hb hb1⟩
          case measure => simp [intOf]; omega
      · obtain rfl : k = ats.length := by omega
        have hf' : Hid (fI nm 0 ats = -1) := (by rw [hf, List.drop_length]; rfl : fI nm 0 ats = -1)
        clear hf
        go_wp2_with fail
        go_ret
        exact ⟨by rw [hf'.out]; rfl, hb⟩

set_option maxHeartbeats 1000000 in
theorem ContainsFunc_any (ats : List (Bs × Bs)) (nm : Bs) (B : Nat) (v : Value) (W : World) (h : AtsIn W v ats) (hB : W.cell? ⟨B, 0, none⟩ = some (strV nm)) :
    Calls Tryd.prog 88 #[v, .func (.func 89) #[] #[.pointer (some ⟨B, 0, none⟩)]] W fun e w' => e = .returned (.bool (ats.any (fun x => x.1 == nm))) ∧ Below W.heap.size W w' := by
  have HI := IndexFunc_any ats nm B v W h hB
  rw [← fI_any nm ats 0]
  generalize fI nm 0 ats = z at HI ⊢
  go_enter Tryd.func88, Tryd.ntmps88
  go_wp2_with (go_at_call 109; refine HI.mono ?_; rintro e w1 ⟨rfl, hb1⟩)
  go_ret
  exact ⟨rfl, hb1⟩

end Go.Proofs.YtlnnpileegoglabDoor

/-
  Names and values, as the document's answer tells them.
-/
import Derived.Test.YtnoecobddhmhlaaGreatDoorJ2
import Derived.Test.YtnoecobddhmhlaaGreatDoorJ20
namespace Go.Proofs.YtnoecobddhmhlaaGreatDoor
open Go.RowKit

theorem nmB_iff (c : UInt8) : nmB c = true ↔ (97 ≤ (c.toNat : Int) ∧ (c.toNat : Int) ≤ 122) ∨ (48 ≤ (c.toNat : Int) ∧ (c.toNat : Int) ≤ 57) ∨ (c.toNat : Int) = 45 := by
  unfold nmB
  simp only [Bool.or_eq_true, beq_iff_eq, letB_iff, digB_iff]
  have e : c = 45 ↔ (c.toNat : Int) = 45 := ⟨fun h => ((m_eq _ _).1 h).trans (by decide), fun h => (m_eq _ _).2 (h.trans (by decide))⟩
  rw [e, or_assoc]

set_option maxHeartbeats 2000000 in
theorem RIsName_any (s : ByteArray) (hs : s.size ≤ 9223372036854775807) (w : World) : Calls Tryz.prog 52 #[.string s] w fun e w' => e = .returned (.bool (isNm s.data.toList)) ∧ w' = w := by
  have hN := isNm_get s
  generalize isNm s.data.toList = b at hN ⊢
  have NO : Hid ((¬ ∃ h0 : 0 < s.size, s.size ≤ 12 ∧ letB s[0] = true ∧ ∀ i (h : i < s.size), 1 ≤ i → nmB s[i] = true) → b = false) := fun h => by
    cases b with
    | false => rfl
    | true => exact (h (hN.1 rfl)).elim
  have YES : Hid ((∃ h0 : 0 < s.size, s.size ≤ 12 ∧ letB s[0] = true ∧ ∀ i (h : i < s.size), 1 ≤ i → nmB s[i] = true) → b = true) := hN.2
  clear hN
  have hmax : (s.size : Int) ≤ 9223372036854775807 := by omega
  by_cases h0 : 0 < s.size
  · have hz : ¬ (s.size : Int) < 1 := by omega
    by_cases h1 : s.size ≤ 12
    · have h1' : ¬ 12 < (s.size : Int) := by omega
      go_enter Tryz.func52, Tryz.ntmps52
      go_wp2_with fail
      go_loop [3] (fun y => ∃ k : Nat, k ≤ s.size ∧ y = .int .i64 k ∧ (0 < k → letB s[0] = true) ∧ ∀ i (h : i < s.size), 1 ≤ i → i < k → nmB s[i] = true) (fun y => s.size - (intOf y).toNat)
      case atStart => exact ⟨0, by omega, rfl, fun h => absurd h (Nat.lt_irrefl _), fun i _ a b => by omega⟩
      case round =>
        obtain ⟨k, hk, rfl, hfst, hall⟩ := hrel
        have HA : Hid (∀ i (h : i < s.size), 1 ≤ i → i < k → nmB s[i] = true) := hall
        have HF : Hid (0 < k → letB s[0] = true) := hfst
        clear hall hfst
        by_cases hlt : k < s.size
        · have hlt' : (k : Int) < (s.size : Int) := by omega
          have hb := m_lt255 s[k]
          by_cases hl : 97 ≤ (s[k].toNat : Int) ∧ (s[k].toNat : Int) ≤ 122
          · have hl1 := hl.1
            have hl2 := hl.2
            have HL : Hid (letB s[k] = true) := (letB_iff _).2 hl
            have HM : Hid (nmB s[k] = true) := (nmB_iff _).2 (.inl hl)
            clear hl
            go_wp2_with fail
            go_round
            case rel => exact ⟨k + 1, by omega, by go_num, fun _ => by
              by_cases e : 0 < k
              · exact HF.out e
              · obtain rfl : k = 0 := by omega
                exact HL.out, fun i h a b => by
                by_cases e : i < k
                · exact HA.out i h a e
                · obtain rfl : i = k := by omega
                  exact HM.out⟩
            case measure => simp [intOf]; omega
          · have HL : Hid (letB s[k] = false) := (by rw [← Bool.not_eq_true, letB_iff]; exact hl : letB s[k] = false)
            by_cases hk0 : k = 0
            · subst hk0
              obtain rfl := NO.out (fun ⟨_, _, h, _⟩ => by have := HL.out; rw [h] at this; cases this)
              clear NO YES HA HF HL
              by_cases l1 : 97 ≤ (s[0].toNat : Int)
              · have l2 : ¬ (s[0].toNat : Int) ≤ 122 := fun h => hl ⟨l1, h⟩
                clear hl
                go_wp2_with fail
                all_goals go_ret
                all_goals exact ⟨rfl, rfl⟩
              · clear hl
                go_wp2_with fail
                all_goals go_ret
                all_goals exact ⟨rfl, rfl⟩
            · have hk1 : ¬ (k : Int) = 0 := by omega
              have hk2 : ((k : Int) == 0) = false := by rw [beq_eq_false_iff_ne]; exact hk1
              by_cases hd : 48 ≤ (s[k].toNat : Int) ∧ (s[k].toNat : Int) ≤ 57
              · have d1 := hd.1
                have d2 := hd.2
                have d3 : ¬ 97 ≤ (s[k].toNat : Int) := by omega
                have HM : Hid (nmB s[k] = true) := (nmB_iff _).2 (.inr (.inl hd))
                clear hd hl
                go_wp2_with fail
                go_round
                case rel => exact ⟨k + 1, by omega, by go_num, fun _ => HF.out (by omega), fun i h a b => by
                  by_cases e : i < k
                  · exact HA.out i h a e
                  · obtain rfl : i = k := by omega
                    exact HM.out⟩
                case measure => simp [intOf]; omega
              · by_cases h45 : (s[k].toNat : Int) = 45
                · have HM : Hid (nmB s[k] = true) := (nmB_iff _).2 (.inr (.inr h45))
                  have d3 : ¬ 97 ≤ (s[k].toNat : Int) := by omega
                  have d4 : ¬ 48 ≤ (s[k].toNat : Int) := by omega
                  clear hd hl
                  go_wp2_with fail
                  go_round
                  case rel => exact ⟨k + 1, by omega, by go_num, fun _ => HF.out (by omega), fun i h a b => by
                    by_cases e : i < k
                    · exact HA.out i h a e
                    · obtain rfl : i = k := by omega
                      exact HM.out⟩
                  case measure => simp [intOf]; omega
                · have hn : nmB s[k] = false := by
                    rw [← Bool.not_eq_true, nmB_iff]
                    rintro (h | h | h)
                    · exact hl h
                    · exact hd h
                    · exact h45 h
                  obtain rfl := NO.out (fun ⟨_, _, _, h⟩ => by have := h k hlt (by omega); rw [hn] at this; cases this)
                  have h45' : ((s[k].toNat : Int) == 45) = false := by rw [beq_eq_false_iff_ne]; exact h45
                  clear NO YES HA HF HL hn
                  by_cases l1 : 97 ≤ (s[k].toNat : Int)
                  · have l2 : ¬ (s[k].toNat : Int) ≤ 122 := fun h => hl ⟨l1, h⟩
                    have l3 : ¬ (s[k].toNat : Int) ≤ 57 := by omega
                    clear hl hd
                    go_wp2_with fail
                    all_goals go_ret
                    all_goals exact ⟨rfl, rfl⟩
                  · by_cases l4 : 48 ≤ (s[k].toNat : Int)
                    · have l5 : ¬ (s[k].toNat : Int) ≤ 57 := fun h => hd ⟨l4, h⟩
                      clear hl hd
                      go_wp2_with fail
                      all_goals go_ret
                      all_goals exact ⟨rfl, rfl⟩
                    · clear hl hd
                      go_wp2_with fail
                      all_goals go_ret
                      all_goals exact ⟨rfl, rfl⟩
        · obtain rfl := YES.out ⟨h0, h1, HF.out (by omega), fun i h a => HA.out i h a (by omega)⟩
          clear NO YES HA HF
          have hge : ¬ (k : Int) < (s.size : Int) := by omega
          go_wp2_with fail
          go_ret
          exact ⟨rfl, rfl⟩
    · obtain rfl := NO.out (fun ⟨_, h, _⟩ => h1 h)
      clear NO YES
      have h1' : 12 < (s.size : Int) := by omega
      go_enter Tryz.func52, Tryz.ntmps52
      go_wp2_with fail
      go_ret
      exact ⟨rfl, rfl⟩
  · obtain rfl := NO.out (fun ⟨h, _⟩ => h0 h)
    clear NO YES
    have hz : (s.size : Int) < 1 := by omega
    go_enter Tryz.func52, Tryz.ntmps52
    go_wp2_with fail
    go_ret
    exact ⟨rfl, rfl⟩

set_option maxHeartbeats 2000000 in
theorem RIsValue_any (s : ByteArray) (hs : s.size ≤ 9223372036854775807) (w : World) : Calls Tryz.prog 53 #[.string s] w fun e w' => e = .returned (.bool (isVal s.data.toList)) ∧ w' = w := by
  have hN := isVal_get s
  generalize isVal s.data.toList = b at hN ⊢
  have NO : Hid ((¬ (s.size ≤ 200 ∧ ∀ i (h : i < s.size), 32 ≤ (s[i].toNat : Int) ∧ (s[i].toNat : Int) ≤ 126)) → b = false) := fun h => by
    cases b with
    | false => rfl
    | true => exact (h (hN.1 rfl)).elim
  have YES : Hid ((s.size ≤ 200 ∧ ∀ i (h : i < s.size), 32 ≤ (s[i].toNat : Int) ∧ (s[i].toNat : Int) ≤ 126) → b = true) := hN.2
  clear hN
  have hmax : (s.size : Int) ≤ 9223372036854775807 := by omega
  go_enter Tryz.func53, Tryz.ntmps53
  go_wp2_with fail
  go_loop [3] (fun y => ∃ k : Nat, k ≤ s.size ∧ y = .int .i64 k ∧ ∀ i (h : i < s.size), i < k → 32 ≤ (s[i].toNat : Int) ∧ (s[i].toNat : Int) ≤ 126) (fun y => s.size - (intOf y).toNat)
  case atStart => exact ⟨0, by omega, rfl, fun i _ b => by omega⟩
  case round =>
    obtain ⟨k, hk, rfl, hall⟩ := hrel
    have HA : Hid (∀ i (h : i < s.size), i < k → 32 ≤ (s[i].toNat : Int) ∧ (s[i].toNat : Int) ≤ 126) := hall
    clear hall
    by_cases hlt : k < s.size
    · have hlt' : (k : Int) < (s.size : Int) := by omega
      have hb := m_lt255 s[k]
      by_cases c1 : (s[k].toNat : Int) < 32
      · obtain rfl := NO.out (fun h => by have := (h.2 k hlt).1; omega)
        clear NO YES HA
        go_wp2_with fail
        go_ret
        exact ⟨rfl, rfl⟩
      · by_cases c2 : 126 < (s[k].toNat : Int)
        · obtain rfl := NO.out (fun h => by have := (h.2 k hlt).2; omega)
          clear NO YES HA
          go_wp2_with fail
          go_ret
          exact ⟨rfl, rfl⟩
        · have HK : Hid (32 ≤ (s[k].toNat : Int) ∧ (s[k].toNat : Int) ≤ 126) := ⟨by omega, by omega⟩
          go_wp2_with fail
          go_round
          case rel => exact ⟨k + 1, by omega, by go_num, fun i h b => by
            by_cases e : i < k
            · exact HA.out i h e
            · obtain rfl : i = k := by omega
              exact HK.out⟩
          case measure => simp [intOf]; omega
    · have hge : ¬ (k : Int) < (s.size : Int) := by omega
      by_cases h1 : s.size ≤ 200
      · obtain rfl := YES.out ⟨h1, fun i h => HA.out i h (by omega)⟩
        have h1' : (s.size : Int) ≤ 200 := by omega
        clear NO YES HA
        go_wp2_with fail
        go_ret
        exact ⟨rfl, rfl⟩
      · obtain rfl := NO.out (fun h => h1 h.1)
        have h1' : ¬ (s.size : Int) ≤ 200 := by omega
        clear NO YES HA
        go_wp2_with fail
        go_ret
        first | exact ⟨rfl, rfl⟩ | exact ⟨by simp; omega, rfl⟩

end Go.Proofs.YtnoecobddhmhlaaGreatDoor

namespace Go.Proofs.YtnoecobddhmhlaaGreatDoor
open Go.RowKit

/-- The first fault of a flat list, from number i on. -/
def flF : Nat → List Fl → Nat × Nat
  | i, [] => (0, i)
  | i, f :: r => if ck1 f.name f.attrs f.deep i = 0 then flF (i + 1) r else (ck1 f.name f.attrs f.deep i, i)
theorem flF_ok {i : Nat} {f : Fl} {r : List Fl} (h : ck1 f.name f.attrs f.deep i = 0) : flF i (f :: r) = flF (i + 1) r := by rw [flF, if_pos h]
theorem flF_bad {i c : Nat} {f : Fl} {r : List Fl} (h : ck1 f.name f.attrs f.deep i = c) (hc : c ≠ 0) : flF i (f :: r) = (c, i) := by rw [flF, if_neg (by rw [h]; exact hc), h]
def fltM (r : Nat × Nat) : Int × Int := if r.1 = 0 then (0, -1) else (r.1, r.2)
mutual
theorem flF_flN : ∀ (n : Nd) (k : Nat) (p : Int) (d : Nat) (x : List Fl), flF k (flN k p d n ++ x) = if (ckN n d k).1 = 0 then flF (k + (flN k p d n).length) x else ckN n d k
  | .mk nm ats ks, k, p, d, x => by
    rw [flN, List.cons_append, flF, ckN]
    split
    · rw [flF_flL ks (k + 1) k (d + 1) x, List.length_cons]
      rw [show k + 1 + (flL (k + 1) k (d + 1) ks).length = k + ((flL (k + 1) k (d + 1) ks).length + 1) from by omega]
    · rfl
theorem flF_flL : ∀ (l : List Nd) (k : Nat) (p : Int) (d : Nat) (x : List Fl), flF k (flL k p d l ++ x) = if (ckK l d k).1 = 0 then flF (k + (flL k p d l).length) x else ckK l d k
  | [], k, p, d, x => by simp [flL, ckK]
  | n :: l, k, p, d, x => by
    rw [flL, List.append_assoc, flF_flN n k p d]
    by_cases h : (ckN n d k).1 = 0
    · have hc := ckN_cnt n k p d h
      rw [if_pos h, flF_flL l (k + (flN k p d n).length) p d x, ckK_zero h, hc, List.length_append, Nat.add_assoc]
    · rw [if_neg h, ckK_pos h, if_neg h]
theorem ckN_cnt : ∀ (n : Nd) (k : Nat) (p : Int) (d : Nat), (ckN n d k).1 = 0 → (ckN n d k).2 = k + (flN k p d n).length
  | .mk nm ats ks, k, p, d, h => by
    rw [ckN] at h ⊢
    split at h
    · rename_i h1
      rw [if_pos h1, ckK_cnt ks (k + 1) k (d + 1) h, flN, List.length_cons]
      omega
    · rename_i h1
      exact absurd h h1
theorem ckK_cnt : ∀ (l : List Nd) (k : Nat) (p : Int) (d : Nat), (ckK l d k).1 = 0 → (ckK l d k).2 = k + (flL k p d l).length
  | [], k, p, d, _ => by simp [flL, ckK]
  | n :: l, k, p, d, h => by
    by_cases h1 : (ckN n d k).1 = 0
    · rw [ckK_zero h1] at h ⊢
      have hc := ckN_cnt n k p d h1
      rw [hc] at h ⊢
      rw [ckK_cnt l _ p d h, flL, List.length_append]
      omega
    · rw [ckK_pos h1] at h
      exact absurd h h1
end
/-- It is what the check tells. -/
theorem flF_ck (n : Nd) : (flF 0 (flN 0 (-1) 1 n)).1 = (ckN n 1 0).1 ∧ ((ckN n 1 0).1 ≠ 0 → flF 0 (flN 0 (-1) 1 n) = ckN n 1 0) := by
  have h := flF_flN n 0 (-1) 1 []
  rw [List.append_nil] at h
  rw [h]
  by_cases h0 : (ckN n 1 0).1 = 0
  · rw [if_pos h0]
    exact ⟨by rw [h0]; rfl, fun h => absurd h0 h⟩
  · rw [if_neg h0]
    exact ⟨rfl, fun _ => rfl⟩
theorem fltM_ck (n : Nd) : fltM (flF 0 (flN 0 (-1) 1 n)) = fltM (ckN n 1 0) := by
  obtain ⟨h1, h2⟩ := flF_ck n
  unfold fltM
  by_cases h0 : (ckN n 1 0).1 = 0
  · rw [if_pos h0, if_pos (by rw [h1]; exact h0)]
  · rw [if_neg h0, if_neg (by rw [h1]; exact h0), h2 h0]

theorem RIsName_is (s : Bs) (b : Bool) (h : s.length ≤ maxLen) (hb : isNm s = b) (w : World) : Calls Tryz.prog 52 #[.string ⟨s.toArray⟩] w fun e w' => e = .returned (.bool b) ∧ w' = w := by
  have := RIsName_any ⟨s.toArray⟩ (by rw [strV_size]; rw [maxLen_eq] at h; exact h) w
  rw [← hb]
  exact this
theorem RIsValue_is (s : Bs) (b : Bool) (h : s.length ≤ maxLen) (hb : isVal s = b) (w : World) : Calls Tryz.prog 53 #[.string ⟨s.toArray⟩] w fun e w' => e = .returned (.bool b) ∧ w' = w := by
  have := RIsValue_any ⟨s.toArray⟩ (by rw [strV_size]; rw [maxLen_eq] at h; exact h) w
  rw [← hb]
  exact this
set_option maxHeartbeats 1000000 in
theorem Fine_any (W : World) : Calls Tryz.prog 54 #[] W fun e w' => e = .returned (.agg #[.int .i64 0, .int .i64 (-1)]) ∧ Below W.heap.size W w' := by
  go_enter Tryz.func54, Tryz.ntmps54
  go_wp2
  refine bodyPost_ret (v := .agg #[.int .i64 0, .int .i64 (-1)]) (by simp [results, Tryz.results54, go_sem]) rfl ⟨rfl, ?_⟩
  exact mal W _
/-- A fault's two cells, at its block. -/
def FB (Z : Nat) (a b : Value) (w : World) : Prop := w.heap[Z]? = some (.cells #[a, b] 36)
theorem FB.c0 {Z : Nat} {a b : Value} {w : World} (h : FB Z a b w) : w.cell? ⟨Z, 0, none⟩ = some a := bcell h 0 _ rfl
theorem FB.c1 {Z : Nat} {a b : Value} {w : World} (h : FB Z a b w) : w.cell? ⟨Z, 1, none⟩ = some b := bcell h 1 _ rfl
theorem FB.froz {Z : Nat} {a b : Value} {w : World} (h : FB Z a b w) (i : Nat) : w.frozen? ⟨Z, i, none⟩ = false := by
  unfold FB at h
  unfold World.frozen?
  rw [h]
  simp
theorem FB.bel {Z : Nat} {a b : Value} {w w' : World} (h : FB Z a b w) (hb : Below w.heap.size w w') : FB Z a b w' := (hb.block Z (heap_lt h)).trans h
theorem FB.drew {Z : Nat} {a b : Value} {w : World} (h : FB Z a b w) (k : Nat) : FB Z a b (w.drewN k) := h
theorem ck1_8 {nm : Bs} {ats : List (Bs × Bs)} {d i : Nat} (h : 10 < d) : ck1 nm ats d i = 8 := by unfold ck1; rw [if_pos h]
theorem ck1_7 {nm : Bs} {ats : List (Bs × Bs)} {d i : Nat} (h : ¬ 10 < d) (h1 : 100 ≤ i) : ck1 nm ats d i = 7 := by unfold ck1; rw [if_neg h, if_pos h1]
theorem ck1_4 {nm : Bs} {ats : List (Bs × Bs)} {d i : Nat} (h : ¬ 10 < d) (h1 : ¬ 100 ≤ i) (h2 : isNm nm = false) : ck1 nm ats d i = 4 := by unfold ck1; rw [if_neg h, if_neg h1, if_neg (by rw [h2]; simp)]
theorem ck1_7a {nm : Bs} {ats : List (Bs × Bs)} {d i : Nat} (h : ¬ 10 < d) (h1 : ¬ 100 ≤ i) (h2 : isNm nm = true) (h3 : 12 < ats.length) : ck1 nm ats d i = 7 := by unfold ck1; rw [if_neg h, if_neg h1, if_pos h2, if_pos h3]
theorem ck1_L {nm : Bs} {ats : List (Bs × Bs)} {d i : Nat} (h : ¬ 10 < d) (h1 : ¬ 100 ≤ i) (h2 : isNm nm = true) (h3 : ¬ 12 < ats.length) : ck1 nm ats d i = ckL [] ats := by unfold ck1; rw [if_neg h, if_neg h1, if_pos h2, if_neg h3]
theorem ckA_4 {pre : List (Bs × Bs)} {a : Bs × Bs} (h : isNm a.1 = false) : ckA pre a = 4 := by unfold ckA; rw [if_neg (by rw [h]; simp)]
theorem ckA_6 {pre : List (Bs × Bs)} {a : Bs × Bs} (h : isNm a.1 = true) (h1 : pre.any (fun x => x.1 == a.1) = true) : ckA pre a = 6 := by unfold ckA; rw [if_pos h, if_pos h1]
theorem ckA_10 {pre : List (Bs × Bs)} {a : Bs × Bs} (h : isNm a.1 = true) (h1 : pre.any (fun x => x.1 == a.1) = false) (h2 : isVal a.2 = false) : ckA pre a = 10 := by unfold ckA; rw [if_pos h, if_neg (by rw [h1]; simp), if_neg (by rw [h2]; simp)]
theorem ckA_0 {pre : List (Bs × Bs)} {a : Bs × Bs} (h : isNm a.1 = true) (h1 : pre.any (fun x => x.1 == a.1) = false) (h2 : isVal a.2 = true) : ckA pre a = 0 := by unfold ckA; rw [if_pos h, if_neg (by rw [h1]; simp), if_pos h2]
theorem ckL_bad {pre r : List (Bs × Bs)} {a : Bs × Bs} {c : Nat} (h : ckA pre a = c) (hc : c ≠ 0) : ckL pre (a :: r) = c := by rw [ckL, if_neg (by rw [h]; exact hc), h]

set_option maxRecDepth 20000 in
set_option maxHeartbeats 16000000 in
theorem FlatFault_any (W : World) (M : List FlM) (g cap : Nat) (L : List Fl) (w : World) (bW : Below W.heap.size W w) (hr : RowF w g M) (hc : M.length ≤ cap) (hl : M.length ≤ 10000) (hR : FlRs W M L) :
    Calls Tryz.prog 9 #[.slice (some ⟨g, 0, none⟩) M.length cap] w fun e w' => Below w.heap.size w w' ∧ e = .returned (.agg #[.int .i64 (fltM (flF 0 L)).1, .int .i64 (fltM (flF 0 L)).2]) := by
  have HR : Hid (FlRs W M L) := hR
  have HW : Hid (RowF w g M) := hr
  have HLEN : Hid (M.length = L.length) := hR.len
  have hl2 : (M.length : Int) ≤ 10000 := by omega
  have hc2 : (M.length : Int) ≤ (cap : Int) := by omega
  have zb0 : FB w.heap.size (.int .i64 0) (.int .i64 0) (w.alloc (.cells #[.int .i64 0, .int .i64 0] 36)) := mbox w #[.int .i64 0, .int .i64 0] 36
  have b0 := mal w (.cells #[.int .i64 0, .int .i64 0] 36)
  clear hR hr
  go_enter Tryz.func9, Tryz.ntmps9
  go_wp2_with fail
  obtain ⟨V, hV⟩ : ∃ V, w.alloc (.cells #[.int .i64 0, .int .i64 0] 36) = V := ⟨_, rfl⟩
  rw [hV] at zb0 b0 ⊢
  clear hV
  go_loopw [3] (fun y wr => ∃ i : Nat, y = .int .i64 i ∧ i ≤ M.length ∧ flF 0 L = flF i (L.drop i) ∧ Below w.heap.size w wr ∧ FB w.heap.size (.int .i64 0) (.int .i64 0) wr) (fun y _ => M.length - (intOf y).toNat)
  case atStart => exact ⟨0, rfl, Nat.zero_le _, rfl, b0, zb0⟩
  case round =>
    obtain ⟨i, rfl, hi', hq, hbr, hzr⟩ := hrel
    have HQ : Hid (flF 0 L = flF i (L.drop i)) := hq
    clear hq
    have z0 := hzr.c0
    have z1 := hzr.c1
    have zf := hzr.froz
    by_cases hlt : i < M.length
    · have hlt' : (i : Int) < (M.length : Int) := by omega
      obtain ⟨x, hx, -⟩ := drop_at hlt
      obtain ⟨f, hf, hfr⟩ := HR.out.get hx
      obtain ⟨-, -, hdr⟩ : True ∧ True ∧ L.drop i = f :: L.drop (i + 1) := ⟨trivial, trivial, by
        obtain ⟨y, hy, hd⟩ := drop_at (l := L) (k := i) (by rw [← HLEN.out]; exact hlt)
        rw [hf] at hy
        cases hy
        exact hd⟩
      obtain ⟨r0, r1, r2, r3⟩ := HW.out i x hx
      obtain ⟨xn, xc, xp, xd⟩ := x
      obtain ⟨fn, fa, fp, fd⟩ := f
      obtain ⟨rfl, hats, rfl, rfl, hln⟩ := hfr
      simp only at hats hln
      obtain ⟨oa, ca, rfl, ha1, ha2, -, ha4⟩ := hats
      have HDR : Hid (L.drop i = ⟨xn, fa, xp, xd⟩ :: L.drop (i + 1)) := hdr
      simp only at r0 r1 r2 r3
      have q0 := (hbr.cell (cell_lt3 r0)).trans r0
      have q1 := (hbr.cell (cell_lt3 r1)).trans r1
      have q3 := (hbr.cell (cell_lt3 r3)).trans r3
      have HA : Hid (AtsAt W oa fa) := ha4
      have hla : (fa.length : Int) ≤ 9223372036854775807 := by rw [maxLen_eq] at ha2; omega
      have HC1 : Hid (w.cell? ⟨g, i * 4 + 1, none⟩ = some (.slice oa fa.length ca)) := r1
      clear r0 r1 r2 r3 hx ha4 hf hdr
      by_cases c8 : 10 < xd
      · have c8' : 10 < (xd : Int) := by omega
        have HC : Hid (flF 0 L = (8, i)) := (by rw [HQ.out, HDR.out]; exact flF_bad (ck1_8 c8) (by decide) : flF 0 L = (8, i))
        go_wp2_with fail
        refine bodyPost_ret (v := .agg #[.int .i64 8, .int .i64 i]) (by simp [results, Tryz.results9, go_sem, z0, z1]) rfl ⟨?_, by rw [HC.out]; rfl⟩
        exact (hbr.setCell (Nat.le_refl _) _).setCell (Nat.le_refl _) _
      have c8' : ¬ 10 < (xd : Int) := by omega
      by_cases c7 : 100 ≤ i
      · have c7' : 100 ≤ (i : Int) := by omega
        have HC : Hid (flF 0 L = (7, i)) := (by rw [HQ.out, HDR.out]; exact flF_bad (ck1_7 c8 c7) (by decide) : flF 0 L = (7, i))
        go_wp2_with fail
        refine bodyPost_ret (v := .agg #[.int .i64 7, .int .i64 i]) (by simp [results, Tryz.results9, go_sem, z0, z1]) rfl ⟨?_, by rw [HC.out]; rfl⟩
        exact (hbr.setCell (Nat.le_refl _) _).setCell (Nat.le_refl _) _
      have c7' : ¬ 100 ≤ (i : Int) := by omega
      cases hnm : isNm xn with
      | false =>
        have HC : Hid (flF 0 L = (4, i)) := (by rw [HQ.out, HDR.out]; exact flF_bad (ck1_4 c8 c7 hnm) (by decide) : flF 0 L = (4, i))
        go_wp2_with (go_at_call 52; refine (RIsName_is xn false hln hnm _).mono ?_; rintro e w1 ⟨rfl, rfl⟩)
        refine bodyPost_ret (v := .agg #[.int .i64 4, .int .i64 i]) (by simp [results, Tryz.results9, go_sem, z0, z1]) rfl ⟨?_, by rw [HC.out]; rfl⟩
        exact (hbr.setCell (Nat.le_refl _) _).setCell (Nat.le_refl _) _
      | true =>
        by_cases c12 : 12 < fa.length
        · have c12' : 12 < (fa.length : Int) := by omega
          have HC : Hid (flF 0 L = (7, i)) := (by rw [HQ.out, HDR.out]; exact flF_bad (ck1_7a c8 c7 hnm c12) (by decide) : flF 0 L = (7, i))
          go_wp2_with (go_at_call 52; refine (RIsName_is xn true hln hnm _).mono ?_; rintro e w1 ⟨rfl, rfl⟩)
          refine bodyPost_ret (v := .agg #[.int .i64 7, .int .i64 i]) (by simp [results, Tryz.results9, go_sem, z0, z1]) rfl ⟨?_, by rw [HC.out]; rfl⟩
          exact (hbr.setCell (Nat.le_refl _) _).setCell (Nat.le_refl _) _
        have c12' : ¬ 12 < (fa.length : Int) := by omega
        have HK1 : Hid (ck1 xn fa xd i = ckL [] fa) := ck1_L c8 c7 hnm c12
        go_upto_region 13 with (go_at_call 52; refine (RIsName_is xn true hln hnm _).mono ?_; rintro e w1 ⟨rfl, rfl⟩)
        clear z0 z1 zf q0 q1 q3
        go_wp2_with fail
        go_loopw [5] (fun y wq => ∃ k : Nat, y = .int .i64 k ∧ k ≤ fa.length ∧ ckL [] fa = ckL (fa.take k) (fa.drop k) ∧ Below w.heap.size w wq ∧ FB w.heap.size (.int .i64 0) (.int .i64 0) wq) (fun y _ => fa.length - (intOf y).toNat)
        case atStart => exact ⟨0, rfl, Nat.zero_le _, rfl, hbr, hzr⟩
        case round =>
          obtain ⟨k, rfl, hk, hqk, hbq, hzq⟩ := hrel
          obtain ⟨wq, rfl⟩ : ∃ V, V = wr := ⟨_, rfl⟩
          have HQK : Hid (ckL [] fa = ckL (fa.take k) (fa.drop k)) := hqk
          clear hqk
          have p1 := (hbq.cell (cell_lt3 HC1.out)).trans HC1.out
          by_cases hlk : k < fa.length
          · have hlk' : (k : Int) < (fa.length : Int) := by omega
            obtain ⟨a, hxa, hda⟩ := drop_at hlk
            have HDK : Hid (fa.drop k = a :: fa.drop (k + 1)) := hda
            have HXA : Hid (fa[k]? = some a) := hxa
            obtain ⟨b1, o1, rfl, d0, d1, la, lv⟩ := HA.out k a hxa
            have bQ : Below W.heap.size W wq := bW.trans (hbq.mono bW.size)
            have j0 := (bQ.cell (cell_lt3 d0)).trans d0
            have j1 := (bQ.cell (cell_lt3 d1)).trans d1
            unfold strV at j0 j1
            clear d0 d1 hxa hda
            have bU := hbq.trans ((mal wq (.cells #[.string ⟨a.1.toArray⟩, .string ⟨a.2.toArray⟩] 59)).mono hbq.size)
            have zbU := hzq.bel (mal wq (.cells #[.string ⟨a.1.toArray⟩, .string ⟨a.2.toArray⟩] 59))
            have u0 := mnew wq #[.string ⟨a.1.toArray⟩, .string ⟨a.2.toArray⟩] 59 0 (.string ⟨a.1.toArray⟩) rfl
            have u1 := mnew wq #[.string ⟨a.1.toArray⟩, .string ⟨a.2.toArray⟩] 59 1 (.string ⟨a.2.toArray⟩) rfl
            have vlt := (mal wq (.cells #[.string ⟨a.1.toArray⟩, .string ⟨a.2.toArray⟩] 59)).size
            cases hna : isNm a.1 with
            | false =>
              have HC : Hid (flF 0 L = (4, i)) := (by rw [HQ.out, HDR.out]; exact flF_bad (by rw [HK1.out, HQK.out, HDK.out]; exact ckL_bad (ckA_4 hna) (by decide)) (by decide) : flF 0 L = (4, i))
              have z0 := zbU.c0
              have z1 := zbU.c1
              have zf := zbU.froz
              go_wp2_with (go_at_call 52; refine (RIsName_is a.1 false la hna _).mono ?_; rintro e w2 ⟨rfl, rfl⟩)
              refine bodyPost_ret (v := .agg #[.int .i64 4, .int .i64 i]) (by simp [results, Tryz.results9, go_sem, z0, z1]) rfl ⟨?_, by rw [HC.out]; rfl⟩
              exact (bU.setCell (Nat.le_refl _) _).setCell (Nat.le_refl _) _
            | true =>
              go_upto_region 20 with (go_at_call 52; refine (RIsName_is a.1 true la hna _).mono ?_; rintro e w2 ⟨rfl, rfl⟩)
              obtain ⟨U, hU⟩ : ∃ U, wq.alloc (.cells #[.string ⟨a.1.toArray⟩, .string ⟨a.2.toArray⟩] 59) = U := ⟨_, rfl⟩
              obtain ⟨AB, hAB⟩ : ∃ AB, wq.heap.size = AB := ⟨_, rfl⟩
              rw [hU] at bU zbU u0 u1 ⊢
              rw [hAB] at u0 u1 ⊢
              clear hU hAB j0 j1 p1 vlt
              go_wp2_with fail
              go_loopw [8] (fun y wp => ∃ j : Nat, y = .int .i64 j ∧ j ≤ k ∧ (∀ q, q < j → ∀ c, fa[q]? = some c → c.1 ≠ a.1) ∧ Below U.heap.size U wp) (fun y _ => k - (intOf y).toNat)
              case atStart => exact ⟨0, rfl, Nat.zero_le _, fun q h => absurd h (Nat.not_lt_zero _), Below.refl _ _⟩
              case round =>
                obtain ⟨j, rfl, hj, hno, hbp⟩ := hrel
                obtain ⟨wp, rfl⟩ : ∃ V, V = wr := ⟨_, rfl⟩
                have HNO : Hid (∀ q, q < j → ∀ c, fa[q]? = some c → c.1 ≠ a.1) := hno
                clear hno
                have bP : Below w.heap.size w wp := bU.trans (hbp.mono bU.size)
                have bPW : Below W.heap.size W wp := bW.trans (bP.mono bW.size)
                have t0 := (hbp.cell (cell_lt3 u0)).trans u0
                have t1 := (hbp.cell (cell_lt3 u1)).trans u1
                have zbP := zbU.bel hbp
                have hjk : (j : Int) ≤ (k : Int) := by omega
                by_cases hlj : j < k
                · have hlj' : (j : Int) < (k : Int) := by omega
                  have hlj2 : (j : Int) < (fa.length : Int) := by omega
                  obtain ⟨c, hxc, -⟩ := drop_at (l := fa) (k := j) (by omega)
                  obtain ⟨b2, o2, he2, e0, -⟩ := HA.out j c hxc
                  cases he2
                  have i0 := (bPW.cell (cell_lt3 e0)).trans e0
                  unfold strV at i0
                  have p2 := (bP.cell (cell_lt3 HC1.out)).trans HC1.out
                  have HXC : Hid (fa[j]? = some c) := hxc
                  clear e0 hxc
                  by_cases hcc : c.1 = a.1
                  · have hccb : (c.1 == a.1) = true := by rw [hcc]; simp
                    have hany : Hid ((fa.take k).any (fun x => x.1 == a.1) = true) := (List.any_eq_true.2 ⟨c, List.mem_of_getElem? (by rw [List.getElem?_take_of_lt hlj]; exact HXC.out), hccb⟩ : (fa.take k).any (fun x => x.1 == a.1) = true)
                    have HC : Hid (flF 0 L = (6, i)) := (by rw [HQ.out, HDR.out]; exact flF_bad (by rw [HK1.out, HQK.out, HDK.out]; exact ckL_bad (ckA_6 hna hany.out) (by decide)) (by decide) : flF 0 L = (6, i))
                    go_upto_region 23 with fail
                    go_quiet (fail)
                    have z0 := (zbP.drew nq).c0
                    have z1 := (zbP.drew nq).c1
                    have zf := (zbP.drew nq).froz
                    go_wp2_with fail
                    refine bodyPost_ret (v := .agg #[.int .i64 6, .int .i64 i]) (by simp [results, Tryz.results9, go_sem, z0, z1]) rfl ⟨?_, by rw [HC.out]; rfl⟩
                    exact ((mdrew nq bP).setCell (Nat.le_refl _) _).setCell (Nat.le_refl _) _
                  · have hccb : (c.1 == a.1) = false := by rw [beq_eq_false_iff_ne]; exact hcc
                    have HN2 : Hid (∀ q, q < j + 1 → ∀ d, fa[q]? = some d → d.1 ≠ a.1) := (fun q hq d hd => by
                      by_cases e : q < j
                      · exact HNO.out q e d hd
                      · obtain rfl : q = j := by omega
                        rw [HXC.out] at hd; cases hd; exact hcc : ∀ q, q < j + 1 → ∀ d, fa[q]? = some d → d.1 ≠ a.1)
                    go_upto_region 23 with fail
                    go_quiet (fail)
                    go_wp2_with fail
                    go_roundw
                    case rel => exact ⟨j + 1, by go_num, by omega, HN2.out, mdrew _ hbp⟩
                    case measure => simp [intOf]; omega
                · obtain rfl : j = k := by omega
                  have hany : Hid ((fa.take j).any (fun x => x.1 == a.1) = false) := (by
                    rw [List.any_eq_false]
                    intro x hx
                    obtain ⟨q, hq⟩ := List.mem_iff_getElem?.1 hx
                    rw [List.getElem?_take] at hq
                    split at hq
                    · rename_i hqj
                      have := HNO.out q hqj x hq
                      simpa using this
                    · exact absurd hq (by simp) : (fa.take j).any (fun x => x.1 == a.1) = false)
                  cases hva : isVal a.2 with
                  | false =>
                    have HC : Hid (flF 0 L = (10, i)) := (by rw [HQ.out, HDR.out]; exact flF_bad (by rw [HK1.out, HQK.out, HDK.out]; exact ckL_bad (ckA_10 hna hany.out hva) (by decide)) (by decide) : flF 0 L = (10, i))
                    have z0 := zbP.c0
                    have z1 := zbP.c1
                    have zf := zbP.froz
                    go_wp2_with (go_at_call 53; refine (RIsValue_is a.2 false lv hva _).mono ?_; rintro e w3 ⟨rfl, rfl⟩)
                    refine bodyPost_ret (v := .agg #[.int .i64 10, .int .i64 i]) (by simp [results, Tryz.results9, go_sem, z0, z1]) rfl ⟨?_, by rw [HC.out]; rfl⟩
                    exact (bP.setCell (Nat.le_refl _) _).setCell (Nat.le_refl _) _
                  | true =>
                    have HS : Hid (ckL [] fa = ckL (fa.take (j + 1)) (fa.drop (j + 1))) := (by rw [HQK.out]; exact ckL_step HXA.out HDK.out (ckA_0 hna hany.out hva) : ckL [] fa = ckL (fa.take (j + 1)) (fa.drop (j + 1)))
                    go_wp2_with (go_at_call 53; refine (RIsValue_is a.2 true lv hva _).mono ?_; rintro e w3 ⟨rfl, rfl⟩)
                    go_roundw
                    case rel => exact ⟨j + 1, by go_num, by omega, HS.out, bP, zbP⟩
                    case measure => simp [intOf]; omega
          · obtain rfl : k = fa.length := by omega
            have HZ : Hid (flF 0 L = flF (i + 1) (L.drop (i + 1))) := (by rw [HQ.out, HDR.out]; exact flF_ok (by rw [HK1.out, HQK.out, List.drop_length]; rfl) : flF 0 L = flF (i + 1) (L.drop (i + 1)))
            have hge : ¬ (fa.length : Int) < (fa.length : Int) := by omega
            go_wp2_with fail
            go_roundw
            case rel => exact ⟨i + 1, by go_num, by omega, HZ.out, hbq, hzq⟩
            case measure => simp [intOf]; omega
    · obtain rfl : i = M.length := by omega
      have HZ : Hid (fltM (flF 0 L) = (0, -1)) := (by rw [HQ.out, HLEN.out, List.drop_length]; rfl : fltM (flF 0 L) = (0, -1))
      go_wp2_with (go_at_call 54; refine (Fine_any _).mono ?_; rintro e w1 ⟨rfl, b1⟩; have zb1 := hzr.bel b1; have y0 := zb1.c0; have y1 := zb1.c1; have yf := zb1.froz)
      refine bodyPost_ret (v := .agg #[.int .i64 0, .int .i64 (-1)]) (by simp [results, Tryz.results9, go_sem, y0, y1]) rfl ⟨?_, by rw [HZ.out]⟩
      exact ((hbr.trans (b1.mono hbr.size)).setCell (Nat.le_refl _) _).setCell (Nat.le_refl _) _

end Go.Proofs.YtnoecobddhmhlaaGreatDoor

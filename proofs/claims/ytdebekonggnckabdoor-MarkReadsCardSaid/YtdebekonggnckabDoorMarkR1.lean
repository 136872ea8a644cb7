/-
  The document's reader: has, nameAt, Bare.
-/
import Derived.Test.YtdebekonggnckabDoorMarkF3
import Derived.Test.YtdebekonggnckabDoorJ2
namespace Go.Proofs.YtdebekonggnckabDoor
open Go.RowKit

theorem pre_take {wd s : Bs} : wd.isPrefixOf s = true ↔ s.take wd.length = wd := by
  rw [List.isPrefixOf_iff_prefix, List.prefix_iff_eq_take]
  exact ⟨fun h => h.symm, fun h => h.symm⟩
theorem bs_mid (s : Bs) (i j : Nat) : (⟨s.toArray⟩ : ByteArray).extract i j = ⟨((s.drop i).take (j - i)).toArray⟩ := by
  have e := Lib.extract_data ⟨s.toArray⟩ i j
  cases he : (⟨s.toArray⟩ : ByteArray).extract i j with
  | mk d =>
    rw [he] at e
    simp only at e
    have : d.toList = (s.drop i).take (j - i) := e
    rw [← this]

set_option maxHeartbeats 2000000 in
theorem has_any (s wd : Bs) (a : Nat) (hs : s.length ≤ 100000) (hw : wd.length ≤ 100000) (ha : a ≤ s.length) (w : World) : Calls Tryd.prog 43 #[.string ⟨s.toArray⟩, .int .i64 a, .string ⟨wd.toArray⟩] w fun e w' => e = .returned (.bool (wd.isPrefixOf (s.drop a))) ∧ w' = w := by
  have h1 := strV_size s
  have h2 := strV_size wd
  have h3 : (a : Int) + (wd.length : Int) ≤ 9223372036854775807 := by omega
  by_cases hf : a + wd.length ≤ s.length
  · have hf' : (a : Int) + (wd.length : Int) ≤ (s.length : Int) := by omega
    have hf2 : (a : Int) ≤ (a : Int) + (wd.length : Int) := by omega
    have hf3 : (a : Int) + (wd.length : Int) ≤ ((⟨s.toArray⟩ : ByteArray).size : Int) := by rw [h1]; exact hf'
    have hx := bs_mid s a (a + wd.length)
    rw [Nat.add_sub_cancel_left] at hx
    have hb : ((s.drop a).take wd.length == wd) = wd.isPrefixOf (s.drop a) := by
      cases hp : wd.isPrefixOf (s.drop a) with
      | true => rw [pre_take.1 hp]; simp
      | false =>
        rw [beq_eq_false_iff_ne]
        intro h
        rw [pre_take.2 h] at hp
        cases hp
    generalize (s.drop a).take wd.length = X at hx hb
    generalize wd.isPrefixOf (s.drop a) = b at hb
    go_enter Tryd.func43, Tryd.ntmps43
    go_wp2_with fail
    go_ret
    exact ⟨by rw [← hb]; rfl, rfl⟩
  · have hf' : ¬ (a : Int) + (wd.length : Int) ≤ (s.length : Int) := by omega
    have hb : wd.isPrefixOf (s.drop a) = false := by
      cases hp : wd.isPrefixOf (s.drop a) with
      | false => rfl
      | true =>
        have := congrArg List.length (pre_take.1 hp)
        rw [List.length_take, List.length_drop] at this
        omega
    rw [hb]
    go_enter Tryd.func43, Tryd.ntmps43
    go_wp2_with fail
    go_ret
    exact ⟨rfl, rfl⟩

set_option maxHeartbeats 1000000 in
theorem Bare_any (c : Int) (W : World) : Calls Tryd.prog 42 #[.int .i64 c] W fun e w' => e = .returned (.agg #[.int .i64 c, .int .i64 (-1)]) ∧ Below W.heap.size W w' := by
  go_enter Tryd.func42, Tryd.ntmps42
  go_wp2
  refine bodyPost_ret (v := .agg #[.int .i64 c, .int .i64 (-1)]) (by simp [results, Tryd.results42, go_sem]) rfl ⟨rfl, ?_⟩
  exact mal W _

set_option maxRecDepth 20000 in
set_option maxHeartbeats 4000000 in
theorem nameAt_any (s : Bs) (a : Nat) (hs : s.length ≤ 100000) (ha : a ≤ s.length) (w : World) : Calls Tryd.prog 44 #[.string ⟨s.toArray⟩, .int .i64 a] w fun e w' => e = .returned (.int .i64 ((a + (tkE (s.drop a)).length : Nat) : Int)) ∧ w' = w := by
  have h1 := strV_size s
  have hs' : (s.length : Int) ≤ 100000 := by omega
  go_enter Tryd.func44, Tryd.ntmps44
  go_wp2_with fail
  go_loopw [1] (fun y wr => ∃ k : Nat, y = .int .i64 k ∧ a ≤ k ∧ k ≤ s.length ∧ (∀ j c, a ≤ j → j < k → s[j]? = some c → eB c = false) ∧ wr = w) (fun y _ => s.length - (intOf y).toNat)
  case atStart => exact ⟨a, rfl, Nat.le_refl _, ha, fun j c h1 h2 => absurd h1 (by omega), rfl⟩
  case round =>
    obtain ⟨k, rfl, hak, hk, hall, rfl⟩ := hrel
    have HA : Hid (∀ j c, a ≤ j → j < k → s[j]? = some c → eB c = false) := hall
    clear hall
    have HT : Hid ((∀ c, s[k]? = some c → eB c = true) → a + (tkE (s.drop a)).length = k) := (fun he => by
      have := (tw_more (P := fun c => !eB c) (s := s.drop a) (i := k - a) (fun j c hj hc => by
        rw [List.getElem?_drop] at hc
        rw [HA.out (a + j) c (by omega) (by omega) hc]
        rfl) (fun c hc => by
        rw [List.getElem?_drop, show a + (k - a) = k from by omega] at hc
        rw [he c hc]
        rfl)).1
      unfold tkE
      rw [this, List.length_take, List.length_drop]
      omega : (∀ c, s[k]? = some c → eB c = true) → a + (tkE (s.drop a)).length = k)
    by_cases hlt : k < s.length
    · have hlt' : (k : Int) < (s.length : Int) := by omega
      have hlt2 : k < (⟨s.toArray⟩ : ByteArray).size := by rw [h1]; exact hlt
      have hget := bs_get s k hlt2
      obtain ⟨c, hc⟩ : ∃ c, (⟨s.toArray⟩ : ByteArray)[k] = c := ⟨_, rfl⟩
      rw [hc] at hget
      have hb := m_lt255 c
      cases he : eB c with
      | false =>
        have HN : Hid (∀ j d, a ≤ j → j < k + 1 → s[j]? = some d → eB d = false) := (fun j d h1 h2 hd => by
          by_cases e : j < k
          · exact HA.out j d h1 e hd
          · obtain rfl : j = k := by omega
            rw [hget] at hd; cases hd; exact he : ∀ j d, a ≤ j → j < k + 1 → s[j]? = some d → eB d = false)
        unfold eB at he
        simp only [Bool.or_eq_false_iff, beq_eq_false_iff_ne] at he
        obtain ⟨⟨⟨⟨⟨e1, e2⟩, e3⟩, e4⟩, e5⟩, e6⟩ := he
        have f1 : ((c.toNat : Int) != 32) = true := bne_iff_ne.2 (fun h => e1 ((m_eq _ _).2 (h.trans (by decide))))
        have f2 : ((c.toNat : Int) != 61) = true := bne_iff_ne.2 (fun h => e2 ((m_eq _ _).2 (h.trans (by decide))))
        have f3 : ((c.toNat : Int) != 34) = true := bne_iff_ne.2 (fun h => e3 ((m_eq _ _).2 (h.trans (by decide))))
        have f4 : ((c.toNat : Int) != 60) = true := bne_iff_ne.2 (fun h => e4 ((m_eq _ _).2 (h.trans (by decide))))
        have f5 : ((c.toNat : Int) != 62) = true := bne_iff_ne.2 (fun h => e5 ((m_eq _ _).2 (h.trans (by decide))))
        have f6 : ((c.toNat : Int) != 47) = true := bne_iff_ne.2 (fun h => e6 ((m_eq _ _).2 (h.trans (by decide))))
        clear e1 e2 e3 e4 e5 e6 hget
        go_wp2_with fail
        go_roundw
        case rel => exact ⟨k + 1, by go_num, by omega, by omega, HN.out, trivial⟩
        case measure => simp [intOf]; omega
      | true =>
        have HZ : Hid (a + (tkE (s.drop a)).length = k) := HT.out (fun d hd => by rw [hget] at hd; cases hd; exact he)
        clear hget
        unfold eB at he
        simp only [Bool.or_eq_true, beq_iff_eq] at he
        rcases he with ((((rfl | rfl) | rfl) | rfl) | rfl) | rfl
        all_goals go_wp2_with fail
        all_goals go_ret
        all_goals exact ⟨by rw [HZ.out]; rfl, rfl⟩
    · obtain rfl : k = s.length := by omega
      have HZ : Hid (a + (tkE (s.drop a)).length = s.length) := HT.out (fun c hc => by rw [List.getElem?_eq_none (Nat.le_refl _)] at hc; cases hc)
      go_wp2_with fail
      go_ret
      exact ⟨by rw [HZ.out]; rfl, rfl⟩

end Go.Proofs.YtdebekonggnckabDoor

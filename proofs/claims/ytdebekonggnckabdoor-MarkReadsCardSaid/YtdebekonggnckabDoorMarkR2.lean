/-
  The document's reader: valueAt.
-/
import Derived.Test.YtdebekonggnckabDoorMarkR1
namespace Go.Proofs.YtdebekonggnckabDoor
open Go.RowKit

theorem rdV_q (f : Nat) (r : Bs) : rdV (f + 1) (34 :: r) = some ([], r) := by
  obtain ⟨h1, h2⟩ := drM_mark (c := 34) rfl r
  rw [rdV, h1, h2]
  simp
theorem rdV_nil (f : Nat) : rdV (f + 1) [] = none := rfl
theorem rdV_lt (f : Nat) (r : Bs) : rdV (f + 1) (60 :: r) = none := by
  obtain ⟨h1, h2⟩ := drM_mark (c := 60) rfl r
  have hm : mkW (60 :: r) = none := by simp [mkW, List.isPrefixOf]
  rw [rdV, h1, hm, if_neg (by simp)]
theorem rdV_gt (f : Nat) (r : Bs) : rdV (f + 1) (62 :: r) = none := by
  obtain ⟨h1, h2⟩ := drM_mark (c := 62) rfl r
  have hm : mkW (62 :: r) = none := by simp [mkW, List.isPrefixOf]
  rw [rdV, h1, hm, if_neg (by simp)]
theorem rdV_amp (f : Nat) (r : Bs) : rdV (f + 1) (38 :: r) = match mkW (38 :: r) with
    | none => none
    | some p => preV [p.1] (rdV f p.2) := by
  obtain ⟨h1, h2⟩ := drM_mark (c := 38) rfl r
  rw [rdV, h1, h2, if_neg (by simp)]
  rfl
def VaR (s : Bs) (o : Option (Bs × Bs)) (e : Ending) : Prop := (o = none ∧ e = .returned (.tuple #[.string ⟨#[]⟩, .int .i64 (-1)])) ∨ ∃ (v z : Bs) (k : Nat), o = some (v, z) ∧ z = s.drop (k + 1) ∧ k < s.length ∧ e = .returned (.tuple #[.string ⟨v.toArray⟩, .int .i64 k])
theorem drop_get {s : Bs} {k : Nat} {c : UInt8} (h : s[k]? = some c) : s.drop k = c :: s.drop (k + 1) := by
  obtain ⟨x, hx, hd⟩ := drop_at (l := s) (k := k) (List.getElem?_eq_some_iff.1 h).1
  rw [h] at hx
  cases hx
  exact hd

set_option maxRecDepth 20000 in
set_option maxHeartbeats 8000000 in
theorem valueAt_any (s : Bs) (a : Nat) (hs : s.length ≤ 10000) (ha : a ≤ s.length) (w : World) : Calls Tryd.prog 45 #[.string ⟨s.toArray⟩, .int .i64 a] w fun e w' => Below w.heap.size w w' ∧ VaR s (rdV ((s.drop a).length + 1) (s.drop a)) e := by
  have h1 := strV_size s
  have hs' : (s.length : Int) ≤ 10000 := by omega
  go_enter Tryd.func45, Tryd.ntmps45
  go_wp2_with fail
  go_loopw [1, 6] (fun y u wr => ∃ (k f : Nat) (out : Bs), y = .int .i64 k ∧ u = .string ⟨out.toArray⟩ ∧ a ≤ k ∧ k ≤ s.length ∧ out.length ≤ k ∧ (s.drop k).length < f ∧ rdV ((s.drop a).length + 1) (s.drop a) = preV out (rdV f (s.drop k)) ∧ Below w.heap.size w wr) (fun y _ _ => s.length - (intOf y).toNat)
  case atStart => exact ⟨a, (s.drop a).length + 1, [], rfl, rfl, Nat.le_refl _, ha, Nat.zero_le _, Nat.lt_succ_self _, (preV_nil _).symm, Below.refl _ _⟩
  case round =>
    obtain ⟨k, f, out, rfl, rfl, hak, hk, hol, hf, hq, hbr⟩ := hrel
    obtain ⟨f, rfl⟩ : ∃ g, f = g + 1 := ⟨f - 1, by omega⟩
    have HQ : Hid (rdV ((s.drop a).length + 1) (s.drop a) = preV out (rdV (f + 1) (s.drop k))) := hq
    clear hq
    by_cases hlt : k < s.length
    · have hlt' : (k : Int) < (s.length : Int) := by omega
      have hlt2 : k < (⟨s.toArray⟩ : ByteArray).size := by rw [h1]; exact hlt
      have hget := bs_get s k hlt2
      obtain ⟨c, hc⟩ : ∃ c, (⟨s.toArray⟩ : ByteArray)[k] = c := ⟨_, rfl⟩
      rw [hc] at hget
      have hdk := drop_get hget
      have HG : Hid (s[k]? = some c) := hget
      have HD : Hid (s.drop k = c :: s.drop (k + 1)) := hdk
      have hb := m_lt255 c
      have hfl : (s.drop (k + 1)).length < f := by rw [List.length_drop] at hf ⊢; omega
      have sl1 : out.length + 1 ≤ 9223372036854775807 := by omega
      have hne : ¬ (k : Int) = (s.length : Int) := by omega
      have hne' : ((k : Int) == (s.length : Int)) = false := by rw [beq_eq_false_iff_ne]; exact hne
      clear hget hdk
      by_cases c34 : c = 34
      · subst c34
        have HZ : Hid (rdV ((s.drop a).length + 1) (s.drop a) = some (out, s.drop (k + 1))) := (by rw [HQ.out, HD.out, rdV_q]; simp [preV] : rdV ((s.drop a).length + 1) (s.drop a) = some (out, s.drop (k + 1)))
        go_wp2_with fail
        go_ret2
        exact ⟨hbr, .inr ⟨out, _, k, HZ.out, rfl, hlt, rfl⟩⟩
      have n34 : ((c.toNat : Int) != 34) = true := bne_iff_ne.2 (fun h => c34 ((m_eq _ _).2 (h.trans (by decide))))
      by_cases c60 : c = 60
      · subst c60
        have HZ : Hid (rdV ((s.drop a).length + 1) (s.drop a) = none) := (by rw [HQ.out, HD.out, rdV_lt]; rfl : rdV ((s.drop a).length + 1) (s.drop a) = none)
        go_wp2_with fail
        go_ret2
        exact ⟨hbr, .inl ⟨HZ.out, rfl⟩⟩
      have n60 : ((c.toNat : Int) == 60) = false := by rw [beq_eq_false_iff_ne]; exact fun h => c60 ((m_eq _ _).2 (h.trans (by decide)))
      by_cases c62 : c = 62
      · subst c62
        have HZ : Hid (rdV ((s.drop a).length + 1) (s.drop a) = none) := (by rw [HQ.out, HD.out, rdV_gt]; rfl : rdV ((s.drop a).length + 1) (s.drop a) = none)
        go_wp2_with fail
        go_ret2
        exact ⟨hbr, .inl ⟨HZ.out, rfl⟩⟩
      have n62 : ((c.toNat : Int) == 62) = false := by rw [beq_eq_false_iff_ne]; exact fun h => c62 ((m_eq _ _).2 (h.trans (by decide)))
      by_cases c38 : c = 38
      · subst c38
        have vb := mbox wr #[.string ⟨#[38, 108, 116, 59]⟩, .string ⟨#[38, 103, 116, 59]⟩, .string ⟨#[38, 97, 109, 112, 59]⟩, .string ⟨#[38, 113, 117, 111, 116, 59]⟩] 9
        have bV := hbr.trans ((mal wr (.cells #[.string ⟨#[38, 108, 116, 59]⟩, .string ⟨#[38, 103, 116, 59]⟩, .string ⟨#[38, 97, 109, 112, 59]⟩, .string ⟨#[38, 113, 117, 111, 116, 59]⟩] 9)).mono hbr.size)
        go_wp2_with fail
        obtain ⟨V, hV⟩ : ∃ V, wr.alloc (.cells #[.string ⟨#[38, 108, 116, 59]⟩, .string ⟨#[38, 103, 116, 59]⟩, .string ⟨#[38, 97, 109, 112, 59]⟩, .string ⟨#[38, 113, 117, 111, 116, 59]⟩] 9) = V := ⟨_, rfl⟩
        obtain ⟨SB, hSB⟩ : ∃ SB, wr.heap.size = SB := ⟨_, rfl⟩
        rw [hV] at vb bV ⊢
        rw [hSB] at vb ⊢
        clear hV hSB
        have HM : Hid (mkW (s.drop k) = if [38, 108, 116, 59].isPrefixOf (s.drop k) = true then some (60, (s.drop k).drop 4) else if [38, 103, 116, 59].isPrefixOf (s.drop k) = true then some (62, (s.drop k).drop 4) else if [38, 97, 109, 112, 59].isPrefixOf (s.drop k) = true then some (38, (s.drop k).drop 5) else if [38, 113, 117, 111, 116, 59].isPrefixOf (s.drop k) = true then some (34, (s.drop k).drop 6) else none) := rfl
        have dl : (s.drop k).length = s.length - k := List.length_drop
        go_loopw [1, 6, 7, 9] (fun ya uo yf yi wq => ∃ i : Nat, yi = .int .i64 i ∧ i ≤ 4 ∧ Below V.heap.size V wq ∧ ((yf = .bool false ∧ ya = .int .i64 k ∧ uo = .string ⟨out.toArray⟩ ∧ ∀ j wd, j < i → ([[38, 108, 116, 59], [38, 103, 116, 59], [38, 97, 109, 112, 59], [38, 113, 117, 111, 116, 59]] : List Bs)[j]? = some wd → wd.isPrefixOf (s.drop k) = false) ∨ ∃ (d : UInt8) (k' : Nat), yf = .bool true ∧ ya = .int .i64 k' ∧ uo = .string ⟨(out ++ [d]).toArray⟩ ∧ k < k' ∧ k' ≤ s.length ∧ mkW (s.drop k) = some (d, s.drop k'))) (fun _ _ _ yi _ => 4 - (intOf yi).toNat)
        case atStart => exact ⟨0, rfl, by omega, Below.refl _ _, .inl ⟨rfl, rfl, rfl, fun j wd h => absurd h (Nat.not_lt_zero _)⟩⟩
        case round =>
          obtain ⟨i, rfl, hi, hbq, hst⟩ := hrel
          obtain ⟨wq, rfl⟩ : ∃ X, X = wr := ⟨_, rfl⟩
          have vq := (hbq.block SB (heap_lt vb)).trans vb
          have l0 := bcell vq 0 _ rfl
          have l1 := bcell vq 1 _ rfl
          have l2 := bcell vq 2 _ rfl
          have l3 := bcell vq 3 _ rfl
          have bQ := bV.trans (hbq.mono bV.size)
          rcases hst with ⟨rfl, rfl, rfl, hno⟩ | ⟨d, k', rfl, rfl, rfl, hkk, hk', hmk⟩
          · have HNO : Hid (∀ j wd, j < i → ([[38, 108, 116, 59], [38, 103, 116, 59], [38, 97, 109, 112, 59], [38, 113, 117, 111, 116, 59]] : List Bs)[j]? = some wd → wd.isPrefixOf (s.drop k) = false) := hno
            clear hno
            rcases i with _ | _ | _ | _ | _ | i
            · cases hp : [38, 108, 116, 59].isPrefixOf (s.drop k) with
              | true =>
                have HS := has_any s [38, 108, 116, 59] k (by omega) (by decide) (by omega)
                rw [hp] at HS
                have hpl := pre_len hp
                have HMK : Hid (mkW (s.drop k) = some (60, s.drop (k + 4))) := (by rw [HM.out, if_pos hp, List.drop_drop] : mkW (s.drop k) = some (60, s.drop (k + 4)))
                have hkn : k + 4 ≤ s.length := by simp at hpl; omega
                have hkn' : (k : Int) + 4 ≤ (s.length : Int) := by omega
                clear hp
                go_wp2_with (go_at_call 43; refine (HS _).mono ?_; rintro e w5 ⟨rfl, rfl⟩)
                go_roundw
                case rel => exact ⟨1, by go_num, by omega, hbq, .inr ⟨60, k + 4, rfl, by go_num, by rw [← cat_bs]; rfl, by omega, hkn, HMK.out⟩⟩
                case measure => simp [intOf]
              | false =>
                have HS := has_any s [38, 108, 116, 59] k (by omega) (by decide) (by omega)
                rw [hp] at HS
                have HP : Hid ([38, 108, 116, 59].isPrefixOf (s.drop k) = false) := hp
                clear hp
                go_wp2_with (go_at_call 43; refine (HS _).mono ?_; rintro e w5 ⟨rfl, rfl⟩)
                go_roundw
                case rel => exact ⟨1, by go_num, by omega, hbq, .inl ⟨rfl, rfl, rfl, fun j wd hj hw => by
                  by_cases e : j < 0
                  · exact HNO.out j wd (by omega) hw
                  · obtain rfl : j = 0 := by omega
                    simp at hw
                    subst hw
                    exact HP.out⟩⟩
                case measure => simp [intOf]
            · cases hp : [38, 103, 116, 59].isPrefixOf (s.drop k) with
              | true =>
                have HS := has_any s [38, 103, 116, 59] k (by omega) (by decide) (by omega)
                rw [hp] at HS
                have hpl := pre_len hp
                have HMK : Hid (mkW (s.drop k) = some (62, s.drop (k + 4))) := (by rw [HM.out, if_neg (by rw [HNO.out 0 _ (by omega) rfl]; simp), if_pos hp, List.drop_drop] : mkW (s.drop k) = some (62, s.drop (k + 4)))
                have hkn : k + 4 ≤ s.length := by simp at hpl; omega
                have hkn' : (k : Int) + 4 ≤ (s.length : Int) := by omega
                clear hp
                go_wp2_with (go_at_call 43; refine (HS _).mono ?_; rintro e w5 ⟨rfl, rfl⟩)
                go_roundw
                case rel => exact ⟨2, by go_num, by omega, hbq, .inr ⟨62, k + 4, rfl, by go_num, by rw [← cat_bs]; rfl, by omega, hkn, HMK.out⟩⟩
                case measure => simp [intOf]
              | false =>
                have HS := has_any s [38, 103, 116, 59] k (by omega) (by decide) (by omega)
                rw [hp] at HS
                have HP : Hid ([38, 103, 116, 59].isPrefixOf (s.drop k) = false) := hp
                clear hp
                go_wp2_with (go_at_call 43; refine (HS _).mono ?_; rintro e w5 ⟨rfl, rfl⟩)
                go_roundw
                case rel => exact ⟨2, by go_num, by omega, hbq, .inl ⟨rfl, rfl, rfl, fun j wd hj hw => by
                  by_cases e : j < 1
                  · exact HNO.out j wd (by omega) hw
                  · obtain rfl : j = 1 := by omega
                    simp at hw
                    subst hw
                    exact HP.out⟩⟩
                case measure => simp [intOf]
            · cases hp : [38, 97, 109, 112, 59].isPrefixOf (s.drop k) with
              | true =>
                have HS := has_any s [38, 97, 109, 112, 59] k (by omega) (by decide) (by omega)
                rw [hp] at HS
                have hpl := pre_len hp
                have HMK : Hid (mkW (s.drop k) = some (38, s.drop (k + 5))) := (by rw [HM.out, if_neg (by rw [HNO.out 0 _ (by omega) rfl]; simp), if_neg (by rw [HNO.out 1 _ (by omega) rfl]; simp), if_pos hp, List.drop_drop] : mkW (s.drop k) = some (38, s.drop (k + 5)))
                have hkn : k + 5 ≤ s.length := by simp at hpl; omega
                have hkn' : (k : Int) + 5 ≤ (s.length : Int) := by omega
                clear hp
                go_wp2_with (go_at_call 43; refine (HS _).mono ?_; rintro e w5 ⟨rfl, rfl⟩)
                go_roundw
                case rel => exact ⟨3, by go_num, by omega, hbq, .inr ⟨38, k + 5, rfl, by go_num, by rw [← cat_bs]; rfl, by omega, hkn, HMK.out⟩⟩
                case measure => simp [intOf]
              | false =>
                have HS := has_any s [38, 97, 109, 112, 59] k (by omega) (by decide) (by omega)
                rw [hp] at HS
                have HP : Hid ([38, 97, 109, 112, 59].isPrefixOf (s.drop k) = false) := hp
                clear hp
                go_wp2_with (go_at_call 43; refine (HS _).mono ?_; rintro e w5 ⟨rfl, rfl⟩)
                go_roundw
                case rel => exact ⟨3, by go_num, by omega, hbq, .inl ⟨rfl, rfl, rfl, fun j wd hj hw => by
                  by_cases e : j < 2
                  · exact HNO.out j wd (by omega) hw
                  · obtain rfl : j = 2 := by omega
                    simp at hw
                    subst hw
                    exact HP.out⟩⟩
                case measure => simp [intOf]
            · cases hp : [38, 113, 117, 111, 116, 59].isPrefixOf (s.drop k) with
              | true =>
                have HS := has_any s [38, 113, 117, 111, 116, 59] k (by omega) (by decide) (by omega)
                rw [hp] at HS
                have hpl := pre_len hp
                have HMK : Hid (mkW (s.drop k) = some (34, s.drop (k + 6))) := (by rw [HM.out, if_neg (by rw [HNO.out 0 _ (by omega) rfl]; simp), if_neg (by rw [HNO.out 1 _ (by omega) rfl]; simp), if_neg (by rw [HNO.out 2 _ (by omega) rfl]; simp), if_pos hp, List.drop_drop] : mkW (s.drop k) = some (34, s.drop (k + 6)))
                have hkn : k + 6 ≤ s.length := by simp at hpl; omega
                have hkn' : (k : Int) + 6 ≤ (s.length : Int) := by omega
                clear hp
                go_wp2_with (go_at_call 43; refine (HS _).mono ?_; rintro e w5 ⟨rfl, rfl⟩)
                go_roundw
                case rel => exact ⟨4, by go_num, by omega, hbq, .inr ⟨34, k + 6, rfl, by go_num, by rw [← cat_bs]; rfl, by omega, hkn, HMK.out⟩⟩
                case measure => simp [intOf]
              | false =>
                have HS := has_any s [38, 113, 117, 111, 116, 59] k (by omega) (by decide) (by omega)
                rw [hp] at HS
                have HP : Hid ([38, 113, 117, 111, 116, 59].isPrefixOf (s.drop k) = false) := hp
                clear hp
                go_wp2_with (go_at_call 43; refine (HS _).mono ?_; rintro e w5 ⟨rfl, rfl⟩)
                go_roundw
                case rel => exact ⟨4, by go_num, by omega, hbq, .inl ⟨rfl, rfl, rfl, fun j wd hj hw => by
                  by_cases e : j < 3
                  · exact HNO.out j wd (by omega) hw
                  · obtain rfl : j = 3 := by omega
                    simp at hw
                    subst hw
                    exact HP.out⟩⟩
                case measure => simp [intOf]
            · have HZ : Hid (rdV ((s.drop a).length + 1) (s.drop a) = none) := (by
                have hm : mkW (s.drop k) = none := by rw [HM.out, if_neg (by rw [HNO.out 0 _ (by omega) rfl]; simp), if_neg (by rw [HNO.out 1 _ (by omega) rfl]; simp), if_neg (by rw [HNO.out 2 _ (by omega) rfl]; simp), if_neg (by rw [HNO.out 3 _ (by omega) rfl]; simp)]
                rw [HQ.out]
                have h5 := HD.out
                rw [h5, rdV_amp, ← h5, hm]
                rfl : rdV ((s.drop a).length + 1) (s.drop a) = none)
              go_wp2_with fail
              go_ret2
              exact ⟨bQ, .inl ⟨HZ.out, rfl⟩⟩
            · omega
          · have HN : Hid (rdV ((s.drop a).length + 1) (s.drop a) = preV (out ++ [d]) (rdV f (s.drop k'))) := (by
              rw [HQ.out]
              have h5 := HD.out
              rw [h5, rdV_amp, ← h5, hmk]
              exact preV_app _ _ _ : rdV ((s.drop a).length + 1) (s.drop a) = preV (out ++ [d]) (rdV f (s.drop k')))
            clear hmk
            go_wp2_with fail
            all_goals (
              go_roundw
              case rel => exact ⟨k', f, out ++ [d], rfl, rfl, by omega, hk', by simp; omega, by rw [List.length_drop] at hfl ⊢; omega, HN.out, bQ⟩
              case measure => simp [intOf]; omega)
      · have n38 : ((c.toNat : Int) != 38) = true := bne_iff_ne.2 (fun h => c38 ((m_eq _ _).2 (h.trans (by decide))))
        have n38' : ¬ (c.toNat : Int) = 38 := fun h => c38 ((m_eq _ _).2 (h.trans (by decide)))
        have HN : Hid (rdV ((s.drop a).length + 1) (s.drop a) = preV (out ++ [c]) (rdV (f + 1) (s.drop (k + 1)))) := (by
          have hm : mB c = false := by
            unfold mB
            simp only [Bool.or_eq_false_iff, beq_eq_false_iff_ne]
            exact ⟨⟨⟨c60, c62⟩, c38⟩, c34⟩
          rw [HQ.out, HD.out, rdV_step hm, preV_app] : rdV ((s.drop a).length + 1) (s.drop a) = preV (out ++ [c]) (rdV (f + 1) (s.drop (k + 1))))
        have hle1 : (k : Int) + 1 ≤ (s.length : Int) := by omega
        have hle2 : (k : Int) + 1 ≤ ((⟨s.toArray⟩ : ByteArray).size : Int) := by rw [h1]; omega
        have hle3 : (k : Int) ≤ (k : Int) + 1 := by omega
        have hone := bs_one s k c HG.out
        go_wp2_with fail
        go_roundw
        case rel => exact ⟨k + 1, f + 1, out ++ [c], by go_num, by rw [← cat_bs], by omega, by omega, by simp; omega, by omega, HN.out, hbr⟩
        case measure => simp [intOf]; omega
    · obtain rfl : k = s.length := by omega
      have hee : ((s.length : Int) == (s.length : Int)) = true := by simp
      have HZ : Hid (rdV ((s.drop a).length + 1) (s.drop a) = none) := (by rw [HQ.out, List.drop_length, rdV_nil]; rfl : rdV ((s.drop a).length + 1) (s.drop a) = none)
      go_wp2_with fail
      go_ret2
      exact ⟨hbr, .inl ⟨HZ.out, rfl⟩⟩

end Go.Proofs.YtdebekonggnckabDoor

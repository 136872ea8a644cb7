/-
  An element as the reader reads it.
-/
import Derived.Test.YtdebekonggnckabDoorMark23
namespace Go.Proofs.YtdebekonggnckabDoor
open Go.RowKit

theorem NB.keep2 {Z R N : Nat} {c0 c1 c2 : Value} {w w' : World} (h : NB Z c0 c1 c2 w) (k : Keep2 R N w w') (h1 : Z ≠ R) (h2 : Z ≠ N) : NB Z c0 c1 c2 w' := by
  have := h.lt
  unfold NB at h ⊢
  rw [k.block Z this h1 h2]
  exact h
theorem own_keep2 {R N B k n : Nat} {e : TypeId} {v : Value} {xs : List Value} {w w' : World} (h : w.ownsRow B e k v n xs) (hk : Keep2 R N w w') (hR : R < B) (hN : N < B) : w'.ownsRow B e k v n xs := by
  refine ⟨h.1, ?_⟩
  rcases h.2 with hn | ⟨g, cap, cur, rfl, hb, hgg, rest⟩
  · exact .inl hn
  · refine .inr ⟨g, cap, cur, rfl, hb, ?_, rest⟩
    rw [hk.block g (heap_lt hgg) (by omega) (by omega)]
    exact hgg
theorem own_base {B B' k n : Nat} {e : TypeId} {v : Value} {xs : List Value} {w : World} (h : w.ownsRow B e k v n xs) (hb : B' ≤ B) : w.ownsRow B' e k v n xs := by
  refine ⟨h.1, ?_⟩
  rcases h.2 with hn | ⟨g, cap, cur, h1, h2, rest⟩
  · exact .inl hn
  · exact .inr ⟨g, cap, cur, h1, by omega, rest⟩
theorem Keep.setZ {R Z : Nat} {W w : World} (h : Keep R W w) (hZ : W.heap.size ≤ Z) (i : Nat) (v : Value) : Keep R W (w.setCell ⟨Z, i, none⟩ v) :=
  h.low ((Below.refl _ w).setCell (p := ⟨Z, i, none⟩) hZ v)
/-- The three stores of the answer. -/
abbrev put3 (Z : Nat) (a b c : Value) (w : World) : World := ((w.setCell ⟨Z, 0, none⟩ a).setCell ⟨Z, 1, none⟩ b).setCell ⟨Z, 2, none⟩ c
theorem el_put {R Z : Nat} {W w : World} (h : Keep R W w) (hZ : W.heap.size ≤ Z) (a b c : Value) : Keep R W (put3 Z a b c w) := ((h.setZ hZ _ _).setZ hZ _ _).setZ hZ _ _
theorem el_fin {R Z U : Nat} {W w : World} {nm : Bs} {vA vK : Value} {ats : List (Bs × Bs)} {K : List V3} {ks : List Nd} {z : Bs} (hl : nm.length ≤ maxLen) (hats : ∀ x ∈ ats, x.1.length ≤ maxLen ∧ x.2.length ≤ maxLen)
    (ow : w.ownsRow U 77 2 vA ats.length (cellsA ats)) (owK : w.ownsRow U 40 3 vK K.length (cellsK K)) (hk : KR (fun b => U ≤ b) w K ks) (rd : RD R z w) (hZ : W.heap.size ≤ Z) (hU : Z < U) (hRZ : R ≠ Z) :
    RD R z (put3 Z (.string ⟨nm.toArray⟩) vA vK w) ∧ NdQ (fun b => W.heap.size ≤ b) (put3 Z (.string ⟨nm.toArray⟩) vA vK w) (.string ⟨nm.toArray⟩) vA vK (.mk nm ats ks) := by
  refine ⟨((rd.setN _ _ hRZ).setN _ _ hRZ).setN _ _ hRZ, ?_⟩
  refine NdQ.turn (Q := fun b => U ≤ b) (w := w) (fun b hb _ => ⟨by omega, ?_⟩) _ (NdQ.make hl (AtsQ.turn (AtsQ.of_row ow hats) (fun b hb _ => ⟨(ow.lt b hb).1, rfl⟩)) owK hk (fun b hb => (owK.lt b hb).1))
  have hbz : b ≠ Z := by omega
  rw [Below.heap_setCell _ _ _ b hbz, Below.heap_setCell _ _ _ b hbz, Below.heap_setCell _ _ _ b hbz]

theorem rdN_no {f : Nat} {s : Bs} (h : [60].isPrefixOf s = false) : rdN (f + 1) s = none := by rw [rdN, if_neg (by rw [h]; simp)]
theorem rdN_nil {f : Nat} {s r : Bs} (h : [60].isPrefixOf s = true) (hr : s.drop 1 = r) (h1 : tkE r = []) : rdN (f + 1) s = none := by rw [rdN, if_pos h, hr, if_pos h1]
theorem rdN_ats {f : Nat} {s r : Bs} (h : [60].isPrefixOf s = true) (hr : s.drop 1 = r) (h2 : rdA ((drE r).length + 1) (drE r) = none) : rdN (f + 1) s = none := by
  rw [rdN, if_pos h, hr, h2]
  split <;> rfl
theorem rdN_one {f : Nat} {s r y : Bs} {ats : List (Bs × Bs)} (h : [60].isPrefixOf s = true) (hr : s.drop 1 = r) (h1 : tkE r ≠ []) (h2 : rdA ((drE r).length + 1) (drE r) = some (ats, y)) (h3 : [47, 62].isPrefixOf y = true) : rdN (f + 1) s = some (.mk (tkE r) ats [], y.drop 2) := by
  rw [rdN, if_pos h, hr, if_neg h1, h2]
  show (if [47, 62].isPrefixOf y = true then some (Nd.mk (tkE r) ats [], y.drop 2) else _) = _
  rw [if_pos h3]
theorem rdN_end {f : Nat} {s r y : Bs} {ats : List (Bs × Bs)} (h : [60].isPrefixOf s = true) (hr : s.drop 1 = r) (h1 : tkE r ≠ []) (h2 : rdA ((drE r).length + 1) (drE r) = some (ats, y)) (h3 : [47, 62].isPrefixOf y = false) (h4 : [62].isPrefixOf y = false) : rdN (f + 1) s = none := by
  rw [rdN, if_pos h, hr, if_neg h1, h2]
  show (if [47, 62].isPrefixOf y = true then _ else if [62].isPrefixOf y = true then _ else none) = _
  rw [if_neg (by rw [h3]; simp), if_neg (by rw [h4]; simp)]
theorem rdN_kids {f : Nat} {s r y x : Bs} {ats : List (Bs × Bs)} (h : [60].isPrefixOf s = true) (hr : s.drop 1 = r) (h1 : tkE r ≠ []) (h2 : rdA ((drE r).length + 1) (drE r) = some (ats, y)) (h3 : [47, 62].isPrefixOf y = false) (h4 : [62].isPrefixOf y = true) (hx : y.drop 1 = x) :
    rdN (f + 1) s = match rdK (rdN f) (x.length + 1) x with
      | none => none
      | some k => if (endT (tkE r)).isPrefixOf k.2 = true then some (.mk (tkE r) ats k.1, k.2.drop (endT (tkE r)).length) else none := by
  rw [rdN, if_pos h, hr, if_neg h1, h2]
  show (if [47, 62].isPrefixOf y = true then _ else if [62].isPrefixOf y = true then (match rdK (rdN f) ((y.drop 1).length + 1) (y.drop 1) with
      | none => none
      | some k => if (endT (tkE r)).isPrefixOf k.2 = true then some (Nd.mk (tkE r) ats k.1, k.2.drop (endT (tkE r)).length) else none) else none) = _
  rw [if_neg (by rw [h3]; simp), if_pos h4, hx]

set_option maxRecDepth 20000 in
set_option maxHeartbeats 4000000 in
theorem element_step (R f : Nat) (IH : El R f) : El R (f + 1) := by
  intro s W hf hl h
  have hR := h.lt
  have nbZ := mbox W #[.string ⟨#[]⟩, .slice none 0 0, .slice none 0 0] 40
  have rd0 := h.al (.cells #[.string ⟨#[]⟩, .slice none 0 0, .slice none 0 0] 40)
  have k0 : Keep R W (W.alloc (.cells #[.string ⟨#[]⟩, .slice none 0 0, .slice none 0 0] 40)) := Keep.of_below (mal W _)
  obtain ⟨V0, hV0⟩ : ∃ V, W.alloc (.cells #[.string ⟨#[]⟩, .slice none 0 0, .slice none 0 0] 40) = V := ⟨_, rfl⟩
  have zb0 : NB W.heap.size (.string ⟨#[]⟩) (.slice none 0 0) (.slice none 0 0) V0 := by rw [← hV0]; exact nbZ
  have hRZ : R ≠ W.heap.size := by omega
  rw [hV0] at rd0 k0
  clear nbZ
  cases hp : [60].isPrefixOf s with
  | false =>
    have HZ : Hid (rdN (f + 1) s = none) := rdN_no hp
    go_enter Tryd.func41, Tryd.ntmps41
    go_upto_region 1 with fail
    clear hV0
    go_wp2_with (go_at_call 62; refine (skip_no R s [60] _ rd0 hp).mono ?_; rintro e w1 ⟨rfl, rd1, k1⟩; have zb1 := zb0.keep k1 hRZ; have a0 := zb1.c0; have a1 := zb1.c1; have a2 := zb1.c2; have af := zb1.froz)
    refine bodyPost_ret (v := .tuple #[.agg #[.string ⟨#[]⟩, .slice none 0 0, .slice none 0 0], .bool false]) (by simp [results, Tryd.results41, go_sem, a0, a1, a2]) rfl ⟨el_put (k0.trans k1) (Nat.le_refl _) _ _ _, ⟨#[]⟩, none, 0, 0, none, 0, 0, .inl ⟨HZ.out, rfl⟩⟩
  | true =>
    have hlr := pre_len hp
    have SK1 := skip_yes R s [60] V0 rd0 hp
    obtain ⟨r, hr⟩ : ∃ r, s.drop 1 = r := ⟨_, rfl⟩
    have hlr' : 1 + r.length = s.length := by rw [← hr]; exact hlr
    rw [show s.drop ([60] : Bs).length = r from hr] at SK1
    have HP : Hid ([60].isPrefixOf s = true ∧ s.drop 1 = r) := ⟨hp, hr⟩
    clear hlr hr hp
    have hte := tkE_len r
    go_enter Tryd.func41, Tryd.ntmps41
    go_upto_region 4 with (first | (go_at_call 63; refine (takeE_any R r _ _ rd2 nx (by omega)).mono ?_; rintro e w3 ⟨rfl, rd3, k3⟩; have zb3 := zb2.keep k3 hRZ; have K3 := K2.trans k3) | (go_at_call 64; refine (noneOf_any [32, 61, 34, 60, 62, 47] _).mono ?_; rintro e w2 ⟨rfl, rfl⟩) | (go_at_call 62; refine SK1.mono ?_; rintro e w1 ⟨rfl, rd1, k1⟩; have nx := mbox w1 #[.string ⟨([32, 61, 34, 60, 62, 47] : Bs).toArray⟩] 9; have rd2 := rd1.al (.cells #[.string ⟨([32, 61, 34, 60, 62, 47] : Bs).toArray⟩] 9); have zb2 := (zb0.keep k1 hRZ).al (.cells #[.string ⟨([32, 61, 34, 60, 62, 47] : Bs).toArray⟩] 9); have K2 := (k0.trans k1).al (.cells #[.string ⟨([32, 61, 34, 60, 62, 47] : Bs).toArray⟩] 9); clear rd1))
    have nbU := mbox w3 #[.string ⟨(tkE r).toArray⟩, .slice none 0 0, .slice none 0 0] 40
    have rdU := rd3.al (.cells #[.string ⟨(tkE r).toArray⟩, .slice none 0 0, .slice none 0 0] 40)
    have zbU := zb3.al (.cells #[.string ⟨(tkE r).toArray⟩, .slice none 0 0, .slice none 0 0] 40)
    have KU := K3.al (.cells #[.string ⟨(tkE r).toArray⟩, .slice none 0 0, .slice none 0 0] 40)
    have sZ := zb3.lt
    have sK := K3.size
    have szU := heap_lt nbU
    obtain ⟨U, hU⟩ : ∃ U, w3.alloc (.cells #[.string ⟨(tkE r).toArray⟩, .slice none 0 0, .slice none 0 0] 40) = U := ⟨_, rfl⟩
    obtain ⟨N, hN⟩ : ∃ N, w3.heap.size = N := ⟨_, rfl⟩
    have nb4 : NB N (.string ⟨(tkE r).toArray⟩) (.slice none 0 0) (.slice none 0 0) U := by rw [← hU, ← hN]; exact nbU
    rw [hU] at rdU zbU KU szU ⊢
    rw [hN] at szU sZ sK ⊢
    clear nbU hU hN rd3 zb3 K3 k3 rd2 zb2 K2 nx k1 rd0 zb0 k0 hV0 SK1
    have hRN : R ≠ N := by omega
    have hZN : W.heap.size ≠ N := by omega
    have hZR : W.heap.size ≠ R := by omega
    have hml : (tkE r).length ≤ maxLen := by rw [maxLen_eq]; omega
    have b0 := nb4.c0
    by_cases he : tkE r = []
    · have HZ : Hid (rdN (f + 1) s = none) := rdN_nil HP.out.1 HP.out.2 he
      rw [he] at b0
      have a0 := zbU.c0
      have a1 := zbU.c1
      have a2 := zbU.c2
      have af := zbU.froz
      go_wp2_with fail
      refine bodyPost_ret (v := .tuple #[.agg #[.string ⟨#[]⟩, .slice none 0 0, .slice none 0 0], .bool false]) (by simp [results, Tryd.results41, go_sem, a0, a1, a2]) rfl ⟨el_put KU (Nat.le_refl _) _ _ _, ⟨#[]⟩, none, 0, 0, none, 0, 0, .inl ⟨HZ.out, rfl⟩⟩
    · have hem : (tkE r).isEmpty = false := by
        cases ht : tkE r with
        | nil => exact absurd ht he
        | cons _ _ => rfl
      have AT := attrs_rd R N (drE r) (.string ⟨(tkE r).toArray⟩) (.slice none 0 0) U rdU nb4 hRN (by omega)
      cases hv : rdA ((drE r).length + 1) (drE r) with
      | none =>
        have HZ : Hid (rdN (f + 1) s = none) := rdN_ats HP.out.1 HP.out.2 hv
        have AT1 := AT.mono (R' := fun e w' => Keep2 R N U w' ∧ e = .returned (.bool false)) (fun e w' h => by
          refine ⟨h.1, ?_⟩
          obtain ⟨vA, -, h2 | ⟨a, z, h2, -⟩⟩ := h.2
          · exact h2.2
          · rw [hv] at h2; cases h2)
        clear AT hv
        go_wp2_with (go_at_call 65; refine AT1.mono ?_; rintro e w5 ⟨k5, rfl⟩; have zb5 := zbU.keep2 k5 hZR hZN; have a0 := zb5.c0; have a1 := zb5.c1; have a2 := zb5.c2; have af := zb5.froz)
        refine bodyPost_ret (v := .tuple #[.agg #[.string ⟨#[]⟩, .slice none 0 0, .slice none 0 0], .bool false]) (by simp [results, Tryd.results41, go_sem, a0, a1, a2]) rfl ⟨el_put (Keep2.keep KU k5 (by omega)) (Nat.le_refl _) _ _ _, ⟨#[]⟩, none, 0, 0, none, 0, 0, .inl ⟨HZ.out, rfl⟩⟩
      | some q =>
        obtain ⟨ats, y⟩ := q
        have hla := rdA_len _ _ _ hv
        have hly : y.length ≤ (drE r).length := by have := hla.1; simp only at this; omega
        have HA : Hid (∀ x ∈ ats, x.1.length ≤ maxLen ∧ x.2.length ≤ maxLen) := (fun x hx => by have := hla.2 x hx; rw [maxLen_eq]; omega : ∀ x ∈ ats, x.1.length ≤ maxLen ∧ x.2.length ≤ maxLen)
        clear hla
        have HV : Hid (rdA ((drE r).length + 1) (drE r) = some (ats, y)) := hv
        have AT1 := AT.mono (R' := fun e w' => Keep2 R N U w' ∧ e = .returned (.bool true) ∧ RD R y w' ∧ ∃ oA cA, NB N (.string ⟨(tkE r).toArray⟩) (.slice oA ats.length cA) (.slice none 0 0) w' ∧ w'.ownsRow U.heap.size 77 2 (.slice oA ats.length cA) ats.length (cellsA ats)) (fun e w' h => by
          refine ⟨h.1, ?_⟩
          obtain ⟨vA, h0, h2 | ⟨a, z, h2, h3, h4, h5⟩⟩ := h.2
          · rw [hv] at h2; cases h2.1
          · rw [hv] at h2
            cases h2
            obtain ⟨oA, cA, rfl⟩ := own_slice2 h5
            exact ⟨h3, h4, oA, cA, h0, h5⟩)
        clear AT hv
        cases h3 : [47, 62].isPrefixOf y with
        | true =>
          have HZ : Hid (rdN (f + 1) s = some (.mk (tkE r) ats [], y.drop 2)) := rdN_one HP.out.1 HP.out.2 he HV.out h3
          go_wp2_with (first | (go_at_call 65; refine AT1.mono ?_; rintro e w5 ⟨k5, rfl, rd5, oA, cA, nb5, ow5⟩; have zb5 := zbU.keep2 k5 hZR hZN) | (go_at_call 62; refine (skip_yes R y [47, 62] _ rd5 h3).mono ?_; rintro e w6 ⟨rfl, rd6', k6⟩; have rd6 : RD R (y.drop 2) w6 := rd6'; have nb6 := nb5.keep k6 hRN; have zb6 := zb5.keep k6 hRZ; have ow6 := own_keep ow5 k6 (by omega); have K6 := (Keep2.keep KU k5 (by omega)).trans k6; clear rd6'; have b0 := nb6.c0; have b1 := nb6.c1; have b2 := nb6.c2; have a0 := zb6.c0; have a1 := zb6.c1; have a2 := zb6.c2; have af := zb6.froz))
          refine bodyPost_ret (v := .tuple #[.agg #[.string ⟨(tkE r).toArray⟩, .slice oA ats.length cA, .slice none 0 0], .bool true]) (by simp [results, Tryd.results41, go_sem, a0, a1, a2]) rfl ⟨el_put K6 (Nat.le_refl _) _ _ _, _, _, _, _, _, _, _, .inr ⟨_, _, HZ.out, rfl, el_fin (K := []) hml HA.out ow6 (World.ownsRow_nil _ _ _ _) trivial rd6 (Nat.le_refl _) (by omega) hRZ⟩⟩
        | false =>
          cases h4 : [62].isPrefixOf y with
          | false =>
            have HZ : Hid (rdN (f + 1) s = none) := rdN_end HP.out.1 HP.out.2 he HV.out h3 h4
            go_wp2_with (first | (go_at_call 65; refine AT1.mono ?_; rintro e w5 ⟨k5, rfl, rd5, oA, cA, nb5, ow5⟩; have zb5 := zbU.keep2 k5 hZR hZN; have K5 := Keep2.keep KU k5 (by omega)) | (have z6 := rd6; go_at_call 62; refine (skip_no R y [62] _ z6 h4).mono ?_; rintro e w7 ⟨rfl, rd7, k7⟩; have nb7 := nb6.keep k7 hRN; have zb7 := zb6.keep k7 hRZ; have K7 := K6.trans k7; have b0 := nb7.c0; have b1 := nb7.c1; have b2 := nb7.c2; have a0 := zb7.c0; have a1 := zb7.c1; have a2 := zb7.c2; have af := zb7.froz) | (go_at_call 62; refine (skip_no R y [47, 62] _ rd5 h3).mono ?_; rintro e w6 ⟨rfl, rd6, k6⟩; have nb6 := nb5.keep k6 hRN; have zb6 := zb5.keep k6 hRZ; have ow6 := own_keep ow5 k6 (by omega); have K6 := K5.trans k6))
            refine bodyPost_ret (v := .tuple #[.agg #[.string ⟨(tkE r).toArray⟩, .slice oA ats.length cA, .slice none 0 0], .bool false]) (by simp [results, Tryd.results41, go_sem, a0, a1, a2]) rfl ⟨el_put K7 (Nat.le_refl _) _ _ _, _, _, _, _, _, _, _, .inl ⟨HZ.out, rfl⟩⟩
          | true =>
            have hlx := pre_len h4
            have SK2 := fun W h => skip_yes R y [62] W h h4
            obtain ⟨x, hx⟩ : ∃ x, y.drop 1 = x := ⟨_, rfl⟩
            have hlx' : 1 + x.length = y.length := by rw [← hx]; exact hlx
            rw [show y.drop ([62] : Bs).length = x from hx] at SK2
            have HK := rdN_kids (f := f) HP.out.1 HP.out.2 he HV.out h3 h4 hx
            have KD0 := fun (c1 : Value) (W : World) (h : RD R x W) (hn : NB N (.string ⟨(tkE r).toArray⟩) c1 (.slice none 0 0) W) => kids_rd R N f IH x _ c1 W h hn hRN (by omega) (by omega)
            clear hlx hx h4
            cases hk : rdK (rdN f) (x.length + 1) x with
            | none =>
              have HZ : Hid (rdN (f + 1) s = none) := (by rw [HK, hk] : rdN (f + 1) s = none)
              have KD : ∀ (c1 : Value) (W : World), RD R x W → NB N (.string ⟨(tkE r).toArray⟩) c1 (.slice none 0 0) W → Calls Tryd.prog 66 #[.pointer (some ⟨R, 0, none⟩), .pointer (some ⟨N, 0, none⟩)] W fun e w' => Keep2 R N W w' ∧ ∃ oK nK cK, NB N (.string ⟨(tkE r).toArray⟩) c1 (.slice oK nK cK) w' ∧ e = .returned (.bool false) := fun c1 W h hn => (KD0 c1 W h hn).mono (fun e w' h => by
                refine ⟨h.1, ?_⟩
                obtain ⟨oK, nK, cK, h0, h2 | ⟨a, z, K, h2, -⟩⟩ := h.2
                · exact ⟨oK, nK, cK, h0, h2.2⟩
                · rw [hk] at h2; cases h2)
              clear hk HK KD0
              go_wp2_with (first | (go_at_call 65; refine AT1.mono ?_; rintro e w5 ⟨k5, rfl, rd5, oA, cA, nb5, ow5⟩; have zb5 := zbU.keep2 k5 hZR hZN; have K5 := Keep2.keep KU k5 (by omega)) | (go_at_call 66; refine (KD _ _ rd7 nb7).mono ?_; rintro e w8 ⟨k8, oK, nK, cK, nb8, rfl⟩; have zb8 := zb7.keep2 k8 hZR hZN; have s7 := k7.size; have s6 := k6.size; have s5 := k5.size; have K8 := Keep2.keep K7 k8 (by omega); have b0 := nb8.c0; have b1 := nb8.c1; have b2 := nb8.c2; have a0 := zb8.c0; have a1 := zb8.c1; have a2 := zb8.c2; have af := zb8.froz) | (have z6 := rd6; go_at_call 62; refine (SK2 _ z6).mono ?_; rintro e w7 ⟨rfl, rd7, k7⟩; have nb7 := nb6.keep k7 hRN; have zb7 := zb6.keep k7 hRZ; have ow7 := own_keep ow6 k7 (by omega); have K7 := K6.trans k7) | (go_at_call 62; refine (skip_no R y [47, 62] _ rd5 h3).mono ?_; rintro e w6 ⟨rfl, rd6, k6⟩; have nb6 := nb5.keep k6 hRN; have zb6 := zb5.keep k6 hRZ; have ow6 := own_keep ow5 k6 (by omega); have K6 := K5.trans k6))
              refine bodyPost_ret (v := .tuple #[.agg #[.string ⟨(tkE r).toArray⟩, .slice oA ats.length cA, .slice oK nK cK], .bool false]) (by simp [results, Tryd.results41, go_sem, a0, a1, a2]) rfl ⟨el_put K8 (Nat.le_refl _) _ _ _, _, _, _, _, _, _, _, .inl ⟨HZ.out, rfl⟩⟩
            | some q =>
              obtain ⟨ks, z⟩ := q
              have KD : ∀ (c1 : Value) (W : World), RD R x W → NB N (.string ⟨(tkE r).toArray⟩) c1 (.slice none 0 0) W → Calls Tryd.prog 66 #[.pointer (some ⟨R, 0, none⟩), .pointer (some ⟨N, 0, none⟩)] W fun e w' => Keep2 R N W w' ∧ ∃ oK nK cK, NB N (.string ⟨(tkE r).toArray⟩) c1 (.slice oK nK cK) w' ∧ e = .returned (.bool true) ∧ RD R z w' ∧ ∃ K : List V3, w'.ownsRow W.heap.size 40 3 (.slice oK nK cK) K.length (cellsK K) ∧ KR (fun b => W.heap.size ≤ b) w' K ks := fun c1 W h hn => (KD0 c1 W h hn).mono (fun e w' h => by
                refine ⟨h.1, ?_⟩
                obtain ⟨oK, nK, cK, h0, h2 | ⟨a, z', K, h2, h3, h4, h5, h6⟩⟩ := h.2
                · rw [hk] at h2; cases h2.1
                · rw [hk] at h2; cases h2; exact ⟨oK, nK, cK, h0, h3, h4, K, h5, h6⟩)
              have hs4 : 2 + (tkE r).length ≤ 9223372036854775807 := by omega
              have hs5 : 2 + (tkE r).length + 1 ≤ 9223372036854775807 := by omega
              cases h5 : (endT (tkE r)).isPrefixOf z with
              | false =>
                have HZ : Hid (rdN (f + 1) s = none) := (by rw [HK, hk]; show (if (endT (tkE r)).isPrefixOf z = true then _ else none) = _; rw [if_neg (by rw [h5]; simp)] : rdN (f + 1) s = none)
                clear hk HK KD0
                go_wp2_with (first | (go_at_call 65; refine AT1.mono ?_; rintro e w5 ⟨k5, rfl, rd5, oA, cA, nb5, ow5⟩; have zb5 := zbU.keep2 k5 hZR hZN; have K5 := Keep2.keep KU k5 (by omega)) | (have z8 := rd8; go_at_call 62; rw [cat1, cat1]; refine (skip_no R z (endT (tkE r)) _ z8 h5).mono ?_; rintro e w9 ⟨rfl, rd9, k9⟩; have nb9 := nb8.keep k9 hRN; have zb9 := zb8.keep k9 hRZ; have K9 := K8.trans k9; clear b0; have b0 := nb9.c0; have b1 := nb9.c1; have b2 := nb9.c2; have a0 := zb9.c0; have a1 := zb9.c1; have a2 := zb9.c2; have af := zb9.froz) | (go_at_call 66; refine (KD _ _ rd7 nb7).mono ?_; rintro e w8 ⟨k8, oK, nK, cK, nb8, rfl, rd8, K, ow8, kr8⟩; have zb8 := zb7.keep2 k8 hZR hZN; have s7 := k7.size; have s6 := k6.size; have s5 := k5.size; have K8 := Keep2.keep K7 k8 (by omega); have oa8 := own_keep2 ow7 k8 (by omega) (by omega); have b0 := nb8.c0) | (have z6 := rd6; go_at_call 62; refine (SK2 _ z6).mono ?_; rintro e w7 ⟨rfl, rd7, k7⟩; have nb7 := nb6.keep k7 hRN; have zb7 := zb6.keep k7 hRZ; have ow7 := own_keep ow6 k7 (by omega); have K7 := K6.trans k7) | (go_at_call 62; refine (skip_no R y [47, 62] _ rd5 h3).mono ?_; rintro e w6 ⟨rfl, rd6, k6⟩; have nb6 := nb5.keep k6 hRN; have zb6 := zb5.keep k6 hRZ; have ow6 := own_keep ow5 k6 (by omega); have K6 := K5.trans k6))
                refine bodyPost_ret (v := .tuple #[.agg #[.string ⟨(tkE r).toArray⟩, .slice oA ats.length cA, .slice oK nK cK], .bool false]) (by simp [results, Tryd.results41, go_sem, a0, a1, a2]) rfl ⟨el_put K9 (Nat.le_refl _) _ _ _, _, _, _, _, _, _, _, .inl ⟨HZ.out, rfl⟩⟩
              | true =>
                have HZ : Hid (rdN (f + 1) s = some (.mk (tkE r) ats ks, z.drop (endT (tkE r)).length)) := (by rw [HK, hk]; show (if (endT (tkE r)).isPrefixOf z = true then _ else none) = _; rw [if_pos h5] : rdN (f + 1) s = some (.mk (tkE r) ats ks, z.drop (endT (tkE r)).length))
                clear hk HK KD0
                go_wp2_with (first | (go_at_call 65; refine AT1.mono ?_; rintro e w5 ⟨k5, rfl, rd5, oA, cA, nb5, ow5⟩; have zb5 := zbU.keep2 k5 hZR hZN; have K5 := Keep2.keep KU k5 (by omega)) | (have z8 := rd8; go_at_call 62; rw [cat1, cat1]; refine (skip_yes R z (endT (tkE r)) _ z8 h5).mono ?_; rintro e w9 ⟨rfl, rd9, k9⟩; have nb9 := nb8.keep k9 hRN; have zb9 := zb8.keep k9 hRZ; have K9 := K8.trans k9; clear b0; have b0 := nb9.c0; have b1 := nb9.c1; have b2 := nb9.c2; have a0 := zb9.c0; have a1 := zb9.c1; have a2 := zb9.c2; have af := zb9.froz) | (go_at_call 66; refine (KD _ _ rd7 nb7).mono ?_; rintro e w8 ⟨k8, oK, nK, cK, nb8, rfl, rd8, K, ow8, kr8⟩; have zb8 := zb7.keep2 k8 hZR hZN; have s7 := k7.size; have s6 := k6.size; have s5 := k5.size; have K8 := Keep2.keep K7 k8 (by omega); have oa8 := own_keep2 ow7 k8 (by omega) (by omega); have b0 := nb8.c0) | (have z6 := rd6; go_at_call 62; refine (SK2 _ z6).mono ?_; rintro e w7 ⟨rfl, rd7, k7⟩; have nb7 := nb6.keep k7 hRN; have zb7 := zb6.keep k7 hRZ; have ow7 := own_keep ow6 k7 (by omega); have K7 := K6.trans k7) | (go_at_call 62; refine (skip_no R y [47, 62] _ rd5 h3).mono ?_; rintro e w6 ⟨rfl, rd6, k6⟩; have nb6 := nb5.keep k6 hRN; have zb6 := zb5.keep k6 hRZ; have ow6 := own_keep ow5 k6 (by omega); have K6 := K5.trans k6))
                refine bodyPost_ret (v := .tuple #[.agg #[.string ⟨(tkE r).toArray⟩, .slice oA ats.length cA, .slice oK nK cK], .bool true]) (by simp [results, Tryd.results41, go_sem, a0, a1, a2]) rfl ⟨el_put K9 (Nat.le_refl _) _ _ _, _, _, _, _, _, _, _, .inr ⟨_, _, HZ.out, rfl, el_fin (U := U.heap.size) (K := K) hml HA.out (own_keep oa8 k9 (by omega)) (own_keep (own_base ow8 (by omega)) k9 (by omega)) (KR.turn (fun b hb _ => ⟨by omega, k9.block b (by assumption) (by omega)⟩) kr8) rd9 (Nat.le_refl _) (by omega) hRZ⟩⟩

end Go.Proofs.YtdebekonggnckabDoor

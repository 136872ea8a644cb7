/-
  Children as the reader reads them: the walk.
-/
import Derived.Test.YtdebekonggnckabDoorMark22
namespace Go.Proofs.YtdebekonggnckabDoor
open Go.RowKit

set_option maxRecDepth 20000 in
set_option maxHeartbeats 4000000 in
theorem kids_rd (R N f : Nat) (IH : El R f) (s : Bs) (c0 c1 : Value) (W : World) (h : RD R s W) (hN : NB N c0 c1 (.slice none 0 0) W) (hne : R ≠ N) (hl : s.length ≤ 10000) (hf : s.length < f) :
    Calls Tryd.prog 66 #[.pointer (some ⟨R, 0, none⟩), .pointer (some ⟨N, 0, none⟩)] W fun e w' => Keep2 R N W w' ∧ KdR R N W.heap.size c0 c1 (rdK (rdN f) (s.length + 1) s) e w' := by
  have hR := h.lt
  have hNl := hN.lt
  obtain ⟨i0, hi, hz0, hz1, hz2⟩ := info_parts nodeInfo
  go_enter Tryd.func66, Tryd.ntmps66
  go_wp2_with fail
  go_loopw [] (fun wr => ∃ (acc : List Nd) (K : List V3) (rest : Bs) (m : Nat) (vK : Value), rest.length < m ∧ rest.length + acc.length ≤ s.length ∧ rdK (rdN f) (s.length + 1) s = preK acc (rdK (rdN f) m rest) ∧ RD R rest wr ∧ NB N c0 c1 vK wr ∧ wr.ownsRow W.heap.size 40 3 vK K.length (cellsK K) ∧ KR (fun b => W.heap.size ≤ b ∧ vK.ownBlock ≠ some b) wr K acc ∧ Keep2 R N W wr) (fun wr => left R wr)
  case atStart => exact ⟨[], [], s, s.length + 1, .slice none 0 0, by omega, by simp, (preK_nil _).symm, h, hN, World.ownsRow_nil _ _ _ _, trivial, Keep2.of_below (Below.refl _ _)⟩
  case round =>
    obtain ⟨acc, K, rest, m, vK, hm, hal, heq, hrd, hnb, hown, hkr, hkp⟩ := hrel
    have HQ : Hid (rdK (rdN f) (s.length + 1) s = preK acc (rdK (rdN f) m rest)) := heq
    have HKR : Hid (KR (fun b => W.heap.size ≤ b ∧ vK.ownBlock ≠ some b) wr K acc) := hkr
    clear heq hkr
    obtain ⟨oK, cK, rfl⟩ := own_slice2 hown
    obtain ⟨m, rfl⟩ : ∃ g, m = g + 1 := ⟨m - 1, by omega⟩
    have hsz := hkp.size
    have HL : Hid (left R wr = rest.length) := hrd.left
    have cR := hrd.cell
    have HKK : Hid (KR (fun b => W.heap.size ≤ b) wr K acc) := KR.turn (fun b hb _ => ⟨hb.1, rfl⟩) HKR.out
    cases hp : [60].isPrefixOf rest with
    | false =>
      have HZ : Hid (rdK (rdN f) (s.length + 1) s = some (acc, rest)) := (by rw [HQ.out, rdK_end (by rw [hp]; simp)]; simp [preK] : rdK (rdN f) (s.length + 1) s = some (acc, rest))
      go_wp2_with (go_at_call 95; refine (HasPrefix_is rest [60] false _ hp).mono ?_; rintro e w1 ⟨rfl, rfl⟩)
      go_ret
      exact ⟨hkp, oK, _, cK, hnb, .inr ⟨acc, rest, K, HZ.out, rfl, hrd, hown, HKK.out⟩⟩
    | true =>
      cases hq : [60, 47].isPrefixOf rest with
      | true =>
        have HZ : Hid (rdK (rdN f) (s.length + 1) s = some (acc, rest)) := (by rw [HQ.out, rdK_end (by rw [hq]; simp)]; simp [preK] : rdK (rdN f) (s.length + 1) s = some (acc, rest))
        go_wp2_with (go_at_call 95; first | (refine (HasPrefix_is rest [60, 47] true _ hq).mono ?_; rintro e w1 ⟨rfl, rfl⟩) | (refine (HasPrefix_is rest [60] true _ hp).mono ?_; rintro e w1 ⟨rfl, rfl⟩))
        go_ret
        exact ⟨hkp, oK, _, cK, hnb, .inr ⟨acc, rest, K, HZ.out, rfl, hrd, hown, HKK.out⟩⟩
      | false =>
        have HE := IH rest wr (by omega) (by omega) hrd
        cases hv : rdN f rest with
        | none =>
          have HZ : Hid (rdK (rdN f) (s.length + 1) s = none) := (by rw [HQ.out, rdK_bad ⟨hp, hq⟩ hv]; rfl : rdK (rdN f) (s.length + 1) s = none)
          have HE1 := HE.mono (R' := fun e w' => Keep R wr w' ∧ ∃ (s0 : ByteArray) (o1 : Option Addr) (n1 k1 : Nat) (o2 : Option Addr) (n2 k2 : Nat), e = .returned (.tuple #[.agg #[.string s0, .slice o1 n1 k1, .slice o2 n2 k2], .bool false])) (fun e w' h => by
            refine ⟨h.1, ?_⟩
            obtain ⟨s0, o1, n1, k1, o2, n2, k2, h2 | ⟨n, r, h2, -⟩⟩ := h.2
            · exact ⟨s0, o1, n1, k1, o2, n2, k2, h2.2⟩
            · rw [hv] at h2; cases h2)
          clear HE hv
          go_wp2_with (first | (go_at_call 41; refine HE1.mono ?_; rintro e w2 ⟨kp2, s0, o1, n1, k1, o2, n2, k2, rfl⟩) | (go_at_call 95; first | (refine (HasPrefix_is rest [60, 47] false _ hq).mono ?_; rintro e w1 ⟨rfl, rfl⟩) | (refine (HasPrefix_is rest [60] true _ hp).mono ?_; rintro e w1 ⟨rfl, rfl⟩)))
          go_ret
          exact ⟨(hkp.trans (Keep2.of_keep kp2)).trans (Keep2.of_below (mal w2 _)), oK, _, cK, (hnb.keep kp2 hne).al _, .inl ⟨HZ.out, rfl⟩⟩
        | some p =>
          obtain ⟨kid, r⟩ := p
          have hlr := rdN_len _ _ _ hv
          simp only at hlr
          have HZ : Hid (rdK (rdN f) (s.length + 1) s = preK (acc ++ [kid]) (rdK (rdN f) m r)) := (by rw [HQ.out, rdK_on ⟨hp, hq⟩ hv, preK_app] : rdK (rdN f) (s.length + 1) s = preK (acc ++ [kid]) (rdK (rdN f) m r))
          have HE1 := HE.mono (R' := fun e w' => Keep R wr w' ∧ ∃ (s0 : ByteArray) (o1 : Option Addr) (n1 k1 : Nat) (o2 : Option Addr) (n2 k2 : Nat), e = .returned (.tuple #[.agg #[.string s0, .slice o1 n1 k1, .slice o2 n2 k2], .bool true]) ∧ RD R r w' ∧ NdQ (fun b => wr.heap.size ≤ b) w' (.string s0) (.slice o1 n1 k1) (.slice o2 n2 k2) kid) (fun e w' h => by
            refine ⟨h.1, ?_⟩
            obtain ⟨s0, o1, n1, k1, o2, n2, k2, h2 | ⟨n, r', h2, h3, h4, h5⟩⟩ := h.2
            · rw [hv] at h2; cases h2.1
            · rw [hv] at h2; cases h2; exact ⟨s0, o1, n1, k1, o2, n2, k2, h3, h4, h5⟩)
          clear HE hv
          go_upto_region 5 with (first | (go_at_call 41; refine HE1.mono ?_; rintro e w2 ⟨kp2, s0, o1, n1, k1, o2, n2, k2, rfl, rd2, hk2⟩) | (go_at_call 95; first | (refine (HasPrefix_is rest [60, 47] false _ hq).mono ?_; rintro e w1 ⟨rfl, rfl⟩) | (refine (HasPrefix_is rest [60] true _ hp).mono ?_; rintro e w1 ⟨rfl, rfl⟩)))
          have nbU := (hnb.keep kp2 hne).al (.cells #[.string s0, .slice o1 n1 k1, .slice o2 n2 k2] 40)
          have rdU := rd2.al (.cells #[.string s0, .slice o1 n1 k1, .slice o2 n2 k2] 40)
          have owU := World.ownsRow.alloc (own_keep hown kp2 hR) (.cells #[.string s0, .slice o1 n1 k1, .slice o2 n2 k2] 40)
          have bxU := mbox w2 #[.string s0, .slice o1 n1 k1, .slice o2 n2 k2] 40
          have szU : w2.heap.size < (w2.alloc (.cells #[.string s0, .slice o1 n1 k1, .slice o2 n2 k2] 40)).heap.size := heap_lt bxU
          have neU : ∀ b, (Value.slice oK K.length cK).ownBlock = some b → b < w2.heap.size := fun b hb => ((own_keep hown kp2 hR).lt b hb).2
          have sz2 := kp2.size
          obtain ⟨U, hU⟩ : ∃ U, w2.alloc (.cells #[.string s0, .slice o1 n1 k1, .slice o2 n2 k2] 40) = U := ⟨_, rfl⟩
          rw [hU] at nbU rdU owU bxU szU ⊢
          obtain ⟨KB, hKB⟩ : ∃ KB, w2.heap.size = KB := ⟨_, rfl⟩
          rw [hKB] at bxU szU neU sz2 ⊢
          have x0 := bcell bxU 0 (.string s0) rfl
          have x1 := bcell bxU 1 (.slice o1 n1 k1) rfl
          have x2 := bcell bxU 2 (.slice o2 n2 k2) rfl
          have y2 := nbU.c2
          have y2' := fun o => mcell_al o y2
          have H0 := mbox U #[.string ⟨#[]⟩, .slice none 0 0, .slice none 0 0] 40
          have zU : W.heap.size ≤ U.heap.size := by omega
          have hix : (K.length : Int) < (K.length : Int) + 1 := by omega
          have hkb : (K.length : Int) ≤ 10000 := by have := HKR.out.len; omega
          have x0' := fun o => mcell_al o x0
          have x1' := fun o => mcell_al o x1
          have x2' := fun o => mcell_al o x2
          go_region_law ((refine step_append_lies _ rfl (.tmp 30) (.tmp 33) 38 rfl W.heap.size 40 i0 (.agg #[.string ⟨#[]⟩, .slice none 0 0, .slice none 0 0]) 3 64 Tryd.underlying38 hi hz0 hz1 hz2 rfl (by decide) (.slice oK K.length cK) K.length (cellsK K) rfl (World.ownsRow.alloc owU _) ⟨U.heap.size, 0, none⟩ 1 1 [.string ⟨#[]⟩, .slice none 0 0, .slice none 0 0] rfl rfl (World.news_of_block H0) (fun u hu => by simp at hu; rcases hu with rfl | rfl | rfl <;> rfl) (by decide) (by rw [maxLen_eq]; omega) (by omega) (by simp; omega) _ rfl ?_; intro g cap w5 ow5 gr5 hat hlt; have g0 := own_cell ow5 (new3 K _ _ _).1; have g1 := own_cell ow5 (new3 K _ _ _).2.1; have g2 := own_cell ow5 (new3 K _ _ _).2.2; have gf := own_froz ow5; have q0 := (ow5.lt g rfl).1; have q1 : ¬ N = g := (by omega); have q2 : ¬ g = N := (by omega); have nb5 := NB.grown (k := gr5) (h := by exact nbU.al _) (hne := own_ne owU hNl); have m2 := nb5.c2; have mf := nb5.froz))
          all_goals (
            subst hU
            have FIN := fun V hV => kids_fin (V := V) hne hR hNl (show r.length < m by omega) (show r.length + (acc.length + 1) ≤ s.length by omega) HZ.out hown HKR.out hkp hnb kp2 rd2 hk2 gr5 ow5 hat hV
            have MEA : ∀ V, Fin4 N g (K.length * 3) cap (K.length + 1) (.string s0) (.slice o1 n1 k1) (.slice o2 n2 k2) w5 V → left R V < left R w1 := fun V hV => by have h1 := HL.out; have h2 := (FIN V hV).1.left; omega
            go_wp2_with fail
            go_roundw
            case rel => exact (FIN _ (by first | exact Or.inl (by with_reducible rfl) | exact Or.inr (by with_reducible rfl))).2
            case measure => exact MEA _ (by first | exact Or.inl (by with_reducible rfl) | exact Or.inr (by with_reducible rfl)))

end Go.Proofs.YtdebekonggnckabDoor

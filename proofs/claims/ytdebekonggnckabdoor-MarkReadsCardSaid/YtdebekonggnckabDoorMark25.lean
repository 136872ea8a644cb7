/-
  mark.Read of any text.
-/
import Derived.Test.YtdebekonggnckabDoorMark24
namespace Go.Proofs.YtdebekonggnckabDoor
open Go.RowKit

theorem element_any (R : Nat) : ∀ f, El R f
  | 0 => fun _ _ h => absurd h (Nat.not_lt_zero _)
  | f + 1 => element_step R f (element_any R f)

/-- The node that a text is, if it is one. -/
def rdT (s : Bs) : Option Nd := match rdN (s.length + 1) s with
  | some (n, []) => some n
  | _ => none
theorem rdT_some {s : Bs} {n : Nd} (h : rdN (s.length + 1) s = some (n, [])) : rdT s = some n := by rw [rdT, h]
theorem rdT_none {s : Bs} (h : rdN (s.length + 1) s = none) : rdT s = none := by rw [rdT, h]
theorem rdT_more {s : Bs} {n : Nd} {c : UInt8} {r : Bs} (h : rdN (s.length + 1) s = some (n, c :: r)) : rdT s = none := by rw [rdT, h]
abbrev ndZ : Value := .agg #[.string ⟨#[]⟩, .slice none 0 0, .slice none 0 0]
/-- What Read tells of a text. -/
def ReadR (E : Nat → Addr) (B : Nat) (s : Bs) (e : Ending) (w : World) : Prop :=
  (10000 < s.length ∧ e = .returned (.tuple #[ndZ, .iface 209 (.pointer (some (E 2)))])) ∨
  (s.length ≤ 10000 ∧ rdT s = none ∧ e = .returned (.tuple #[ndZ, .iface 209 (.pointer (some (E 1)))])) ∨
  (s.length ≤ 10000 ∧ ∃ n, rdT s = some n ∧ (ckN n 1 0).1 ≠ 0 ∧ ∃ pb, B ≤ pb ∧ e = .returned (.tuple #[ndZ, .iface 93 (.pointer (some ⟨pb, 0, none⟩))]) ∧ w.cell? ⟨pb, 0, none⟩ = some (.int .i64 (ckN n 1 0).2) ∧ w.cell? ⟨pb, 1, none⟩ = some (.iface 209 (.pointer (some (E (ckN n 1 0).1))))) ∨
  (s.length ≤ 10000 ∧ ∃ n c0 c1 c2, rdT s = some n ∧ (ckN n 1 0).1 = 0 ∧ e = .returned (.tuple #[.agg #[c0, c1, c2], .nilIface]) ∧ NdC w c0 c1 c2 n)

set_option maxRecDepth 20000 in
set_option maxHeartbeats 4000000 in
theorem Read_any (E : Nat → Addr) (s : Bs) (W : World) (hE : ME E W) (h1 : W.cell? ⟨1, 0, none⟩ = some (.iface 209 (.pointer (some (E 1))))) (hs : s.length ≤ 9223372036854775807) :
    Calls Tryd.prog 19 #[.string ⟨s.toArray⟩] W fun e w' => Below W.heap.size W w' ∧ ReadR E W.heap.size s e w' := by
  have hsz := strV_size s
  have nbZ : NB W.heap.size (.string ⟨#[]⟩) (.slice none 0 0) (.slice none 0 0) (W.alloc (.cells #[.string ⟨#[]⟩, .slice none 0 0, .slice none 0 0] 40)) := mbox W #[.string ⟨#[]⟩, .slice none 0 0, .slice none 0 0] 40
  have b0 := mal W (.cells #[.string ⟨#[]⟩, .slice none 0 0, .slice none 0 0] 40)
  obtain ⟨V0, hV0⟩ : ∃ V, W.alloc (.cells #[.string ⟨#[]⟩, .slice none 0 0, .slice none 0 0] 40) = V := ⟨_, rfl⟩
  rw [hV0] at nbZ b0
  have e2 := (hE.below b0).c2
  have e1 := (b0.cell (cell_lt3 h1)).trans h1
  have l2 := cell_lt3 hE.c2
  have l1 := cell_lt3 h1
  simp only at l1 l2
  have q2 : ¬ W.heap.size = 0 := by omega
  have q2' : ¬ 0 = W.heap.size := by omega
  have q1 : ¬ W.heap.size = 1 := by omega
  have q1' : ¬ 1 = W.heap.size := by omega
  by_cases hbig : 10000 < s.length
  · have hbig' : 10000 < (s.length : Int) := by omega
    have a0 := nbZ.c0
    have a1 := nbZ.c1
    have a2 := nbZ.c2
    have af := nbZ.froz
    go_enter Tryd.func19, Tryd.ntmps19
    go_upto_region 2 with fail
    clear hV0
    go_region
    go_wp2_with fail
    refine bodyPost_ret (v := .tuple #[ndZ, .iface 209 (.pointer (some (E 2)))]) (by simp [results, Tryd.results19, go_sem, a0, a1, a2]) rfl ⟨?_, .inl ⟨hbig, rfl⟩⟩
    exact ((((mdrew 1 b0).setCell (Nat.le_refl _) _).setCell (Nat.le_refl _) _).setCell (Nat.le_refl _) _)
  · have hbig' : (s.length : Int) ≤ 10000 := by omega
    have rdU : RD V0.heap.size s (V0.alloc (.cells #[.string ⟨s.toArray⟩] 98)) := mbox V0 #[.string ⟨s.toArray⟩] 98
    have zbU := nbZ.al (.cells #[.string ⟨s.toArray⟩] 98)
    have bU := mbel b0 (mal V0 (.cells #[.string ⟨s.toArray⟩] 98))
    have szZ := nbZ.lt
    obtain ⟨U, hU⟩ : ∃ U, V0.alloc (.cells #[.string ⟨s.toArray⟩] 98) = U := ⟨_, rfl⟩
    obtain ⟨R, hR⟩ : ∃ R, V0.heap.size = R := ⟨_, rfl⟩
    rw [hU] at rdU zbU bU
    rw [hR] at rdU szZ
    have hlt := rdU.lt
    have hRZ : R ≠ W.heap.size := by omega
    have EL := element_any R (s.length + 1) s U (by omega) (by omega) rdU
    clear e2 e1
    cases hv : rdN (s.length + 1) s with
    | none =>
      have HZ : Hid (rdT s = none) := rdT_none hv
      have EL1 := EL.mono (R' := fun e w' => Keep R U w' ∧ ∃ (s0 : ByteArray) (o1 : Option Addr) (n1 k1 : Nat) (o2 : Option Addr) (n2 k2 : Nat), e = .returned (.tuple #[.agg #[.string s0, .slice o1 n1 k1, .slice o2 n2 k2], .bool false])) (fun e w' h => by
        refine ⟨h.1, ?_⟩
        obtain ⟨s0, o1, n1, k1, o2, n2, k2, h2 | ⟨n, r, h2, -⟩⟩ := h.2
        · exact ⟨s0, o1, n1, k1, o2, n2, k2, h2.2⟩
        · rw [hv] at h2; cases h2)
      clear EL hv
      go_enter Tryd.func19, Tryd.ntmps19
      go_upto_region 6 with (go_at_call 41; refine EL1.mono ?_; rintro e w2 ⟨kp2, s0, o1, n1, k1, o2, n2, k2, rfl⟩)
      have bV := (bU.trans (kp2.below (by omega) bU.size)).trans ((mal w2 (.cells #[.string s0, .slice o1 n1 k1, .slice o2 n2 k2] 40)).mono (Nat.le_trans bU.size kp2.size))
      have zbV := (zbU.keep kp2 hRZ).al (.cells #[.string s0, .slice o1 n1 k1, .slice o2 n2 k2] 40)
      obtain ⟨V, hV⟩ : ∃ V, w2.alloc (.cells #[.string s0, .slice o1 n1 k1, .slice o2 n2 k2] 40) = V := ⟨_, rfl⟩
      rw [hV] at bV zbV ⊢
      clear hV hV0 hU hR
      have a0 := zbV.c0
      have a1 := zbV.c1
      have a2 := zbV.c2
      have af := zbV.froz
      have e1 := (bV.cell l1).trans h1
      go_region
      go_wp2_with fail
      refine bodyPost_ret (v := .tuple #[ndZ, .iface 209 (.pointer (some (E 1)))]) (by simp [results, Tryd.results19, go_sem, a0, a1, a2]) rfl ⟨?_, .inr (.inl ⟨by omega, HZ.out, rfl⟩)⟩
      exact ((((mdrew 1 bV).setCell (Nat.le_refl _) _).setCell (Nat.le_refl _) _).setCell (Nat.le_refl _) _)
    | some q =>
      obtain ⟨n, r⟩ := q
      have EL1 := EL.mono (R' := fun e w' => Keep R U w' ∧ ∃ (s0 : ByteArray) (o1 : Option Addr) (n1 k1 : Nat) (o2 : Option Addr) (n2 k2 : Nat), e = .returned (.tuple #[.agg #[.string s0, .slice o1 n1 k1, .slice o2 n2 k2], .bool true]) ∧ RD R r w' ∧ NdQ (fun b => U.heap.size ≤ b) w' (.string s0) (.slice o1 n1 k1) (.slice o2 n2 k2) n) (fun e w' h => by
        refine ⟨h.1, ?_⟩
        obtain ⟨s0, o1, n1, k1, o2, n2, k2, h2 | ⟨n, r, h2, h3, h4, h5⟩⟩ := h.2
        · rw [hv] at h2; cases h2.1
        · rw [hv] at h2; cases h2; exact ⟨s0, o1, n1, k1, o2, n2, k2, h3, h4, h5⟩)
      clear EL
      cases r with
      | cons c r =>
        have HZ : Hid (rdT s = none) := rdT_more hv
        clear hv
        go_enter Tryd.func19, Tryd.ntmps19
        go_upto_region 6 with (go_at_call 41; refine EL1.mono ?_; rintro e w2 ⟨kp2, s0, o1, n1, k1, o2, n2, k2, rfl, rd2, nd2⟩; have rv := (rd2.al (.cells #[.string s0, .slice o1 n1 k1, .slice o2 n2 k2] 40)).cell)
        have bV := (bU.trans (kp2.below (by omega) bU.size)).trans ((mal w2 (.cells #[.string s0, .slice o1 n1 k1, .slice o2 n2 k2] 40)).mono (Nat.le_trans bU.size kp2.size))
        have zbV := (zbU.keep kp2 hRZ).al (.cells #[.string s0, .slice o1 n1 k1, .slice o2 n2 k2] 40)
        obtain ⟨V, hV⟩ : ∃ V, w2.alloc (.cells #[.string s0, .slice o1 n1 k1, .slice o2 n2 k2] 40) = V := ⟨_, rfl⟩
        rw [hV] at bV zbV ⊢
        clear hV hV0 hU hR rv
        have a0 := zbV.c0
        have a1 := zbV.c1
        have a2 := zbV.c2
        have af := zbV.froz
        have e1 := (bV.cell l1).trans h1
        go_region
        go_wp2_with fail
        refine bodyPost_ret (v := .tuple #[ndZ, .iface 209 (.pointer (some (E 1)))]) (by simp [results, Tryd.results19, go_sem, a0, a1, a2]) rfl ⟨?_, .inr (.inl ⟨by omega, HZ.out, rfl⟩)⟩
        exact ((((mdrew 1 bV).setCell (Nat.le_refl _) _).setCell (Nat.le_refl _) _).setCell (Nat.le_refl _) _)
      | nil =>
        have HZ : Hid (rdT s = some n) := rdT_some hv
        clear hv
        go_enter Tryd.func19, Tryd.ntmps19
        go_upto_region 7 with (go_at_call 41; refine EL1.mono ?_; rintro e w2 ⟨kp2, s0, o1, n1, k1, o2, n2, k2, rfl, rd2, nd2⟩; have rv := (rd2.al (.cells #[.string s0, .slice o1 n1 k1, .slice o2 n2 k2] 40)).cell)
        have bV := (bU.trans (kp2.below (by omega) bU.size)).trans ((mal w2 (.cells #[.string s0, .slice o1 n1 k1, .slice o2 n2 k2] 40)).mono (Nat.le_trans bU.size kp2.size))
        have zbV := (zbU.keep kp2 hRZ).al (.cells #[.string s0, .slice o1 n1 k1, .slice o2 n2 k2] 40)
        have nbV : NB w2.heap.size (.string s0) (.slice o1 n1 k1) (.slice o2 n2 k2) (w2.alloc (.cells #[.string s0, .slice o1 n1 k1, .slice o2 n2 k2] 40)) := mbox w2 #[.string s0, .slice o1 n1 k1, .slice o2 n2 k2] 40
        have ndV := NdQ.turn (Q := fun b => U.heap.size ≤ b) (Q' := fun b => U.heap.size ≤ b) (fun b hb hlt => ⟨hb, (mal w2 (.cells #[.string s0, .slice o1 n1 k1, .slice o2 n2 k2] 40)).block b hlt⟩) n nd2
        obtain ⟨V, hV⟩ : ∃ V, w2.alloc (.cells #[.string s0, .slice o1 n1 k1, .slice o2 n2 k2] 40) = V := ⟨_, rfl⟩
        rw [hV] at bV zbV nbV ndV ⊢
        clear hV hV0 hU hR rv
        have m0 := nbV.c0
        have m1 := nbV.c1
        have m2 := nbV.c2
        have CK := Check_nd E n _ _ _ V (hE.below bV) (NdQ.nd n ndV)
        have zlt := zbV.lt
        by_cases hz : (ckN n 1 0).1 = 0
        · have CK1 := CK.mono (R' := fun e w' => Below V.heap.size V w' ∧ e = .returned .nilIface) (fun e w' h => by
            refine ⟨h.1, ?_⟩
            rcases h.2 with h2 | h2
            · exact h2.2
            · exact absurd hz h2.1)
          have HC : Hid ((ckN n 1 0).1 = 0) := hz
          clear CK hz
          go_wp2_with (go_at_call 16; refine CK1.mono ?_; rintro e w3 ⟨b3, rfl⟩; have p0 := (b3.cell (cell_lt3 m0)).trans m0; have p1 := (b3.cell (cell_lt3 m1)).trans m1; have p2 := (b3.cell (cell_lt3 m2)).trans m2; have zb3 : NB W.heap.size (.string ⟨#[]⟩) (.slice none 0 0) (.slice none 0 0) w3 := (b3.block _ zlt).trans zbV; have a0 := zb3.c0; have a1 := zb3.c1; have a2 := zb3.c2; have af := zb3.froz)
          have bF := bV.trans (b3.mono bV.size)
          have ndF := NdQ.turn (Q := fun b => U.heap.size ≤ b) (Q' := fun b => U.heap.size ≤ b) (w' := put3 W.heap.size (.string s0) (.slice o1 n1 k1) (.slice o2 n2 k2) w3) (fun b hb hlt => ⟨hb, by
            have hbz : b ≠ W.heap.size := by omega
            rw [Below.heap_setCell _ _ _ b hbz, Below.heap_setCell _ _ _ b hbz, Below.heap_setCell _ _ _ b hbz]
            exact b3.block b hlt⟩) n ndV
          refine bodyPost_ret (v := .tuple #[.agg #[.string s0, .slice o1 n1 k1, .slice o2 n2 k2], .nilIface]) (by simp [results, Tryd.results19, go_sem, a0, a1, a2]) rfl ⟨?_, .inr (.inr (.inr ⟨by omega, n, _, _, _, HZ.out, HC.out, rfl, NdQ.nd n ndF⟩))⟩
          exact (((bF.setCell (Nat.le_refl _) _).setCell (Nat.le_refl _) _).setCell (Nat.le_refl _) _)
        · have CK1 := CK.mono (R' := fun e w' => Below V.heap.size V w' ∧ Flt E V.heap.size (ckN n 1 0) e w') (fun e w' h => by
            refine ⟨h.1, ?_⟩
            rcases h.2 with h2 | h2
            · exact absurd h2.1 hz
            · exact h2.2)
          have HC : Hid ((ckN n 1 0).1 ≠ 0) := hz
          clear CK hz
          go_wp2_with (go_at_call 16; refine CK1.mono ?_; rintro e w3 ⟨b3, pb, hpb, rfl, z0, z1⟩; have zb3 : NB W.heap.size (.string ⟨#[]⟩) (.slice none 0 0) (.slice none 0 0) w3 := (b3.block _ zlt).trans zbV; have a0 := zb3.c0; have a1 := zb3.c1; have a2 := zb3.c2; have af := zb3.froz)
          have bF := bV.trans (b3.mono bV.size)
          have hpz : pb ≠ W.heap.size := by omega
          have ePb : (put3 W.heap.size (.string ⟨#[]⟩) (.slice none 0 0) (.slice none 0 0) w3).heap[pb]? = w3.heap[pb]? := by rw [Below.heap_setCell _ _ _ pb hpz, Below.heap_setCell _ _ _ pb hpz, Below.heap_setCell _ _ _ pb hpz]
          refine bodyPost_ret (v := .tuple #[ndZ, .iface 93 (.pointer (some ⟨pb, 0, none⟩))]) (by simp [results, Tryd.results19, go_sem, a0, a1, a2]) rfl ⟨?_, .inr (.inr (.inl ⟨by omega, n, HZ.out, HC.out, pb, by have := bV.size; omega, rfl, (World.cell?_of_block ePb).trans z0, (World.cell?_of_block ePb).trans z1⟩))⟩
          exact (((bF.setCell (Nat.le_refl _) _).setCell (Nat.le_refl _) _).setCell (Nat.le_refl _) _)

end Go.Proofs.YtdebekonggnckabDoor

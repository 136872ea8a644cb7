/-
  A node that was read out of a short text, and is well: a law takes its flat list.
-/
import Derived.Test.YtdebekonggnckabDoorTexts1
import Derived.Test.YtdebekonggnckabDoorJ2
import Derived.Test.YtdebekonggnckabDoorMarkR4
namespace Go.Proofs.YtdebekonggnckabDoor
open Go.RowKit

mutual
theorem ckN_num : ∀ (n : Nd) (d i k : Nat) (p : Int) (d' : Nat), (ckN n d i).1 = 0 → (ckN n d i).2 = i + (flN k p d' n).length
  | .mk nm ats ks, d, i, k, p, d', h => by
    unfold ckN at h ⊢
    split at h
    · rename_i h1
      rw [if_pos h1, ckK_num ks _ _ (k + 1) k (d' + 1) h, flN, List.length_cons]
      omega
    · rename_i h1; exact (h1 h).elim
theorem ckK_num : ∀ (l : List Nd) (d i k : Nat) (p : Int) (d' : Nat), (ckK l d i).1 = 0 → (ckK l d i).2 = i + (flL k p d' l).length
  | [], _, _, _, _, _, _ => by rw [ckK, flL]; rfl
  | n :: l, d, i, k, p, d', h => by
    by_cases h1 : (ckN n d i).1 = 0
    · rw [ckK_zero h1] at h ⊢
      rw [ckK_num l _ _ (k + (flN k p d' n).length) p d' h, ckN_num n d i k p d' h1, flL, List.length_append]
      omega
    · rw [ckK_pos h1] at h; exact (h1 h).elim
end
mutual
theorem ckN_sh : ∀ (n : Nd) (d i : Nat), (ckN n d i).1 = 0 → sh d n
  | .mk nm ats ks, d, i, h => by
    unfold ckN at h
    split at h
    · rename_i h1
      unfold sh
      have := ck1_zero h1
      exact ⟨by omega, ckK_sh ks _ _ h⟩
    · rename_i h1; exact (h1 h).elim
theorem ckK_sh : ∀ (l : List Nd) (d i : Nat), (ckK l d i).1 = 0 → shL d l
  | [], _, _, _ => by unfold shL; trivial
  | n :: l, d, i, h => by
    by_cases h1 : (ckN n d i).1 = 0
    · rw [ckK_zero h1] at h
      unfold shL
      exact ⟨ckN_sh n d i h1, ckK_sh l _ _ h⟩
    · rw [ckK_pos h1] at h; exact (h1 h).elim
end
/-- How many bytes the names and values are. -/
def wtA : List (Bs × Bs) → Nat
  | [] => 0
  | a :: r => a.1.length + a.2.length + wtA r
def wtF : List Fl → Nat
  | [] => 0
  | f :: r => f.name.length + wtA f.attrs + wtF r
theorem wtF_app : ∀ a b : List Fl, wtF (a ++ b) = wtF a + wtF b
  | [], b => by simp [wtF]
  | f :: a, b => by simp [wtF, wtF_app a b]; omega
theorem fitA_ok : ∀ (l : List (Bs × Bs)) (m : Nat), (∀ a ∈ l, isNm a.1 = true ∧ isVal a.2 = true) → fitA m l = some (m + wtA l)
  | [], m, _ => rfl
  | a :: l, m, h => by
    obtain ⟨h1, h2⟩ := h a (by simp)
    have := isNm_len h1
    have := isVal_len h2
    rw [fitA_on (by omega) (by omega), fitA_ok l _ (fun b hb => h b (by simp [hb])), wtA]
    congr 1
    omega
theorem fitL_ok : ∀ (L : List Fl) (m : Nat), OkF L → m + wtF L ≤ 4000 → fitL m L = true
  | [], _, _, _ => rfl
  | f :: L, m, h, hw => by
    obtain ⟨h1, h2, h3⟩ := h f (by simp)
    have := isNm_len h1
    rw [wtF] at hw
    rw [fitL_on (m := m + f.name.length + wtA f.attrs) (by omega) (by omega) (fitA_ok _ _ h3) (by omega)]
    exact fitL_ok L _ (fun g hg => h g (by simp [hg])) (by omega)
theorem wtA_txt : ∀ l : List (Bs × Bs), wtA l ≤ (atsT l).length
  | [] => Nat.zero_le _
  | a :: l => by
    have h1 := wtA_txt l
    have h2 := escV_le a.2
    simp [wtA, atsT, atT]
    omega
mutual
theorem wtN_txt : ∀ (n : Nd) (k : Nat) (p : Int) (d : Nat), wtF (flN k p d n) ≤ (txt n).length
  | .mk nm ats [], k, p, d => by
    have := wtA_txt ats
    rw [txt_nil, flN, flL]
    simp [wtF]
    omega
  | .mk nm ats (c :: l), k, p, d => by
    have h1 := wtA_txt ats
    have h2 := wtL_txt (c :: l) (k + 1) k (d + 1)
    rw [txt_cons, flN, wtF]
    simp only [List.length_cons, List.length_append]
    omega
theorem wtL_txt : ∀ (l : List Nd) (k : Nat) (p : Int) (d : Nat), wtF (flL k p d l) ≤ (txtL l).length
  | [], _, _, _ => by simp [flL, wtF]
  | n :: l, k, p, d => by
    have h1 := wtN_txt n k p d
    have h2 := wtL_txt l (k + (flN k p d n).length) p d
    rw [flL, wtF_app, txtL, List.length_append]
    omega
end
theorem rdT_rd {s : Bs} {n : Nd} (h : rdT s = some n) : rdN (s.length + 1) s = some (n, []) := by
  unfold rdT at h
  split at h
  · rename_i m hm
    cases h
    exact hm
  · cases h
theorem rdT_short {s : Bs} {n : Nd} (h : rdT s = some n) : (txt n).length ≤ s.length := by
  have := rdN_short _ _ _ (rdT_rd h)
  simpa using this
theorem fit_of {s : Bs} {n : Nd} (hs : s.length ≤ 2000) (h : rdT s = some n) (hc : (ckN n 1 0).1 = 0) : Fit n := by
  have h1 := ckN_num n 1 0 0 (-1) 1 hc
  have h2 := ckN_le n 1 0 hc
  have h3 := wtN_txt n 0 (-1) 1
  have h4 := rdT_short h
  exact ⟨by omega, ckN_sh n 1 0 hc, fitL_ok _ 0 (okF_flN n 0 (-1) 1 0 hc) (by omega)⟩

end Go.Proofs.YtdebekonggnckabDoor

namespace Go.Proofs.YtdebekonggnckabDoor
open Go.RowKit

theorem foT_T (s : Bs) : foT [] (-1) s = (rdT s).map (flN 0 (-1) 1) := by
  rw [foT_all]
  unfold rdT
  split
  · rename_i n h
    rw [h]
    rfl
  · rename_i h
    split
    · rename_i n h'
      exact absurd h' (h n)
    · rfl
set_option maxHeartbeats 2000000 in
theorem faulted_at {E : Nat → Addr} (c : Nat) (h0 : 1 ≤ c) (hc : c ≤ 11) (w : World) (h : EE E w) :
    Calls Tryd.prog 15 #[eV (E c), .agg #[.int .i64 c, .int .i64 (-1)]] w fun e w' => e = .returned (.bool true) ∧ Below w.heap.size w w' := by
  have L0 := mal w (.cells #[.int .i64 c, .int .i64 (-1)] 44)
  have B0 : FB w.heap.size (.int .i64 c) (.int .i64 (-1)) (w.alloc (.cells #[.int .i64 c, .int .i64 (-1)] 44)) := mbox w #[.int .i64 c, .int .i64 (-1)] 44
  have HK := Code_at c h0 hc _ (h.below L0 (Nat.le_refl _))
  have hc' : ((c : Int) == 0) = false := by rw [beq_eq_false_iff_ne]; omega
  have hc'' : decide ((c : Int) = 0) = false := by simp; omega
  go_enter Tryd.func15, Tryd.ntmps15
  go_wp2_with (go_at_call 37; refine HK.mono ?_; rintro e w1 ⟨rfl, hb1⟩; have B1 := B0.bel hb1; have z0 := B1.c0; have z1 := B1.c1)
  go_ret
  exact ⟨rfl, mbel L0 hb1⟩
theorem Read_bad (E : Nat → Addr) (s : Bs) (W : World) (hE : EE E W) (hs : s.length ≤ 2000) (h : rdT s = none) :
    Calls Tryd.prog 19 #[.string ⟨s.toArray⟩] W fun e w' => e = .returned (.tuple #[.agg #[.string ⟨#[]⟩, .slice none 0 0, .slice none 0 0], eV (E 1)]) ∧ Below W.heap.size W w' := (Read_any E s W hE.me hE.c1 (by omega)).mono (fun _ _ h' => by
  refine ⟨?_, h'.1⟩
  rcases h'.2 with h2 | h2 | ⟨-, m, h2, -⟩ | ⟨-, m, c0, c1, c2, h2, -⟩
  · omega
  · exact h2.2.2
  · rw [h] at h2; cases h2
  · rw [h] at h2; cases h2)
theorem Read_flt (E : Nat → Addr) (s : Bs) (n : Nd) (W : World) (hE : EE E W) (hs : s.length ≤ 2000) (h : rdT s = some n) (hc : (ckN n 1 0).1 ≠ 0) :
    Calls Tryd.prog 19 #[.string ⟨s.toArray⟩] W fun e w' => (∃ v, e = .returned (.tuple #[.agg #[.string ⟨#[]⟩, .slice none 0 0, .slice none 0 0], v]) ∧ ErM E (ckN n 1 0) v w') ∧ Below W.heap.size W w' := (Read_any E s W hE.me hE.c1 (by omega)).mono (fun _ _ h' => by
  refine ⟨?_, h'.1⟩
  rcases h'.2 with h2 | h2 | ⟨-, m, h2, -, pb, -, h3, h4, h5⟩ | ⟨-, m, c0, c1, c2, h2, h3, -⟩
  · omega
  · rw [h] at h2; cases h2.2.1
  · rw [h] at h2; cases h2; exact ⟨_, h3, .inr ⟨hc, pb, rfl, h4, h5⟩⟩
  · rw [h] at h2; cases h2; exact absurd h3 hc)
theorem Read_yes (E : Nat → Addr) (s : Bs) (n : Nd) (W : World) (hE : EE E W) (hs : s.length ≤ 2000) (h : rdT s = some n) (hc : (ckN n 1 0).1 = 0) :
    Calls Tryd.prog 19 #[.string ⟨s.toArray⟩] W fun e w' => (∃ c0 c1 c2, e = .returned (.tuple #[.agg #[c0, c1, c2], .nilIface]) ∧ NdC w' c0 c1 c2 n) ∧ Below W.heap.size W w' := (Read_any E s W hE.me hE.c1 (by omega)).mono (fun _ _ h' => by
  refine ⟨?_, h'.1⟩
  rcases h'.2 with h2 | h2 | ⟨-, m, h2, h3, -⟩ | ⟨-, m, c0, c1, c2, h2, -, h4, h5⟩
  · omega
  · rw [h] at h2; cases h2.2.1
  · rw [h] at h2; cases h2; exact absurd hc h3
  · rw [h] at h2; cases h2; exact ⟨c0, c1, c2, h4, h5⟩)
theorem Flat_bad (s : Bs) (W : World) (hs : s.length ≤ 2000) (h : rdT s = none) :
    Calls Tryd.prog 21 #[.string ⟨s.toArray⟩] W fun e w' => e = .returned (.tuple #[.slice none 0 0, .agg #[.int .i64 1, .int .i64 (-1)]]) ∧ Below W.heap.size W w' := (FlatOf_any s (by omega) W).mono (fun _ _ h' => by
  refine ⟨?_, h'.1⟩
  rcases h'.2 with h2 | ⟨L, h2, -⟩
  · exact h2.2
  · rw [foT_T, h] at h2; cases h2)
theorem Flat_flt (s : Bs) (n : Nd) (W : World) (hs : s.length ≤ 2000) (h : rdT s = some n) (hc : (ckN n 1 0).1 ≠ 0) :
    Calls Tryd.prog 21 #[.string ⟨s.toArray⟩] W fun e w' => e = .returned (.tuple #[.slice none 0 0, .agg #[.int .i64 (fltM (ckN n 1 0)).1, .int .i64 (fltM (ckN n 1 0)).2]]) ∧ Below W.heap.size W w' := (FlatOf_any s (by omega) W).mono (fun _ _ h' => by
  refine ⟨?_, h'.1⟩
  rcases h'.2 with h2 | ⟨L, h2, h3⟩
  · rw [foT_T, h] at h2; cases h2.1
  · rw [foT_T, h] at h2
    cases h2
    rcases h3 with h3 | h3
    · rw [fltM_ck] at h3; exact h3.2
    · rw [(flF_ck n).1] at h3; exact absurd h3.1 hc)
theorem Flat_yes (s : Bs) (n : Nd) (W : World) (hs : s.length ≤ 2000) (h : rdT s = some n) (hc : (ckN n 1 0).1 = 0) :
    Calls Tryd.prog 21 #[.string ⟨s.toArray⟩] W fun e w' => (∃ M g cap, e = .returned (.tuple #[.slice (some ⟨g, 0, none⟩) (List.length M) cap, .agg #[.int .i64 0, .int .i64 (-1)]]) ∧ M.length ≤ 150 ∧ M.length ≤ cap ∧ RowF w' g M ∧ FlRs w' M (flN 0 (-1) 1 n)) ∧ Below W.heap.size W w' := (FlatOf_any s (by omega) W).mono (fun _ _ h' => by
  refine ⟨?_, h'.1⟩
  rcases h'.2 with h2 | ⟨L, h2, h3⟩
  · rw [foT_T, h] at h2; cases h2.1
  · rw [foT_T, h] at h2
    cases h2
    rcases h3 with h3 | ⟨-, M, g, cap, h4, -, -, h5, h6, h7⟩
    · rw [(flF_ck n).1] at h3; exact absurd hc h3.1
    · have h8 := ckN_num n 1 0 0 (-1) 1 hc
      have h9 := ckN_le n 1 0 hc
      have h10 := h7.len
      exact ⟨M, g, cap, h4, by omega, h5, h6, h7⟩)
theorem Flats_yes (n : Nd) (c0 c1 c2 : Value) (W : World) (hn : NdC W c0 c1 c2 n) (hf : Fit n) :
    Calls Tryd.prog 12 #[.agg #[c0, c1, c2]] W fun e w' => Below W.heap.size W w' ∧ ∃ M' g' cap', e = .returned (.slice (some ⟨g', 0, none⟩) (List.length M') cap') ∧ M'.length ≤ 150 ∧ M'.length ≤ cap' ∧ RowF w' g' M' ∧ FlRs W M' (flN 0 (-1) 1 n) := (FlatsOf_fit n c0 c1 c2 W hn).mono (fun e w' h => by
  obtain ⟨h1, v, h2, h3⟩ := h
  refine ⟨h1, ?_⟩
  rcases h3 with h3 | ⟨-, M', g', cap', rfl, -, h4, h5, h6, h7⟩
  · exact absurd hf h3.1
  · exact ⟨M', g', cap', h2, h4, h5, h6, h7⟩)
theorem Alike_yes (n : Nd) (X w3 : World) (M' M : List FlM) (g' cap' g cap : Nat) (V' : World) (hb : Below X.heap.size X V') (h4 : M'.length ≤ 150) (h5 : M'.length ≤ cap') (h6 : RowF V' g' M') (h7 : FlRs X M' (flN 0 (-1) 1 n)) (hb3 : Below w3.heap.size w3 V') (hM1 : M.length ≤ 150) (hM2 : M.length ≤ cap) (hr : RowF w3 g M) (hR : FlRs w3 M (flN 0 (-1) 1 n)) :
    Calls Tryd.prog 20 #[.slice (some ⟨g', 0, none⟩) M'.length cap', .slice (some ⟨g, 0, none⟩) M.length cap] V' fun e w' => e = .returned (.int .i64 1) ∧ Below V'.heap.size V' w' :=
  (AlikeFlats_any X w3 M' M g' g cap' cap _ _ V' hb hb3 h6 (hr.below hb3) h5 hM2 h4 hM1 h7 hR).mono (fun e w' h => by
    obtain ⟨k1, r, k2, k3⟩ := h
    rw [k3.2 (alike_refl _)] at k2
    exact ⟨k2, k1⟩)

set_option maxRecDepth 20000 in
set_option maxHeartbeats 8000000 in
theorem reads_any (E : Nat → Addr) (s : Bs) (W : World) (hE : EE E W) (hl : s.length ≤ 9223372036854775807) :
    Calls Tryd.prog 5 #[.string ⟨s.toArray⟩] W fun e w' => e = .returned (.bool true) ∧ Below W.heap.size W w' := by
  have hsz := strV_size s
  have MK := marked_any E W hE.me hE.c1
  have HE : Hid (EE E W) := hE
  clear hE
  go_enter Tryd.func5, Tryd.ntmps5
  go_upto_region 2 with (go_at_call 11; refine MK.mono ?_; rintro e w1 ⟨rfl, B1⟩)
  clear MK
  by_cases hbig : 2000 < s.length
  · have hbig' : 2000 < (s.length : Int) := by omega
    go_wp2_with fail
    go_ret
    exact ⟨rfl, B1⟩
  have hbig' : ¬ 2000 < (s.length : Int) := by omega
  have hs : s.length ≤ 2000 := by omega
  have HE1 : Hid (EE E w1) := HE.out.below B1 (Nat.le_refl _)
  clear hbig
  cases hr : rdT s with
  | none =>
    have RD := Read_bad E s w1 HE1.out hs hr
    have FO := fun V => Flat_bad s V hs hr
    unfold eV at RD
    clear hr
    go_upto_region 5 with (go_at_call 19; refine RD.mono ?_; rintro e w2 ⟨rfl, b2⟩)
    have X0 : NB w2.heap.size (.string ⟨#[]⟩) (.slice none 0 0) (.slice none 0 0) (w2.alloc (.cells #[.string ⟨#[]⟩, .slice none 0 0, .slice none 0 0] 40)) := mbox w2 #[.string ⟨#[]⟩, .slice none 0 0, .slice none 0 0] 40
    have c2 := mbel b2 (mal w2 (.cells #[.string ⟨#[]⟩, .slice none 0 0, .slice none 0 0] 40))
    obtain ⟨U, hU⟩ : ∃ U, w2.alloc (.cells #[.string ⟨#[]⟩, .slice none 0 0, .slice none 0 0] 40) = U := ⟨_, rfl⟩
    obtain ⟨X, hX⟩ : ∃ X, w2.heap.size = X := ⟨_, rfl⟩
    rw [hU] at X0 c2 ⊢
    rw [hX] at X0 ⊢
    clear hU hX
    go_upto_region 6 with (go_at_call 21; refine (FO _).mono ?_; rintro e w3 ⟨rfl, b3⟩)
    have F0 : FB w3.heap.size (.int .i64 1) (.int .i64 (-1)) (w3.alloc (.cells #[.int .i64 1, .int .i64 (-1)] 44)) := mbox w3 #[.int .i64 1, .int .i64 (-1)] 44
    have c3 := mbel b3 (mal w3 (.cells #[.int .i64 1, .int .i64 (-1)] 44))
    obtain ⟨V, hV⟩ : ∃ V, w3.alloc (.cells #[.int .i64 1, .int .i64 (-1)] 44) = V := ⟨_, rfl⟩
    obtain ⟨F, hF⟩ : ∃ F, w3.heap.size = F := ⟨_, rfl⟩
    rw [hV] at F0 c3 ⊢
    rw [hF] at F0 ⊢
    clear hV hF
    have FM : Calls Tryd.prog 15 #[.iface 209 (.pointer (some (E 1))), .agg #[.int .i64 1, .int .i64 (-1)]] V fun e w' => e = .returned (.bool true) ∧ Below V.heap.size V w' := faulted_at (E := E) 1 (by decide) (by decide) V (HE1.out.below (mbel c2 c3) (Nat.le_refl _))
    have y0 := F0.c0
    have y1 := F0.c1
    have X3 := X0.bl c3
    go_wp2_with (go_at_call 15; refine FM.mono ?_; rintro e w4 ⟨rfl, b4⟩; have F4 := F0.bel b4; have y0 := F4.c0; have X4 := X3.bl b4; have x0 := X4.c0; have x1 := X4.c1; have x2 := X4.c2)
    go_ret
    exact ⟨rfl, mbel B1 (mbel (mbel c2 c3) b4)⟩
  | some n =>
    by_cases hc : (ckN n 1 0).1 = 0
    · have RD := Read_yes E s n w1 HE1.out hs hr hc
      have FO := fun V => Flat_yes s n V hs hr hc
      have HC : Hid ((ckN n 1 0).1 = 0) := hc
      have HFIT : Hid (Fit n) := fit_of hs hr hc
      have htl : (txt n).length ≤ s.length := rdT_short hr
      have htl' : ((txt n).length : Int) ≤ (s.length : Int) := by omega
      have hts := strV_size (txt n)
      clear hr hc
      go_upto_region 5 with (go_at_call 19; refine RD.mono ?_; rintro e w2 ⟨⟨d0, d1, d2, rfl, hx2⟩, b2⟩; obtain ⟨sb, ob, nb, kb, ob', nb', kb', rfl, rfl, rfl⟩ := nd_shape hx2)
      have X0 : NB w2.heap.size (.string sb) (.slice ob nb kb) (.slice ob' nb' kb') (w2.alloc (.cells #[.string sb, .slice ob nb kb, .slice ob' nb' kb'] 40)) := mbox w2 #[.string sb, .slice ob nb kb, .slice ob' nb' kb'] 40
      have bU := mal w2 (.cells #[.string sb, .slice ob nb kb, .slice ob' nb' kb'] 40)
      have c2 := mbel b2 bU
      have hxU := NdC.below bU n hx2
      obtain ⟨U, hU⟩ : ∃ U, w2.alloc (.cells #[.string sb, .slice ob nb kb, .slice ob' nb' kb'] 40) = U := ⟨_, rfl⟩
      obtain ⟨X, hX⟩ : ∃ X, w2.heap.size = X := ⟨_, rfl⟩
      rw [hU] at X0 c2 hxU ⊢
      rw [hX] at X0 ⊢
      have HXU : Hid (NdC U (.string sb) (.slice ob nb kb) (.slice ob' nb' kb') n) := hxU
      clear hU hX bU hx2 hxU
      go_upto_region 6 with (go_at_call 21; refine (FO _).mono ?_; rintro e w3 ⟨⟨M, g, cap, rfl, hM1, hM2, hM3, hM4⟩, b3⟩)
      have HM : Hid (RowF w3 g M ∧ FlRs w3 M (flN 0 (-1) 1 n)) := ⟨hM3, hM4⟩
      clear hM3 hM4
      have F0 : FB w3.heap.size (.int .i64 0) (.int .i64 (-1)) (w3.alloc (.cells #[.int .i64 0, .int .i64 (-1)] 44)) := mbox w3 #[.int .i64 0, .int .i64 (-1)] 44
      have d3 := mal w3 (.cells #[.int .i64 0, .int .i64 (-1)] 44)
      have c3 := mbel b3 d3
      obtain ⟨V, hV⟩ : ∃ V, w3.alloc (.cells #[.int .i64 0, .int .i64 (-1)] 44) = V := ⟨_, rfl⟩
      obtain ⟨F, hF⟩ : ∃ F, w3.heap.size = F := ⟨_, rfl⟩
      rw [hV] at F0 c3 d3 ⊢
      rw [hF] at F0 ⊢
      clear hV hF
      have hEV := HE1.out.below (mbel c2 c3) (Nat.le_refl _)
      have FM := faulted_M (E := E) (r := (0, 0)) (v := .nilIface) (w := V) (.inl ⟨rfl, rfl⟩) (by decide) hEV
      rw [show fltM (0, 0) = (0, -1) from rfl] at FM
      simp only at FM
      have y0 := F0.c0
      have y1 := F0.c1
      have X3 := X0.bl c3
      go_upto_region 10 with (go_at_call 15; refine FM.mono ?_; rintro e w4 ⟨rfl, b4⟩; have F4 := F0.bel b4; have y0 := F4.c0; have X4 := X3.bl b4; have x0 := X4.c0; have x1 := X4.c1; have x2 := X4.c2)
      clear FM y1
      have B4 := mbel c3 b4
      have e4 := mbel d3 b4
      have FA := Flats_yes n _ _ _ w4 (NdC.below B4 n HXU.out) HFIT.out
      have AL := fun (X' : World) (M' : List FlM) (g' cap' : Nat) (V' : World) (hb : Below X'.heap.size X' V') (h4 : M'.length ≤ 150) (h5 : M'.length ≤ cap') (h6 : RowF V' g' M') (h7 : FlRs X' M' (flN 0 (-1) 1 n)) (hb3 : Below w3.heap.size w3 V') => Alike_yes n X' w3 M' M g' cap' g cap V' hb h4 h5 h6 h7 hb3 hM1 hM2 HM.out.1 HM.out.2
      go_upto_region 12 with (first | (go_at_call 20; refine (AL _ _ _ _ _ b5 hl5 hc5 hr5 hf5 (mbel e4 b5)).mono ?_; rintro e w6 ⟨rfl, b6⟩) | (go_at_call 12; refine FA.mono ?_; rintro e w5 ⟨b5, M5, g5, cap5, rfl, hl5, hc5, hr5, hf5⟩))
      have B6 := mbel B4 (mbel b5 b6)
      have e6 := mbel e4 (mbel b5 b6)
      have X6 := X0.bl B6
      have x0 := X6.c0
      have x1 := X6.c1
      have x2 := X6.c2
      have E6 := HE1.out.below (mbel c2 B6) (Nat.le_refl _)
      have TX := Text_fine E n _ _ _ w6 E6 (NdC.below B6 n HXU.out) HC.out (by omega)
      go_upto_region 15 with (go_at_call 14; refine TX.mono ?_; rintro e w7 ⟨rfl, b7⟩)
      have E7 := E6.below b7 (Nat.le_refl _)
      have RB := Read_back E n w7 E7 HC.out (by omega)
      go_upto_region 16 with (go_at_call 19; refine RB.mono ?_; rintro e w8 ⟨⟨f0, f1, f2, rfl, hx8⟩, b8⟩; obtain ⟨sc, oc, nc, kc, oc', nc', kc', rfl, rfl, rfl⟩ := nd_shape hx8)
      clear x0 x1 x2
      have Y0 : NB w8.heap.size (.string sc) (.slice oc nc kc) (.slice oc' nc' kc') (w8.alloc (.cells #[.string sc, .slice oc nc kc, .slice oc' nc' kc'] 40)) := mbox w8 #[.string sc, .slice oc nc kc, .slice oc' nc' kc'] 40
      have bY := mal w8 (.cells #[.string sc, .slice oc nc kc, .slice oc' nc' kc'] 40)
      have hxY := NdC.below bY n hx8
      have z0 := Y0.c0
      have z1 := Y0.c1
      have z2 := Y0.c2
      have c8 := mbel e6 (mbel b7 (mbel b8 bY))
      have BY := mbel B6 (mbel b7 (mbel b8 bY))
      obtain ⟨Y, hY⟩ : ∃ Y, w8.alloc (.cells #[.string sc, .slice oc nc kc, .slice oc' nc' kc'] 40) = Y := ⟨_, rfl⟩
      rw [hY] at hxY z0 z1 z2 c8 BY ⊢
      clear hY Y0 bY hx8
      have FB2 := Flats_yes n _ _ _ Y hxY HFIT.out
      clear hxY
      go_wp2_with (first | (go_at_call 20; refine (AL _ _ _ _ _ b9 hl9 hc9 hr9 hf9 (mbel c8 b9)).mono ?_; rintro e w10 ⟨rfl, b10⟩) | (go_at_call 12; refine FB2.mono ?_; rintro e w9 ⟨b9, M9, g9, cap9, rfl, hl9, hc9, hr9, hf9⟩))
      go_ret
      exact ⟨rfl, mbel B1 (mbel c2 (mbel BY (mbel b9 b10)))⟩
    · have RD := Read_flt E s n w1 HE1.out hs hr hc
      have FO := fun V => Flat_flt s n V hs hr hc
      have hp0 : 0 < (fltM (ckN n 1 0)).1 := by unfold fltM; rw [if_neg hc]; show (0 : Int) < ((ckN n 1 0).1 : Int); omega
      have FM : ∀ v w', ErM E (ckN n 1 0) v w' → EE E w' → Calls Tryd.prog 15 #[v, .agg #[.int .i64 (fltM (ckN n 1 0)).1, .int .i64 (fltM (ckN n 1 0)).2]] w' fun e w'' => e = .returned (.bool true) ∧ Below w'.heap.size w' w'' := fun v w' h hE => faulted_M h (ckN_11 n 1 0) hE
      clear hr hc
      generalize fltM (ckN n 1 0) = q at FO FM hp0
      obtain ⟨p, a⟩ := q
      simp only at FO FM hp0
      go_upto_region 5 with (go_at_call 19; refine RD.mono ?_; rintro e w2 ⟨⟨v2, rfl, er2⟩, b2⟩)
      have X0 : NB w2.heap.size (.string ⟨#[]⟩) (.slice none 0 0) (.slice none 0 0) (w2.alloc (.cells #[.string ⟨#[]⟩, .slice none 0 0, .slice none 0 0] 40)) := mbox w2 #[.string ⟨#[]⟩, .slice none 0 0, .slice none 0 0] 40
      have bU := mal w2 (.cells #[.string ⟨#[]⟩, .slice none 0 0, .slice none 0 0] 40)
      have c2 := mbel b2 bU
      have erU := er2.below bU
      obtain ⟨U, hU⟩ : ∃ U, w2.alloc (.cells #[.string ⟨#[]⟩, .slice none 0 0, .slice none 0 0] 40) = U := ⟨_, rfl⟩
      obtain ⟨X, hX⟩ : ∃ X, w2.heap.size = X := ⟨_, rfl⟩
      rw [hU] at X0 c2 erU ⊢
      rw [hX] at X0 ⊢
      clear hU hX bU er2
      go_upto_region 6 with (go_at_call 21; refine (FO _).mono ?_; rintro e w3 ⟨rfl, b3⟩)
      have F0 : FB w3.heap.size (.int .i64 p) (.int .i64 a) (w3.alloc (.cells #[.int .i64 p, .int .i64 a] 44)) := mbox w3 #[.int .i64 p, .int .i64 a] 44
      have c3 := mbel b3 (mal w3 (.cells #[.int .i64 p, .int .i64 a] 44))
      obtain ⟨V, hV⟩ : ∃ V, w3.alloc (.cells #[.int .i64 p, .int .i64 a] 44) = V := ⟨_, rfl⟩
      obtain ⟨F, hF⟩ : ∃ F, w3.heap.size = F := ⟨_, rfl⟩
      rw [hV] at F0 c3 ⊢
      rw [hF] at F0 ⊢
      clear hV hF
      have FM1 := FM _ V (erU.below c3) (HE1.out.below (mbel c2 c3) (Nat.le_refl _))
      clear FM
      have y0 := F0.c0
      have y1 := F0.c1
      have X3 := X0.bl c3
      go_wp2_with (go_at_call 15; refine FM1.mono ?_; rintro e w4 ⟨rfl, b4⟩; have F4 := F0.bel b4; have y0 := F4.c0; have X4 := X3.bl b4; have x0 := X4.c0; have x1 := X4.c1; have x2 := X4.c2)
      go_ret
      exact ⟨rfl, mbel B1 (mbel (mbel c2 c3) b4)⟩

theorem reads_ba (E : Nat → Addr) (b : ByteArray) (W : World) (hE : EE E W) (hl : b.size ≤ 9223372036854775807) :
    Calls Tryd.prog 5 #[.string b] W fun e w' => e = .returned (.bool true) ∧ Below W.heap.size W w' := by
  obtain ⟨⟨l⟩⟩ := b
  exact reads_any E l W hE hl

end Go.Proofs.YtdebekonggnckabDoor

/-
  MarkTexts: the walk.
-/
import Derived.Test.YtdebekonggnckabDoorMark26
import Derived.Test.YtdebekonggnckabDoorMark16
import Derived.Test.YtdebekonggnckabDoorMark28
import Derived.Test.YtdebekonggnckabDoorMarkF3
import Derived.Test.YtdebekonggnckabDoorMarkC
import Derived.Deep.RegionHeld3
namespace Go.Proofs.YtdebekonggnckabDoor
open Go.RowKit

theorem Check_M (E : Nat → Addr) (n : Nd) (c0 c1 c2 : Value) (W : World) (hE : EE E W) (hn : NdC W c0 c1 c2 n) :
    Calls Tryd.prog 16 #[.agg #[c0, c1, c2]] W fun e w' => (∃ v, e = .returned v ∧ ErM E (ckN n 1 0) v w') ∧ Below W.heap.size W w' := (Check_nd E n c0 c1 c2 W hE.me hn).mono (fun _ _ h => by
  refine ⟨?_, h.1⟩
  rcases h.2 with ⟨h1, h2⟩ | ⟨h1, pb, -, h2, h3, h4⟩
  · exact ⟨_, h2, .inl ⟨h1, rfl⟩⟩
  · exact ⟨_, h2, .inr ⟨h1, pb, rfl, h3, h4⟩⟩)
theorem Text_bad (E : Nat → Addr) (n : Nd) (c0 c1 c2 : Value) (W : World) (hE : EE E W) (hn : NdC W c0 c1 c2 n) (hb : (ckN n 1 0).1 ≠ 0) :
    Calls Tryd.prog 14 #[.agg #[c0, c1, c2]] W fun e w' => (∃ v, e = .returned (.tuple #[.string ⟨#[]⟩, v]) ∧ ErM E (ckN n 1 0) v w') ∧ Below W.heap.size W w' := (Text_nd E n c0 c1 c2 W hE.me hn).mono (fun _ _ h => by
  refine ⟨?_, h.1⟩
  rcases h.2 with ⟨h1, pb, -, h2, h3, h4⟩ | ⟨h1, -⟩ | ⟨h1, -⟩
  · exact ⟨_, h2, .inr ⟨h1, pb, rfl, h3, h4⟩⟩
  · exact absurd h1 hb
  · exact absurd h1 hb)
theorem Text_long (E : Nat → Addr) (n : Nd) (c0 c1 c2 : Value) (W : World) (hE : EE E W) (hn : NdC W c0 c1 c2 n) (hb : (ckN n 1 0).1 = 0) (hl : 10000 < (txt n).length) :
    Calls Tryd.prog 14 #[.agg #[c0, c1, c2]] W fun e w' => e = .returned (.tuple #[.string ⟨#[]⟩, eV (E 2)]) ∧ Below W.heap.size W w' := (Text_nd E n c0 c1 c2 W hE.me hn).mono (fun _ _ h => by
  refine ⟨?_, h.1⟩
  rcases h.2 with ⟨h1, -⟩ | ⟨-, -, h1⟩ | ⟨-, h1, -⟩
  · exact absurd hb h1
  · exact h1
  · omega)
theorem Text_fine (E : Nat → Addr) (n : Nd) (c0 c1 c2 : Value) (W : World) (hE : EE E W) (hn : NdC W c0 c1 c2 n) (hb : (ckN n 1 0).1 = 0) (hl : (txt n).length ≤ 10000) :
    Calls Tryd.prog 14 #[.agg #[c0, c1, c2]] W fun e w' => e = .returned (.tuple #[.string ⟨(txt n).toArray⟩, .nilIface]) ∧ Below W.heap.size W w' := (Text_nd E n c0 c1 c2 W hE.me hn).mono (fun _ _ h => by
  refine ⟨?_, h.1⟩
  rcases h.2 with ⟨h1, -⟩ | ⟨-, h1, -⟩ | ⟨-, -, h1⟩
  · exact absurd hb h1
  · omega
  · exact h1)
/-- The text of a node that is well is read as that node. -/
theorem Read_back (E : Nat → Addr) (n : Nd) (W : World) (hE : EE E W) (hb : (ckN n 1 0).1 = 0) (hl : (txt n).length ≤ 10000) :
    Calls Tryd.prog 19 #[.string ⟨(txt n).toArray⟩] W fun e w' => (∃ c0 c1 c2, e = .returned (.tuple #[.agg #[c0, c1, c2], .nilIface]) ∧ NdC w' c0 c1 c2 n) ∧ Below W.heap.size W w' := (Read_any E (txt n) W hE.me hE.c1 (by omega)).mono (fun _ _ h => by
  refine ⟨?_, h.1⟩
  have hrd : rdT (txt n) = some n := by
    refine rdT_some ?_
    have h := rdN_of n ((txt n).length + 1) [] (okN_gd n (ckN_ok n 1 0 hb)) (Nat.le_succ _)
    rw [List.append_nil] at h
    exact h
  rcases h.2 with h2 | h2 | ⟨-, m, h2, h3, -⟩ | ⟨-, m, c0, c1, c2, h2, -, h4, h5⟩
  · omega
  · have := h2.2.1; rw [hrd] at this; cases this
  · rw [hrd] at h2; cases h2; exact absurd hb h3
  · rw [hrd] at h2; cases h2; exact ⟨c0, c1, c2, h4, h5⟩)
theorem NB.bl {N : Nat} {c0 c1 c2 : Value} {w w' : World} (h : NB N c0 c1 c2 w) (hb : Below w.heap.size w w') : NB N c0 c1 c2 w' := (hb.block N h.lt).trans h
theorem mbelD {w w' : World} (h : Below w.drew.heap.size w.drew w') : Below w.heap.size w w' := ⟨h.os, h.tape, h.output, h.size, h.block⟩
theorem alike_refl (L : List Fl) : Alike L L := ⟨rfl, fun i f g h1 h2 => by rw [h1] at h2; cases h2; exact ⟨rfl, rfl, rfl⟩⟩
mutual
theorem okF_flN : ∀ (n : Nd) (k : Nat) (p : Int) (d i : Nat), (ckN n d i).1 = 0 → OkF (flN k p d n)
  | .mk nm ats ks, k, p, d, i, h => by
    rw [ckN] at h
    split at h
    · rename_i h1
      obtain ⟨a1, a2, a3⟩ := ck1_ok h1
      intro f hf
      rw [flN] at hf
      rcases List.mem_cons.1 hf with rfl | hf
      · exact ⟨a1, a2, a3⟩
      · exact okF_flL ks _ _ _ _ h f hf
    · rename_i h1
      exact absurd h h1
theorem okF_flL : ∀ (l : List Nd) (k : Nat) (p : Int) (d i : Nat), (ckK l d i).1 = 0 → OkF (flL k p d l)
  | [], _, _, _, _, _ => by intro f hf; simp [flL] at hf
  | n :: l, k, p, d, i, h => by
    by_cases h1 : (ckN n d i).1 = 0
    · rw [ckK_zero h1] at h
      intro f hf
      rw [flL] at hf
      rcases List.mem_append.1 hf with hf | hf
      · exact okF_flN n k p d i h1 f hf
      · exact okF_flL l _ _ _ _ h f hf
    · rw [ckK_pos h1] at h
      exact absurd h h1
end
theorem nd_shape {W : World} {a0 a1 a2 : Value} {a : Nd} (ha : NdC W a0 a1 a2 a) : ∃ (sa : ByteArray) (oa : Option Addr) (na ka : Nat) (oa' : Option Addr) (na' ka' : Nat), a0 = .string sa ∧ a1 = .slice oa na ka ∧ a2 = .slice oa' na' ka' := by
  obtain ⟨nm, ats, ks⟩ := a
  unfold NdC at ha
  obtain ⟨rfl, -, ⟨o, cap, rfl, -⟩, ok, capk, rfl, -⟩ := ha
  exact ⟨_, _, _, _, _, _, _, rfl, rfl, rfl⟩

set_option maxRecDepth 20000 in
set_option maxHeartbeats 8000000 in
theorem texts_any (E : Nat → Addr) (n : Nd) (a0 a1 a2 : Value) (W : World) (hE : EE E W) (ha : NdC W a0 a1 a2 n) :
    Calls Tryd.prog 4 #[.agg #[a0, a1, a2]] W fun e w' => e = .returned (.bool true) ∧ Below W.heap.size W w' := by
  obtain ⟨sa, oa, na, ka, oa', na', ka', rfl, rfl, rfl⟩ := nd_shape ha
  have A0 : NB W.heap.size (.string sa) (.slice oa na ka) (.slice oa' na' ka') (W.alloc (.cells #[.string sa, .slice oa na ka, .slice oa' na' ka'] 40)) := mbox W #[.string sa, .slice oa na ka, .slice oa' na' ka'] 40
  have bV := mal W (.cells #[.string sa, .slice oa na ka, .slice oa' na' ka'] 40)
  go_enter Tryd.func4, Tryd.ntmps4
  go_upto_region 1 with fail
  obtain ⟨V, hV⟩ : ∃ V, W.alloc (.cells #[.string sa, .slice oa na ka, .slice oa' na' ka'] 40) = V := ⟨_, rfl⟩
  rw [hV] at A0 bV ⊢
  clear hV
  have HE : Hid (EE E V) := hE.below bV (Nat.le_refl _)
  have HA : Hid (NdC V (.string sa) (.slice oa na ka) (.slice oa' na' ka') n) := NdC.below bV n ha
  clear hE ha
  have MK := marked_any E V HE.out.me HE.out.c1
  go_upto_region 2 with (go_at_call 11; refine MK.mono ?_; rintro e w1 ⟨rfl, B1⟩)
  clear MK
  have FA := FlatsOf_fit n _ _ _ w1 (NdC.below B1 n HA.out)
  have A1 := A0.bl B1
  have x0 := A1.c0
  have x1 := A1.c1
  have x2 := A1.c2
  go_upto_region 3 with (go_at_call 12; refine FA.mono ?_; rintro e w2 ⟨b2, va, rfl, fa⟩)
  clear x0 x1 x2 FA
  have B2 := mbel B1 b2
  rcases fa with ⟨-, rfl⟩ | ⟨hfit, M, g, cap, rfl, hM0, hM1, hM2, hM3, hM4⟩
  · go_wp2_with fail
    go_ret
    exact ⟨rfl, mbel bV B2⟩
  have hM0' : ((M.length : Int) == 0) = false := by rw [beq_eq_false_iff_ne]; omega
  have FF := FlatFault_any w1 M g cap _ w2 b2 hM3 hM2 (by omega) hM4
  rw [fltM_ck] at FF
  have FM : ∀ v w', ErM E (ckN n 1 0) v w' → EE E w' → Calls Tryd.prog 15 #[v, .agg #[.int .i64 (fltM (ckN n 1 0)).1, .int .i64 (fltM (ckN n 1 0)).2]] w' fun e w'' => e = .returned (.bool true) ∧ Below w'.heap.size w' w'' := fun v w' h hE => faulted_M h (ckN_11 n 1 0) hE
  have hc0 : ((ckN n 1 0).1 = 0 → (fltM (ckN n 1 0)).1 = 0) ∧ ((ckN n 1 0).1 ≠ 0 → 0 < (fltM (ckN n 1 0)).1) := by
    unfold fltM
    constructor
    · intro h; rw [if_pos h]
    · intro h; rw [if_neg h]; show (0 : Int) < ((ckN n 1 0).1 : Int); omega
  generalize fltM (ckN n 1 0) = q at FF FM hc0
  obtain ⟨c, a⟩ := q
  simp only at FF FM hc0
  go_upto_region 6 with (go_at_call 13; refine FF.mono ?_; rintro e w3 ⟨b3, rfl⟩)
  clear FF
  have F0 : FB w3.heap.size (.int .i64 c) (.int .i64 a) (w3.alloc (.cells #[.int .i64 c, .int .i64 a] 44)) := mbox w3 #[.int .i64 c, .int .i64 a] 44
  have c23 := mbel b3 (mal w3 (.cells #[.int .i64 c, .int .i64 a] 44))
  obtain ⟨U, hU⟩ : ∃ U, w3.alloc (.cells #[.int .i64 c, .int .i64 a] 44) = U := ⟨_, rfl⟩
  obtain ⟨F, hF⟩ : ∃ F, w3.heap.size = F := ⟨_, rfl⟩
  rw [hU] at F0 c23 ⊢
  rw [hF] at F0 ⊢
  clear hU hF b3
  have B3 := mbel B2 c23
  have A3 := A0.bl B3
  have x0 := A3.c0
  have x1 := A3.c1
  have x2 := A3.c2
  have HFIT : Hid (Fit n) := hfit
  have HM : Hid (RowF w2 g M ∧ FlRs w1 M (flN 0 (-1) 1 n)) := ⟨hM3, hM4⟩
  clear hfit hM3 hM4
  have CK := fun V' (hb : Below V.heap.size V V') => Check_M E n _ _ _ V' (HE.out.below hb (Nat.le_refl _)) (NdC.below hb n HA.out)
  by_cases hz : (ckN n 1 0).1 = 0
  · obtain rfl := hc0.1 hz
    have HZ : Hid ((ckN n 1 0).1 = 0) := hz
    clear hc0 hz
    have hlen : (txt n).length ≤ 2000000 := by have := ckN_len n 1 0 HZ.out; have := ckN_le n 1 0 HZ.out; omega
    have FT := fun V' (hb : Below w2.heap.size w2 V') => FlatText_any w1 M g cap (flN 0 (-1) 1 n) V' (mbel b2 hb) (HM.out.1.below hb) hM2 hM1 HM.out.2 (okF_flN n 0 (-1) 1 0 HZ.out) (good_all n) (by rw [ftx_txt]; omega)
    rw [ftx_txt] at FT
    by_cases hbig : 10000 < (txt n).length
    · have hbig' : 10000 < ((txt n).length : Int) := by omega
      have TX := Text_long E n _ _ _ U (HE.out.below B3 (Nat.le_refl _)) (NdC.below B3 n HA.out) HZ.out hbig
      unfold eV at TX
      go_upto_region 7 with (go_at_call 14; refine TX.mono ?_; rintro e w4 ⟨rfl, b4⟩)
      clear TX x0 x1 x2
      have B4 := mbel B3 b4
      have A4 := A0.bl B4
      have x0 := A4.c0
      have x1 := A4.c1
      have x2 := A4.c2
      have F4 := F0.bel b4
      have y0 := F4.c0
      have y1 := F4.c1
      go_region_held3 (fun w' => w'.cell? ⟨W.heap.size, 0, none⟩ = some (.string sa) ∧ w'.cell? ⟨W.heap.size, 1, none⟩ = some (.slice oa na ka) ∧ w'.cell? ⟨W.heap.size, 2, none⟩ = some (.slice oa' na' ka') ∧ w'.cell? ⟨F, 0, none⟩ = some (.int .i64 0) ∧ w'.cell? ⟨F, 1, none⟩ = some (.int .i64 a)) (refine ⟨?_, ?_, ?_, ?_, ?_⟩ <;> assumption) (first | (go_at_call 15; refine (FM _ _ er5 (HE.out.below B5 (Nat.le_refl _))).mono ?_; rintro e w6 ⟨rfl, b6⟩; have B6 := mbel B5 b6; have A6 := A0.bl B6; have x0 := A6.c0; have x1 := A6.c1; have x2 := A6.c2; have F6 := F5.bel b6; have y0 := F6.c0; have y1 := F6.c1) | (go_at_call 16; refine (CK _ (mdrew 1 B4)).mono ?_; rintro e w5 ⟨⟨v5, rfl, er5⟩, b5⟩; have B5 := mbel (mdrew 1 B4) b5; have A5 := A0.bl B5; have x0 := A5.c0; have x1 := A5.c1; have x2 := A5.c2; have F5 : FB F (.int .i64 0) (.int .i64 a) w5 := F4.bel (mbelD b5); have y0 := F5.c0; have y1 := F5.c1))
      have c26 := mbel (mbel c23 b4) (mbel (mbelD b5) b6)
      go_wp2_with (first | (go_at_call 17; refine (FT _ c26).mono ?_; rintro e w7 ⟨b7, rfl⟩; have B7 := mbel B6 b7) | (go_at_call 18; refine (coded_M (E := E) 2 (by decide) (by decide) _ (HE.out.below B7 (Nat.le_refl _))).mono ?_; rintro e w8 ⟨rfl, b8⟩))
      go_ret
      exact ⟨rfl, mbel bV (mbel B7 b8)⟩
    · have hbig' : ¬ 10000 < ((txt n).length : Int) := by omega
      have TX := Text_fine E n _ _ _ U (HE.out.below B3 (Nat.le_refl _)) (NdC.below B3 n HA.out) HZ.out (by omega)
      go_upto_region 7 with (go_at_call 14; refine TX.mono ?_; rintro e w4 ⟨rfl, b4⟩)
      clear TX x0 x1 x2
      have B4 := mbel B3 b4
      have A4 := A0.bl B4
      have x0 := A4.c0
      have x1 := A4.c1
      have x2 := A4.c2
      have F4 := F0.bel b4
      have y0 := F4.c0
      have y1 := F4.c1
      go_region_held3 (fun w' => w'.cell? ⟨W.heap.size, 0, none⟩ = some (.string sa) ∧ w'.cell? ⟨W.heap.size, 1, none⟩ = some (.slice oa na ka) ∧ w'.cell? ⟨W.heap.size, 2, none⟩ = some (.slice oa' na' ka') ∧ w'.cell? ⟨F, 0, none⟩ = some (.int .i64 0) ∧ w'.cell? ⟨F, 1, none⟩ = some (.int .i64 a)) (refine ⟨?_, ?_, ?_, ?_, ?_⟩ <;> assumption) (first | (go_at_call 15; refine (FM _ _ er5 (HE.out.below B5 (Nat.le_refl _))).mono ?_; rintro e w6 ⟨rfl, b6⟩; have B6 := mbel B5 b6; have A6 := A0.bl B6; have x0 := A6.c0; have x1 := A6.c1; have x2 := A6.c2; have F6 := F5.bel b6; have y0 := F6.c0; have y1 := F6.c1) | (go_at_call 16; refine (CK _ (mdrew 1 B4)).mono ?_; rintro e w5 ⟨⟨v5, rfl, er5⟩, b5⟩; have B5 := mbel (mdrew 1 B4) b5; have A5 := A0.bl B5; have x0 := A5.c0; have x1 := A5.c1; have x2 := A5.c2; have F5 : FB F (.int .i64 0) (.int .i64 a) w5 := F4.bel (mbelD b5); have y0 := F5.c0; have y1 := F5.c1))
      have c26 := mbel (mbel c23 b4) (mbel (mbelD b5) b6)
      go_upto_region 15 with (first | (go_at_call 17; refine (FT _ c26).mono ?_; rintro e w7 ⟨b7, rfl⟩; have B7 := mbel B6 b7) | (go_at_call 19; refine (Read_back E n _ (HE.out.below B7 (Nat.le_refl _)) HZ.out (by omega)).mono ?_; rintro e w8 ⟨⟨d0, d1, d2, rfl, hx8⟩, b8⟩; obtain ⟨sb, ob, nb, kb, ob', nb', kb', rfl, rfl, rfl⟩ := nd_shape hx8))
      have B8 := mbel B7 b8
      have X0 : NB w8.heap.size (.string sb) (.slice ob nb kb) (.slice ob' nb' kb') (w8.alloc (.cells #[.string sb, .slice ob nb kb, .slice ob' nb' kb'] 40)) := mbox w8 #[.string sb, .slice ob nb kb, .slice ob' nb' kb'] 40
      have bX := mal w8 (.cells #[.string sb, .slice ob nb kb, .slice ob' nb' kb'] 40)
      have hxX := NdC.below bX n hx8
      have z0 := X0.c0
      have z1 := X0.c1
      have z2 := X0.c2
      have c29 := mbel (mbel c26 b7) (mbel b8 bX)
      have BX := mbel B8 bX
      obtain ⟨XW, hXW⟩ : ∃ X, w8.alloc (.cells #[.string sb, .slice ob nb kb, .slice ob' nb' kb'] 40) = X := ⟨_, rfl⟩
      rw [hXW] at hxX z0 z1 z2 c29 BX ⊢
      clear hXW X0 bX
      have FA := FlatsOf_fit n _ _ _ XW hxX
      have FA1 := FA.mono (R' := fun e w' => Below XW.heap.size XW w' ∧ ∃ M' g' cap', e = .returned (.slice (some ⟨g', 0, none⟩) (List.length M') cap') ∧ M'.length ≤ 150 ∧ M'.length ≤ cap' ∧ RowF w' g' M' ∧ FlRs XW M' (flN 0 (-1) 1 n)) (fun e w' h => by
        obtain ⟨h1, v, h2, h3⟩ := h
        refine ⟨h1, ?_⟩
        rcases h3 with h3 | ⟨-, M', g', cap', rfl, -, h4, h5, h6, h7⟩
        · exact absurd HFIT.out h3.1
        · exact ⟨M', g', cap', h2, h4, h5, h6, h7⟩)
      clear FA
      have AL := fun (M' : List FlM) (g' cap' : Nat) (V' : World) (hb : Below XW.heap.size XW V') (h4 : M'.length ≤ 150) (h5 : M'.length ≤ cap') (h6 : RowF V' g' M') (h7 : FlRs XW M' (flN 0 (-1) 1 n)) => (AlikeFlats_any XW w1 M' M g' g cap' cap _ _ V' hb (mbel b2 (mbel c29 hb)) h6 (HM.out.1.below (mbel c29 hb)) h5 hM2 h4 hM1 h7 HM.out.2).mono (R' := fun e w' => e = .returned (.int .i64 1) ∧ Below V'.heap.size V' w') (fun e w' h => by
        obtain ⟨k1, r, k2, k3⟩ := h
        rw [k3.2 (alike_refl _)] at k2
        exact ⟨k2, k1⟩)
      go_wp2_with (first | (go_at_call 20; refine (AL _ _ _ _ b9 hl9 hc9 hr9 hf9).mono ?_; rintro e w10 ⟨rfl, b10⟩) | (go_at_call 12; refine FA1.mono ?_; rintro e w9 ⟨b9, M', g', cap', rfl, hl9, hc9, hr9, hf9⟩))
      go_ret
      exact ⟨rfl, mbel bV (mbel BX (mbel b9 b10))⟩
  · have hcp : 0 < c := hc0.2 hz
    have TX := Text_bad E n _ _ _ U (HE.out.below B3 (Nat.le_refl _)) (NdC.below B3 n HA.out) hz
    clear hc0
    go_upto_region 7 with (go_at_call 14; refine TX.mono ?_; rintro e w4 ⟨⟨v4, rfl, er4⟩, b4⟩)
    clear TX x0 x1 x2
    have B4 := mbel B3 b4
    have A4 := A0.bl B4
    have x0 := A4.c0
    have x1 := A4.c1
    have x2 := A4.c2
    have F4 := F0.bel b4
    have y0 := F4.c0
    have y1 := F4.c1
    go_region_held3 (fun w' => w'.cell? ⟨W.heap.size, 0, none⟩ = some (.string sa) ∧ w'.cell? ⟨W.heap.size, 1, none⟩ = some (.slice oa na ka) ∧ w'.cell? ⟨W.heap.size, 2, none⟩ = some (.slice oa' na' ka') ∧ w'.cell? ⟨F, 0, none⟩ = some (.int .i64 c) ∧ w'.cell? ⟨F, 1, none⟩ = some (.int .i64 a)) (refine ⟨?_, ?_, ?_, ?_, ?_⟩ <;> assumption) (first | (go_at_call 15; refine (FM _ _ er5 (HE.out.below B5 (Nat.le_refl _))).mono ?_; rintro e w6 ⟨rfl, b6⟩; have B6 := mbel B5 b6; have A6 := A0.bl B6; have x0 := A6.c0; have x1 := A6.c1; have x2 := A6.c2; have F6 := F5.bel b6; have y0 := F6.c0; have y1 := F6.c1) | (go_at_call 16; refine (CK _ (mdrew 1 B4)).mono ?_; rintro e w5 ⟨⟨v5, rfl, er5⟩, b5⟩; have B5 := mbel (mdrew 1 B4) b5; have A5 := A0.bl B5; have x0 := A5.c0; have x1 := A5.c1; have x2 := A5.c2; have F5 : FB F (.int .i64 c) (.int .i64 a) w5 := F4.bel (mbelD b5); have y0 := F5.c0; have y1 := F5.c1))
    have er6 := er4.below (mbel (mbelD b5) b6)
    go_wp2_with (go_at_call 15; refine (FM _ _ er6 (HE.out.below B6 (Nat.le_refl _))).mono ?_; rintro e w7 ⟨rfl, b7⟩)
    go_ret
    exact ⟨rfl, mbel bV (mbel B6 b7)⟩

end Go.Proofs.YtdebekonggnckabDoor

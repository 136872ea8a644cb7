/-
  MarkApart: the walk.
-/
import Derived.Test.YtlnnpileegoglabDoorMark26
import Derived.Test.YtlnnpileegoglabDoorMark16
namespace Go.Proofs.YtlnnpileegoglabDoor
open Go.RowKit

theorem FlO.below {W : World} {n : Nd} {v : Value} {w w' : World} (h : FlO W n v w) (hb : Below w.heap.size w w') : FlO W n v w' := by
  rcases h with h | ⟨M, g, cap, h1, h2, h3, h4, h5, h6⟩
  · exact .inl h
  · exact .inr ⟨M, g, cap, h1, h2, h3, h4, h5.below hb, h6⟩
theorem NB.bel {N : Nat} {c0 c1 c2 : Value} {w w' : World} (h : NB N c0 c1 c2 w) (hb : Below w.heap.size w w') : NB N c0 c1 c2 w' := (hb.block N h.lt).trans h
/-- Is there a text? -/
def okT (n : Nd) : Prop := (ckN n 1 0).1 = 0 ∧ (txt n).length ≤ 10000
theorem Text_ok (E : Nat → Addr) (n : Nd) (c0 c1 c2 : Value) (W : World) (hE : ME E W) (hn : NdC W c0 c1 c2 n) (ho : okT n) :
    Calls Tryd.prog 14 #[.agg #[c0, c1, c2]] W fun e w' => e = .returned (.tuple #[.string ⟨(txt n).toArray⟩, .nilIface]) ∧ Below W.heap.size W w' := (Text_nd E n c0 c1 c2 W hE hn).mono (fun _ _ h => by
  refine ⟨?_, h.1⟩
  rcases h.2 with ⟨h1, -⟩ | ⟨-, h1, -⟩ | ⟨-, -, h1⟩
  · exact absurd ho.1 h1
  · have := ho.2; omega
  · exact h1)
theorem Text_er (E : Nat → Addr) (n : Nd) (c0 c1 c2 : Value) (W : World) (hE : ME E W) (hn : NdC W c0 c1 c2 n) (ho : ¬ okT n) :
    Calls Tryd.prog 14 #[.agg #[c0, c1, c2]] W fun e w' => (∃ (t : TypeId) (p : Addr), e = .returned (.tuple #[.string ⟨#[]⟩, .iface t (.pointer (some p))])) ∧ Below W.heap.size W w' := (Text_nd E n c0 c1 c2 W hE hn).mono (fun _ _ h => by
  refine ⟨?_, h.1⟩
  rcases h.2 with ⟨-, pb, -, h1, -⟩ | ⟨-, -, h1⟩ | ⟨h1, h2, -⟩
  · exact ⟨_, _, h1⟩
  · exact ⟨_, _, h1⟩
  · exact absurd ⟨h1, h2⟩ ho)

set_option maxRecDepth 20000 in
set_option maxHeartbeats 8000000 in
theorem apart_any (E : Nat → Addr) (a b : Nd) (a0 a1 a2 b0 b1 b2 : Value) (W : World) (hE : ME E W) (h1 : W.cell? ⟨1, 0, none⟩ = some (.iface 209 (.pointer (some (E 1))))) (ha : NdC W a0 a1 a2 a) (hb : NdC W b0 b1 b2 b) :
    Calls Tryd.prog 6 #[.agg #[a0, a1, a2], .agg #[b0, b1, b2]] W fun e w' => e = .returned (.bool true) ∧ Below W.heap.size W w' := by
  obtain ⟨sa, oa, na, ka, oa', na', ka', rfl, rfl, rfl⟩ : ∃ (sa : ByteArray) (oa : Option Addr) (na ka : Nat) (oa' : Option Addr) (na' ka' : Nat), a0 = .string sa ∧ a1 = .slice oa na ka ∧ a2 = .slice oa' na' ka' := by
    obtain ⟨nm, ats, ks⟩ := a
    unfold NdC at ha
    obtain ⟨rfl, -, ⟨o, cap, rfl, -⟩, ok, capk, rfl, -⟩ := ha
    exact ⟨_, _, _, _, _, _, _, rfl, rfl, rfl⟩
  obtain ⟨sb, ob, nb, kb, ob', nb', kb', rfl, rfl, rfl⟩ : ∃ (sa : ByteArray) (oa : Option Addr) (na ka : Nat) (oa' : Option Addr) (na' ka' : Nat), b0 = .string sa ∧ b1 = .slice oa na ka ∧ b2 = .slice oa' na' ka' := by
    obtain ⟨nm, ats, ks⟩ := b
    unfold NdC at hb
    obtain ⟨rfl, -, ⟨o, cap, rfl, -⟩, ok, capk, rfl, -⟩ := hb
    exact ⟨_, _, _, _, _, _, _, rfl, rfl, rfl⟩
  have A0 := NB.al (mbox W #[.string sa, .slice oa na ka, .slice oa' na' ka'] 40) (.cells #[.string sb, .slice ob nb kb, .slice ob' nb' kb'] 40)
  have D0 : NB (W.heap.size + 1) (.string sb) (.slice ob nb kb) (.slice ob' nb' kb') ((W.alloc (.cells #[.string sa, .slice oa na ka, .slice oa' na' ka'] 40)).alloc (.cells #[.string sb, .slice ob nb kb, .slice ob' nb' kb'] 40)) := by
    have := mbox (W.alloc (.cells #[.string sa, .slice oa na ka, .slice oa' na' ka'] 40)) #[.string sb, .slice ob nb kb, .slice ob' nb' kb'] 40
    rw [World.size_alloc] at this
    exact this
  have bV := mbel (mal W (.cells #[.string sa, .slice oa na ka, .slice oa' na' ka'] 40)) (mal _ (.cells #[.string sb, .slice ob nb kb, .slice ob' nb' kb'] 40))
  go_enter Tryd.func6, Tryd.ntmps6
  go_upto_region 1 with fail
  obtain ⟨V, hV⟩ : ∃ V, (W.alloc (.cells #[.string sa, .slice oa na ka, .slice oa' na' ka'] 40)).alloc (.cells #[.string sb, .slice ob nb kb, .slice ob' nb' kb'] 40) = V := ⟨_, rfl⟩
  rw [hV] at A0 D0 bV ⊢
  clear hV
  have MK := marked_any E V (hE.below bV) ((bV.cell (cell_lt3 h1)).trans h1)
  go_upto_region 2 with (go_at_call 11; refine MK.mono ?_; rintro e w1 ⟨rfl, B1⟩)
  have HA : Hid (NdC W (.string sa) (.slice oa na ka) (.slice oa' na' ka') a) := ha
  have HB : Hid (NdC W (.string sb) (.slice ob nb kb) (.slice ob' nb' kb') b) := hb
  have HE : Hid (ME E W) := hE
  clear MK ha hb hE h1
  have FA := FlatsOf_any a _ _ _ w1 (NdC.below (mbel bV B1) a HA.out)
  obtain ⟨x0, x1, x2, y0, y1, y2⟩ : _ ∧ _ ∧ _ ∧ _ ∧ _ ∧ _ := ⟨(A0.bel B1).c0, (A0.bel B1).c1, (A0.bel B1).c2, (D0.bel B1).c0, (D0.bel B1).c1, (D0.bel B1).c2⟩
  go_upto_region 3 with (go_at_call 12; refine FA.mono ?_; rintro e w2 ⟨b2, va, rfl, fa⟩)
  clear x0 x1 x2 y0 y1 y2 FA
  have B2 := mbel B1 b2
  have FB := FlatsOf_any b _ _ _ w2 (NdC.below (mbel bV B2) b HB.out)
  obtain ⟨x0, x1, x2, y0, y1, y2⟩ : _ ∧ _ ∧ _ ∧ _ ∧ _ ∧ _ := ⟨(A0.bel B2).c0, (A0.bel B2).c1, (A0.bel B2).c2, (D0.bel B2).c0, (D0.bel B2).c1, (D0.bel B2).c2⟩
  go_upto_region 4 with (go_at_call 12; refine FB.mono ?_; rintro e w3 ⟨b3, vb, rfl, fb⟩)
  clear x0 x1 x2 y0 y1 y2 FB
  have B3 := mbel B2 b3
  have FA3 := fa.below b3
  clear fa
  rcases FA3 with rfl | ⟨M, g, cap, rfl, hM0, hM1, hM2, hM3, hM4⟩
  · go_wp2_with fail
    go_ret
    exact ⟨rfl, mbel bV B3⟩
  have hM0' : ((M.length : Int) == 0) = false := by rw [beq_eq_false_iff_ne]; omega
  rcases fb with rfl | ⟨M', g', cap', rfl, hN0, hN1, hN2, hN3, hN4⟩
  · go_wp2_with fail
    go_ret
    exact ⟨rfl, mbel bV B3⟩
  have hN0' : ((M'.length : Int) == 0) = false := by rw [beq_eq_false_iff_ne]; omega
  obtain ⟨x0, x1, x2, y0, y1, y2⟩ : _ ∧ _ ∧ _ ∧ _ ∧ _ ∧ _ := ⟨(A0.bel B3).c0, (A0.bel B3).c1, (A0.bel B3).c2, (D0.bel B3).c0, (D0.bel B3).c1, (D0.bel B3).c2⟩
  by_cases hoa : okT a
  · have TA := Text_ok E a _ _ _ w3 (HE.out.below (mbel bV B3)) (NdC.below (mbel bV B3) a HA.out) hoa
    go_upto_region 7 with (go_at_call 14; refine TA.mono ?_; rintro e w4 ⟨rfl, b4⟩)
    clear x0 x1 x2 y0 y1 y2 TA
    have B4 := mbel B3 b4
    obtain ⟨x0, x1, x2, y0, y1, y2⟩ : _ ∧ _ ∧ _ ∧ _ ∧ _ ∧ _ := ⟨(A0.bel B4).c0, (A0.bel B4).c1, (A0.bel B4).c2, (D0.bel B4).c0, (D0.bel B4).c1, (D0.bel B4).c2⟩
    by_cases hob : okT b
    · have TB := Text_ok E b _ _ _ w4 (HE.out.below (mbel bV B4)) (NdC.below (mbel bV B4) b HB.out) hob
      go_upto_region 8 with (go_at_call 14; refine TB.mono ?_; rintro e w5 ⟨rfl, b5⟩)
      clear x0 x1 x2 y0 y1 y2 TB
      have B5 := mbel B4 b5
      have c35 := mbel b4 b5
      have AL := AlikeFlats_any w1 w2 M M' g g' cap cap' _ _ w5 (mbel b2 (mbel b3 c35)) (mbel b3 c35) (hM3.below c35) (hN3.below c35) hM2 hN2 hM1 hN1 hM4 hN4
      have AL1 := AL.mono (R' := fun e w' => Below w5.heap.size w5 w' ∧ ∃ r : Bool, e = .returned (.int .i64 (if r = true then 1 else 0)) ∧ (r = true ↔ txt a = txt b)) (fun e w' h => by
        obtain ⟨h1, r, h2, h3⟩ := h
        refine ⟨h1, r, h2, h3.trans (alike_one.trans ⟨fun h => by rw [h], fun h => txt_one (okN_gd a (ckN_ok a 1 0 hoa.1)) (okN_gd b (ckN_ok b 1 0 hob.1)) h⟩)⟩)
      clear AL
      by_cases heq : txt a = txt b
      · have AL2 := AL1.mono (R' := fun e w' => e = .returned (.int .i64 1) ∧ Below w5.heap.size w5 w') (fun e w' h => by
          obtain ⟨h1, r, h2, h3⟩ := h
          rw [h3.2 heq] at h2
          exact ⟨h2, h1⟩)
        have hbq : (txt a == txt b) = true := by rw [heq]; simp
        clear AL1
        go_wp2_with (go_at_call 20; refine AL2.mono ?_; rintro e w6 ⟨rfl, b6⟩)
        go_ret
        exact ⟨rfl, mbel bV (mbel B5 b6)⟩
      · have AL2 := AL1.mono (R' := fun e w' => e = .returned (.int .i64 0) ∧ Below w5.heap.size w5 w') (fun e w' h => by
          obtain ⟨h1, r, h2, h3⟩ := h
          cases r with
          | true => exact absurd (h3.1 rfl) heq
          | false => exact ⟨h2, h1⟩)
        have hbq : (txt a == txt b) = false := by rw [beq_eq_false_iff_ne]; exact heq
        clear AL1
        go_wp2_with (go_at_call 20; refine AL2.mono ?_; rintro e w6 ⟨rfl, b6⟩)
        go_ret
        exact ⟨rfl, mbel bV (mbel B5 b6)⟩
    · have TB := Text_er E b _ _ _ w4 (HE.out.below (mbel bV B4)) (NdC.below (mbel bV B4) b HB.out) hob
      go_wp2_with (go_at_call 14; refine TB.mono ?_; rintro e w5 ⟨⟨t, p, rfl⟩, b5⟩)
      go_ret
      exact ⟨rfl, mbel bV (mbel B4 b5)⟩
  · have TA := Text_er E a _ _ _ w3 (HE.out.below (mbel bV B3)) (NdC.below (mbel bV B3) a HA.out) hoa
    go_upto_region 7 with (go_at_call 14; refine TA.mono ?_; rintro e w4 ⟨⟨t, p, rfl⟩, b4⟩)
    clear x0 x1 x2 y0 y1 y2 TA
    have B4 := mbel B3 b4
    obtain ⟨x0, x1, x2, y0, y1, y2⟩ : _ ∧ _ ∧ _ ∧ _ ∧ _ ∧ _ := ⟨(A0.bel B4).c0, (A0.bel B4).c1, (A0.bel B4).c2, (D0.bel B4).c0, (D0.bel B4).c1, (D0.bel B4).c2⟩
    by_cases hob : okT b
    · have TB := Text_ok E b _ _ _ w4 (HE.out.below (mbel bV B4)) (NdC.below (mbel bV B4) b HB.out) hob
      go_wp2_with (go_at_call 14; refine TB.mono ?_; rintro e w5 ⟨rfl, b5⟩)
      go_ret
      exact ⟨rfl, mbel bV (mbel B4 b5)⟩
    · have TB := Text_er E b _ _ _ w4 (HE.out.below (mbel bV B4)) (NdC.below (mbel bV B4) b HB.out) hob
      go_wp2_with (go_at_call 14; refine TB.mono ?_; rintro e w5 ⟨⟨t', p', rfl⟩, b5⟩)
      go_ret
      exact ⟨rfl, mbel bV (mbel B4 b5)⟩

end Go.Proofs.YtlnnpileegoglabDoor

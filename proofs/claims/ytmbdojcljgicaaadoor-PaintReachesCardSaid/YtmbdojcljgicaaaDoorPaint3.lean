/-
  Package paint: the pieces are checked.
-/
import Derived.Test.YtmbdojcljgicaaaDoorPaint1
import Derived.Deep.Cut
import Derived.Lib.QuietBelow
namespace Go.Proofs.YtmbdojcljgicaaaDoor
open Go.RowKit

/-- An error that can be looked into. -/
def ErrW (w : World) (v : Value) : Prop := (∃ a, v = .iface 130 (.pointer (some a))) ∨ (∃ pb t, w.cell? ⟨pb, 1, none⟩ = some (.iface 130 (.pointer (some t))) ∧ v = .iface 64 (.pointer (some ⟨pb, 0, none⟩)))
/-- A piece that is well. -/
def okPm (s : Pm) : Prop := okSh s.pts ∧ okRule s.rule
theorem cen_ok {x y : Int} (h1 : 0 ≤ x) (h2 : x ≤ 100) (h3 : 0 ≤ y) (h4 : y ≤ 100) : errP (cenQ x y) = 0 ∧ PI (cenQ x y) := by
  have hc : ∀ n : Int, 0 ≤ n → n ≤ 100 → chk (2 * n + 1) 2 = 0 := fun n a b => by
    rw [chk_zero]
    refine ⟨by decide, ?_, by omega, by decide⟩
    unfold gcdI
    have : (2 * n + 1).natAbs = 2 * n.natAbs + 1 := by omega
    rw [this]
    show Nat.gcd (2 * n.natAbs + 1) 2 = 1
    rw [Nat.gcd_comm, Nat.gcd_rec]
    simp
  refine ⟨errP_zero.2 ⟨chkP_zero.2 ⟨hc x h1 h2, hc y h3 h4⟩, ?_⟩, ⟨⟨?_, ?_⟩, ⟨by show (-9223372036854775808 : Int) ≤ 2; omega, by show (2 : Int) ≤ 9223372036854775807; omega⟩, ⟨?_, ?_⟩, ⟨by show (-9223372036854775808 : Int) ≤ 2; omega, by show (2 : Int) ≤ 9223372036854775807; omega⟩⟩⟩
  · unfold bigP tgr cenQ
    rw [if_neg]
    simp
    omega
  all_goals (simp only [cenQ]; omega)
theorem Holds_ok (aB aS aZ aV : Addr) (l : List Qt) (o : Option Addr) (cap : Nat) (p : Qt) (r : ByteArray) (w : World) (h : PtsAt w o l) (hp : PI p) (hE : EP aB aS aZ aV w) (h1 : okSh l) (h2 : errP p = 0) (h3 : okRule r) :
    Calls Tryd.prog 31 #[.agg #[.slice o l.length cap], qtV p, .string r] w fun e W => e = .returned (.tuple #[.bool (holdB l r p), .nilIface]) ∧ Below w.heap.size w W :=
  (Holds_any aB aS aZ aV l o cap p r w h hp hE).mono fun e W ⟨hv, v, k, he, hb⟩ => by
    rcases k with ⟨-, -, -, rfl, rfl⟩ | ⟨k, -⟩
    · exact ⟨he, hb⟩
    · exact absurd ⟨h1, h2, h3⟩ k
theorem centre_below (x y : Int) (w : World) (h1 : -1000 ≤ x) (h2 : x ≤ 1000) (h3 : -1000 ≤ y) (h4 : y ≤ 1000) :
    Calls Tryd.prog 27 #[.int .i64 x, .int .i64 y] w fun e W => e = .returned (qtV (cenQ x y)) ∧ Below w.heap.size w W :=
  (centre_any x y w h1 h2 h3 h4).mono fun _ _ ⟨h1, h2⟩ => ⟨h1, by rw [h2]; exact cen_below x y w⟩
theorem ErrW.of_first {aB aS aZ : Addr} {ef : Qt → Nat} {w : World} {l : List Qt} {e : Ending} {W : World} (h : FirstF aB aS aZ ef w l e W) (hc : ∀ a, ef a = 0 ∨ ef a = 2 ∨ ef a = 3) (hn : ¬ ∀ y ∈ l, ef y = 0) : ∃ v, ErrW W v ∧ e = .returned v := by
  rcases h with ⟨h, -⟩ | ⟨q, x, r, pb, -, -, h3, -, h5, h6, h7⟩
  · exact absurd h hn
  · refine ⟨_, ?_, h5⟩
    obtain ⟨ad, hea⟩ := er_cases aB aS aZ (show ef x = 2 ∨ ef x = 3 by have := hc x; omega)
    exact .inr ⟨pb, ad, by rw [h7, hea], rfl⟩
theorem ErrW.below {w w' : World} {v : Value} (h : ErrW w v) (hb : Below w.heap.size w w') : ErrW w' v := by
  rcases h with h | ⟨pb, t, h1, h2⟩
  · exact .inl h
  · exact .inr ⟨pb, t, (hb.cell (cell_lt h1)).trans h1, h2⟩
theorem ErrW.of_chk {aB aS aZ : Addr} {w : World} {l : List Qt} {e : Ending} {W : World} (h : ChkR aB aS aZ w l e W) : (okSh l ∧ e = .returned .nilIface) ∨ (¬ okSh l ∧ ∃ v, ErrW W v ∧ e = .returned v) := by
  have hp := h.plain
  rcases h with ⟨h1, h2⟩ | ⟨h1, ⟨y, hy, hy2⟩, h3⟩ | ⟨h1, h2, h3⟩
  · exact .inr ⟨fun h => by have := h.1; omega, _, .inl ⟨aB, rfl⟩, h2⟩
  · exact .inr ⟨fun h => hy2 (errP_zero.1 (h.2 y hy)).1, ErrW.of_first h3 chkP_cases (fun h => hy2 (h y hy))⟩
  · by_cases hb : ∀ y ∈ l, bigP y = 0
    · rcases hp with hp | ⟨hp, -⟩
      · exact .inl hp
      · exact absurd ⟨h1, fun y hy => errP_zero.2 ⟨h2 y hy, hb y hy⟩⟩ hp
    · refine .inr ⟨fun h => hb (fun y hy => (errP_zero.1 (h.2 y hy)).2), ErrW.of_first h3 (fun a => by have := bigP_cases a; omega) hb⟩
set_option maxRecDepth 20000 in
set_option maxHeartbeats 4000000 in
theorem checkPiece_any (aB aS aZ aV : Addr) (x : P5) (w : World) (h : PtsAt w x.o x.s.pts) (hE : EP aB aS aZ aV w) :
    Calls Tryd.prog 21 #[p5V x] w fun e W => ((okPm x.s ∧ e = .returned .nilIface) ∨ (¬ okPm x.s ∧ ∃ v, ErrW W v ∧ e = .returned v)) ∧ Below w.heap.size w W := by
  have C0 := P5C.new w x 42
  have b0 := mbelow w (.cells (p5A x) 42)
  go_enter Tryd.func21, Tryd.ntmps21
  go_upto_region 1 with fail
  obtain ⟨U, hU⟩ : ∃ U, w.alloc (.cells (p5A x) 42) = U := ⟨_, rfl⟩
  rw [hU] at C0 b0 ⊢
  clear hU
  have hPU := h.below b0 (Nat.le_refl _)
  have hEU := hE.below b0 (Nat.le_refl _)
  have CK := Check_sh aB aS aZ x.s.pts x.o x.cap U hPU hEU.e3
  obtain ⟨c0, c1, c2, c3, c4⟩ := id C0
  go_upto_region 2 with (go_at_call 30; refine CK.mono ?_; rintro e w1 ⟨hc, b1⟩; have hc := ErrW.of_chk hc; obtain ⟨v, rfl, hv⟩ : ∃ v, e = .returned v ∧ ((okSh x.s.pts ∧ v = .nilIface) ∨ (¬ okSh x.s.pts ∧ ErrW w1 v)) := (by rcases hc with ⟨k1, k2⟩ | ⟨k1, v, k2, k3⟩; exact ⟨_, k2, .inl ⟨k1, rfl⟩⟩; exact ⟨v, k3, .inr ⟨k1, k2⟩⟩))
  clear hc CK c0 c1 c2 c3 c4
  have C1 := C0.below b1 (Nat.le_refl _)
  have bw1 := bel_more b0 b1
  have hP1 := hPU.below b1 (Nat.le_refl _)
  have hE1 := hEU.below b1 (Nat.le_refl _)
  rcases hv with ⟨hok, rfl⟩ | ⟨hno, hv⟩
  · go_upto_region 4 with fail
    obtain ⟨ec, ip⟩ := cen_ok (x := 0) (y := 0) (by decide) (by decide) (by decide) (by decide)
    have CE : ∀ d os, Calls Tryd.prog 27 #[.int .i64 0, .int .i64 0] (Go.Sort.grow (redrawn w1 d) os) fun e w'' => e = .returned (qtV (cenQ 0 0)) ∧ ∃ p : Regrown, w'' = Go.Sort.grow (redrawn w1 p.d) p.os := fun d os => Calls.regrown_of (centre_below 0 0 _ (by decide) (by decide) (by decide) (by decide))
    by_cases hr : okRule x.s.rule
    · have HO : ∀ d os, Calls Tryd.prog 31 #[.agg #[.slice x.o x.s.pts.length x.cap], qtV (cenQ 0 0), .string x.s.rule] (Go.Sort.grow (redrawn w1 d) os) fun e w'' => e = .returned (.tuple #[.bool (holdB x.s.pts x.s.rule (cenQ 0 0)), .nilIface]) ∧ ∃ p : Regrown, w'' = Go.Sort.grow (redrawn w1 p.d) p.os := fun d os => Calls.regrown_of (Holds_ok aB aS aZ aV x.s.pts x.o x.cap (cenQ 0 0) x.s.rule _ (hP1.below (below_regrown w1 d os) (Nat.le_refl _)) ip (hE1.below (below_regrown w1 d os) (Nat.le_refl _)) hok ec hr)
      have r1 := cell_regrown C1.c1
      have r3 := cell_regrown C1.c3
      refine wp_region_quiet_below (by kernel_rfl) (by kernel_rfl) ?_
      repeat (quiet_step (first | (go_at_call 31; exact HO _ _) | (go_at_call 27; exact CE _ _)))
      refine wpQuiet_nil ?_
      intro _ hw'
      obtain ⟨pp, hw''⟩ := hw'
      subst hw''
      have b2 := below_regrown w1 pp.d pp.os
      generalize Go.Sort.grow (redrawn w1 pp.d) pp.os = w2 at b2 ⊢
      go_wp2_with fail
      go_ret
      exact ⟨.inl ⟨⟨hok, hr⟩, rfl⟩, bel_more bw1 b2⟩
    · have h1 : (x.s.rule.toList == [119, 105, 110, 100]) = false := beq_eq_false_iff_ne.2 (fun h => hr (.inl h))
      have h2 : (x.s.rule.toList == [101, 118, 101, 110]) = false := beq_eq_false_iff_ne.2 (fun h => hr (.inr h))
      have HO : ∀ d os, Calls Tryd.prog 31 #[.agg #[.slice x.o x.s.pts.length x.cap], qtV (cenQ 0 0), .string x.s.rule] (Go.Sort.grow (redrawn w1 d) os) fun e w'' => e = .returned (.tuple #[.bool false, .iface 130 (.pointer (some aV))]) ∧ ∃ p : Regrown, w'' = Go.Sort.grow (redrawn w1 p.d) p.os := fun d os => Calls.regrown_of (Holds_other aV x.s.pts x.o x.cap (cenQ 0 0) x.s.rule _ h1 h2 (hE1.below (below_regrown w1 d os) (Nat.le_refl _)).v)
      have r1 := cell_regrown C1.c1
      have r3 := cell_regrown C1.c3
      clear h1 h2
      refine wp_region_quiet_below (by kernel_rfl) (by kernel_rfl) ?_
      repeat (quiet_step (first | (go_at_call 31; exact HO _ _) | (go_at_call 27; exact CE _ _)))
      refine wpQuiet_nil ?_
      intro _ hw'
      obtain ⟨pp, hw''⟩ := hw'
      subst hw''
      have b2 := below_regrown w1 pp.d pp.os
      generalize Go.Sort.grow (redrawn w1 pp.d) pp.os = w2 at b2 ⊢
      go_wp2_with fail
      go_ret
      exact ⟨.inr ⟨fun h => hr h.2, _, .inl ⟨aV, rfl⟩, rfl⟩, bel_more bw1 b2⟩
  · have hno' : ¬ okPm x.s := fun h => hno h.1
    rcases hv with ⟨a, rfl⟩ | ⟨pb, t, hcl, rfl⟩
    · go_wp2_with fail
      go_ret
      exact ⟨.inr ⟨hno', _, .inl ⟨a, rfl⟩, rfl⟩, bw1⟩
    · go_wp2_with fail
      go_ret
      exact ⟨.inr ⟨hno', _, .inr ⟨pb, t, hcl, rfl⟩, rfl⟩, bw1⟩
set_option maxRecDepth 20000 in
set_option maxHeartbeats 4000000 in
theorem withoutPlace_any (aB aS aZ aV : Addr) (v : Value) (w : World) (h : ErrW w v) (hE : EP aB aS aZ aV w) :
    Calls Tryd.prog 22 #[v] w fun e W => (∃ a, e = .returned (.iface 130 (.pointer (some a)))) ∧ Below w.heap.size w W := by
  have b0 := mbelow w (.cells #[.pointer none] 64)
  have hE0 := hE.below b0 (Nat.le_refl _)
  rcases h with ⟨a, rfl⟩ | ⟨pb, t, hc, rfl⟩
  · have AM := as_miss a ⟨w.heap.size, 0, none⟩ (w.alloc (.cells #[.pointer none] 64)) hE0.et
    go_enter Tryd.func22, Tryd.ntmps22
    go_wp2_with (go_at_call 32; refine AM.mono ?_; rintro e w1 ⟨rfl, b1⟩)
    go_ret
    exact ⟨⟨a, rfl⟩, bel_more b0 b1⟩
  · have AH := as_hit ⟨pb, 0, none⟩ ⟨w.heap.size, 0, none⟩ (.pointer none) (w.alloc (.cells #[.pointer none] 64)) hE0.et (by simp) (by simp)
    have hlt := cell_lt hc
    go_enter Tryd.func22, Tryd.ntmps22
    go_wp2_with fail
    refine AH.mono ?_
    rintro e w1' ⟨rfl, w1, b1, rfl⟩
    have hb1 : Below w.heap.size w (w1.setCell ⟨w.heap.size, 0, none⟩ (.pointer (some ⟨pb, 0, none⟩))) := (bel_more b0 b1).setCell (Nat.le_refl _) _
    have q1 := (hb1.cell (p := ⟨pb, 1, none⟩) hlt).trans hc
    have f1 : (w1.setCell ⟨w.heap.size, 0, none⟩ (.pointer (some ⟨pb, 0, none⟩))).cell? ⟨w.heap.size, 0, none⟩ = some (.pointer (some ⟨pb, 0, none⟩)) := by
      have c0 : w1.cell? ⟨w.heap.size, 0, none⟩ = some (.pointer none) := by rw [b1.cell (p := ⟨w.heap.size, 0, none⟩) (by simp)]; simp
      exact World.cell?_setCell_same' _ _ _ (by rw [c0]; rfl)
    generalize (w1.setCell ⟨w.heap.size, 0, none⟩ (.pointer (some ⟨pb, 0, none⟩))) = w3 at hb1 q1 f1 ⊢
    go_wp2
    go_ret
    exact ⟨⟨t, rfl⟩, hb1⟩
set_option maxRecDepth 20000 in
set_option maxHeartbeats 4000000 in
theorem check_pcs (aB aS aZ aV : Addr) (l : List P5) (o : Option Addr) (cap : Nat) (w : World) (hl : l.length ≤ 1000) (h : P5sAt w o l) (hP : PtsOf w l) (hE : EP aB aS aZ aV w) :
    Calls Tryd.prog 13 #[.slice o l.length cap] w fun e W => (((∀ x ∈ l, okPm x.s) ∧ e = .returned .nilIface) ∨ ((∃ x ∈ l, ¬ okPm x.s) ∧ ∃ a, e = .returned (.iface 64 (.pointer (some a))))) ∧ Below w.heap.size w W := by
  go_enter Tryd.func13, Tryd.ntmps13
  go_wp2
  go_loopw [8] (fun i wr => ∃ k : Nat, k ≤ l.length ∧ i = .int .i64 k ∧ (∀ x ∈ l.take k, okPm x.s) ∧ Below w.heap.size w wr) (fun i _ => l.length - (intOf i).toNat)
  case atStart => exact ⟨0, Nat.zero_le _, rfl, (fun a ha => by simp at ha), Below.refl _ _⟩
  case round =>
    obtain ⟨k, hk, rfl, hrt, hb⟩ := hrel
    by_cases hlt : k < l.length
    · have hlt' : (k : Int) < (l.length : Int) := by omega
      obtain ⟨x, hx⟩ : ∃ x, l[k]? = some x := ⟨_, List.getElem?_eq_getElem hlt⟩
      have hmem : x ∈ l := List.mem_of_getElem? hx
      obtain ⟨b, off, rfl, hC⟩ := h.below hb (Nat.le_refl _) k x hx
      have C0 := P5C.new wr x 42
      have b1 := mbelow wr (.cells (p5A x) 42)
      have bw := bel_more hb b1
      have CP := checkPiece_any aB aS aZ aV x (wr.alloc (.cells (p5A x) 42)) ((hP x hmem).below bw (Nat.le_refl _)) (hE.below bw (Nat.le_refl _))
      obtain ⟨c0, c1, c2, c3, c4⟩ := hC
      have HX : Hid (l[k]? = some x) := hx
      clear hx
      go_upto_region 5 with (go_at_call 21; refine CP.mono ?_; rintro e w1 ⟨hc, b2⟩; obtain ⟨v, rfl, hv⟩ : ∃ v, e = .returned v ∧ ((okPm x.s ∧ v = .nilIface) ∨ (¬ okPm x.s ∧ ErrW w1 v)) := (by rcases hc with ⟨k1, k2⟩ | ⟨k1, v, k2, k3⟩; exact ⟨_, k2, .inl ⟨k1, rfl⟩⟩; exact ⟨v, k3, .inr ⟨k1, k2⟩⟩))
      clear hc CP
      have bw2 := bel_more bw b2
      rcases hv with ⟨hok, rfl⟩ | ⟨hno, hv⟩
      · go_wp2_with fail
        go_roundw
        case rel => exact ⟨k + 1, by omega, by go_num, fun y hy => by rw [List.take_add_one, HX.out] at hy; rcases List.mem_append.1 hy with hy | hy; exact hrt y hy; simp at hy; subst hy; exact hok, bw2⟩
        case measure => simp [intOf]; omega
      · have WP := withoutPlace_any aB aS aZ aV v w1 hv (hE.below bw2 (Nat.le_refl _))
        have key : ∀ v', v' = v → ((∃ a, v' = Value.iface 130 (.pointer (some a))) ∨ (∃ a, v' = Value.iface 64 (.pointer (some a)))) := fun v' e => by
          subst e
          rcases hv with h | ⟨pb, t, -, h⟩
          · exact .inl h
          · exact .inr ⟨_, h⟩
        have key := key v rfl
        clear hv
        rcases key with ⟨a, rfl⟩ | ⟨a, rfl⟩
        · go_wp2_with (go_at_call 22; refine WP.mono ?_; rintro e w2 ⟨⟨a2, rfl⟩, b3⟩)
          go_ret
          have bw3 := bel_more bw2 b3
          exact ⟨.inr ⟨⟨x, hmem, hno⟩, _, rfl⟩, bw3.alloc bw3.size _⟩
        · go_wp2_with (go_at_call 22; refine WP.mono ?_; rintro e w2 ⟨⟨a2, rfl⟩, b3⟩)
          go_ret
          have bw3 := bel_more bw2 b3
          exact ⟨.inr ⟨⟨x, hmem, hno⟩, _, rfl⟩, bw3.alloc bw3.size _⟩
    · obtain rfl : k = l.length := by omega
      go_wp2_with fail
      go_ret
      rw [List.take_length] at hrt
      exact ⟨.inl ⟨hrt, rfl⟩, hb⟩
end Go.Proofs.YtmbdojcljgicaaaDoor

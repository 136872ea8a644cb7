/-
  Package paint: does a piece reach a row?
-/
import Derived.Test.YtmbdojcljgicaaaGreatDoorPaintP
import Derived.Deep.Cut
namespace Go.Proofs.YtmbdojcljgicaaaGreatDoor
open Go.RowKit

/-- As far as looked. -/
def rightTo (l : List Qt) (k : Nat) : Prop := ∀ a ∈ l.take k, chk a.xn a.xd = 0 ∧ chk a.yn a.yd = 0
theorem any_snoc (l : List Qt) (f : Qt → Bool) (k : Nat) (a : Qt) (h : l[k]? = some a) : (l.take (k + 1)).any f = ((l.take k).any f || f a) := by
  rw [List.take_add_one, h]
  simp
theorem rightTo.snoc {l : List Qt} {k : Nat} {a : Qt} (h : rightTo l k) (ha : l[k]? = some a) (h1 : chk a.xn a.xd = 0) (h2 : chk a.yn a.yd = 0) : rightTo l (k + 1) := fun b hb => by
  rw [List.take_add_one, ha] at hb
  rcases List.mem_append.1 hb with hb | hb
  · exact h b hb
  · simp at hb
    subst hb
    exact ⟨h1, h2⟩
theorem reach_wrong {l : List Qt} {y : Int} {a : Qt} (ha : a ∈ l) (h : ¬ (chk a.xn a.xd = 0 ∧ chk a.yn a.yd = 0)) : reachM l y = false := by
  unfold reachM
  split
  · rfl
  · have : l.all (fun a => decide (chk a.xn a.xd = 0) && decide (chk a.yn a.yd = 0)) = false := by
      rw [List.all_eq_false]
      exact ⟨a, ha, by simpa using h⟩
    rw [this]
    rfl
theorem reach_done {l : List Qt} {y : Int} (h1 : ¬ y < -1073741824) (h2 : ¬ 1073741824 ≤ y) (h : rightTo l l.length) : reachM l y = (overM l y && underM l y) := by
  unfold reachM
  rw [if_neg (by omega)]
  have : l.all (fun a => decide (chk a.xn a.xd = 0) && decide (chk a.yn a.yd = 0)) = true := by
    rw [List.all_eq_true]
    intro a ha
    have := h a (by rw [List.take_length]; exact ha)
    simp [this]
  rw [this]
  rfl
theorem P5sAt.box (w : World) (x : P5) (t : TypeId) : P5C (w.alloc (.cells (p5A x) t)) w.heap.size 0 x ∧ Below w.heap.size w (w.alloc (.cells (p5A x) t)) := ⟨P5C.new w x t, mbelow w _⟩

set_option maxRecDepth 20000 in
set_option maxHeartbeats 4000000 in
theorem Reaches_any (aB aS aZ : Addr) (x : P5) (y : Int) (w : World) (hl : x.s.pts.length ≤ 1000) (h : PtsAt w x.o x.s.pts) (hE : E3 aB aS aZ w) :
    Calls Tryz.prog 28 #[p5V x, .int .i64 y] w fun e W => e = .returned (.bool (reachM x.s.pts y)) ∧ Below w.heap.size w W := by
  obtain ⟨C0, b0⟩ := P5sAt.box w x 43
  by_cases h1 : y < -1073741824
  · have hr : reachM x.s.pts y = false := by unfold reachM; rw [if_pos (.inl h1)]
    rw [hr]
    go_enter Tryz.func28, Tryz.ntmps28
    go_wp2
    go_ret
    exact ⟨rfl, b0⟩
  by_cases h2 : 1073741824 ≤ y
  · have hr : reachM x.s.pts y = false := by unfold reachM; rw [if_pos (.inr h2)]
    rw [hr]
    go_enter Tryz.func28, Tryz.ntmps28
    go_wp2
    go_ret
    exact ⟨rfl, b0⟩
  obtain ⟨T, hT⟩ : ∃ T, reachM x.s.pts y = T := ⟨_, rfl⟩
  rw [hT]
  have HT : Hid (reachM x.s.pts y = T) := hT
  clear hT
  go_enter Tryz.func28, Tryz.ntmps28
  go_upto_region 1 with fail
  obtain ⟨U, hU⟩ : ∃ U, w.alloc (.cells (p5A x) 43) = U := ⟨_, rfl⟩
  rw [hU] at C0 b0 ⊢
  clear hU
  have hU := h.below b0 (Nat.le_refl _)
  have hEU := hE.below b0 (Nat.le_refl _)
  obtain ⟨c0, c1, c2, c3, c4⟩ := C0
  go_wp2_with fail
  clear c0 c1 c2 c3 c4
  go_loopw [5, 6, 20] (fun u v i wr => ∃ k : Nat, k ≤ x.s.pts.length ∧ i = .int .i64 k ∧ u = .bool ((x.s.pts.take k).any fun a => decide (downI y a.yn a.yd ≤ 0)) ∧ v = .bool ((x.s.pts.take k).any fun a => decide (0 ≤ downI y a.yn a.yd)) ∧ rightTo x.s.pts k ∧ Below U.heap.size U wr) (fun _ _ i _ => x.s.pts.length - (intOf i).toNat)
  case atStart => exact ⟨0, Nat.zero_le _, rfl, rfl, rfl, (fun a ha => by simp at ha), Below.refl _ _⟩
  case round =>
    obtain ⟨k, hk, rfl, rfl, rfl, hrt, hb⟩ := hrel
    by_cases hlt : k < x.s.pts.length
    · have hlt' : (k : Int) < (x.s.pts.length : Int) := by omega
      obtain ⟨a, ha⟩ : ∃ a, x.s.pts[k]? = some a := ⟨_, List.getElem?_eq_getElem hlt⟩
      obtain ⟨b, off, ho, q0, q1, q2, q3, hpi⟩ := hU.below hb (Nat.le_refl _) k a ha
      rw [ho]
      have hEw := hEU.below hb (Nat.le_refl _)
      have F0 := Four.new wr (.int .i64 a.xn) (.int .i64 a.xd) (.int .i64 a.yn) (.int .i64 a.yd) 61
      have b1 := mbelow wr (.cells #[.int .i64 a.xn, .int .i64 a.xd, .int .i64 a.yn, .int .i64 a.yd] 61)
      have CX := fun V (hv : Below wr.heap.size wr V) => Check_any aB aS aZ a.xn a.xd V hpi.xn hpi.xd (hEw.below hv (Nat.le_refl _))
      have CY := fun V (hv : Below wr.heap.size wr V) => Check_any aB aS aZ a.yn a.yd V hpi.yn hpi.yd (hEw.below hv (Nat.le_refl _))
      have hmem : a ∈ x.s.pts := List.mem_of_getElem? ha
      obtain ⟨f0, f1, f2, f3⟩ := id F0
      by_cases hx : chk a.xn a.xd = 0
      · rw [hx, er_0] at CX
        by_cases hy : chk a.yn a.yd = 0
        · rw [hy, er_0] at CY
          have DF := fun V => downFrom_any y a.yn a.yd V (by omega) (by omega) hy
          have HR : Hid (rightTo x.s.pts (k + 1)) := hrt.snoc ha hx hy
          have HO : Hid ((x.s.pts.take (k + 1)).any (fun a => decide (downI y a.yn a.yd ≤ 0)) = ((x.s.pts.take k).any (fun a => decide (downI y a.yn a.yd ≤ 0)) || decide (downI y a.yn a.yd ≤ 0))) := any_snoc _ _ k a ha
          have HU : Hid ((x.s.pts.take (k + 1)).any (fun a => decide (0 ≤ downI y a.yn a.yd)) = ((x.s.pts.take k).any (fun a => decide (0 ≤ downI y a.yn a.yd)) || decide (0 ≤ downI y a.yn a.yd))) := any_snoc _ _ k a ha
          clear hrt hx hy ha
          generalize downI y a.yn a.yd = dn at DF HO HU
          generalize (x.s.pts.take k).any (fun a => decide (downI y a.yn a.yd ≤ 0)) = ov at HO ⊢
          generalize (x.s.pts.take k).any (fun a => decide (0 ≤ downI y a.yn a.yd)) = un at HU ⊢
          go_upto_region 10 with (first | (go_at_call 40; refine (DF _).mono ?_; rintro e w4 ⟨rfl, b4⟩) | (go_at_call_of 39 (Value.agg #[.int .i64 a.yn, .int .i64 a.yd]); refine (CY _ (bel_more b1 b2)).mono ?_; rintro e w3 ⟨rfl, b3⟩; obtain ⟨k0, k1, k2, k3⟩ := (F0.below b2 (Nat.le_refl _)).below b3 (Nat.le_refl _)) | (go_at_call_of 39 (Value.agg #[.int .i64 a.xn, .int .i64 a.xd]); refine (CX _ b1).mono ?_; rintro e w2 ⟨rfl, b2⟩; obtain ⟨g0, g1, g2, g3⟩ := F0.below b2 (Nat.le_refl _)))
          have bb := bel_more hb (bel_more (bel_more (bel_more b1 b2) b3) b4)
          clear F0 b1 b2 b3 b4 f0 f1 f2 f3 CX CY DF
          by_cases hd1 : dn ≤ 0
          · by_cases hd2 : 0 ≤ dn
            · cases ov with
              | true =>
                cases un with
                | true =>
                  go_wp2_with fail
                  go_roundw
                  case rel => exact ⟨k + 1, by omega, by simp, by rw [HO.out]; simp, by rw [HU.out]; simp, HR.out, bb⟩
                  case measure => simp [intOf]; omega
                | false =>
                  go_wp2_with fail
                  go_roundw
                  case rel => exact ⟨k + 1, by omega, by simp, by rw [HO.out]; simp, by rw [HU.out]; simp [hd2], HR.out, bb⟩
                  case measure => simp [intOf]; omega
              | false =>
                cases un with
                | true =>
                  go_wp2_with fail
                  go_roundw
                  case rel => exact ⟨k + 1, by omega, by simp, by rw [HO.out]; simp [hd1], by rw [HU.out]; simp, HR.out, bb⟩
                  case measure => simp [intOf]; omega
                | false =>
                  go_wp2_with fail
                  go_roundw
                  case rel => exact ⟨k + 1, by omega, by simp, by rw [HO.out]; simp [hd1], by rw [HU.out]; simp [hd2], HR.out, bb⟩
                  case measure => simp [intOf]; omega
            · cases ov with
              | true =>
                cases un with
                | true =>
                  go_wp2_with fail
                  go_roundw
                  case rel => exact ⟨k + 1, by omega, by simp, by rw [HO.out]; simp, by rw [HU.out]; simp, HR.out, bb⟩
                  case measure => simp [intOf]; omega
                | false =>
                  go_wp2_with fail
                  go_roundw
                  case rel => exact ⟨k + 1, by omega, by simp, by rw [HO.out]; simp, by rw [HU.out]; simp [hd2], HR.out, bb⟩
                  case measure => simp [intOf]; omega
              | false =>
                cases un with
                | true =>
                  go_wp2_with fail
                  go_roundw
                  case rel => exact ⟨k + 1, by omega, by simp, by rw [HO.out]; simp [hd1], by rw [HU.out]; simp, HR.out, bb⟩
                  case measure => simp [intOf]; omega
                | false =>
                  go_wp2_with fail
                  go_roundw
                  case rel => exact ⟨k + 1, by omega, by simp, by rw [HO.out]; simp [hd1], by rw [HU.out]; simp [hd2], HR.out, bb⟩
                  case measure => simp [intOf]; omega
          · by_cases hd2 : 0 ≤ dn
            · cases ov with
              | true =>
                cases un with
                | true =>
                  go_wp2_with fail
                  go_roundw
                  case rel => exact ⟨k + 1, by omega, by simp, by rw [HO.out]; simp, by rw [HU.out]; simp, HR.out, bb⟩
                  case measure => simp [intOf]; omega
                | false =>
                  go_wp2_with fail
                  go_roundw
                  case rel => exact ⟨k + 1, by omega, by simp, by rw [HO.out]; simp, by rw [HU.out]; simp [hd2], HR.out, bb⟩
                  case measure => simp [intOf]; omega
              | false =>
                cases un with
                | true =>
                  go_wp2_with fail
                  go_roundw
                  case rel => exact ⟨k + 1, by omega, by simp, by rw [HO.out]; simp [hd1], by rw [HU.out]; simp, HR.out, bb⟩
                  case measure => simp [intOf]; omega
                | false =>
                  go_wp2_with fail
                  go_roundw
                  case rel => exact ⟨k + 1, by omega, by simp, by rw [HO.out]; simp [hd1], by rw [HU.out]; simp [hd2], HR.out, bb⟩
                  case measure => simp [intOf]; omega
            · exact absurd (show 0 ≤ dn by omega) hd2
        · obtain ⟨ad, hea⟩ := er_cases aB aS aZ (show chk a.yn a.yd = 2 ∨ chk a.yn a.yd = 3 by have := chk_cases a.yn a.yd; omega)
          rw [hea] at CY
          have hr : T = false := HT.out.symm.trans (reach_wrong hmem (fun h => hy h.2))
          subst hr
          clear hea hrt ha hx hy
          go_wp2_with (first | (go_at_call_of 39 (Value.agg #[.int .i64 a.yn, .int .i64 a.yd]); refine (CY _ (bel_more b1 b2)).mono ?_; rintro e w3 ⟨rfl, b3⟩) | (go_at_call_of 39 (Value.agg #[.int .i64 a.xn, .int .i64 a.xd]); refine (CX _ b1).mono ?_; rintro e w2 ⟨rfl, b2⟩; obtain ⟨g0, g1, g2, g3⟩ := F0.below b2 (Nat.le_refl _)))
          go_ret
          exact ⟨rfl, bel_more b0 (bel_more hb (bel_more (bel_more b1 b2) b3))⟩
      · obtain ⟨ad, hea⟩ := er_cases aB aS aZ (show chk a.xn a.xd = 2 ∨ chk a.xn a.xd = 3 by have := chk_cases a.xn a.xd; omega)
        rw [hea] at CX
        have hr : T = false := HT.out.symm.trans (reach_wrong hmem (fun h => hx h.1))
        subst hr
        clear hea hrt ha hx
        go_wp2_with (first | (go_at_call_of 39 (Value.agg #[.int .i64 a.xn, .int .i64 a.xd]); refine (CX _ b1).mono ?_; rintro e w2 ⟨rfl, b2⟩; obtain ⟨g0, g1, g2, g3⟩ := F0.below b2 (Nat.le_refl _)))
        go_ret
        exact ⟨rfl, bel_more b0 (bel_more hb (bel_more b1 b2))⟩
    · obtain rfl : k = x.s.pts.length := by omega
      have hr : T = (overM x.s.pts y && underM x.s.pts y) := HT.out.symm.trans (reach_done (by omega) (by omega) hrt)
      unfold overM underM at hr
      rw [List.take_length]
      have HR : Hid (T = (_ && _)) := hr
      clear hr hrt
      generalize x.s.pts.any (fun a => decide (downI y a.yn a.yd ≤ 0)) = ov at HR ⊢
      generalize x.s.pts.any (fun a => decide (0 ≤ downI y a.yn a.yd)) = un at HR ⊢
      cases ov with
      | true =>
        go_wp2_with fail
        go_ret
        exact ⟨by rw [HR.out]; rfl, bel_more b0 hb⟩
      | false =>
        go_wp2_with fail
        go_ret
        exact ⟨by rw [HR.out]; rfl, bel_more b0 hb⟩
end Go.Proofs.YtmbdojcljgicaaaGreatDoor

/-
  What each kind of move reads behind its name; Read of a right text whose moves go together.
-/
import Derived.Test.YtdilieoobkldhabDoorMove19
import Derived.Test.YtdilieoobkldhabDoorMove21
import Derived.Test.YtdilieoobkldhabDoorMove22
namespace Go.Proofs.YtdilieoobkldhabDoor
open Go.RowKit

set_option maxHeartbeats 8000000 in
theorem scale2 (b o cap B : Nat) (s1 s2 : ByteArray) (x1 x2 : Fr) (r : Mv) (W : World) (hB : W.cell? ⟨B, 0, none⟩ = some (.func (.func 70) #[] #[])) (h1 : W.cell? ⟨b, o, none⟩ = some (.string s1)) (h2 : W.cell? ⟨b, o + 1, none⟩ = some (.string s2))
    (R1 : ∀ V, Below W.heap.size W V → Calls Tryd.prog 100 #[.string s1] V fun e w' => e = .returned (.tuple #[.agg #[.int .i64 x1.n, .int .i64 x1.d], .nilIface]) ∧ Below V.heap.size V w')
    (R2 : ∀ V, Below W.heap.size W V → Calls Tryd.prog 100 #[.string s2] V fun e w' => e = .returned (.tuple #[.agg #[.int .i64 x2.n, .int .i64 x2.d], .nilIface]) ∧ Below V.heap.size V w')
    (HOW : ∀ V g c, Below W.heap.size W V → V.cell? ⟨g, 0, none⟩ = some (.int .i64 x1.n) → V.cell? ⟨g, 1, none⟩ = some (.int .i64 x1.d) → V.cell? ⟨g, 2, none⟩ = some (.int .i64 x2.n) → V.cell? ⟨g, 3, none⟩ = some (.int .i64 x2.d) → Calls Tryd.prog 70 #[.slice (some ⟨g, 0, none⟩) 2 c] V fun e w' => e = .returned (mv r) ∧ Below V.heap.size V w') :
    Calls Tryd.prog 99 #[.slice (some ⟨b, o, none⟩) 2 cap, .pointer (some ⟨B, 0, none⟩)] W fun e w' => e = .returned (.tuple #[mv r, .nilIface]) ∧ Below W.heap.size W w' := by
  have L0 := (Below.refl W.heap.size W).alloc (Nat.le_refl _) (.cells #[.int .i64 0, .int .i64 0, .int .i64 0, .int .i64 0, .int .i64 0, .int .i64 0, .int .i64 0, .int .i64 0, .int .i64 0, .int .i64 0, .int .i64 0, .int .i64 0] 28)
  have B0 := Blk.new W #[.int .i64 0, .int .i64 0, .int .i64 0, .int .i64 0, .int .i64 0, .int .i64 0, .int .i64 0, .int .i64 0, .int .i64 0, .int .i64 0, .int .i64 0, .int .i64 0] 28
  have g1 := fun o => cell_al o h1
  obtain ⟨i0, hi, hz0, hz1, hz2⟩ := info_parts infoFrac
  go_enter Tryd.func99, Tryd.ntmps99
  go_wp2
  refine wp_loop_rounds 3 ?_
  rw [rounds_succ]
  go_wp2_with (first | (at_builtin; refine wpList_append_own_at _ rfl _ _ 117 rfl (W.heap.size + 1) 23 i0 (.agg #[.int .i64 0, .int .i64 0]) 2 16 Tryd.underlying117 hi hz0 hz1 hz2 rfl (by decide) (.slice none 0 0) 0 [] rfl O1 ⟨w1.heap.size + 1, 0, none⟩ 1 1 [.int .i64 x1.n, .int .i64 x1.d] rfl rfl (cells2 (by simp)) one2 (by unfold maxLen; omega) (by omega) (by simp; omega) ?_; intro v1 V1 hown1 hgrow1 _ hloc1; have L2 := ((L1.alloc (by omega) _).alloc (by simp; omega) _).grown hgrow1 (by simp; omega) (fun k e => by simp [Value.ownBlock] at e); have B2 := ((B1.alloc _).alloc _).grown hgrow1 (by simp [Value.ownBlock]); have z1 := hgrow1.size; simp only [World.size_alloc] at z1; have g2 := (L2.cell (p := ⟨b, o + 1, none⟩) (cell_lt h2)).trans h2) | (go_at_call_of 100 s1; refine (R1 _ L0).mono ?_; rintro e w1 ⟨rfl, hb1⟩; have sz1 := hb1.size; simp only [World.size_alloc] at sz1; have L1 := (L0.trans (hb1.mono (by simp)))  ; have B1 := B0.below hb1 (Nat.le_refl _); have O1 : ((w1.alloc (.cells #[.int .i64 x1.n, .int .i64 x1.d] 23)).alloc (.cells #[.int .i64 x1.n, .int .i64 x1.d] 23)).ownsRow (W.heap.size + 1) 23 2 (.slice none 0 0) 0 [] := World.ownsRow_nil _ _ _ _))
  rw [rounds_succ]
  go_wp2_with (first | (at_builtin; refine wpList_append_own_at _ rfl _ _ 117 rfl (W.heap.size + 1) 23 i0 (.agg #[.int .i64 0, .int .i64 0]) 2 16 Tryd.underlying117 hi hz0 hz1 hz2 rfl (by decide) v1 1 _ rfl O2 ⟨w2.heap.size + 1, 0, none⟩ 1 1 [.int .i64 x2.n, .int .i64 x2.d] rfl rfl (cells2 (by simp)) one2 (by unfold maxLen; omega) (by omega) (by simp; omega) ?_; intro v2 V2 hown2 hgrow2 _ hloc2; have lo2 := own_lo O2; have L4 := ((L3.alloc (by omega) _).alloc (by simp; omega) _).grown hgrow2 (by simp; omega) (fun k e => by have := lo2 k e; omega); have B4 := ((B3.alloc _).alloc _).grown hgrow2 (fun e => by have := lo2 _ e; omega); obtain ⟨g, c2, rfl, hg1, hg2, hg3, hg4, hg5⟩ := ownsRow_pos hown2; have gB := (L4.cell (p := ⟨B, 0, none⟩) (cell_lt hB)).trans hB) | (go_at_call_of 100 s2; refine (R2 _ L2).mono ?_; rintro e w2 ⟨rfl, hb2⟩; have sz2 := hb2.size; have L3 := L2.trans (hb2.mono (by omega)); have B3 := B2.below hb2 (Nat.le_refl _); have O2 := ((ownsRow_below hown1 hb2).alloc (.cells #[.int .i64 x2.n, .int .i64 x2.d] 23)).alloc (.cells #[.int .i64 x2.n, .int .i64 x2.d] 23)))
  rw [rounds_succ]
  go_wp2_with ((go_at_call 70; refine (HOW _ g c2 L4 (hg5 0 _ rfl) (hg5 1 _ rfl) (hg5 2 _ rfl) (hg5 3 _ rfl)).mono ?_; rintro e w5 ⟨rfl, hb5⟩; have sz5 := hb5.size; have B5 := B4.below hb5 (Nat.le_refl _); have zc0 := B5.cell 0 _ rfl; have zf0 := B5.froz 0 _ rfl; have zc1 := B5.cell 1 _ rfl; have zf1 := B5.froz 1 _ rfl; have zc2 := B5.cell 2 _ rfl; have zf2 := B5.froz 2 _ rfl; have zc3 := B5.cell 3 _ rfl; have zf3 := B5.froz 3 _ rfl; have zc4 := B5.cell 4 _ rfl; have zf4 := B5.froz 4 _ rfl; have zc5 := B5.cell 5 _ rfl; have zf5 := B5.froz 5 _ rfl; have zc6 := B5.cell 6 _ rfl; have zf6 := B5.froz 6 _ rfl; have zc7 := B5.cell 7 _ rfl; have zf7 := B5.froz 7 _ rfl; have zc8 := B5.cell 8 _ rfl; have zf8 := B5.froz 8 _ rfl; have zc9 := B5.cell 9 _ rfl; have zf9 := B5.froz 9 _ rfl; have zc10 := B5.cell 10 _ rfl; have zf10 := B5.froz 10 _ rfl; have zc11 := B5.cell 11 _ rfl; have zf11 := B5.froz 11 _ rfl))
  refine bodyPost_ret (v := .tuple #[mv r, .nilIface]) (by simp [results, Tryd.results99, go_sem, zc0, zc1, zc2, zc3, zc4, zc5, zc6, zc7, zc8, zc9, zc10, zc11]) rfl ⟨rfl, ?_⟩
  exact put_below (R := W.heap.size) (Nat.le_refl _) [.int .i64 r.a.n, .int .i64 r.a.d, .int .i64 r.b.n, .int .i64 r.b.d, .int .i64 r.c.n, .int .i64 r.c.d, .int .i64 r.d.n, .int .i64 r.d.d, .int .i64 r.e.n, .int .i64 r.e.d, .int .i64 r.f.n, .int .i64 r.f.d] 0 (L4.trans (hb5.mono (by omega)))

set_option maxHeartbeats 8000000 in
theorem skew1 (b o cap B : Nat) (s1 : ByteArray) (x1 : Fr) (r : Mv) (W : World) (hB : W.cell? ⟨B, 0, none⟩ = some (.func (.func 72) #[] #[])) (h1 : W.cell? ⟨b, o, none⟩ = some (.string s1))
    (R1 : ∀ V, Below W.heap.size W V → Calls Tryd.prog 100 #[.string s1] V fun e w' => e = .returned (.tuple #[.agg #[.int .i64 x1.n, .int .i64 x1.d], .nilIface]) ∧ Below V.heap.size V w')
    (HOW : ∀ V g c, Below W.heap.size W V → V.cell? ⟨g, 0, none⟩ = some (.int .i64 x1.n) → V.cell? ⟨g, 1, none⟩ = some (.int .i64 x1.d) → Calls Tryd.prog 72 #[.slice (some ⟨g, 0, none⟩) 1 c] V fun e w' => e = .returned (mv r) ∧ Below V.heap.size V w') :
    Calls Tryd.prog 99 #[.slice (some ⟨b, o, none⟩) 1 cap, .pointer (some ⟨B, 0, none⟩)] W fun e w' => e = .returned (.tuple #[mv r, .nilIface]) ∧ Below W.heap.size W w' := by
  have L0 := (Below.refl W.heap.size W).alloc (Nat.le_refl _) (.cells #[.int .i64 0, .int .i64 0, .int .i64 0, .int .i64 0, .int .i64 0, .int .i64 0, .int .i64 0, .int .i64 0, .int .i64 0, .int .i64 0, .int .i64 0, .int .i64 0] 28)
  have B0 := Blk.new W #[.int .i64 0, .int .i64 0, .int .i64 0, .int .i64 0, .int .i64 0, .int .i64 0, .int .i64 0, .int .i64 0, .int .i64 0, .int .i64 0, .int .i64 0, .int .i64 0] 28
  have g1 := fun o => cell_al o h1
  obtain ⟨i0, hi, hz0, hz1, hz2⟩ := info_parts infoFrac
  go_enter Tryd.func99, Tryd.ntmps99
  go_wp2
  refine wp_loop_rounds 2 ?_
  rw [rounds_succ]
  go_wp2_with (first | (at_builtin; refine wpList_append_own_at _ rfl _ _ 117 rfl (W.heap.size + 1) 23 i0 (.agg #[.int .i64 0, .int .i64 0]) 2 16 Tryd.underlying117 hi hz0 hz1 hz2 rfl (by decide) (.slice none 0 0) 0 [] rfl O1 ⟨w1.heap.size + 1, 0, none⟩ 1 1 [.int .i64 x1.n, .int .i64 x1.d] rfl rfl (cells2 (by simp)) one2 (by unfold maxLen; omega) (by omega) (by simp; omega) ?_; intro v1 V1 hown1 hgrow1 _ hloc1; have L2 := ((L1.alloc (by omega) _).alloc (by simp; omega) _).grown hgrow1 (by simp; omega) (fun k e => by simp [Value.ownBlock] at e); have B2 := ((B1.alloc _).alloc _).grown hgrow1 (by simp [Value.ownBlock]); have z1 := hgrow1.size; simp only [World.size_alloc] at z1; obtain ⟨g, c2, rfl, hg1, hg2, hg3, hg4, hg5⟩ := ownsRow_pos hown1; have gB := (L2.cell (p := ⟨B, 0, none⟩) (cell_lt hB)).trans hB) | (go_at_call_of 100 s1; refine (R1 _ L0).mono ?_; rintro e w1 ⟨rfl, hb1⟩; have sz1 := hb1.size; simp only [World.size_alloc] at sz1; have L1 := (L0.trans (hb1.mono (by simp))); have B1 := B0.below hb1 (Nat.le_refl _); have O1 : ((w1.alloc (.cells #[.int .i64 x1.n, .int .i64 x1.d] 23)).alloc (.cells #[.int .i64 x1.n, .int .i64 x1.d] 23)).ownsRow (W.heap.size + 1) 23 2 (.slice none 0 0) 0 [] := World.ownsRow_nil _ _ _ _))
  rw [rounds_succ]
  go_wp2_with ((go_at_call 72; refine (HOW _ g c2 L2 (hg5 0 _ rfl) (hg5 1 _ rfl)).mono ?_; rintro e w5 ⟨rfl, hb5⟩; have sz5 := hb5.size; have B5 := B2.below hb5 (Nat.le_refl _); have zc0 := B5.cell 0 _ rfl; have zf0 := B5.froz 0 _ rfl; have zc1 := B5.cell 1 _ rfl; have zf1 := B5.froz 1 _ rfl; have zc2 := B5.cell 2 _ rfl; have zf2 := B5.froz 2 _ rfl; have zc3 := B5.cell 3 _ rfl; have zf3 := B5.froz 3 _ rfl; have zc4 := B5.cell 4 _ rfl; have zf4 := B5.froz 4 _ rfl; have zc5 := B5.cell 5 _ rfl; have zf5 := B5.froz 5 _ rfl; have zc6 := B5.cell 6 _ rfl; have zf6 := B5.froz 6 _ rfl; have zc7 := B5.cell 7 _ rfl; have zf7 := B5.froz 7 _ rfl; have zc8 := B5.cell 8 _ rfl; have zf8 := B5.froz 8 _ rfl; have zc9 := B5.cell 9 _ rfl; have zf9 := B5.froz 9 _ rfl; have zc10 := B5.cell 10 _ rfl; have zf10 := B5.froz 10 _ rfl; have zc11 := B5.cell 11 _ rfl; have zf11 := B5.froz 11 _ rfl))
  refine bodyPost_ret (v := .tuple #[mv r, .nilIface]) (by simp [results, Tryd.results99, go_sem, zc0, zc1, zc2, zc3, zc4, zc5, zc6, zc7, zc8, zc9, zc10, zc11]) rfl ⟨rfl, ?_⟩
  exact put_below (R := W.heap.size) (Nat.le_refl _) [.int .i64 r.a.n, .int .i64 r.a.d, .int .i64 r.b.n, .int .i64 r.b.d, .int .i64 r.c.n, .int .i64 r.c.d, .int .i64 r.d.n, .int .i64 r.d.d, .int .i64 r.e.n, .int .i64 r.e.d, .int .i64 r.f.n, .int .i64 r.f.d] 0 (L2.trans (hb5.mono (by omega)))

theorem kindA_of {k : ByteArray} {kd : Kd} (h : kdOf k = some kd) (ht : kd ≠ .turn) : KindA k kd := by
  unfold kdOf at h
  by_cases h1 : k = bMove
  · rw [if_pos h1] at h; cases h; subst h1; exact kindOf_move
  · rw [if_neg h1] at h
    by_cases h2 : k = bScale
    · rw [if_pos h2] at h; cases h; subst h2; exact kindOf_scale
    · rw [if_neg h2] at h
      by_cases h3 : k = bTurn
      · rw [if_pos h3] at h; cases h; exact (ht rfl).elim
      · rw [if_neg h3] at h
        by_cases h4 : k = bSkew
        · rw [if_pos h4] at h; cases h; subst h4; exact kindOf_skew
        · rw [if_neg h4] at h; cases h
theorem kindT_of {k : ByteArray} (h : kdOf k = some .turn) : k = bTurn := by
  unfold kdOf at h
  by_cases h1 : k = bMove
  · rw [if_pos h1] at h; cases h
  · rw [if_neg h1] at h
    by_cases h2 : k = bScale
    · rw [if_pos h2] at h; cases h
    · rw [if_neg h2] at h
      by_cases h3 : k = bTurn
      · exact h3
      · rw [if_neg h3] at h
        by_cases h4 : k = bSkew
        · rw [if_pos h4] at h; cases h
        · rw [if_neg h4] at h; cases h

theorem rd2_some {mk : Fr → Fr → Mv} {a b : ByteArray} {m : Mv} (h : rd2 mk a b = (m, 0)) : rdC a = 0 ∧ rdC b = 0 ∧ m = mk (rdF a) (rdF b) := by
  unfold rd2 at h
  by_cases h1 : rdC a = 0
  · rw [if_neg (by simp [h1])] at h
    by_cases h2 : rdC b = 0
    · rw [if_neg (by simp [h2])] at h; exact ⟨h1, h2, (congrArg Prod.fst h).symm⟩
    · rw [if_pos h2] at h; exact (h2 (congrArg Prod.snd h)).elim
  · rw [if_pos h1] at h; exact (h1 (congrArg Prod.snd h)).elim
theorem rd1_some {mk : Fr → Mv} {a : ByteArray} {m : Mv} (h : rd1 mk a = (m, 0)) : rdC a = 0 ∧ m = mk (rdF a) := by
  unfold rd1 at h
  by_cases h1 : rdC a = 0
  · rw [if_neg (by simp [h1])] at h; exact ⟨h1, (congrArg Prod.fst h).symm⟩
  · rw [if_pos h1] at h; exact (h1 (congrArg Prod.snd h)).elim
theorem drop_two {ws : List ByteArray} {o : Nat} (h : o + 2 ≤ ws.length) : ∃ a b r, ws.drop o = a :: b :: r ∧ ws[o]? = some a ∧ ws[o + 1]? = some b := by
  have h1 : o < ws.length := by omega
  have h2 : o + 1 < ws.length := by omega
  exact ⟨ws[o], ws[o + 1], ws.drop (o + 2), by rw [List.drop_eq_getElem_cons h1, List.drop_eq_getElem_cons h2], by simp [h1], by simp [h2]⟩
theorem drop_one {ws : List ByteArray} {o : Nat} (h : o + 1 ≤ ws.length) : ∃ a r, ws.drop o = a :: r ∧ ws[o]? = some a := by
  have h1 : o < ws.length := by omega
  exact ⟨ws[o], ws.drop (o + 1), by rw [List.drop_eq_getElem_cons h1], by simp [h1]⟩
theorem read_of {aT aB aS : Addr} {a : ByteArray} (hs : a.size ≤ 1000000) (hr : rdC a = 0) (V : World) (h : E4 aT aB aS V) :
    Calls Tryd.prog 100 #[.string a] V fun e w' => e = .returned (.tuple #[.agg #[.int .i64 (rdF a).n, .int .i64 (rdF a).d], .nilIface]) ∧ Below V.heap.size V w' := by
  have := Read_any aT aB aS aB a V h.e3 h.t (by omega)
  rw [show (rd a.data.toList).c = 0 from hr] at this
  exact this
theorem word_le {ws : List ByteArray} (hs : ∀ a ∈ ws, a.size ≤ 1000000) {o : Nat} {a : ByteArray} (h : ws[o]? = some a) : a.size ≤ 1000000 := hs a (List.mem_of_getElem? h)

theorem readA_of {aT aB aS : Addr} {W : World} (h : E4 aT aB aS W) {ws : List ByteArray} (hs : ∀ a ∈ ws, a.size ≤ 1000000) {kd : Kd} (ht : kd ≠ .turn) : ReadA W ws kd := by
  intro V o B cap m hV hB hf ho hk
  have hE := h.below hV (Nat.le_refl _)
  cases kd with
  | turn => exact (ht rfl).elim
  | move =>
    obtain ⟨a, b, r, hd, ha, hb⟩ := drop_two ho
    rw [hd] at hk
    obtain ⟨h1, h2, rfl⟩ := rd2_some hk
    exact shift2 W.heap.size o cap B a b (rdF a) (rdF b) _ V hf (words_at hB ha) (words_at hB hb) (fun U hU => read_of (word_le hs ha) h1 U (hE.below hU (Nat.le_refl _))) (fun U hU => read_of (word_le hs hb) h2 U (hE.below hU (Nat.le_refl _)))
      (fun U g c hU k0 k1 k2 k3 => shift_any g c (rdF a) (rdF b) U k0 k1 k2 k3)
  | scale =>
    obtain ⟨a, b, r, hd, ha, hb⟩ := drop_two ho
    rw [hd] at hk
    obtain ⟨h1, h2, rfl⟩ := rd2_some hk
    exact scale2 W.heap.size o cap B a b (rdF a) (rdF b) _ V hf (words_at hB ha) (words_at hB hb) (fun U hU => read_of (word_le hs ha) h1 U (hE.below hU (Nat.le_refl _))) (fun U hU => read_of (word_le hs hb) h2 U (hE.below hU (Nat.le_refl _)))
      (fun U g c hU k0 k1 k2 k3 => scale_any g c (rdF a) (rdF b) U k0 k1 k2 k3)
  | skew =>
    obtain ⟨a, r, hd, ha⟩ := drop_one ho
    rw [hd] at hk
    obtain ⟨h1, rfl⟩ := rd1_some hk
    exact skew1 W.heap.size o cap B a (rdF a) _ V hf (words_at hB ha) (fun U hU => read_of (word_le hs ha) h1 U (hE.below hU (Nat.le_refl _)))
      (fun U g c hU k0 k1 => skew_any g c (rdF a) U k0 k1)

theorem readT_of {W : World} {ws : List ByteArray} : ReadT W ws := by
  intro V o cap m hV hB ho hk
  obtain ⟨a, r, hd, ha⟩ := drop_one ho
  rw [hd] at hk
  have hc := words_at hB ha
  change turnR a = (m, 0) at hk
  unfold turnR at hk
  by_cases h0 : a = ⟨#[48]⟩
  · rw [if_pos h0] at hk; cases hk; subst h0; exact turn_0 W.heap.size o cap V hc
  · rw [if_neg h0] at hk
    by_cases h1 : a = ⟨#[49]⟩
    · rw [if_pos h1] at hk; cases hk; subst h1; exact turn_1 W.heap.size o cap V hc
    · rw [if_neg h1] at hk
      by_cases h2 : a = ⟨#[50]⟩
      · rw [if_pos h2] at hk; cases hk; subst h2; exact turn_2 W.heap.size o cap V hc
      · rw [if_neg h2] at hk
        by_cases h3 : a = ⟨#[51]⟩
        · rw [if_pos h3] at hk; cases hk; subst h3; exact turn_3 W.heap.size o cap V hc
        · rw [if_neg h3] at hk; cases hk

theorem cellsM_get : ∀ (R : List Mv) (j : Nat) (m : Mv), R[j]? = some m → ∀ i u, (cells1 m)[i]? = some u → (cellsM R)[j * 12 + i]? = some u
  | [], _, _, h, _, _, _ => by cases h
  | x :: R, 0, m, h, i, u, hu => by
    simp at h; subst h
    have hi : i < (cells1 x).length := (List.getElem?_eq_some_iff.1 hu).1
    show (cells1 x ++ cellsM R)[0 * 12 + i]? = some u
    rw [List.getElem?_append_left (by simpa using hi)]
    simpa using hu
  | x :: R, j + 1, m, h, i, u, hu => by
    have := cellsM_get R j m (by simpa using h) i u hu
    show (cells1 x ++ cellsM R)[(j + 1) * 12 + i]? = some u
    rw [List.getElem?_append_right (by simp; omega)]
    rw [show (j + 1) * 12 + i - (cells1 x).length = j * 12 + i by simp; omega]
    exact this

/-- Read of a right text, whose moves go together in whatever order. -/
theorem Read_together {aT aB aS : Addr} (s : ByteArray) (ws : List ByteArray) (R : List Mv) (ms : Nat → Mv) (acc : List Nat → Mv) (W : World) (hE : E4 aT aB aS W) (hs : s.size < 4294967281) (hne : s.toList.isEmpty = false) (hw : words s = ws) (hsz : ∀ a ∈ ws, a.size ≤ 1000000) (hN : ws.length ≤ 1000)
    (hR : readL ws.length ws [] = (R, 0)) (hms : ∀ j m, R[j]? = some m → ms j = m) (hR0 : 0 < R.length) (hR1 : R.length ≤ 1000) (ha : acc [] = .one)
    (ho : ∀ pre x, pre.length < R.length → (acc pre).i64 ∧ (ms x).i64 ∧ thenR (acc pre) (ms x) = (acc (pre ++ [x]), .no)) :
    Calls Tryd.prog 8 #[.string s] W fun e w' => e = .returned (.tuple #[mv (acc (cameAll R.length)), .nilIface]) ∧ Below W.heap.size W w' := by
  have hlen : ws.length = Lib.countB s ⟨#[32]⟩ + 1 := by rw [← hw]; exact Lib.splitB_all ⟨#[32]⟩ (by decide) 0 _ s rfl
  have := ReadN_in s ms R.length acc W hR0 hR1 ha
    (fun V hV => (readList_ok s ws ws.length R V hs hne hlen.symm hw rfl hN hR (fun k kd h1 h2 => kindA_of h1 h2) (fun k h => kindT_of h) (fun kd h => readA_of (hE.below hV (Nat.le_refl _)) hsz h) readT_of).mono fun e w' ⟨⟨v, he, hown⟩, hb⟩ => by
      obtain ⟨n, hn⟩ : ∃ n, R.length = n + 1 := ⟨R.length - 1, by omega⟩
      rw [hn] at hown ⊢
      obtain ⟨g, cap, rfl, _, h3, _, _, h6⟩ := ownsRow_pos hown
      exact ⟨⟨g, cap, he, h3, fun j hj i u hu => by
        have hj' : j < R.length := by omega
        have hm := hms j R[j] (by simp [hj'])
        rw [hm] at hu
        exact h6 _ u (cellsM_get R j R[j] (by simp [hj']) i u hu)⟩, hb⟩)
    (fun pre x hp V hV => by
      obtain ⟨h1, h2, h3⟩ := ho pre x hp
      exact Then_ok h1 h2 h3 V (hE.below hV (Nat.le_refl _)).e3)
  exact callsIn_wide.1 this

end Go.Proofs.YtdilieoobkldhabDoor

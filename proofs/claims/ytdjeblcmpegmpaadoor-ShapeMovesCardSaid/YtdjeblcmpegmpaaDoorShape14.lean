/-
  A move by whole steps: At, and package shape's Move.
-/
import Derived.Test.YtdjeblcmpegmpaaDoorMove12
import Derived.Test.YtdjeblcmpegmpaaDoorShapeM4
import Derived.Test.YtdjeblcmpegmpaaDoorShTurns1
import Derived.Test.YtdjeblcmpegmpaaDoorShape13
namespace Go.Proofs.YtdjeblcmpegmpaaDoor
open Go.RowKit

/-- whole steps -/
structure StepI (x : Int) : Prop where
  lo : -100 ≤ x
  hi : x ≤ 100
theorem StepI.neg {x : Int} (h : StepI x) : StepI (-x) := ⟨by have := h.hi; omega, by have := h.lo; omega⟩
theorem StepI.chk {x : Int} (h : StepI x) : chk x 1 = 0 := chk_whole (by have := h.lo; omega) (by have := h.hi; omega)
theorem shM_i64 {x y : Int} (hx : StepI x) (hy : StepI y) : (shM x y).i64 := by
  have z1 := i64_small (n := 1) (by decide) (by decide)
  have z0 := i64_small (n := 0) (by decide) (by decide)
  have zx := i64_small (n := x) (by have := hx.lo; omega) (by have := hx.hi; omega)
  have zy := i64_small (n := y) (by have := hy.lo; omega) (by have := hy.hi; omega)
  exact ⟨⟨z1, z1⟩, ⟨z0, z1⟩, ⟨z0, z1⟩, ⟨z1, z1⟩, ⟨zx, z1⟩, ⟨zy, z1⟩⟩
theorem shM_ok {x y : Int} (hx : StepI x) (hy : StepI y) : (firstBad 0 (shM x y).list).1 = 0 := by
  unfold shM Mv.list Fr.whole
  simp [firstBad, chk_11, chk_01, hx.chk, hy.chk]
/-- where a point goes -/
def qtP (a : Qt) : Pt := ⟨⟨a.xn, a.xd⟩, ⟨a.yn, a.yd⟩⟩
theorem shift_ok {x y : Int} {a : Qt} (hx : StepI x) (hy : StepI y) (ha : errP a = 0) : chkP (shiftP x y a) = 0 := by
  obtain ⟨h1, -⟩ := errP_zero.1 ha
  obtain ⟨c1, c2⟩ := chkP_zero.1 h1
  have hb := PB.of ha
  exact chkP_zero.2 ⟨chk_shift c1 hb.x2 hb.x3 hb.x4 hx.lo hx.hi, chk_shift c2 hb.y2 hb.y3 hb.y4 hy.lo hy.hi⟩
theorem chkP_pi {a : Qt} (h : chkP a = 0) : PI a := by
  obtain ⟨c1, c2⟩ := chkP_zero.1 h
  obtain ⟨i1, i2⟩ := i64_of_chk c1
  obtain ⟨i3, i4⟩ := i64_of_chk c2
  exact ⟨i1, i2, i3, i4⟩
theorem at_sh {x y : Int} {a : Qt} (hx : StepI x) (hy : StepI y) (ha : errP a = 0) : atR (shM x y) (qtP a) = (qtP (shiftP x y a), .no) := by
  obtain ⟨h1, -⟩ := errP_zero.1 ha
  obtain ⟨c1, c2⟩ := chkP_zero.1 h1
  have hs := chkP_zero.1 (shift_ok hx hy ha)
  have hm := moved_sh (x := x) (y := y) c1 c2 hx.chk hy.chk hs.1 hs.2
  have hp : (firstBad 6 (qtP a).list).1 = 0 := by
    unfold qtP Pt.list
    simp [firstBad, c1, c2]
  unfold atR
  rw [if_neg (by simp [shM_ok hx hy]), if_neg (by simp [hp])]
  unfold qtP
  rw [hm, if_pos rfl]
  rfl
theorem At_sh {aB aS aZ : Addr} {x y : Int} {a : Qt} (hx : StepI x) (hy : StepI y) (ha : errP a = 0) (W : World) (hE : E3 aB aS aZ W) :
    Calls Tryd.prog 12 #[mv (shM x y), qtV a] W fun e w' => e = .returned (.tuple #[qtV (shiftP x y a), .nilIface]) ∧ Below W.heap.size W w' := by
  have hi := chkP_pi (errP_zero.1 ha).1
  exact At_ok (aZ := aZ) (m := shM x y) (p := qtP a) (q := qtP (shiftP x y a)) (shM_i64 hx hy) ⟨⟨hi.xn, hi.xd⟩, ⟨hi.yn, hi.yd⟩⟩ (at_sh hx hy ha) W hE
theorem heap3 (w : World) (o0 o1 o2 : Obj) : ∀ U, ((w.alloc o0).alloc o1).alloc o2 = U →
    U.heap[w.heap.size]? = some o0 ∧ U.heap[w.heap.size + 1]? = some o1 ∧ U.heap[w.heap.size + 1 + 1]? = some o2 ∧ Below w.heap.size w U := by
  rintro U rfl
  refine ⟨?_, ?_, ?_, ?_⟩
  · exact al_old _ (al_old _ (al_new _ rfl))
  · exact al_old _ (al_new _ (by simp))
  · exact al_new _ (by simp)
  · exact (((Below.refl _ _).alloc (Nat.le_refl _) _).alloc (by simp) _).alloc (by simp; omega) _
theorem blk_keepQ {w w' : World} {b n : Nat} {o : Obj} (hb : Below n w w') (hn : w.heap.size ≤ n) (h : w.heap[b]? = some o) : w'.heap[b]? = some o := (hb.block _ (Nat.lt_of_lt_of_le (Array.getElem?_eq_some_iff.1 h).1 hn)).trans h
theorem blk_keep {w w' : World} {b : Nat} {o : Obj} (hb : Below w.heap.size w w') (h : w.heap[b]? = some o) : w'.heap[b]? = some o := blk_keepQ hb (Nat.le_refl _) h
/-- What Move answers, where every point has a right place to go to. -/
def MvdR (g : Qt → Qt) (l : List Qt) (base : Nat) (e : Ending) (W : World) : Prop :=
  ((∀ a ∈ l, bigP (g a) = 0) ∧ ∃ v, e = .returned (.tuple #[.agg #[v], .nilIface]) ∧ OwnP W base v (l.map g)) ∨
  ((¬ ∀ a ∈ l, bigP (g a) = 0) ∧ ∃ v, ErrV v ∧ e = .returned (.tuple #[.agg #[.slice none 0 0], v]))
theorem OwnP.far {w : World} {base b : Nat} {v u : Value} {l : List Qt} (h : OwnP w base v l) (hb : b < base) : OwnP (w.setCell ⟨b, 0, none⟩ u) base v l := by
  refine ⟨h.1, ?_⟩
  rcases h.2 with h0 | ⟨g, cap, cur, h1, h2, h3, h4⟩
  · exact .inl h0
  · refine .inr ⟨g, cap, cur, h1, h2, ?_, h4⟩
    rw [Below.heap_setCell _ _ _ g (by simp; omega)]
    exact h3
theorem OwnP.low {w : World} {base b : Nat} {v : Value} {l : List Qt} (h : OwnP w base v l) (hb : b ≤ base) : OwnP w b v l := by
  refine ⟨h.1, ?_⟩
  rcases h.2 with h0 | ⟨g, cap, cur, h1, h2, h3⟩
  · exact .inl h0
  · exact .inr ⟨g, cap, cur, h1, Nat.le_trans hb h2, h3⟩
theorem OwnP.keep {w w' : World} {base : Nat} {v : Value} {l : List Qt} (h : OwnP w base v l) (hb : Below w.heap.size w w') : OwnP w' base v l := by
  refine ⟨h.1, ?_⟩
  rcases h.2 with h0 | ⟨g, cap, cur, h1, h2, h3, h4⟩
  · exact .inl h0
  · exact .inr ⟨g, cap, cur, h1, h2, blk_keep hb h3, h4⟩
set_option maxRecDepth 20000 in
set_option maxHeartbeats 8000000 in
theorem ShMove_any (aB aS aZ : Addr) (m : Mv) (g : Qt → Qt) (l : List Qt) (o : Option Addr) (cap : Nat) (w : World) (HC : FineC aB aS aZ m) (hok : okSh l) (hg : ∀ a ∈ l, chkP (g a) = 0)
    (HA : ∀ a ∈ l, ∀ V, E3 aB aS aZ V → Calls Tryd.prog 12 #[mv m, qtV a] V fun e w' => e = .returned (.tuple #[qtV (g a), .nilIface]) ∧ Below V.heap.size V w') (h : PtsAt w o l) (hE : E3 aB aS aZ w) :
    Calls Tryd.prog 11 #[.agg #[.slice o l.length cap], mv m] w fun e W => MvdR g l w.heap.size e W ∧ Below w.heap.size w W := by
  obtain ⟨i0, hi, hz0, hz1, hz2⟩ := info_parts infoPt
  go_enter Tryd.func11, Tryd.ntmps11
  go_upto_region 1 with fail
  obtain ⟨U, hU⟩ : ∃ U, ((w.alloc (.cells #[.slice o l.length cap] 30)).alloc (.cells #[.int .i64 m.a.n, .int .i64 m.a.d, .int .i64 m.b.n, .int .i64 m.b.d, .int .i64 m.c.n, .int .i64 m.c.d, .int .i64 m.d.n, .int .i64 m.d.d, .int .i64 m.e.n, .int .i64 m.e.d, .int .i64 m.f.n, .int .i64 m.f.d] 37)).alloc (.cells #[.slice none 0 0] 30) = U := ⟨_, rfl⟩
  obtain ⟨k0, k1, k2, hbU⟩ := heap3 w _ _ _ U hU
  rw [hU]
  clear hU
  have hEU := hE.below hbU (Nat.le_refl _)
  have CK := HC U hEU
  have m0 := bcellQ k1 0 _ rfl
  have m1 := bcellQ k1 1 _ rfl
  have m2 := bcellQ k1 2 _ rfl
  have m3 := bcellQ k1 3 _ rfl
  have m4 := bcellQ k1 4 _ rfl
  have m5 := bcellQ k1 5 _ rfl
  have m6 := bcellQ k1 6 _ rfl
  have m7 := bcellQ k1 7 _ rfl
  have m8 := bcellQ k1 8 _ rfl
  have m9 := bcellQ k1 9 _ rfl
  have m10 := bcellQ k1 10 _ rfl
  have m11 := bcellQ k1 11 _ rfl
  go_upto_region 4 with (go_at_call 22; refine CK.mono ?_; rintro e w1 ⟨rfl, b1⟩)
  clear CK m0 m1 m2 m3 m4 m5 m6 m7 m8 m9 m10 m11
  have k0 := blk_keep b1 k0
  have k1 := blk_keep b1 k1
  have k2 := blk_keep b1 k2
  have hb1 := bel_more hbU b1
  have hE1 := hE.below hb1 (Nat.le_refl _)
  have SC := Check_sh aB aS aZ l o cap w1 (h.below hb1 (Nat.le_refl _)) hE1
  have s0 := bcellQ k0 0 _ rfl
  have HOK : Hid (okSh l) := hok
  go_upto_region 7 with (go_at_call 23; refine SC.mono ?_; rintro e w2 ⟨hc, b2⟩; have he : e = .returned .nilIface := (by rcases hc.plain with ⟨-, h2⟩ | ⟨h1, -⟩; exact h2; exact absurd HOK.out h1); subst he; clear hc)
  clear SC s0
  have k0 := blk_keep b2 k0
  have k1 := blk_keep b2 k1
  have k2 := blk_keep b2 k2
  have hb2 := bel_more hb1 b2
  have hl30 := hok.1
  have HHA : Hid _ := HA
  have HHG : Hid _ := hg
  have s0 := bcellQ k0 0 _ rfl
  clear HA hg hok b1 b2 hE1 hEU
  go_wp2_with fail
  go_loopw [8, 28] (fun v y wr => ∃ k : Nat, k ≤ l.length ∧ y = .int .i64 k ∧ (∀ a ∈ l.take k, bigP (g a) = 0) ∧ OwnP wr w2.heap.size v ((l.take k).map g) ∧ Below w2.heap.size w2 wr) (fun _ y _ => l.length - (intOf y).toNat)
  case atStart => exact ⟨0, Nat.zero_le _, rfl, by simp, OwnP.nil _ _, Below.refl _ _⟩
  case round =>
    obtain ⟨k, hk, rfl, hall, hown, hb⟩ := hrel
    have HAL : Hid (∀ a ∈ l.take k, bigP (g a) = 0) := hall
    have hpiT : ∀ a ∈ (l.take k).map g, PI a := fun a ha => by
      obtain ⟨b, hb', rfl⟩ := List.mem_map.1 ha
      exact chkP_pi (HHG.out b (List.mem_of_mem_take hb'))
    obtain ⟨ov, cv, rfl, -⟩ := hown.at_ hpiT
    have hlen : ((l.take k).map g).length = k := by rw [List.length_map, List.length_take]; omega
    rw [hlen] at hown ⊢
    have HLEN : Hid (((l.take k).map g).length = k) := hlen
    clear hall hpiT hlen
    by_cases hlt : k < l.length
    · have hlt' : (k : Int) < (l.length : Int) := by omega
      obtain ⟨a, ha⟩ : ∃ a, l[k]? = some a := ⟨_, List.getElem?_eq_getElem hlt⟩
      have hmem := List.mem_of_getElem? ha
      obtain ⟨b, off, ho, hp⟩ := (h.below (bel_more hb2 hb) (Nat.le_refl _)) k a ha
      subst ho
      obtain ⟨c0, c1, c2, c3, hpi⟩ := hp
      have HL : Hid (l[k]? = some a) := ha
      have hE2 := hE.below (bel_more hb2 hb) (Nat.le_refl _)
      have hcg := HHG.out a hmem
      have b3 := mbelow wr (.cells #[.int .i64 a.xn, .int .i64 a.xd, .int .i64 a.yn, .int .i64 a.yd] 26)
      have F3 := Four.new wr (.int .i64 a.xn) (.int .i64 a.xd) (.int .i64 a.yn) (.int .i64 a.yd) 26
      have kr := blk_keep (bel_more hb b3) k1
      have hE3 := hE2.below b3 (Nat.le_refl _)
      have AT := HHA.out a hmem _ hE3
      clear ha
      go_upto_region 11 with fail
      obtain ⟨V, hV⟩ : ∃ V, wr.alloc (.cells #[.int .i64 a.xn, .int .i64 a.xd, .int .i64 a.yn, .int .i64 a.yd] 26) = V := ⟨_, rfl⟩
      rw [hV] at b3 F3 kr hE3 AT ⊢
      clear hV c0 c1 c2 c3
      have m0 := bcellQ kr 0 _ rfl
      have m1 := bcellQ kr 1 _ rfl
      have m2 := bcellQ kr 2 _ rfl
      have m3 := bcellQ kr 3 _ rfl
      have m4 := bcellQ kr 4 _ rfl
      have m5 := bcellQ kr 5 _ rfl
      have m6 := bcellQ kr 6 _ rfl
      have m7 := bcellQ kr 7 _ rfl
      have m8 := bcellQ kr 8 _ rfl
      have m9 := bcellQ kr 9 _ rfl
      have m10 := bcellQ kr 10 _ rfl
      have m11 := bcellQ kr 11 _ rfl
      obtain ⟨f0, f1, f2, f3⟩ := F3
      generalize hga : g a = q at *
      have HGA : Hid (g a = q) := hga
      clear hga
      go_upto_region 12 with (go_at_call 12; refine AT.mono ?_; rintro e w3 ⟨rfl, b4⟩)
      clear AT f0 f1 f2 f3 m0 m1 m2 m3 m4 m5 m6 m7 m8 m9 m10 m11
      have b5 := mbelow w3 (.cells #[.int .i64 q.xn, .int .i64 q.xd, .int .i64 q.yn, .int .i64 q.yd] 26)
      have F5 := Four.new w3 (.int .i64 q.xn) (.int .i64 q.xd) (.int .i64 q.yn) (.int .i64 q.yd) 26
      obtain ⟨V2, hV2⟩ : ∃ V, w3.alloc (.cells #[.int .i64 q.xn, .int .i64 q.xd, .int .i64 q.yn, .int .i64 q.yd] 26) = V := ⟨_, rfl⟩
      obtain ⟨BQ, hBQ⟩ : ∃ B, w3.heap.size = B := ⟨_, rfl⟩
      rw [hV2] at b5 F5 ⊢
      have b6 := bel_more (bel_more b3 b4) b5
      rw [hBQ] at F5 ⊢
      clear hV2 hBQ b3 b4 b5 hE3 kr
      have CS := checkSize_any aB aS aZ q V2 (chkP_pi hcg) (chkP_pos hcg) (hE2.below b6 (Nat.le_refl _))
      obtain ⟨f0, f1, f2, f3⟩ := id F5
      by_cases hx : bigP q = 0
      · rw [hx] at CS
        have HX : Hid (bigP q = 0) := hx
        clear hx
        go_upto_region 14 with (go_at_call 24; refine CS.mono ?_; rintro e w4 ⟨rfl, b7⟩; simp only [er_0])
        clear CS f0 f1 f2 f3
        obtain ⟨f0, f1, f2, f3⟩ := F5.below b7 (Nat.le_refl _)
        have b8 := bel_more (bel_more hb b6) b7
        have hz8 := b8.size
        have hown4 : w4.ownsRow w2.heap.size 26 4 (.slice ov k cv) k (cellsP ((l.take k).map g)) := by
          have h := hown.keep (bel_more b6 b7)
          unfold OwnP at h
          rw [HLEN.out] at h
          exact h
        have hz4 := (bel_more b6 b7).size
        have hnb := World.alloc_heap_new w4 (.cells #[.int .i64 q.xn, .int .i64 q.xd, .int .i64 q.yn, .int .i64 q.yd] 26)
        have owj' : (w4.alloc (.cells #[.int .i64 q.xn, .int .i64 q.xd, .int .i64 q.yn, .int .i64 q.yd] 26)).ownsRow w2.heap.size 26 4 (.slice ov k cv) k (cellsP ((l.take k).map g)) := World.ownsRow.alloc hown4 _
        have HT : Hid ((l.take (k + 1)).map g = (l.take k).map g ++ [q] ∧ ∀ a ∈ l.take (k + 1), bigP (g a) = 0) := by
          have ht : l.take (k + 1) = l.take k ++ [a] := by rw [List.take_add_one, HL.out]; rfl
          constructor
          · rw [ht, List.map_append, List.map_singleton, HGA.out]
          · rw [ht]
            intro y hy
            rcases List.mem_append.1 hy with h | h
            · exact HAL.out y h
            · simp at h; rw [h, HGA.out]; exact HX.out
        generalize (l.take k).map g = R at *
        clear hown hown4
        go_wp2_with (at_builtin; refine wpList_append_own _ rfl _ _ 22 rfl (w2.heap.size) 26 i0 (.agg #[.int .i64 0, .int .i64 0, .int .i64 0, .int .i64 0]) 4 32 Tryd.underlying22 hi hz0 hz1 hz2 rfl (by decide) _ _ _ rfl owj' _ _ _ (cellsP [q]) rfl (cellsP_len [q]) (World.news_of_block hnb) (cellsP_one _) (by simp only [maxLen]; omega) (by omega) (by simp; omega) ?_; intro v12 w12 ow12 gr12 _)
        go_roundw
        case rel => exact ⟨k + 1, by omega, by go_num, HT.out.2, by rw [HT.out.1]; rw [← HLEN.out] at ow12; exact OwnP.app (m := [q]) ow12 rfl, (b8.alloc hz8 _).grown gr12 (by simp; omega) (own_ge' owj')⟩
        case measure => simp [intOf]; omega
      · have hx2 : bigP q = 2 := by have := bigP_cases q; omega
        rw [hx2] at CS
        have HX : Hid (¬ bigP q = 0) := hx
        clear hx hx2
        go_upto_region 13 with (go_at_call 24; refine CS.mono ?_; rintro e w4 ⟨rfl, b7⟩; simp only [er_2])
        clear CS f0 f1 f2 f3
        have b8 := bel_more (bel_more hb b6) b7
        have k24 := blk_keep b8 k2
        have q4 := bcellQ k24 0 _ rfl
        have f4 := bfrozQ k24 0
        have hE4 := (hE.below (bel_more hb2 b8) (Nat.le_refl _)).b
        have hlt4 := (Array.getElem?_eq_some_iff.1 k24).1
        have ne4 : ¬ w4.heap.size = w.heap.size + 1 + 1 := by omega
        have ne5 : ¬ w.heap.size + 1 + 1 = w4.heap.size := by omega
        go_region
        go_wp2_with fail
        have d4 : (((w4.setCell ⟨w.heap.size + 1 + 1, 0, none⟩ (.slice none 0 0)).alloc (.cells #[.int .i64 k, .iface 108 (.pointer (some aB))] 61)).drew).cell? ⟨w.heap.size + 1 + 1, 0, none⟩ = some (.slice none 0 0) := cell_al _ (World.cell?_setCell_same' _ _ _ (by rw [q4]; rfl))
        have b9 := bel_more hb2 b8
        refine bodyPost_ret (v := .tuple #[.agg #[.slice none 0 0], .iface 59 (.pointer (some ⟨w4.heap.size, 0, none⟩))]) (by simp [results, Tryd.results11, go_sem, d4]) rfl ⟨.inr ⟨fun h => HX.out ?_, _, .inr ⟨_, rfl⟩, rfl⟩, below_drewN ((b9.setCell (by simp; omega) _).alloc (by simpa using b9.size) _) 1⟩
        rw [← HGA.out]
        exact h a hmem
    · obtain rfl : k = l.length := by omega
      have b8 := hb
      have k24 := blk_keep b8 k2
      have q4 := bcellQ k24 0 _ rfl
      have f4 := bfrozQ k24 0
      have hlt4 := (Array.getElem?_eq_some_iff.1 k2).1
      go_wp2_with fail
      have d0 : (wr.setCell ⟨w.heap.size + 1 + 1, 0, none⟩ (.slice ov l.length cv)).cell? ⟨w.heap.size + 1 + 1, 0, none⟩ = some (.slice ov l.length cv) := World.cell?_setCell_same' _ _ _ (by rw [q4]; rfl)
      have hw : w.heap.size ≤ w2.heap.size := hb2.size
      refine bodyPost_ret (v := .tuple #[.agg #[.slice ov l.length cv], .nilIface]) (by simp [results, Tryd.results11, go_sem, d0]) rfl ⟨.inl ⟨?_, _, rfl, ?_⟩, (bel_more hb2 hb).setCell (by simp; omega) _⟩
      · have := HAL.out
        rwa [List.take_length] at this
      · have := (hown.far (b := w.heap.size + 1 + 1) (u := .slice ov l.length cv) hlt4).low hw
        rwa [List.take_length] at this
end Go.Proofs.YtdjeblcmpegmpaaDoor

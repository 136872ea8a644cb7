/-
  Package pick: what a selector weighs.
-/
import Derived.Test.YtmlajdhkkcmjnacDoorJ8
namespace Go.Proofs.YtmlajdhkkcmjnacDoor
open Go.RowKit Go.Shelf

attribute [local go_sem] Oper.semAt_some

def wtS (l : List Bs) : Nat := (l.map fun t => wtPts (ptsOf t)).sum
theorem wtS_snoc (l : List Bs) (x : Bs) : wtS (l ++ [x]) = wtS l + wtPts (pts 0 x) := by
  unfold wtS
  rw [List.map_append, List.sum_append]
  simp [ptsOf, pts]
theorem wtPt_le (x : UInt8 × Bs) : wtPt x ≤ 100 := by
  unfold wtPt
  split
  · exact Nat.le_refl _
  · split
    · decide
    · split <;> decide
theorem wtPts_le : ∀ l : List (UInt8 × Bs), wtPts l ≤ 100 * l.length
  | [] => Nat.le_refl _
  | x :: l => by
    have h1 := wtPt_le x
    have h2 := wtPts_le l
    unfold wtPts at h2 ⊢
    rw [List.map_cons, List.sum_cons, List.length_cons]
    omega
theorem wtS_le : ∀ l : List Bs, (∀ x ∈ l, x.length ≤ 1000000) → wtS l ≤ 100000100 * l.length
  | [], _ => Nat.le_refl _
  | x :: l, h => by
    have h1 := wtPts_le (pts 0 x)
    have h2 := pts_len x.length 0 x (Nat.le_refl _)
    have h3 := h x (by simp)
    have h4 := wtS_le l (fun y hy => h y (by simp [hy]))
    unfold wtS at h4 ⊢
    rw [List.map_cons, List.sum_cons, List.length_cons, show ptsOf x = pts 0 x from rfl]
    omega
set_option maxRecDepth 100000 in
set_option maxHeartbeats 8000000 in
theorem Weight_in (s : Bs) (hs : s.length ≤ 1000000) (W : World) : CallsIn Fence.wide 12 Tryd.prog 24 #[.agg #[bV s]] W fun e w' => e = .returned (.int .i64 (wtM s : Nat)) ∧ Below W.heap.size W w' := by
  obtain ⟨hS0, hT0, hB0, hsz0, b0⟩ := three_blocks W (.cells #[bV s] 55) (.cells #[.int .i64 0] 3) (.cells #[bV s] 9)
  have hmx : Tryd.prog.follows .mixedOrders = true := by kernel_rfl
  refine callsIn_of_wp_marks Tryd.func24 rfl trivial ?_ rfl
  simp only [Tryd.ntmps24, List.size_toArray, List.length_cons, List.length_nil, Nat.reduceAdd, Nat.reduceSub, Array.replicate_succ, Array.replicate_zero, List.push_toArray, List.append_toArray, List.nil_append, List.cons_append]
  gi_wp2_with (refine ⟨trivial, ?_⟩; gi_at_call 42; refine (callsIn_wide.2 (stepsOf_any s _)).mono ?_; rintro e w1 ⟨rfl, h1⟩; rw [h1]; clear h1)
  obtain ⟨U, hU⟩ : ∃ U, (((W.alloc (.cells #[bV s] 55)).alloc (.cells #[.int .i64 0] 3)).alloc (.cells #[bV s] 9)) = U := ⟨_, rfl⟩
  rw [hU] at b0 hS0 hT0 hB0 hsz0 ⊢
  clear hU
  refine wpIn_rangeFunc_ownH rfl (by omega) (gf := 66) (lb := #[.pointer (some ⟨W.heap.size + 1 + 1, 0, none⟩)]) rfl trivial (enters_of Tryd.func66 (by kernel_rfl) rfl)
    (encs := fun x : StB => #[bV x.1]) (Kp := KpB (W.heap.size + 1 + 1)) (S := fun xs => stL xs = stsOf s) (Sp := fun p => stL p <+: stsOf s) (N := (stsOf s).length) (w0 := U)
    (steps_seq s hs _ _ U hB0) KpB.trans (fun X l o o' hl h1 h2 h3 => KpB.put (w := U) (by omega) X l o o' hl h1 h2 h3) (Below.refl _ _) (fun _ => rfl)
    (fun pre X => X.heap[W.heap.size + 1]? = some (.cells #[.int .i64 (wtS (stL pre) : Nat)] 3) ∧ Below W.heap.size W X ∧ U.heap.size ≤ X.heap.size)
    (fun _ _ _ => False)
    (fun pre A C row hs hg hr => ⟨blk_own hs.1 (by omega) hg hr, bel_own hs.2.1 (by omega) hg hr, Nat.le_trans hs.2.2 hg.size⟩)
    (fun _ _ _ _ _ h _ _ => h)
    ⟨hT0, b0, Nat.le_refl _⟩
    (fun x a' _ => a' = { tmps := #[.agg #[bV s], .pointer (some ⟨W.heap.size, 0, none⟩), .int .i64 0, .pointer (some ⟨W.heap.size + 1, 0, none⟩), bV x.1, undef, undef, .pointer (some ⟨W.heap.size, 0, none⟩), bV s, .func (.func 66) #[] #[.pointer (some ⟨W.heap.size + 1 + 1, 0, none⟩)], bV x.1, undef, undef, undef, undef, undef, undef, undef, undef, undef, undef], defers := [] })
    (fun _ _ _ _ _ _ h _ _ => h)
    ?assign ?body ?done ?stop
  case assign =>
    intro l pre x X K hI hK
    gi_wp2
    exact hK _ _ (KeepsFrom.refl _ _) rfl hI rfl
  case body =>
    rintro l pre x a' X hl ⟨r₀, hl₀⟩ ⟨hT, hb, hu⟩ rfl hlen
    obtain ⟨st, hnl⟩ := x
    gi_wp2_with (refine ⟨trivial, ?_⟩; gi_at_call 51; refine (CallsIn.inRound l (callsIn_wide.2 (partsOf_any st _))).mono ?_; rintro e w2 ⟨rfl, h⟩; rw [h]; clear h)
    have hB2 := World.alloc_heap_new X (.cells #[bV st] 9)
    have hT2 : (X.alloc (.cells #[bV st] 9)).heap[W.heap.size + 1]? = some (.cells #[.int .i64 (wtS (stL pre) : Nat)] 3) := (Below.heap_alloc _ _ _ (by omega)).trans hT
    have hl2 : (X.alloc (.cells #[bV st] 9)).heap[l]? = some (.loop r₀) := (Below.heap_alloc _ _ _ (by have := (Array.getElem?_eq_some_iff.1 hl₀).1; omega)).trans hl₀
    have hb2 : Below W.heap.size W (X.alloc (.cells #[bV st] 9)) := hb.alloc hb.size _
    have hk2 : KpB (W.heap.size + 1 + 1) X (X.alloc (.cells #[bV st] 9)) := Below.heap_alloc _ _ _ (by omega)
    have kf2 : KeepsFrom U.heap.size X (X.alloc (.cells #[bV st] 9)) := (KeepsOthers.alloc _ _).from _
    have hz2 : (X.alloc (.cells #[bV st] 9)).heap.size = X.heap.size + 1 := World.size_alloc _ _
    obtain ⟨X2, hX2⟩ : ∃ X2, X.alloc (.cells #[bV st] 9) = X2 := ⟨_, rfl⟩
    rw [hX2] at hB2 hT2 hl2 hb2 hk2 kf2 hz2 ⊢
    clear hX2
    have hwl := wtS_le (stL pre) (fun y hy => by obtain ⟨z, -, rfl⟩ := List.mem_map.1 hy; exact z.2)
    rw [List.length_map] at hwl
    have hpc : pre.length ≤ 1000001 := by
      have := stepsM_count (s.length + 1) s
      unfold stsOf at hlen
      omega
    have HWS : Hid (wtS (stL pre ++ [st]) = wtS (stL pre) + wtPts (pts 0 st)) := wtS_snoc _ _
    obtain ⟨a0, ha0⟩ : ∃ a0, wtS (stL pre) = a0 := ⟨_, rfl⟩
    rw [ha0] at hT2 hwl HWS
    clear ha0 hT
    refine wpIn_rangeFunc_ownN (l₀ := l) (r₀ := r₀) rfl hl2 (by omega) (gf := 72) (lb := #[.pointer (some ⟨X.heap.size, 0, none⟩)]) rfl trivial (enters_of Tryd.func72 (by kernel_rfl) rfl)
      (encs := ptV) (Kp := KpB X.heap.size) (S := fun xs => ptL xs = pts 0 st) (Sp := fun p => ptL p <+: pts 0 st) (N := (pts 0 st).length) (w0 := X2)
      (SeqStopsK.inRound l (parts_seq st hnl _ _ X2 hB2)) KpB.trans (fun Y l o o' hl h1 h2 h3 => KpB.put (w := X2) (by omega) Y l o o' hl h1 h2 h3) (Below.refl _ _) (fun _ => rfl)
      (fun pre' Y => Y.heap[W.heap.size + 1]? = some (.cells #[.int .i64 (a0 + wtPts (ptL pre') : Nat)] 3) ∧ Below W.heap.size W Y ∧ KeepsFrom U.heap.size X Y ∧ KpB (W.heap.size + 1 + 1) X Y ∧ X2.heap.size ≤ Y.heap.size)
      (fun _ _ _ => False)
      (fun pre' A C row hs hg hr => ⟨blk_own hs.1 (by omega) hg hr, bel_own hs.2.1 (by omega) hg hr, ownFrom_keepsFrom (β := Unit) (w₀ := X) (B' := X2.heap.size) (by omega) () A C row hs.2.2.1 hg hr, hs.2.2.2.1.trans (hg.block _ (by omega) (fun e => by have := (hr _ e.symm).1; omega)), Nat.le_trans hs.2.2.2.2 hg.size⟩)
      (fun _ _ _ _ _ h _ _ => h)
      ⟨hT2, hb2, kf2, hk2, Nat.le_refl _⟩
      (fun y a' _ => a' = { tmps := #[.agg #[bV s], .pointer (some ⟨W.heap.size, 0, none⟩), .int .i64 0, .pointer (some ⟨W.heap.size + 1, 0, none⟩), bV st, .int .u8 y.1.1.toNat, bV y.1.2, .pointer (some ⟨W.heap.size, 0, none⟩), bV s, .func (.func 66) #[] #[.pointer (some ⟨W.heap.size + 1 + 1, 0, none⟩)], bV st, bV st, .func (.func 72) #[] #[.pointer (some ⟨X.heap.size, 0, none⟩)], .int .u8 y.1.1.toNat, bV y.1.2, undef, undef, undef, undef, undef, undef], defers := [] })
      (fun _ _ _ _ _ _ h _ _ => h)
      ?assign2 ?body2 ?done2 ?stop2
    case assign2 =>
      intro l2 pre' y Y K hI hK
      gi_wp2
      exact hK _ _ (KeepsFrom.refl _ _) rfl hI rfl
    case body2 =>
      rintro l2 pre' y a' Y hl2 - ⟨hT3, hb3, kf3, hk3, hz3⟩ rfl hlen2
      obtain ⟨⟨k, nm⟩, hnm⟩ := y
      have c1 := cell_one hT3
      have f1 := froz_one hT3
      have WO := fun V => weightOf_any k nm V
      have hp1 := wtPts_le (ptL pre')
      have hp2 := pts_len st.length 0 st (Nat.le_refl _)
      have hp3 := wtPt_le (k, nm)
      rw [List.length_map] at hp1
      have hpe : ptL (pre' ++ [⟨(k, nm), hnm⟩]) = ptL pre' ++ [(k, nm)] := by simp
      have HV : Hid (a0 + wtPts (ptL (pre' ++ [⟨(k, nm), hnm⟩])) = (a0 + wtPts (ptL pre')) + wtPt (k, nm)) := (by
        rw [hpe, wtPts_app]
        simp [wtPts]
        omega : a0 + wtPts (ptL (pre' ++ [⟨(k, nm), hnm⟩])) = (a0 + wtPts (ptL pre')) + wtPt (k, nm))
      have hbc : a0 + wtPts (ptL pre') ≤ 1000000000000000 := by omega
      obtain ⟨c, hc⟩ : ∃ c, a0 + wtPts (ptL pre') = c := ⟨_, rfl⟩
      obtain ⟨wk, hwk⟩ : ∃ wk, wtPt (k, nm) = wk := ⟨_, rfl⟩
      rw [hc] at c1 hT3 HV hbc
      rw [hwk] at WO hp3 HV
      clear hc hwk hpe hp1 hp2
      have hwr : IntKind.i64.wrap ((c : Int) + (wk : Int)) = ((c + wk : Nat) : Int) := by
        rw [IntWalk.i64_in _ (by omega)]
        omega
      have h4 := set_one hT3 (.int .i64 ((c : Int) + (wk : Int)))
      have HT4 : Hid ((Y.setCell ⟨W.heap.size + 1, 0, none⟩ (.int .i64 ((c : Int) + (wk : Int)))).drew.heap[W.heap.size + 1]? = some (.cells #[.int .i64 ((c : Int) + (wk : Int))] 3)) := h4
      have hb4 := (hb3.setCell (p := ⟨W.heap.size + 1, 0, none⟩) (by simp only; omega) (.int .i64 ((c : Int) + (wk : Int)))).drew
      have ko4 := (KeepsOthers.setCell Y ⟨W.heap.size + 1, 0, none⟩ (.int .i64 ((c : Int) + (wk : Int)))).trans (KeepsOthers.drew _)
      have hk4 : KpB X.heap.size Y (Y.setCell ⟨W.heap.size + 1, 0, none⟩ (.int .i64 ((c : Int) + (wk : Int)))).drew := Below.heap_setCell Y ⟨W.heap.size + 1, 0, none⟩ _ X.heap.size (by simp only; omega)
      have hk5 : KpB (W.heap.size + 1 + 1) Y (Y.setCell ⟨W.heap.size + 1, 0, none⟩ (.int .i64 ((c : Int) + (wk : Int)))).drew := Below.heap_setCell Y ⟨W.heap.size + 1, 0, none⟩ _ (W.heap.size + 1 + 1) (by simp only; omega)
      clear h4
      gi_wp2
      gi_region_with_o ((refine ⟨trivial, ?_⟩; gi_at_call 52; refine (CallsIn.inRound l2 (CallsIn.inRound l (callsIn_wide.2 (WO _)))).mono ?_; rintro e w3 ⟨rfl, h⟩; rw [h]; clear h))
      all_goals gi_wp2
      all_goals exact ⟨ko4.from _, hk4, by rw [HV.out, Int.natCast_add]; exact HT4.out, hb4, kf3.trans (ko4.from _), hk3.trans hk5, Nat.le_trans hz3 ko4.size⟩
    case done2 =>
      rintro xs Y hS ⟨hT3, hb3, kf3, hk3, hz3⟩
      rw [hS] at hT3
      have hpe : stL (pre ++ [⟨st, hnl⟩]) = stL pre ++ [st] := by simp
      gi_wp2
      exact ⟨kf3, hk3, by rw [hpe, HWS.out]; exact hT3, hb3, by omega⟩
    case stop2 =>
      rintro c pre' Y - h
      exact h.elim
  case done =>
    rintro D xs X hD hS ⟨hT, hb, -⟩ hK
    rw [hS] at hT
    have c1 := cell_one hT
    gi_wp2
    refine ⟨by simp, .inl ⟨_, _, rfl, run_takeDeferred hK, ?_⟩⟩
    refine ⟨.int .i64 (wtS (stsOf s) : Nat), ?_, rfl, hb.trans (belowK_b (w := W) (Nat.le_refl _) X D _ _ (by omega) hK rfl rfl)⟩
    simp [results, Tryd.results24, go_sem]
  case stop =>
    rintro D c pre X - - h -
    exact h.elim
theorem Weight_any (s : Bs) (hs : s.length ≤ 1000000) (W : World) : Calls Tryd.prog 24 #[.agg #[bV s]] W fun e w' => e = .returned (.int .i64 (wtM s : Nat)) ∧ Below W.heap.size W w' := callsIn_wide.1 (Weight_in s hs W)

end Go.Proofs.YtmlajdhkkcmjnacDoor

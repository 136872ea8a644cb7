/-
  The document's SheetOf (leadlightref2), walked: the rules of a sheet.
-/
import Derived.Test.YtnoecobddhmhlaaGreatDoorJ37
import Derived.Test.YtnoecobddhmhlaaGreatDoorJ30
import Derived.Test.YtnoecobddhmhlaaGreatDoorJ32
import Derived.Test.YtnoecobddhmhlaaGreatDoorJ33
import Derived.Test.YtnoecobddhmhlaaGreatDoorJ36
import Derived.Test.YtnoecobddhmhlaaGreatDoorJ14
import Derived.Lib.QuietBelow
import Derived.BigQuiet
namespace Go.Proofs.YtnoecobddhmhlaaGreatDoor
open Go.RowKit

theorem pieces_lns : ∀ l : Bs, pieces 10 l = lns l
  | [] => rfl
  | b :: l => by
    rw [pieces, lns_cons, pieces_lns l]
    split
    · rfl
    · cases lns l <;> rfl
def cells4 : List R4 → List Value
  | [] => []
  | x :: r => bV x.wh :: .slice x.o x.m.length x.c :: bV x.nm :: bV x.vl :: cells4 r
theorem cells4_app : ∀ l m : List R4, cells4 (l ++ m) = cells4 l ++ cells4 m
  | [], m => rfl
  | x :: r, m => by simp [cells4, cells4_app r m]
theorem cells4_get : ∀ (l : List R4) (i : Nat) (x : R4), l[i]? = some x → (cells4 l)[i * 4]? = some (bV x.wh) ∧ (cells4 l)[i * 4 + 1]? = some (.slice x.o x.m.length x.c) ∧ (cells4 l)[i * 4 + 2]? = some (bV x.nm) ∧ (cells4 l)[i * 4 + 3]? = some (bV x.vl)
  | [], i, x, h => by simp at h
  | y :: r, 0, x, h => by
    simp at h
    subst h
    exact ⟨rfl, rfl, rfl, rfl⟩
  | y :: r, i + 1, x, h => by
    have h' : r[i]? = some x := by simpa using h
    obtain ⟨h1, h2, h3, h4⟩ := cells4_get r i x h'
    rw [show (i + 1) * 4 = i * 4 + 1 + 1 + 1 + 1 by omega]
    exact ⟨h1, h2, h3, h4⟩
def Own4 (w : World) (base : Nat) (v : Value) (l : List R4) : Prop := w.ownsRow base 158 4 v l.length (cells4 l)
theorem Own4.snoc {w : World} {base : Nat} {v : Value} {l : List R4} {x : R4} (h : w.ownsRow base 158 4 v (l.length + 1) (cells4 l ++ [bV x.wh, .slice x.o x.m.length x.c, bV x.nm, bV x.vl])) : Own4 w base v (l ++ [x]) := by
  unfold Own4
  rw [cells4_app, List.length_append]
  exact h
theorem infoR4 : (Tryz.prog.info? 158).map (fun i => (i.zero, i.size, i.bytes)) = some (some (.agg #[.string ⟨#[]⟩, .slice none 0 0, .string ⟨#[]⟩, .string ⟨#[]⟩]), 4, 72) := by kernel_rfl
theorem StIn.turnK {w w' : World} {x : R4} (h : StIn w x) (hk : ∀ (g : Nat) (cur : Array Value) (t : TypeId), w.heap[g]? = some (Obj.cells cur t (0, 0)) → (t = 133 ∨ t = 9) → w'.heap[g]? = w.heap[g]?) : StIn w' x := by
  have k1 : ∀ a, x.o = some a → w'.heap[a.block]? = w.heap[a.block]? := fun a ha => by
    obtain ⟨cur, hc⟩ := h.k a ha
    exact hk _ cur _ hc (.inl rfl)
  have k2 : ∀ y ∈ x.m, ∀ a, y.o = some a → w'.heap[a.block]? = w.heap[a.block]? := fun y hy a ha => by
    obtain ⟨cur, hc⟩ := h.b y hy a ha
    exact hk _ cur _ hc (.inr rfl)
  refine ⟨fun i y hy => ?_, fun y hy i q hq => ?_, h.t, fun a ha => ?_, fun y hy a ha => ?_, h.l⟩
  · obtain ⟨b, off, h1, h2, h3, h4⟩ := h.s i y hy
    have e : w'.heap[b]? = w.heap[b]? := k1 _ h1
    exact ⟨b, off, h1, (World.cell?_of_block (a := ⟨b, _, none⟩) e).trans h2, (World.cell?_of_block (a := ⟨b, _, none⟩) e).trans h3, (World.cell?_of_block (a := ⟨b, _, none⟩) e).trans h4⟩
  · obtain ⟨b, off, h1, h2⟩ := h.w y hy i q hq
    have e : w'.heap[b]? = w.heap[b]? := k2 y hy _ h1
    exact ⟨b, off, h1, (World.cell?_of_block (a := ⟨b, _, none⟩) e).trans h2⟩
  · obtain ⟨cur, hc⟩ := h.k a ha
    exact ⟨cur, (k1 a ha).trans hc⟩
  · obtain ⟨cur, hc⟩ := h.b y hy a ha
    exact ⟨cur, (k2 y hy a ha).trans hc⟩
/-- A variable of another kind is written. -/
theorem StIn.far {w : World} {x : R4} (h : StIn w x) {b : Nat} {cs : Array Value} {t : TypeId} (hb : w.heap[b]? = some (.cells cs t)) (h1 : t ≠ 133) (h2 : t ≠ 9) (i : Nat) (u : Value) : StIn (w.setCell ⟨b, i, none⟩ u) x := h.turnK fun g cur t' hg ht => by
  refine Below.heap_setCell w ⟨b, i, none⟩ u g fun e => ?_
  have e : g = b := e
  rw [e, hb] at hg
  injection hg with hg
  injection hg with _ hg
  rcases ht with ht | ht
  · exact h1 (hg.trans ht)
  · exact h2 (hg.trans ht)
theorem stin_grown {w w' : World} {x : R4} {row : Option Nat} (h : StIn w x) (gr : w.grownBy w' row) (hr : ∀ r, row = some r → ∃ cur, w.heap[r]? = some (.cells cur 158 (0, 0))) : StIn w' x := h.turn fun g hg => by
  obtain ⟨cur, t, h1, h2⟩ := hg
  refine gr.block g (heapD_lt h1) fun e => ?_
  obtain ⟨cur', h3⟩ := hr g e.symm
  rw [h1] at h3
  injection h3 with h3
  injection h3 with _ h3
  exact h2 h3
/-- What SheetOf answers. -/
def SheetV (W : World) (base : Nat) (v : Value) (r : Except Nat (List Rl)) : Prop := match r with
  | .error k => v = .tuple #[.slice none 0 0, .agg #[.int .i64 1, .int .i64 k]]
  | .ok l => (40 < l.length ∧ v = .tuple #[.slice none 0 0, .agg #[.int .i64 7, .int .i64 (-1)]]) ∨ (l.length ≤ 40 ∧ ∃ u xs, v = .tuple #[u, .agg #[.int .i64 0, .int .i64 (-1)]] ∧ Own4 W base u xs ∧ (∀ x ∈ xs, StIn W x) ∧ xs.map R4.rl = l)
theorem set2F {w : World} {b : Nat} {x0 x1 : Value} {t : TypeId} (h : w.heap[b]? = some (.cells #[x0, x1] t)) (u0 u1 : Value) : ((w.setCell ⟨b, 0, none⟩ u0).setCell ⟨b, 1, none⟩ u1).heap[b]? = some (.cells #[u0, u1] t) := by
  have h1 := heap_setCell_same w b 0 _ _ u0 h
  have h2 := heap_setCell_same _ b 1 _ _ u1 h1
  rw [h2]
  rfl
structure Cel2 (w : World) (b : Nat) (x0 x1 : Value) : Prop where
  c0 : w.cell? ⟨b, 0, none⟩ = some x0
  c1 : w.cell? ⟨b, 1, none⟩ = some x1
  f0 : w.frozen? ⟨b, 0, none⟩ = false
  f1 : w.frozen? ⟨b, 1, none⟩ = false
theorem Cel2.of {w : World} {b : Nat} {x0 x1 : Value} {t : TypeId} (h : w.heap[b]? = some (.cells #[x0, x1] t)) : Cel2 w b x0 x1 := by
  exact ⟨by simp [World.cell?, h], by simp [World.cell?, h], froz_at h 0, froz_at h 1⟩
set_option maxHeartbeats 1000000 in
theorem BareR_any (c : Int) (W : World) : Calls Tryz.prog 94 #[.int .i64 c] W fun e w' => e = .returned (.agg #[.int .i64 c, .int .i64 (-1)]) ∧ Below W.heap.size W w' := by
  go_enter Tryz.func94, Tryz.ntmps94
  go_wp2
  refine bodyPost_ret (v := .agg #[.int .i64 c, .int .i64 (-1)]) (by simp [results, Tryz.results94, go_sem]) rfl ⟨rfl, ?_⟩
  exact (Below.refl _ W).alloc (Nat.le_refl _) _
end Go.Proofs.YtnoecobddhmhlaaGreatDoor

namespace Go.Proofs.YtnoecobddhmhlaaGreatDoor
open Go.RowKit

theorem sheetR_last {k : Nat} {acc : List Rl} : sheetR k acc [[]] = .ok acc := by rw [sheetR, if_pos rfl]
theorem sheetR_open {k : Nat} {acc : List Rl} {x : Bs} (h : x ≠ []) : sheetR k acc [x] = .error k := by rw [sheetR, if_neg h]
theorem sheetR_bad {k : Nat} {acc : List Rl} {x y : Bs} {ws : List Bs} (h : ruleR x = none) : sheetR k acc (x :: y :: ws) = .error k := by rw [sheetR, h]
theorem sheetR_more {k : Nat} {acc : List Rl} {x y : Bs} {ws : List Bs} {q : Rl} (h : ruleR x = some q) : sheetR k acc (x :: y :: ws) = sheetR (k + 1) (acc ++ [q]) (y :: ws) := by rw [sheetR, h]
theorem rule_shape {x : Bs} {wr : World} (h : Calls Tryz.prog 95 #[bV x] wr fun e W => ∃ v, e = .returned v ∧ RuleV W v x ∧ Below wr.heap.size wr W) : Calls Tryz.prog 95 #[bV x] wr fun e X => (∃ s0 o n c s2 s3 bo, e = .returned (.tuple #[.agg #[.string s0, .slice o n c, .string s2, .string s3], .bool bo])) ∧ Below wr.heap.size wr X := h.mono (by
  rintro e X ⟨v, rfl, hv, hb⟩
  unfold RuleV at hv
  cases hq : ruleR x with
  | none =>
    rw [hq] at hv
    obtain ⟨s0, o, n, c, s2, s3, rfl⟩ := hv
    exact ⟨⟨s0, o, n, c, s2, s3, false, rfl⟩, hb⟩
  | some q =>
    rw [hq] at hv
    obtain ⟨y, rfl, -⟩ := hv
    exact ⟨⟨_, _, _, _, _, _, true, rfl⟩, hb⟩)
set_option maxRecDepth 20000 in
set_option maxHeartbeats 16000000 in
theorem SheetOf_ref (s : Bs) (hs : s.length ≤ 1500) (w : World) : Calls Tryz.prog 39 #[bV s] w fun e W => ∃ v, e = .returned v ∧ SheetV W w.heap.size v (sheetM s) ∧ Below w.heap.size w W := by
  obtain ⟨i0, hi, hz0, hz1, hz2⟩ := info_parts infoR4
  have b0 : Below w.heap.size w (w.alloc (.cells #[.int .i64 0, .int .i64 0] 36)) := (Below.refl _ w).alloc (Nat.le_refl _) _
  have r0 := World.alloc_heap_new w (.cells #[.int .i64 0, .int .i64 0] 36)
  have hs' : ¬ 10000 < (s.length : Int) := by omega
  have hsm : sheetM s = sheetR 0 [] (lns s) := (sheet_same (s.length + 1) [] s (by omega)).symm
  go_enter Tryz.func39, Tryz.ntmps39
  go_upto_region 1 with fail
  obtain ⟨U, hU⟩ : ∃ U, w.alloc (.cells #[.int .i64 0, .int .i64 0] 36) = U := ⟨_, rfl⟩
  rw [hU] at b0 r0 ⊢
  obtain ⟨PF, hPF⟩ : ∃ P, w.heap.size = P := ⟨_, rfl⟩
  rw [hPF] at r0 b0 ⊢
  have HPF : Hid (w.heap.size = PF) := hPF
  clear hU hPF
  have CU : Calls Tryz.prog 80 #[.string ⟨s.toArray⟩, .int .u8 10] U fun e w' => ∃ v, e = .returned v ∧ w'.ownsRow U.heap.size 9 1 v (lns s).length (strs (lns s)) ∧ Below U.heap.size U w' := by
    have h := Cut_ref ⟨s.toArray⟩ 10 U (by rw [ba_size]; omega)
    have e : (⟨s.toArray⟩ : ByteArray).data.toList = s := by simp
    rw [e, pieces_lns] at h
    exact h
  have hll : (lns s).length ≤ 1501 := by
    rw [← pieces_lns, pieces_len]
    have := List.count_le_length (a := (10 : UInt8)) (l := s)
    omega
  have hlm : ∀ y ∈ lns s, y.length ≤ 1500 := fun y hy => by
    rw [← pieces_lns] at hy
    have := pieces_short hy
    omega
  have hl0 : 0 < (lns s).length := List.length_pos_iff.2 (lns_ne s)
  obtain ⟨ls, hls⟩ : ∃ ls, lns s = ls := ⟨_, rfl⟩
  rw [hls] at CU hll hlm hl0 hsm
  have HSM : Hid (sheetM s = sheetR 0 [] ls) := hsm
  clear hls hsm
  go_upto_region 5 with (go_at_call 80; refine CU.mono ?_; rintro e w1 ⟨v, rfl, ow1, b1⟩; obtain ⟨o, cap, rfl, hS, -⟩ := StrsAt.made ow1)
  clear CU ow1
  obtain ⟨bb, off, rfl⟩ : ∃ b off, o = some ⟨b, off, none⟩ := by
    obtain ⟨b, off, h1, -⟩ := hS 0 _ (List.getElem?_eq_getElem hl0)
    exact ⟨b, off, h1⟩
  have r1 := (b1.block PF (heapD_lt r0)).trans r0
  have bw1 : Below PF w w1 := b0.trans (b1.mono (by have := heapD_lt r0; omega))
  have hPF1 := heapD_lt r1
  go_wp2_with fail
  go_loopw [5, 6] (fun v i wr => ∃ (k : Nat) (xs : List R4), k < ls.length ∧ i = .int .i64 k ∧ xs.length = k ∧ Own4 wr w1.heap.size v xs ∧ (∀ x ∈ xs, StIn wr x) ∧ Below w1.heap.size w1 wr ∧ sheetR 0 [] ls = sheetR k (xs.map R4.rl) (ls.drop k)) (fun _ i _ => ls.length - (intOf i).toNat)
  case atStart => exact ⟨0, [], hl0, rfl, rfl, World.ownsRow_nil _ _ _ _, (fun x hx => by cases hx), Below.refl _ _, rfl⟩
  case round =>
    obtain ⟨k, xs, hlt, rfl, hxk, hown, hSt, hb, hrel'⟩ := hrel
    have HREL : Hid (sheetM s = sheetR k (xs.map R4.rl) (ls.drop k)) := (by rw [HSM.out]; exact hrel' : sheetM s = sheetR k (xs.map R4.rl) (ls.drop k))
    have HXK : Hid (xs.length = k) := hxk
    have hxl : xs.length ≤ 1501 := by omega
    clear hrel' hxk
    have hlt' : (k : Int) < (ls.length : Int) := by omega
    obtain ⟨x, hx⟩ : ∃ x, ls[k]? = some x := ⟨_, List.getElem?_eq_getElem hlt⟩
    obtain ⟨bb', off', hbo, c0⟩ := (hS.below hb (Nat.le_refl _)) k x hx
    cases hbo
    have hxm := hlm x (List.mem_of_getElem? hx)
    have hdr : ls.drop k = x :: ls.drop (k + 1) := by
      rw [List.drop_eq_getElem_cons hlt]
      rw [List.getElem?_eq_getElem hlt] at hx
      injection hx with hx
      rw [hx]
    have HDR : Hid (ls.drop k = x :: ls.drop (k + 1)) := hdr
    have rr := (hb.block PF hPF1).trans r1
    have bwr : Below PF w wr := bw1.trans (hb.mono (by omega))
    have hwr := hb.size
    clear hdr hx
    by_cases hlast : k + 1 = ls.length
    · have hlb : ((k : Int) == (ls.length : Int) - 1) = true := by rw [beq_iff_eq]; omega
      have HD2 : Hid (ls.drop k = [x]) := by
        have e : ls.drop k = [x] := by rw [HDR.out, hlast, List.drop_length]
        exact e
      by_cases hx0 : x = []
      · subst hx0
        have HOK : Hid (sheetM s = .ok (xs.map R4.rl)) := by
          have e : sheetM s = .ok (xs.map R4.rl) := by rw [HREL.out, HD2.out, sheetR_last]
          exact e
        have BA := BareR_any 7 wr
        have FI := Fine_any wr
        have KEEP : ∀ V, Below wr.heap.size wr V → V.heap[PF]? = some (.cells #[.int .i64 0, .int .i64 0] 36) := fun V hV => (hV.block PF (heapD_lt rr)).trans rr
        obtain ⟨ov, cv, rfl⟩ := own_slice hown
        by_cases h40 : 40 < xs.length
        · have h40' : 40 < (xs.length : Int) := by omega
          go_upto_region 14 with fail
          go_wp2_with (go_at_call 94; refine BA.mono ?_; rintro e w9 ⟨rfl, b9⟩; have r9 := KEEP w9 b9; obtain ⟨g0, g1, f0, f1⟩ := Cel2.of r9)
          have r10 := set2F r9 (.int .i64 7) (.int .i64 (-1))
          obtain ⟨t0, t1, -, -⟩ := Cel2.of r10
          have b10 : Below PF w ((w9.setCell ⟨PF, 0, none⟩ (.int .i64 7)).setCell ⟨PF, 1, none⟩ (.int .i64 (-1))) := ((bwr.trans (b9.mono (by omega))).setCell (p := ⟨PF, 0, none⟩) (Nat.le_refl _) _).setCell (p := ⟨PF, 1, none⟩) (Nat.le_refl _) _
          refine bodyPost_ret (v := .tuple #[.slice none 0 0, .agg #[.int .i64 7, .int .i64 (-1)]]) (by simp [results, Tryz.results39, go_sem, t0, t1]) rfl ?_
          refine ⟨_, rfl, ?_, by rw [HPF.out]; exact b10⟩
          rw [HOK.out]
          exact .inl ⟨by rw [List.length_map]; exact h40, rfl⟩
        · have h40' : ¬ 40 < (xs.length : Int) := by omega
          go_upto_region 15 with fail
          go_wp2_with (go_at_call 54; refine FI.mono ?_; rintro e w9 ⟨rfl, b9⟩; have r9 := KEEP w9 b9; obtain ⟨g0, g1, f0, f1⟩ := Cel2.of r9)
          have r10 := set2F r9 (.int .i64 0) (.int .i64 (-1))
          obtain ⟨t0, t1, -, -⟩ := Cel2.of r10
          have b10 : Below PF w ((w9.setCell ⟨PF, 0, none⟩ (.int .i64 0)).setCell ⟨PF, 1, none⟩ (.int .i64 (-1))) := ((bwr.trans (b9.mono (by omega))).setCell (p := ⟨PF, 0, none⟩) (Nat.le_refl _) _).setCell (p := ⟨PF, 1, none⟩) (Nat.le_refl _) _
          have hown9 := ownB_below hown b9
          have r9' := heap_setCell_same w9 PF 0 _ _ (.int .i64 0) r9
          refine bodyPost_ret (v := .tuple #[.slice ov xs.length cv, .agg #[.int .i64 0, .int .i64 (-1)]]) (by simp [results, Tryz.results39, go_sem, t0, t1]) rfl ?_
          refine ⟨_, rfl, ?_, by rw [HPF.out]; exact b10⟩
          rw [HOK.out]
          refine .inr ⟨by rw [List.length_map]; omega, _, xs, rfl, ?_, fun x hx => ?_, rfl⟩
          · exact ownB_base (ownB_set (ownB_set hown9 (p := ⟨PF, 0, none⟩) hPF1 _) (p := ⟨PF, 1, none⟩) hPF1 _) (by rw [HPF.out]; omega)
          · exact (((hSt x hx).below b9).far r9 (by decide) (by decide) _ _).far r9' (by decide) (by decide) _ _
      · have HBAD : Hid (sheetM s = .error k) := by
          have e : sheetM s = .error k := by rw [HREL.out, HD2.out, sheetR_open hx0]
          exact e
        have RU := ruleOf_ref x (by omega) wr
        have hxe : List.isEmpty x = false := by cases x with | nil => exact absurd rfl hx0 | cons => rfl
        have RU2 := rule_shape RU
        clear RU hx0
        have KEEP : ∀ V, Below wr.heap.size wr V → V.heap[PF]? = some (.cells #[.int .i64 0, .int .i64 0] 36) := fun V hV => (hV.block PF (heapD_lt rr)).trans rr
        go_upto_region 10 with (go_at_call 95; refine RU2.mono ?_; rintro e w8 ⟨⟨s0, so, sn, sc, s2, s3, bo, rfl⟩, b8⟩)
        have b9 : Below wr.heap.size wr (w8.alloc (.cells #[.string s0, .slice so sn sc, .string s2, .string s3] 158)) := b8.alloc b8.size _
        obtain ⟨w9, hw9⟩ : ∃ X, w8.alloc (.cells #[.string s0, .slice so sn sc, .string s2, .string s3] 158) = X := ⟨_, rfl⟩
        rw [hw9] at b9 ⊢
        clear hw9
        have r9 := KEEP w9 b9
        obtain ⟨g0, g1, f0, f1⟩ := Cel2.of r9
        have r10 := set2F r9 (.int .i64 1) (.int .i64 k)
        obtain ⟨t0, t1, -, -⟩ := Cel2.of r10
        have b10 : Below PF w ((w9.setCell ⟨PF, 0, none⟩ (.int .i64 1)).setCell ⟨PF, 1, none⟩ (.int .i64 k)) := ((bwr.trans (b9.mono (by omega))).setCell (p := ⟨PF, 0, none⟩) (Nat.le_refl _) _).setCell (p := ⟨PF, 1, none⟩) (Nat.le_refl _) _
        cases bo with
        | true =>
          go_wp2_with fail
          refine bodyPost_ret (v := .tuple #[.slice none 0 0, .agg #[.int .i64 1, .int .i64 k]]) (by simp [results, Tryz.results39, go_sem, t0, t1]) rfl ?_
          refine ⟨_, rfl, ?_, by rw [HPF.out]; exact b10⟩
          rw [HBAD.out]
          rfl
        | false =>
          go_wp2_with fail
          refine bodyPost_ret (v := .tuple #[.slice none 0 0, .agg #[.int .i64 1, .int .i64 k]]) (by simp [results, Tryz.results39, go_sem, t0, t1]) rfl ?_
          refine ⟨_, rfl, ?_, by rw [HPF.out]; exact b10⟩
          rw [HBAD.out]
          rfl
    · have hlb : ((k : Int) == (ls.length : Int) - 1) = false := by rw [beq_eq_false_iff_ne]; omega
      obtain ⟨y, ws, hyw⟩ : ∃ y ws, ls.drop (k + 1) = y :: ws := by
        cases hq : ls.drop (k + 1) with
        | nil =>
          have := congrArg List.length hq
          rw [List.length_drop, List.length_nil] at this
          omega
        | cons y ws => exact ⟨y, ws, rfl⟩
      have RU := ruleOf_ref x (by omega) wr
      have KEEP : ∀ V, Below wr.heap.size wr V → V.heap[PF]? = some (.cells #[.int .i64 0, .int .i64 0] 36) := fun V hV => (hV.block PF (heapD_lt rr)).trans rr
      unfold RuleV at RU
      cases hrx : ruleR x with
      | none =>
        have HBAD : Hid (sheetM s = .error k) := by
          have e : sheetM s = .error k := by rw [HREL.out, HDR.out, hyw, sheetR_bad hrx]
          exact e
        rw [hrx] at RU
        clear hrx hyw
        go_upto_region 10 with (go_at_call 95; refine RU.mono ?_; rintro e w8 ⟨v8, rfl, hv8, b8⟩; obtain ⟨s0, so, sn, sc, s2, s3, rfl⟩ := hv8)
        have b9 : Below wr.heap.size wr (w8.alloc (.cells #[.string s0, .slice so sn sc, .string s2, .string s3] 158)) := b8.alloc b8.size _
        obtain ⟨w9, hw9⟩ : ∃ X, w8.alloc (.cells #[.string s0, .slice so sn sc, .string s2, .string s3] 158) = X := ⟨_, rfl⟩
        rw [hw9] at b9 ⊢
        clear hw9
        have r9 := KEEP w9 b9
        obtain ⟨g0, g1, f0, f1⟩ := Cel2.of r9
        have r10 := set2F r9 (.int .i64 1) (.int .i64 k)
        obtain ⟨t0, t1, -, -⟩ := Cel2.of r10
        have b10 : Below PF w ((w9.setCell ⟨PF, 0, none⟩ (.int .i64 1)).setCell ⟨PF, 1, none⟩ (.int .i64 k)) := ((bwr.trans (b9.mono (by omega))).setCell (p := ⟨PF, 0, none⟩) (Nat.le_refl _) _).setCell (p := ⟨PF, 1, none⟩) (Nat.le_refl _) _
        go_wp2_with fail
        refine bodyPost_ret (v := .tuple #[.slice none 0 0, .agg #[.int .i64 1, .int .i64 k]]) (by simp [results, Tryz.results39, go_sem, t0, t1]) rfl ?_
        refine ⟨_, rfl, ?_, by rw [HPF.out]; exact b10⟩
        rw [HBAD.out]
        rfl
      | some q =>
        have HMORE : Hid (sheetM s = sheetR (k + 1) (xs.map R4.rl ++ [q]) (ls.drop (k + 1))) := by
          have e : sheetM s = sheetR (k + 1) (xs.map R4.rl ++ [q]) (ls.drop (k + 1)) := by rw [HREL.out, HDR.out, hyw, sheetR_more hrx]
          exact e
        rw [hrx] at RU
        clear hrx hyw
        go_upto_region 10 with (go_at_call 95; refine RU.mono ?_; rintro e w8 ⟨v8, rfl, hv8, b8⟩; obtain ⟨z, rfl, hzq, hzS⟩ := hv8)
        have b9 : Below w8.heap.size w8 (w8.alloc (.cells #[bV z.wh, .slice z.o z.m.length z.c, bV z.nm, bV z.vl] 158)) := (Below.refl _ w8).alloc (Nat.le_refl _) _
        have r9 := World.alloc_heap_new w8 (.cells #[bV z.wh, .slice z.o z.m.length z.c, bV z.nm, bV z.vl] 158)
        obtain ⟨w9, hw9⟩ : ∃ X, w8.alloc (.cells #[bV z.wh, .slice z.o z.m.length z.c, bV z.nm, bV z.vl] 158) = X := ⟨_, rfl⟩
        obtain ⟨PR, hPR⟩ : ∃ P, w8.heap.size = P := ⟨_, rfl⟩
        rw [hw9] at b9 r9 ⊢
        rw [hPR] at r9 ⊢
        clear hw9 hPR
        obtain ⟨y0, y1, y2, y3, -, -, -, -⟩ := Cel4.of r9
        have b89 : Below wr.heap.size wr w9 := b8.trans (b9.mono b8.size)
        have hb9 := hb.trans (b89.mono hwr)
        have hown9 : w9.ownsRow w1.heap.size 158 4 u5 xs.length (cells4 xs) := ownB_below hown b89
        have hw9s := hb9.size
        have HZQ : Hid (z.rl = q) := hzq
        have hzS9 := hzS.below b9
        have hSt9 : ∀ x ∈ xs, StIn w9 x := fun x hx => (hSt x hx).below b89
        clear hSt hzS RU hzq r9
        go_upto_region 12 with fail
        have H0 := World.alloc_heap_new w9 (.cells #[bV z.wh, .slice z.o z.m.length z.c, bV z.nm, bV z.vl] 158)
        have b10 : Below w9.heap.size w9 (w9.alloc (.cells #[bV z.wh, .slice z.o z.m.length z.c, bV z.nm, bV z.vl] 158)) := (Below.refl _ w9).alloc (Nat.le_refl _) _
        go_wp2_with (at_builtin; refine wpList_append_own _ rfl _ _ 88 rfl w1.heap.size 158 i0 (.agg #[.string ⟨#[]⟩, .slice none 0 0, .string ⟨#[]⟩, .string ⟨#[]⟩]) 4 72 Tryz.underlying88 hi hz0 hz1 hz2 rfl (by decide) _ _ _ rfl (World.ownsRow.alloc hown9 _) ⟨w9.heap.size, 0, none⟩ 1 1 [bV z.wh, .slice z.o z.m.length z.c, bV z.nm, bV z.vl] rfl rfl (World.news_of_block H0) (fun u hu => by simp at hu; rcases hu with rfl | rfl | rfl | rfl <;> rfl) (by simp only [maxLen]; omega) (by omega) (by simp; omega) ?_; intro v10 w10 ow10 gr10 _)
        have hfin : Own4 w10 w1.heap.size v10 (xs ++ [z]) := Own4.snoc ow10
        have hkind := ownE_kind (World.ownsRow.alloc hown9 (.cells #[bV z.wh, .slice z.o z.m.length z.c, bV z.nm, bV z.vl] 158))
        have hSt10 : ∀ x ∈ xs ++ [z], StIn w10 x := fun x hx => by
          rcases List.mem_append.1 hx with hx | hx
          · exact stin_grown ((hSt9 x hx).below b10) gr10 hkind
          · rw [List.mem_singleton.1 hx]
            exact stin_grown (hzS9.below b10) gr10 hkind
        have bg : Below w1.heap.size w1 w10 := (hb9.trans (b10.mono hw9s)).grown gr10 (by simp; omega) (fun r e => (hown9.lt r e).1)
        go_roundw
        case rel => exact ⟨k + 1, xs ++ [z], by omega, by go_num, by rw [List.length_append, HXK.out]; rfl, hfin, hSt10, bg, by rw [← HSM.out, HMORE.out, List.map_append, ← HZQ.out]; rfl⟩
        case measure => simp [intOf]; omega
end Go.Proofs.YtnoecobddhmhlaaGreatDoor

namespace Go.Proofs.YtnoecobddhmhlaaGreatDoor
open Go.RowKit

/-- Rules in memory, to be read. -/
def R4At (w : World) (o : Option Addr) (l : List R4) : Prop := ∀ i x, l[i]? = some x → ∃ b off, o = some ⟨b, off, none⟩ ∧ w.cell? ⟨b, off + i * 4, none⟩ = some (bV x.wh) ∧ w.cell? ⟨b, off + i * 4 + 1, none⟩ = some (.slice x.o x.m.length x.c) ∧ w.cell? ⟨b, off + i * 4 + 2, none⟩ = some (bV x.nm) ∧ w.cell? ⟨b, off + i * 4 + 3, none⟩ = some (bV x.vl)
theorem R4At.below {w w' : World} {l : List R4} {o : Option Addr} (h : R4At w o l) (hb : Below w.heap.size w w') : R4At w' o l := fun i x hx => by
  obtain ⟨b, off, h1, c0, c1, c2, c3⟩ := h i x hx
  exact ⟨b, off, h1, (hb.cell (cell_lt3 c0)).trans c0, (hb.cell (cell_lt3 c1)).trans c1, (hb.cell (cell_lt3 c2)).trans c2, (hb.cell (cell_lt3 c3)).trans c3⟩
theorem R4At.of {w : World} {base : Nat} {v : Value} {l : List R4} (h : Own4 w base v l) : ∃ o cap, v = .slice o l.length cap ∧ R4At w o l := by
  have h2 := h
  rcases h.2 with ⟨h0, hn⟩ | ⟨g, cap, cur, h1, -⟩
  · have hl : l = [] := List.eq_nil_of_length_eq_zero (by first | exact hn | exact hn.symm | omega)
    subst hl
    exact ⟨none, 0, h0, fun i p hp => by simp at hp⟩
  · refine ⟨some ⟨g, 0, none⟩, cap, h1, fun i x hx => ⟨g, 0, rfl, ?_⟩⟩
    subst h1
    obtain ⟨e0, e1, e2, e3⟩ := cells4_get l i x hx
    have key : ∀ j u, (cells4 l)[j]? = some u → w.cell? ⟨g, 0 + j, none⟩ = some u := fun j u hj => by
      obtain ⟨g2, hg2, c2⟩ := row_get h2 _ _ hj
      have hg3 : some g = some g2 := hg2
      cases hg3
      rw [Nat.zero_add]
      exact c2
    refine ⟨key _ _ e0, ?_, ?_, ?_⟩
    · rw [Nat.add_assoc]; exact key _ _ e1
    · rw [Nat.add_assoc]; exact key _ _ e2
    · rw [Nat.add_assoc]; exact key _ _ e3
/-- What StyleOf reads. -/
structure StyE (W : World) (D : Nat) (o : Option Addr) (cap : Nat) (lR : List RE) (M : Dm) (r : Int → Nat) (ro : Option Addr) (xs : List R4) : Prop where
  rd : RDoc W D o cap lR
  wd : Wd M r
  ok : OkRE M lR
  ins : ∀ i e, M i = some e → ∃ j x, i = ((j : Nat) : Int) ∧ lR[j]? = some x
  l1 : 0 < lR.length
  l2 : lR.length ≤ 1000
  rw_ : R4At W ro xs
  st : ∀ x ∈ xs, StIn W x
  x2 : xs.length ≤ 40
theorem StyE.below {W W' : World} {D : Nat} {o : Option Addr} {cap : Nat} {lR : List RE} {M : Dm} {r : Int → Nat} {ro : Option Addr} {xs : List R4} (h : StyE W D o cap lR M r ro xs) (hb : Below W.heap.size W W') : StyE W' D o cap lR M r ro xs :=
  ⟨h.rd.below hb, h.wd, h.ok, h.ins, h.l1, h.l2, h.rw_.below hb, fun x hx => (h.st x hx).below hb, h.x2⟩
/-- What was found so far. -/
def bsK (M : Dm) (nm : Bs) (n : Int) (xs : List R4) (k : Nat) : Int × Bs := ((xs.map R4.rl).take k).foldl (bestS (rlFits M nm n)) (-1, firstM nm)
theorem bsK_more {M : Dm} {nm : Bs} {n : Int} {xs : List R4} {k : Nat} {x : R4} (h : xs[k]? = some x) : bsK M nm n xs (k + 1) = bestS (rlFits M nm n) (bsK M nm n xs k) x.rl := by
  unfold bsK
  have h1 : (xs.map R4.rl)[k]? = some x.rl := by rw [List.getElem?_map, h]; rfl
  rw [List.take_add_one, h1]
  show List.foldl _ _ ((xs.map R4.rl).take k ++ [x.rl]) = _
  rw [List.foldl_append]
  rfl
set_option maxRecDepth 20000 in
set_option maxHeartbeats 16000000 in
theorem StyleOf_in (D : Nat) (o : Option Addr) (cap : Nat) (lR : List RE) (M : Dm) (r : Int → Nat) (rb roff rc : Nat) (xs : List R4) (nm : Bs) (hnm : isNmS nm = true) (_hnl : nm.length ≤ 100) : ∀ (f : Nat) (n : Int) (e : Elm) (w : World), StyE w D o cap lR M r (some ⟨rb, roff, none⟩) xs → M n = some e → r n ≤ f →
    Calls Tryz.prog 43 #[.pointer (some ⟨D, 0, none⟩), (.slice (some ⟨rb, roff, none⟩) xs.length rc), .int .i64 n, bV nm] w fun q W => q = .returned (bV (styF M (xs.map R4.rl) nm f n)) ∧ Below w.heap.size w W := by
  intro f
  induction f with
  | zero => intro n e w h he hr; have := (h.wd.rb n e he).1; omega
  | succ f ih =>
    intro n e w h he hr
    obtain ⟨j, x, rfl, hx⟩ := h.ins n e he
    obtain ⟨hMx, hin, hne, ha, hav, hp1, hp2⟩ := h.ok j x hx
    have hlt : j < lR.length := (List.getElem?_eq_some_iff.1 hx).1
    have hlt' : (j : Int) < (lR.length : Int) := by omega
    have hHas : hasR lR (j : Int) = true := by unfold hasR; simp [hx, hin]
    have HS := Has_ref lR D o cap (j : Int) w h.rd
    rw [hHas] at HS
    have FO := firstOf_ref nm w
    have AT := Attr_ref lR D o cap j x nm w h.rd hx hin (by omega)
    have hat0 : atM M (j : Int) nm = atOf x.ats nm := by unfold atM; rw [hMx]
    have hfe : List.isEmpty (firstM nm) = false := by
      unfold isNmS at hnm
      cases hq : firstM nm with
      | nil => rw [hq] at hnm; cases hnm
      | cons => rfl
    have HSTY : Hid (styF M (xs.map R4.rl) nm (f + 1) j = match atOf x.ats nm with | some v => v | none => if (bsK M nm j xs xs.length).1 < 0 ∧ isInh nm = true ∧ 0 ≤ x.par then styF M (xs.map R4.rl) nm f x.par else (bsK M nm j xs xs.length).2) := by
      have e1 : parM M (j : Int) = x.par := by unfold parM; rw [hMx]
      have e2 : bsK M nm j xs xs.length = (xs.map R4.rl).foldl (bestS (rlFits M nm j)) (-1, firstM nm) := by
        unfold bsK
        rw [List.take_of_length_le (by rw [List.length_map]; exact Nat.le_refl _)]
      have e3 : styF M (xs.map R4.rl) nm (f + 1) j = match atOf x.ats nm with | some v => v | none => if (bsK M nm j xs xs.length).1 < 0 ∧ isInh nm = true ∧ 0 ≤ x.par then styF M (xs.map R4.rl) nm f x.par else (bsK M nm j xs xs.length).2 := by
        rw [styF, hat0, e1, e2]
        cases atOf x.ats nm <;> rfl
      exact e3
    have hxa := h.rd.ats x (List.mem_of_getElem? hx)
    obtain ⟨ob, off, rfl, -, e1, e2, -, -⟩ := h.rd.at_ j x hx
    have cD := h.rd.c
    have hx2 := h.x2
    go_enter Tryz.func43, Tryz.ntmps43
    go_upto_region 6 with (first | (go_at_call 60; refine HS.mono ?_; rintro q w1 ⟨rfl, rfl⟩) | (go_at_call 100; refine FO.mono ?_; rintro q w2 ⟨rfl, rfl⟩) | (go_at_call 24; refine AT.mono ?_; rintro q w3 ⟨⟨rv, rfl, hrv⟩, rfl⟩))
    clear HS FO AT
    rcases hrv.of with ⟨i, p, rfl, hp, hat⟩ | ⟨rfl, hat⟩
    · have hil : i < x.ats.length := (List.getElem?_eq_some_iff.1 hp).1
      have hil' : (i : Int) < (x.ats.length : Int) := by omega
      have hi0 : 0 ≤ (i : Int) := by omega
      obtain ⟨b3, off3, ho3, -, cv⟩ := hxa i p hp
      rw [ho3] at e1
      have HF : Hid (styF M (xs.map R4.rl) nm (f + 1) j = p.2) := by
        have e9 := HSTY.out
        rw [hat] at e9
        exact e9
      clear hrv hat hp ho3
      go_wp2_with fail
      go_ret
      exact ⟨by rw [HF.out]; rfl, Below.refl _ _⟩
    · have HF : Hid (styF M (xs.map R4.rl) nm (f + 1) j = if (bsK M nm j xs xs.length).1 < 0 ∧ isInh nm = true ∧ 0 ≤ x.par then styF M (xs.map R4.rl) nm f x.par else (bsK M nm j xs xs.length).2) := by
        have e9 := HSTY.out
        rw [hat] at e9
        exact e9
      have HH : Hid (StyE w3 D (some ⟨ob, off, none⟩) cap lR M r (some ⟨rb, roff, none⟩) xs) := h
      clear hrv hat hxa e1
      go_wp2_with fail
      go_loopw [10, 12, 13] (fun out best i wr => ∃ k : Nat, k ≤ xs.length ∧ i = .int .i64 k ∧ best = .int .i64 (bsK M nm j xs k).1 ∧ out = bV (bsK M nm j xs k).2 ∧ Below w3.heap.size w3 wr) (fun _ _ i _ => xs.length - (intOf i).toNat)
      case atStart => exact ⟨0, Nat.zero_le _, rfl, rfl, rfl, Below.refl _ _⟩
      case round =>
        obtain ⟨k, hk, rfl, rfl, rfl, hb⟩ := hrel
        have hr := HH.out.below hb
        have cDr := hr.rd.c
        by_cases hkl : k < xs.length
        · have hkl' : (k : Int) < (xs.length : Int) := by omega
          obtain ⟨z, hz⟩ : ∃ z, xs[k]? = some z := ⟨_, List.getElem?_eq_getElem hkl⟩
          obtain ⟨b', off', hbo, z0, z1, z2, z3⟩ := hr.rw_ k z hz
          cases hbo
          have hsz := hr.st z (List.mem_of_getElem? hz)
          have HMO : Hid (bsK M nm j xs (k + 1) = bestS (rlFits M nm j) (bsK M nm j xs k) z.rl) := bsK_more hz
          obtain ⟨bo, hbo⟩ : ∃ b, bsK M nm j xs k = b := ⟨_, rfl⟩
          obtain ⟨bst, out⟩ := bo
          rw [hbo] at HMO ⊢
          clear hbo
          cases hzn : (z.nm == nm) with
          | false =>
            have HSK : Hid (bsK M nm j xs (k + 1) = (bst, out)) := by
              have e9 : bsK M nm j xs (k + 1) = (bst, out) := by
                rw [HMO.out]
                unfold bestS rlFits
                have : (z.rl.nm == nm) = false := hzn
                rw [this]
                rfl
              exact e9
            go_wp2_with fail
            go_roundw
            case rel => exact ⟨k + 1, by omega, by go_num, by rw [HSK.out], by rw [HSK.out], hb⟩
            case measure => simp [intOf]; omega
          | true =>
            have hm1 : 0 < z.m.length := by
              have h1 := hsz.t.len
              have h2 := List.length_pos_iff.2 (lnk_ne z.wh)
              omega
            have FT := Fitting_ref lR D _ cap wr hr.rd M r hr.wd hr.ok hr.l1 hr.l2 z.o z.c z.m (lnk z.wh) hsz.s hsz.w hsz.t hsz.l hm1
            have WO : ∀ X, Below wr.heap.size wr X → Calls Tryz.prog 32 #[.slice z.o z.m.length z.c] X fun q w' => q = .returned (.int .i64 (wtM z.wh : Nat)) ∧ w' = X := fun X hX => by
              have h9 := WeightOf_any z.m z.o z.c X hsz.l hsz.t.few (hsz.s.below hX) (hsz.w.below hX)
              rw [wS_sum hsz.t, wt_lnk] at h9
              exact h9
            have HFR : Hid (fitR M (lnk z.wh).reverse (j : Int) = fitsM M z.wh j) := fitR_fits M z.wh.length z.wh (Nat.le_refl _) j
            go_upto_region 14 with (go_at_call 34; refine FT.mono ?_; rintro q w5 ⟨v5, rfl, hFO⟩)
            clear FT
            obtain ⟨gf, rfl, hgf, hBT, b5⟩ := hFO
            have cF := hBT.cell hlt
            rw [HFR.out] at cF
            have z15 := (b5.cell (cell_lt3 z1)).trans z1
            have z35 := (b5.cell (cell_lt3 z3)).trans z3
            have hb5 := hb.trans (b5.mono hb.size)
            have WO5 := WO w5 b5
            obtain ⟨fb, hfb⟩ : ∃ b, fitsM M z.wh j = b := ⟨_, rfl⟩
            rw [hfb] at cF
            have HRL : Hid (rlFits M nm j z.rl = fb) := by
              have e9 : rlFits M nm j z.rl = fb := by
                unfold rlFits
                have h9 : (z.rl.nm == nm) = true := hzn
                rw [h9, Bool.true_and]
                exact hfb
              exact e9
            obtain ⟨wt, hwt⟩ : ∃ t, wtM z.wh = t := ⟨_, rfl⟩
            rw [hwt] at WO5
            have HWT : Hid (wtM z.rl.wh = wt) := hwt
            clear hfb hwt WO hBT hsz
            cases fb with
            | false =>
              have HSK : Hid (bsK M nm j xs (k + 1) = (bst, out)) := by
                have e9 : bsK M nm j xs (k + 1) = (bst, out) := by
                  rw [HMO.out]
                  unfold bestS
                  rw [HRL.out]
                  rfl
                exact e9
              go_wp2_with (go_at_call 32; refine WO5.mono ?_; rintro q w6 ⟨rfl, rfl⟩)
              go_roundw
              case rel => exact ⟨k + 1, by omega, by go_num, by rw [HSK.out], by rw [HSK.out], hb5⟩
              case measure => simp [intOf]; omega
            | true =>
              by_cases hbw : bst ≤ (wt : Int)
              · have HSK : Hid (bsK M nm j xs (k + 1) = ((wt : Int), z.vl)) := by
                  have e9 : bsK M nm j xs (k + 1) = ((wt : Int), z.vl) := by
                    rw [HMO.out]
                    unfold bestS
                    rw [HRL.out, HWT.out]
                    simp only [Bool.true_and]
                    rw [if_pos (by simpa using hbw)]
                    rfl
                  exact e9
                go_wp2_with (go_at_call 32; refine WO5.mono ?_; rintro q w6 ⟨rfl, rfl⟩)
                go_roundw
                case rel => exact ⟨k + 1, by omega, by go_num, by rw [HSK.out], by rw [HSK.out], hb5⟩
                case measure => simp [intOf]; omega
              · have HSK : Hid (bsK M nm j xs (k + 1) = (bst, out)) := by
                  have e9 : bsK M nm j xs (k + 1) = (bst, out) := by
                    rw [HMO.out]
                    unfold bestS
                    rw [HRL.out, HWT.out]
                    simp only [Bool.true_and]
                    rw [if_neg (by simpa using hbw)]
                  exact e9
                go_wp2_with (go_at_call 32; refine WO5.mono ?_; rintro q w6 ⟨rfl, rfl⟩)
                go_roundw
                case rel => exact ⟨k + 1, by omega, by go_num, by rw [HSK.out], by rw [HSK.out], hb5⟩
                case measure => simp [intOf]; omega
        · have hkl' : ¬ (k : Int) < (xs.length : Int) := by omega
          obtain rfl : k = xs.length := by omega
          obtain ⟨bo, hbo⟩ : ∃ b, bsK M nm j xs xs.length = b := ⟨_, rfl⟩
          obtain ⟨bst, out⟩ := bo
          rw [hbo] at HF ⊢
          clear hbo
          have e2r := (hb.cell (cell_lt3 e2)).trans e2
          have k0 := ba_toL nm [102, 105, 108, 108]
          have k1 := ba_toL nm [114, 117, 108, 101]
          by_cases hneg : bst < 0
          · by_cases hpar : 0 ≤ x.par
            · have hj0 : (j : Int) ≠ 0 := fun e0 => by
                obtain ⟨e', he', hpp⟩ := hr.wd.root
                rw [← e0, hMx] at he'
                injection he' with he'
                rw [← he'] at hpp
                have hpp : x.par = -1 := hpp
                omega
              obtain ⟨q', hq', -, hrq⟩ := hr.wd.up (j : Int) _ hMx hj0
              have hq2 : M x.par = some q' := hq'
              have hrq2 : r (j : Int) = r x.par + 1 := hrq
              have IH := ih x.par q' wr hr hq2 (by omega)
              clear ih
              cases hA : (nm == [102, 105, 108, 108]) with
              | true =>
                rw [hA] at k0
                have hinh : isInh nm = true := by unfold isInh kFill; rw [hA]; rfl
                have HE : Hid (styF M (xs.map R4.rl) nm (f + 1) j = styF M (xs.map R4.rl) nm f x.par) := by
                  have e9 := HF.out
                  rw [if_pos ⟨hneg, hinh, hpar⟩] at e9
                  exact e9
                go_wp2_with (go_at_call 43; refine IH.mono ?_; rintro q w9 ⟨rfl, b9⟩)
                go_ret
                exact ⟨by rw [HE.out]; rfl, hb.trans (b9.mono hb.size)⟩
              | false =>
                rw [hA] at k0
                cases hB : (nm == [114, 117, 108, 101]) with
                | true =>
                  rw [hB] at k1
                  have hinh : isInh nm = true := by unfold isInh kFill kRule; rw [hA, hB]; rfl
                  have HE : Hid (styF M (xs.map R4.rl) nm (f + 1) j = styF M (xs.map R4.rl) nm f x.par) := by
                    have e9 := HF.out
                    rw [if_pos ⟨hneg, hinh, hpar⟩] at e9
                    exact e9
                  go_wp2_with (go_at_call 43; refine IH.mono ?_; rintro q w9 ⟨rfl, b9⟩)
                  go_ret
                  exact ⟨by rw [HE.out]; rfl, hb.trans (b9.mono hb.size)⟩
                | false =>
                  rw [hB] at k1
                  have hinh : isInh nm = false := by unfold isInh kFill kRule; rw [hA, hB]; rfl
                  have HE : Hid (styF M (xs.map R4.rl) nm (f + 1) j = out) := by
                    have e9 := HF.out
                    rw [if_neg (fun h9 => by rw [hinh] at h9; cases h9.2.1)] at e9
                    exact e9
                  go_wp2_with fail
                  go_ret
                  exact ⟨by rw [HE.out]; rfl, hb⟩
            · cases hA : (nm == [102, 105, 108, 108]) with
              | true =>
                rw [hA] at k0
                have HE : Hid (styF M (xs.map R4.rl) nm (f + 1) j = out) := by
                  have e9 := HF.out
                  rw [if_neg (fun h9 => hpar h9.2.2)] at e9
                  exact e9
                go_wp2_with fail
                go_ret
                exact ⟨by rw [HE.out]; rfl, hb⟩
              | false =>
                rw [hA] at k0
                cases hB : (nm == [114, 117, 108, 101]) with
                | true =>
                  rw [hB] at k1
                  have HE : Hid (styF M (xs.map R4.rl) nm (f + 1) j = out) := by
                    have e9 := HF.out
                    rw [if_neg (fun h9 => hpar h9.2.2)] at e9
                    exact e9
                  go_wp2_with fail
                  go_ret
                  exact ⟨by rw [HE.out]; rfl, hb⟩
                | false =>
                  rw [hB] at k1
                  have HE : Hid (styF M (xs.map R4.rl) nm (f + 1) j = out) := by
                    have e9 := HF.out
                    rw [if_neg (fun h9 => hpar h9.2.2)] at e9
                    exact e9
                  go_wp2_with fail
                  go_ret
                  exact ⟨by rw [HE.out]; rfl, hb⟩
          · cases hA : (nm == [102, 105, 108, 108]) with
            | true =>
              rw [hA] at k0
              have HE : Hid (styF M (xs.map R4.rl) nm (f + 1) j = out) := by
                have e9 := HF.out
                rw [if_neg (fun h9 => hneg h9.1)] at e9
                exact e9
              go_wp2_with fail
              go_ret
              exact ⟨by rw [HE.out]; rfl, hb⟩
            | false =>
              rw [hA] at k0
              cases hB : (nm == [114, 117, 108, 101]) with
              | true =>
                rw [hB] at k1
                have HE : Hid (styF M (xs.map R4.rl) nm (f + 1) j = out) := by
                  have e9 := HF.out
                  rw [if_neg (fun h9 => hneg h9.1)] at e9
                  exact e9
                go_wp2_with fail
                go_ret
                exact ⟨by rw [HE.out]; rfl, hb⟩
              | false =>
                rw [hB] at k1
                have HE : Hid (styF M (xs.map R4.rl) nm (f + 1) j = out) := by
                  have e9 := HF.out
                  rw [if_neg (fun h9 => hneg h9.1)] at e9
                  exact e9
                go_wp2_with fail
                go_ret
                exact ⟨by rw [HE.out]; rfl, hb⟩
end Go.Proofs.YtnoecobddhmhlaaGreatDoor

namespace Go.Proofs.YtnoecobddhmhlaaGreatDoor
open Go.RowKit

set_option maxRecDepth 20000 in
set_option maxHeartbeats 16000000 in
theorem StyleOf_bare (D : Nat) (o : Option Addr) (cap : Nat) (lR : List RE) (M : Dm) (r : Int → Nat) (rc : Nat) (xs : List R4) (HX0 : Hid (xs.length = 0)) (nm : Bs) (hnm : isNmS nm = true) (_hnl : nm.length ≤ 100) : ∀ (f : Nat) (n : Int) (e : Elm) (w : World), StyE w D o cap lR M r none xs → M n = some e → r n ≤ f →
    Calls Tryz.prog 43 #[.pointer (some ⟨D, 0, none⟩), (.slice none xs.length rc), .int .i64 n, bV nm] w fun q W => q = .returned (bV (styF M (xs.map R4.rl) nm f n)) ∧ Below w.heap.size w W := by
  intro f
  induction f with
  | zero => intro n e w h he hr; have := (h.wd.rb n e he).1; omega
  | succ f ih =>
    intro n e w h he hr
    obtain ⟨j, x, rfl, hx⟩ := h.ins n e he
    obtain ⟨hMx, hin, hne, ha, hav, hp1, hp2⟩ := h.ok j x hx
    have hlt : j < lR.length := (List.getElem?_eq_some_iff.1 hx).1
    have hlt' : (j : Int) < (lR.length : Int) := by omega
    have hHas : hasR lR (j : Int) = true := by unfold hasR; simp [hx, hin]
    have HS := Has_ref lR D o cap (j : Int) w h.rd
    rw [hHas] at HS
    have FO := firstOf_ref nm w
    have AT := Attr_ref lR D o cap j x nm w h.rd hx hin (by omega)
    have hat0 : atM M (j : Int) nm = atOf x.ats nm := by unfold atM; rw [hMx]
    have hfe : List.isEmpty (firstM nm) = false := by
      unfold isNmS at hnm
      cases hq : firstM nm with
      | nil => rw [hq] at hnm; cases hnm
      | cons => rfl
    have HSTY : Hid (styF M (xs.map R4.rl) nm (f + 1) j = match atOf x.ats nm with | some v => v | none => if (bsK M nm j xs xs.length).1 < 0 ∧ isInh nm = true ∧ 0 ≤ x.par then styF M (xs.map R4.rl) nm f x.par else (bsK M nm j xs xs.length).2) := by
      have e1 : parM M (j : Int) = x.par := by unfold parM; rw [hMx]
      have e2 : bsK M nm j xs xs.length = (xs.map R4.rl).foldl (bestS (rlFits M nm j)) (-1, firstM nm) := by
        unfold bsK
        rw [List.take_of_length_le (by rw [List.length_map]; exact Nat.le_refl _)]
      have e3 : styF M (xs.map R4.rl) nm (f + 1) j = match atOf x.ats nm with | some v => v | none => if (bsK M nm j xs xs.length).1 < 0 ∧ isInh nm = true ∧ 0 ≤ x.par then styF M (xs.map R4.rl) nm f x.par else (bsK M nm j xs xs.length).2 := by
        rw [styF, hat0, e1, e2]
        cases atOf x.ats nm <;> rfl
      exact e3
    have hxa := h.rd.ats x (List.mem_of_getElem? hx)
    obtain ⟨ob, off, rfl, -, e1, e2, -, -⟩ := h.rd.at_ j x hx
    have cD := h.rd.c
    have hx2 := h.x2
    go_enter Tryz.func43, Tryz.ntmps43
    go_upto_region 6 with (first | (go_at_call 60; refine HS.mono ?_; rintro q w1 ⟨rfl, rfl⟩) | (go_at_call 100; refine FO.mono ?_; rintro q w2 ⟨rfl, rfl⟩) | (go_at_call 24; refine AT.mono ?_; rintro q w3 ⟨⟨rv, rfl, hrv⟩, rfl⟩))
    clear HS FO AT
    rcases hrv.of with ⟨i, p, rfl, hp, hat⟩ | ⟨rfl, hat⟩
    · have hil : i < x.ats.length := (List.getElem?_eq_some_iff.1 hp).1
      have hil' : (i : Int) < (x.ats.length : Int) := by omega
      have hi0 : 0 ≤ (i : Int) := by omega
      obtain ⟨b3, off3, ho3, -, cv⟩ := hxa i p hp
      rw [ho3] at e1
      have HF : Hid (styF M (xs.map R4.rl) nm (f + 1) j = p.2) := by
        have e9 := HSTY.out
        rw [hat] at e9
        exact e9
      clear hrv hat hp ho3
      go_wp2_with fail
      go_ret
      exact ⟨by rw [HF.out]; rfl, Below.refl _ _⟩
    · have HF : Hid (styF M (xs.map R4.rl) nm (f + 1) j = if (bsK M nm j xs xs.length).1 < 0 ∧ isInh nm = true ∧ 0 ≤ x.par then styF M (xs.map R4.rl) nm f x.par else (bsK M nm j xs xs.length).2) := by
        have e9 := HSTY.out
        rw [hat] at e9
        exact e9
      have HH : Hid (StyE w3 D (some ⟨ob, off, none⟩) cap lR M r none xs) := h
      clear hrv hat hxa e1
      go_wp2_with fail
      go_loopw [10, 12, 13] (fun out best i wr => ∃ k : Nat, k ≤ xs.length ∧ i = .int .i64 k ∧ best = .int .i64 (bsK M nm j xs k).1 ∧ out = bV (bsK M nm j xs k).2 ∧ Below w3.heap.size w3 wr) (fun _ _ i _ => xs.length - (intOf i).toNat)
      case atStart => exact ⟨0, Nat.zero_le _, rfl, rfl, rfl, Below.refl _ _⟩
      case round =>
        obtain ⟨k, hk, rfl, rfl, rfl, hb⟩ := hrel
        have hr := HH.out.below hb
        have cDr := hr.rd.c
        by_cases hkl : k < xs.length
        · exact absurd hkl (by have := HX0.out; omega)
        · have hkl' : ¬ (k : Int) < (xs.length : Int) := by omega
          obtain rfl : k = xs.length := by omega
          obtain ⟨bo, hbo⟩ : ∃ b, bsK M nm j xs xs.length = b := ⟨_, rfl⟩
          obtain ⟨bst, out⟩ := bo
          rw [hbo] at HF ⊢
          clear hbo
          have e2r := (hb.cell (cell_lt3 e2)).trans e2
          have k0 := ba_toL nm [102, 105, 108, 108]
          have k1 := ba_toL nm [114, 117, 108, 101]
          by_cases hneg : bst < 0
          · by_cases hpar : 0 ≤ x.par
            · have hj0 : (j : Int) ≠ 0 := fun e0 => by
                obtain ⟨e', he', hpp⟩ := hr.wd.root
                rw [← e0, hMx] at he'
                injection he' with he'
                rw [← he'] at hpp
                have hpp : x.par = -1 := hpp
                omega
              obtain ⟨q', hq', -, hrq⟩ := hr.wd.up (j : Int) _ hMx hj0
              have hq2 : M x.par = some q' := hq'
              have hrq2 : r (j : Int) = r x.par + 1 := hrq
              have IH := ih x.par q' wr hr hq2 (by omega)
              clear ih
              cases hA : (nm == [102, 105, 108, 108]) with
              | true =>
                rw [hA] at k0
                have hinh : isInh nm = true := by unfold isInh kFill; rw [hA]; rfl
                have HE : Hid (styF M (xs.map R4.rl) nm (f + 1) j = styF M (xs.map R4.rl) nm f x.par) := by
                  have e9 := HF.out
                  rw [if_pos ⟨hneg, hinh, hpar⟩] at e9
                  exact e9
                go_wp2_with (go_at_call 43; refine IH.mono ?_; rintro q w9 ⟨rfl, b9⟩)
                go_ret
                exact ⟨by rw [HE.out]; rfl, hb.trans (b9.mono hb.size)⟩
              | false =>
                rw [hA] at k0
                cases hB : (nm == [114, 117, 108, 101]) with
                | true =>
                  rw [hB] at k1
                  have hinh : isInh nm = true := by unfold isInh kFill kRule; rw [hA, hB]; rfl
                  have HE : Hid (styF M (xs.map R4.rl) nm (f + 1) j = styF M (xs.map R4.rl) nm f x.par) := by
                    have e9 := HF.out
                    rw [if_pos ⟨hneg, hinh, hpar⟩] at e9
                    exact e9
                  go_wp2_with (go_at_call 43; refine IH.mono ?_; rintro q w9 ⟨rfl, b9⟩)
                  go_ret
                  exact ⟨by rw [HE.out]; rfl, hb.trans (b9.mono hb.size)⟩
                | false =>
                  rw [hB] at k1
                  have hinh : isInh nm = false := by unfold isInh kFill kRule; rw [hA, hB]; rfl
                  have HE : Hid (styF M (xs.map R4.rl) nm (f + 1) j = out) := by
                    have e9 := HF.out
                    rw [if_neg (fun h9 => by rw [hinh] at h9; cases h9.2.1)] at e9
                    exact e9
                  go_wp2_with fail
                  go_ret
                  exact ⟨by rw [HE.out]; rfl, hb⟩
            · cases hA : (nm == [102, 105, 108, 108]) with
              | true =>
                rw [hA] at k0
                have HE : Hid (styF M (xs.map R4.rl) nm (f + 1) j = out) := by
                  have e9 := HF.out
                  rw [if_neg (fun h9 => hpar h9.2.2)] at e9
                  exact e9
                go_wp2_with fail
                go_ret
                exact ⟨by rw [HE.out]; rfl, hb⟩
              | false =>
                rw [hA] at k0
                cases hB : (nm == [114, 117, 108, 101]) with
                | true =>
                  rw [hB] at k1
                  have HE : Hid (styF M (xs.map R4.rl) nm (f + 1) j = out) := by
                    have e9 := HF.out
                    rw [if_neg (fun h9 => hpar h9.2.2)] at e9
                    exact e9
                  go_wp2_with fail
                  go_ret
                  exact ⟨by rw [HE.out]; rfl, hb⟩
                | false =>
                  rw [hB] at k1
                  have HE : Hid (styF M (xs.map R4.rl) nm (f + 1) j = out) := by
                    have e9 := HF.out
                    rw [if_neg (fun h9 => hpar h9.2.2)] at e9
                    exact e9
                  go_wp2_with fail
                  go_ret
                  exact ⟨by rw [HE.out]; rfl, hb⟩
          · cases hA : (nm == [102, 105, 108, 108]) with
            | true =>
              rw [hA] at k0
              have HE : Hid (styF M (xs.map R4.rl) nm (f + 1) j = out) := by
                have e9 := HF.out
                rw [if_neg (fun h9 => hneg h9.1)] at e9
                exact e9
              go_wp2_with fail
              go_ret
              exact ⟨by rw [HE.out]; rfl, hb⟩
            | false =>
              rw [hA] at k0
              cases hB : (nm == [114, 117, 108, 101]) with
              | true =>
                rw [hB] at k1
                have HE : Hid (styF M (xs.map R4.rl) nm (f + 1) j = out) := by
                  have e9 := HF.out
                  rw [if_neg (fun h9 => hneg h9.1)] at e9
                  exact e9
                go_wp2_with fail
                go_ret
                exact ⟨by rw [HE.out]; rfl, hb⟩
              | false =>
                rw [hB] at k1
                have HE : Hid (styF M (xs.map R4.rl) nm (f + 1) j = out) := by
                  have e9 := HF.out
                  rw [if_neg (fun h9 => hneg h9.1)] at e9
                  exact e9
                go_wp2_with fail
                go_ret
                exact ⟨by rw [HE.out]; rfl, hb⟩
/-- Where the rules lie. -/
def RoOk (ro : Option Addr) (xs : List R4) : Prop := (xs.length = 0 ∧ ro = none) ∨ ∃ rb roff, ro = some ⟨rb, roff, none⟩
set_option maxRecDepth 20000 in
set_option maxHeartbeats 4000000 in
theorem StyleOf_any (D : Nat) (o : Option Addr) (cap : Nat) (lR : List RE) (M : Dm) (r : Int → Nat) (ro : Option Addr) (rc : Nat) (xs : List R4) (hro : RoOk ro xs) (nm : Bs) (hnl : nm.length ≤ 100) (n : Int) (w : World) (h : StyE w D o cap lR M r ro xs) :
    Calls Tryz.prog 43 #[.pointer (some ⟨D, 0, none⟩), .slice ro xs.length rc, .int .i64 n, bV nm] w fun q W => q = .returned (bV (ofM M (xs.map R4.rl) nm n)) ∧ Below w.heap.size w W := by
  cases hm : M n with
  | none =>
    have hHas : hasR lR n = false := by
      unfold hasR
      by_cases h0 : 0 ≤ n
      · cases hq : lR[n.toNat]? with
        | none => simp
        | some x =>
          have h1 := (h.ok n.toNat x hq).1
          have e : ((n.toNat : Nat) : Int) = n := by omega
          rw [e, hm] at h1
          cases h1
      · simp [h0]
    have HS := Has_ref lR D o cap n w h.rd
    rw [hHas] at HS
    have FO := firstOf_ref nm w
    have HO : Hid (ofM M (xs.map R4.rl) nm n = []) := by
      have e : ofM M (xs.map R4.rl) nm n = [] := by unfold ofM; rw [hm]; rfl
      exact e
    clear h hm hro hHas
    go_enter Tryz.func43, Tryz.ntmps43
    go_wp2_with (first | (go_at_call 60; refine HS.mono ?_; rintro q w1 ⟨rfl, rfl⟩) | (go_at_call 100; refine FO.mono ?_; rintro q w2 ⟨rfl, rfl⟩))
    go_ret
    exact ⟨by rw [HO.out]; rfl, Below.refl _ _⟩
  | some e =>
    cases hnm : isNmS nm with
    | false =>
      obtain ⟨j, x, rfl, hx⟩ := h.ins n e hm
      obtain ⟨-, hin, -⟩ := h.ok j x hx
      have hHas : hasR lR (j : Int) = true := by unfold hasR; simp [hx, hin]
      have HS := Has_ref lR D o cap (j : Int) w h.rd
      rw [hHas] at HS
      have hf0 : firstM nm = [] := by
        unfold isNmS at hnm
        simpa using hnm
      have FO := firstOf_ref nm w
      rw [hf0] at FO
      have HO : Hid (ofM M (xs.map R4.rl) nm j = []) := by
        have e9 : ofM M (xs.map R4.rl) nm j = [] := by unfold ofM; rw [hnm, Bool.and_false]; rfl
        exact e9
      clear h hm hro hHas hf0 hnm hx hin
      go_enter Tryz.func43, Tryz.ntmps43
      go_wp2_with (first | (go_at_call 60; refine HS.mono ?_; rintro q w1 ⟨rfl, rfl⟩) | (go_at_call 100; refine FO.mono ?_; rintro q w2 ⟨rfl, rfl⟩))
      go_ret
      exact ⟨by rw [HO.out]; rfl, Below.refl _ _⟩
    | true =>
      have hr := (h.wd.rb n e hm).2
      have hof : ofM M (xs.map R4.rl) nm n = styF M (xs.map R4.rl) nm 12 n := by
        rw [ofM_in hm hnm, sty_same h.wd (xs.map R4.rl) nm (r n) n e 12 hm rfl (by omega)]
      rw [hof]
      rcases hro with ⟨h0, rfl⟩ | ⟨rb, roff, rfl⟩
      · exact StyleOf_bare D o cap lR M r rc xs h0 nm hnm hnl 12 n e w h hm (by omega)
      · exact StyleOf_in D o cap lR M r rb roff rc xs nm hnm hnl 12 n e w h hm (by omega)
end Go.Proofs.YtnoecobddhmhlaaGreatDoor

namespace Go.Proofs.YtnoecobddhmhlaaGreatDoor
open Go.RowKit Go.Shelf

set_option maxHeartbeats 2000000 in
/-- An error that tells this number, and (if there is one) this place. -/
theorem faultedL (v : Value) (c a t : Int) (W : World) (h : c = 0 ∨ a = t) (HC : ∀ V, Below W.heap.size W V → Calls Tryz.prog 55 #[v] V fun e w' => e = .returned (.tuple #[.int .i64 c, .int .i64 a]) ∧ Below V.heap.size V w') :
    Calls Tryz.prog 40 #[v, .agg #[.int .i64 c, .int .i64 t]] W fun e w' => e = .returned (.bool true) ∧ Below W.heap.size W w' := by
  have L0 := (Below.refl W.heap.size W).alloc (Nat.le_refl _) (.cells #[.int .i64 c, .int .i64 t] 36)
  have r0 := World.alloc_heap_new W (.cells #[.int .i64 c, .int .i64 t] 36)
  have HK := HC _ L0
  have KE : ∀ V, Below (W.alloc (.cells #[.int .i64 c, .int .i64 t] 36)).heap.size (W.alloc (.cells #[.int .i64 c, .int .i64 t] 36)) V → Cel2 V W.heap.size (.int .i64 c) (.int .i64 t) := fun V hV => Cel2.of (bel_blk hV r0)
  rcases h with rfl | rfl
  · go_enter Tryz.func40, Tryz.ntmps40
    go_wp2_with (go_at_call 55; refine HK.mono ?_; rintro e w1 ⟨rfl, hb1⟩; obtain ⟨z0, z1, -, -⟩ := KE w1 hb1)
    go_ret
    exact ⟨rfl, mbel L0 hb1⟩
  · by_cases hc : c = 0
    · subst hc
      go_enter Tryz.func40, Tryz.ntmps40
      go_wp2_with (go_at_call 55; refine HK.mono ?_; rintro e w1 ⟨rfl, hb1⟩; obtain ⟨z0, z1, -, -⟩ := KE w1 hb1)
      go_ret
      exact ⟨rfl, mbel L0 hb1⟩
    · have hc' : (c == 0) = false := by simp [hc]
      have hc'' : decide (c = 0) = false := by simp [hc]
      go_enter Tryz.func40, Tryz.ntmps40
      go_wp2_with (go_at_call 55; refine HK.mono ?_; rintro e w1 ⟨rfl, hb1⟩; obtain ⟨z0, z1, -, -⟩ := KE w1 hb1)
      go_ret
      exact ⟨rfl, mbel L0 hb1⟩
set_option maxHeartbeats 1000000 in
theorem Of_nil (v : Value) (n : Int) (nm : Bs) (w : World) : Calls Tryz.prog 42 #[.pointer none, v, .int .i64 n, bV nm] w fun e w' => e = .returned (.string ⟨#[]⟩) ∧ w' = w := by
  go_enter Tryz.func42, Tryz.ntmps42
  go_wp2_with fail
  go_ret
  exact ⟨rfl, rfl⟩
set_option maxRecDepth 20000 in
set_option maxHeartbeats 4000000 in
theorem sameSheet_ref (xs : List R4) (hx2 : xs.length ≤ 40) (B : Nat) (va : Value) (rb : Option Addr) (cb : Nat) (W : World) (ha : W.ownsRow B 150 3 va xs.length (cellsR (xs.map R4.rl))) (hb : R4At W rb xs) :
    Calls Tryz.prog 41 #[va, .slice rb xs.length cb] W fun e w' => e = .returned (.bool true) ∧ Below W.heap.size W w' := by
  obtain ⟨oa, ca, rfl⟩ := own_slice ha
  by_cases h0 : xs.length = 0
  · have hz : xs = [] := List.length_eq_zero_iff.1 h0
    subst hz
    clear ha hb h0
    go_enter Tryz.func41, Tryz.ntmps41
    go_wp2_with fail
    go_loopw [5] (fun i wr => i = .int .i64 0 ∧ wr = W) (fun _ _ => 0)
    case atStart => exact ⟨rfl, rfl⟩
    case round =>
      obtain ⟨rfl, hw⟩ := hrel
      subst hw
      go_wp2_with fail
      go_ret
      exact ⟨rfl, Below.refl _ _⟩
  · have hpos : 0 < xs.length := by omega
    obtain ⟨ga, rfl⟩ : ∃ ga, oa = some ⟨ga, 0, none⟩ := by
      rcases ha.2 with ⟨-, h1⟩ | ⟨g, c, cur, h1, -⟩
      · omega
      · injection h1 with h1
        exact ⟨g, h1⟩
    obtain ⟨bb, boff, rfl⟩ : ∃ b off, rb = some ⟨b, off, none⟩ := by
      obtain ⟨b, off, h1, -⟩ := hb 0 _ (List.getElem?_eq_getElem hpos)
      exact ⟨b, off, h1⟩
    clear h0
    go_enter Tryz.func41, Tryz.ntmps41
    go_wp2_with fail
    go_loopw [5] (fun i wr => ∃ k : Nat, k ≤ xs.length ∧ i = .int .i64 k ∧ Below W.heap.size W wr) (fun i _ => xs.length - (intOf i).toNat)
    case atStart => exact ⟨0, Nat.zero_le _, rfl, Below.refl _ _⟩
    case round =>
      obtain ⟨k, hk, rfl, hbr⟩ := hrel
      by_cases hlt : k < xs.length
      · have hlt' : (k : Int) < (xs.length : Int) := by omega
        obtain ⟨z, hz⟩ : ∃ z, xs[k]? = some z := ⟨_, List.getElem?_eq_getElem hlt⟩
        have hzr : (xs.map R4.rl)[k]? = some z.rl := by rw [List.getElem?_map, hz]; rfl
        obtain ⟨b', off', hbo, z0, z1, z2, z3⟩ := (hb.below hbr) k z hz
        cases hbo
        obtain ⟨e0, e1, e2⟩ := cellsR_at hzr
        have har := own_bel ha hbr
        have a0 : wr.cell? ⟨ga, k * 3, none⟩ = some (bV z.wh) := by
          obtain ⟨g2, hg2, hc⟩ := row_get har _ _ e0
          cases hg2
          exact hc
        have a1 : wr.cell? ⟨ga, k * 3 + 1, none⟩ = some (bV z.nm) := by
          obtain ⟨g2, hg2, hc⟩ := row_get har _ _ e1
          cases hg2
          exact hc
        have a2 : wr.cell? ⟨ga, k * 3 + 2, none⟩ = some (bV z.vl) := by
          obtain ⟨g2, hg2, hc⟩ := row_get har _ _ e2
          cases hg2
          exact hc
        have tx : ∀ d os, Calls Tryz.prog 29 #[.agg #[bV z.wh]] (Go.Sort.grow (redrawn wr d) os) fun e w'' => e = .returned (bV z.wh) ∧ ∃ p : Regrown, w'' = Go.Sort.grow (redrawn wr p.d) p.os := fun d os => Calls.regrown_of (Text_any _ _)
        have q0 := cell_regrown a0
        have q1 := cell_regrown a1
        have q2 := cell_regrown a2
        have p0 := cell_regrown z0
        have p2 := cell_regrown z2
        have p3 := cell_regrown z3
        clear hz hzr e0 e1 e2 har
        go_upto_region 6 with fail
        refine wp_region_quiet_below (by kernel_rfl) (by kernel_rfl) ?_
        repeat (go_big_quiet_step ((go_at_call 29; exact tx _ _)))
        refine wpQuiet_nil ?_
        intro _ hw'
        obtain ⟨pp, hw''⟩ := hw'
        subst hw''
        have b24 := below_regrown wr pp.d pp.os
        generalize Go.Sort.grow (redrawn wr pp.d) pp.os = w24 at b24 ⊢
        clear q0 q1 q2 p0 p2 p3 tx
        go_wp2_with fail
        go_roundw
        case rel => exact ⟨k + 1, by omega, by go_num, mbel hbr b24⟩
        case measure => simp [intOf]; omega
      · have hge : ¬ (k : Int) < (xs.length : Int) := by omega
        go_wp2_with fail
        go_ret
        exact ⟨rfl, hbr⟩
end Go.Proofs.YtnoecobddhmhlaaGreatDoor

namespace Go.Proofs.YtnoecobddhmhlaaGreatDoor
open Go.RowKit Go.Shelf

/-- What style.Read answers. -/
def RdS (E : Nat → Addr) (base : Nat) (r : Except Nat (List Rl)) (va ev : Value) (w : World) : Prop := match r with
  | .error k => va = .slice none 0 0 ∧ ∃ pb, ev = .iface 153 (.pointer (some ⟨pb, 0, none⟩)) ∧ w.heap[pb]? = some (.cells #[.int .i64 k, .iface 245 (.pointer (some (E 1)))] 155)
  | .ok l => (40 < l.length ∧ va = .slice none 0 0 ∧ ev = .iface 245 (.pointer (some (E 7)))) ∨ (l.length ≤ 40 ∧ ev = .nilIface ∧ w.ownsRow base 150 3 va l.length (cellsR l))
theorem RdS.of {E : Nat → Addr} {base : Nat} {r : Except Nat (List Rl)} {e : Ending} {w : World} (h : ShR (E 1) (E 7) base r e w) : ∃ va ev, e = .returned (.tuple #[va, ev]) ∧ RdS E base r va ev w := by
  cases r with
  | error k =>
    obtain ⟨pb, h1, h2⟩ := h
    exact ⟨_, _, h1, rfl, pb, rfl, h2⟩
  | ok l =>
    rcases h with ⟨h1, h2⟩ | ⟨h1, v, h2, h3⟩
    · exact ⟨_, _, h2, .inl ⟨h1, rfl, rfl⟩⟩
    · exact ⟨v, _, h2, .inr ⟨h1, rfl, h3⟩⟩
/-- What SheetOf answers. -/
def ShS (r : Except Nat (List Rl)) (base : Nat) (um : Value) (c t : Int) (w : World) : Prop := match r with
  | .error k => um = .slice none 0 0 ∧ c = 1 ∧ t = k
  | .ok l => (40 < l.length ∧ um = .slice none 0 0 ∧ c = 7 ∧ t = -1) ∨ (l.length ≤ 40 ∧ c = 0 ∧ t = -1 ∧ ∃ xs, Own4 w base um xs ∧ (∀ x ∈ xs, StIn w x) ∧ xs.map R4.rl = l)
theorem ShS.of {r : Except Nat (List Rl)} {base : Nat} {v : Value} {w : World} (h : SheetV w base v r) : ∃ um c t, v = .tuple #[um, .agg #[.int .i64 c, .int .i64 t]] ∧ ShS r base um c t w := by
  cases r with
  | error k => exact ⟨_, _, _, h, rfl, rfl, rfl⟩
  | ok l =>
    rcases h with ⟨h1, h2⟩ | ⟨h1, u, xs, h2, h3⟩
    · exact ⟨_, _, _, h2, .inl ⟨h1, rfl, rfl, rfl⟩⟩
    · exact ⟨_, _, _, h2, .inr ⟨h1, rfl, rfl, xs, h3⟩⟩
/-- Both sheets in memory. -/
structure Two (E : Nat → Addr) (W : World) (va ev : Value) (ub : Option Addr) (cb : Nat) (c t : Int) (xs : List R4) : Prop where
  a : ∃ B, W.ownsRow B 150 3 va xs.length (cellsR (xs.map R4.rl))
  ok : ∀ x ∈ xs.map R4.rl, RlOk x
  b : R4At W ub xs
  st : ∀ x ∈ xs, StIn W x
  ro : RoOk ub xs
  l : xs.length ≤ 40
  co : ∃ p : Int, (c = 0 ∨ p = t) ∧ ∀ V, EE E V → Below W.heap.size W V → Calls Tryz.prog 55 #[ev] V fun e w' => e = .returned (.tuple #[.int .i64 c, .int .i64 p]) ∧ Below V.heap.size V w'
theorem Two.of {E : Nat → Addr} {r : Except Nat (List Rl)} {B1 B2 : Nat} {va ev um : Value} {c t : Int} {w4 W : World} (hok : ∀ l, r = .ok l → ∀ x ∈ l, RlOk x) (h1 : RdS E B1 r va ev w4) (h2 : ShS r B2 um c t W) (hb : Below w4.heap.size w4 W) : ∃ ub cb xs, um = .slice ub xs.length cb ∧ Two E W va ev ub cb c t xs := by
  have none_ : ∀ (va ev : Value) (c t : Int), va = .slice none 0 0 → (∃ p : Int, (c = 0 ∨ p = t) ∧ ∀ V, EE E V → Below W.heap.size W V → Calls Tryz.prog 55 #[ev] V fun e w' => e = .returned (.tuple #[.int .i64 c, .int .i64 p]) ∧ Below V.heap.size V w') → Two E W va ev none 0 c t [] := fun va ev c t hva hco =>
    ⟨⟨0, by rw [hva]; exact World.ownsRow_nil _ _ _ _⟩, (fun x hx => by cases hx), (fun i x hx => by simp at hx), (fun x hx => by cases hx), .inl ⟨rfl, rfl⟩, Nat.zero_le _, hco⟩
  cases r with
  | error k =>
    obtain ⟨hva, pb, rfl, hpb⟩ := h1
    obtain ⟨rfl, rfl, rfl⟩ := h2
    refine ⟨none, 0, [], rfl, none_ va _ _ _ hva ⟨k, .inr rfl, fun V hE hV => ?_⟩⟩
    have hp := (hV.block pb (heapD_lt ((hb.block pb (heapD_lt hpb)).trans hpb))).trans ((hb.block pb (heapD_lt hpb)).trans hpb)
    have h9 := Code_fault (E := E) 1 pb 0 k (by decide) (by decide) V hE (bcell hp 0 _ rfl) (bcell hp 1 _ rfl)
    exact h9
  | ok l =>
    rcases h1 with ⟨h40, hva, rfl⟩ | ⟨h40, rfl, hown⟩
    · rcases h2 with ⟨-, rfl, rfl, rfl⟩ | ⟨h41, -⟩
      · exact ⟨none, 0, [], rfl, none_ va _ _ _ hva ⟨-1, .inr rfl, fun V hE hV => Code_at 7 (by decide) (by decide) V hE⟩⟩
      · omega
    · rcases h2 with ⟨h41, -⟩ | ⟨-, rfl, rfl, xs, h3, h4, h5⟩
      · omega
      · have hlen : l.length = xs.length := by rw [← h5, List.length_map]
        have h3' := h3
        obtain ⟨ub, cb, rfl, h6⟩ := R4At.of h3
        refine ⟨ub, cb, xs, rfl, ⟨⟨B1, ?_⟩, ?_, h6, h4, ?_, by omega, ⟨-1, .inl rfl, fun V hE hV => (Code_nil V).mono fun e w' h => ⟨h.1, by rw [h.2]; exact Below.refl _ _⟩⟩⟩⟩
        · rw [← hlen, h5]
          exact own_bel hown hb
        · rw [h5]
          exact hok l rfl
        · rcases h3'.2 with ⟨h7, h8⟩ | ⟨g, c, cur, h7, -⟩
          · injection h7 with h7
            exact .inl ⟨h8, h7⟩
          · injection h7 with h7
            exact .inr ⟨g, 0, h7⟩
theorem EE.ceT {E : Nat → Addr} {w : World} (h : EE E w) : CE E w := ⟨h.c4, h.c6, h.c7, h.c8, h.c10⟩
set_option maxRecDepth 20000 in
set_option maxHeartbeats 16000000 in
theorem tells_any (E : Nat → Addr) (n : Nd) (a0 a1 a2 : Value) (s nm : Bs) (W : World) (hE : EE E W) (hMx : MxL W) (ha : NdC W a0 a1 a2 n) :
    Calls Tryz.prog 5 #[.agg #[a0, a1, a2], bV s, bV nm] W fun e w' => e = .returned (.bool true) ∧ Below W.heap.size W w' := by
  obtain ⟨na', oa, na, ka, oa', nb', ka', rfl, rfl, rfl⟩ : ∃ (sa : ByteArray) (oa : Option Addr) (na ka : Nat) (oa' : Option Addr) (na' ka' : Nat), a0 = .string sa ∧ a1 = .slice oa na ka ∧ a2 = .slice oa' na' ka' := by
    obtain ⟨nm, ats, ks⟩ := n
    unfold NdC at ha
    obtain ⟨rfl, -, ⟨o, cap, rfl, -⟩, ok, capk, rfl, -⟩ := ha
    exact ⟨_, _, _, _, _, _, _, rfl, rfl, rfl⟩
  have A0 : NB W.heap.size (.string na') (.slice oa na ka) (.slice oa' nb' ka') (W.alloc (.cells #[.string na', .slice oa na ka, .slice oa' nb' ka'] 25)) := mbox W #[.string na', .slice oa na ka, .slice oa' nb' ka'] 25
  have bV0 := mal W (.cells #[.string na', .slice oa na ka, .slice oa' nb' ka'] 25)
  go_enter Tryz.func5, Tryz.ntmps5
  go_upto_region 1 with fail
  obtain ⟨V, hV⟩ : ∃ V, W.alloc (.cells #[.string na', .slice oa na ka, .slice oa' nb' ka'] 25) = V := ⟨_, rfl⟩
  rw [hV] at A0 bV0 ⊢
  clear hV
  have HE : Hid (EE E V) := hE.below bV0 (Nat.le_refl _)
  have HX : Hid (MxL V) := hMx.below bV0
  have HA : Hid (NdC V (.string na') (.slice oa na ka) (.slice oa' nb' ka') n) := NdC.below bV0 n ha
  clear hE ha hMx
  have DK := styled_any (E := E) V ⟨HE.out.ceT, HE.out.c1, HX.out⟩
  go_upto_region 2 with (go_at_call 37; refine DK.mono ?_; rintro e w1 ⟨rfl, B1⟩)
  clear DK
  have FA := FlatsOf_fit n _ _ _ w1 (NdC.below B1 n HA.out)
  have A1 := (B1.block _ (heap_lt A0)).trans A0
  have x0 := NB.c0 A1
  have x1 := NB.c1 A1
  have x2 := NB.c2 A1
  go_upto_region 3 with (go_at_call 7; refine FA.mono ?_; rintro e w2 ⟨b2, va, rfl, fa⟩)
  clear x0 x1 x2 FA
  have B2 := mbel B1 b2
  have BW2 := mbel bV0 B2
  rcases fa with ⟨-, rfl⟩ | ⟨-, Mx, g, cap, rfl, hM0, hM1, hM2, hM3, hM4⟩
  · go_wp2_with fail
    go_ret
    exact ⟨rfl, BW2⟩
  have hM0' : ((Mx.length : Int) == 0) = false := by rw [beq_eq_false_iff_ne]; omega
  have hszM : szN n = Mx.length := by rw [← flN_len n 0 (-1) 1]; exact hM4.len.symm
  have HSZ : Hid (szN n = Mx.length) := hszM
  have HROW : Hid (RowF w2 g Mx ∧ FlRs w1 Mx (flN 0 (-1) 1 n)) := ⟨hM3, hM4⟩
  clear hszM hM3 hM4
  by_cases hb40 : 40 < Mx.length
  · have hb40' : 40 < (Mx.length : Int) := by omega
    go_wp2_with fail
    go_ret
    exact ⟨rfl, BW2⟩
  have hb40' : ¬ 40 < (Mx.length : Int) := by omega
  by_cases hs15 : 1500 < s.length
  · have hs15' : 1500 < (s.length : Int) := by omega
    go_wp2_with fail
    go_ret
    exact ⟨rfl, BW2⟩
  have hs15' : ¬ 1500 < (s.length : Int) := by omega
  by_cases hn60 : 60 < nm.length
  · have hn60' : 60 < (nm.length : Int) := by omega
    go_wp2_with fail
    go_ret
    exact ⟨rfl, BW2⟩
  have hn60' : ¬ 60 < (nm.length : Int) := by omega
  have E2 := HE.out.below B2 (Nat.le_refl _)
  have RD := ReadS_any s (by omega) w2 (E 1) (E 7) E2.c1 E2.c7 (HX.out.below B2)
  have SO := fun X => SheetOf_ref s (by omega) X
  go_upto_region 6 with (go_at_call 38; refine RD.mono ?_; rintro e w4 ⟨hrd, b4⟩; obtain ⟨va, ev, rfl, hrs⟩ := RdS.of hrd)
  clear RD hrd
  have SO4 := SO w4
  go_upto_region 7 with (go_at_call 39; refine SO4.mono ?_; rintro e w5 ⟨v5, rfl, hsv, b5⟩; obtain ⟨um, c, t, rfl, hss⟩ := ShS.of hsv)
  clear SO SO4 hsv
  obtain ⟨ub, cb, xs, rfl, hT⟩ := Two.of (fun l hl => shA_ok _ _ _ _ (by omega) (fun _ h => by cases h) hl) hrs hss b5
  have HT : Hid (Two E w5 va ev ub cb c t xs) := hT
  clear hT hrs hss
  have n5 := mbox w5 #[.int .i64 c, .int .i64 t] 36
  have d5 := mal w5 (.cells #[.int .i64 c, .int .i64 t] 36)
  obtain ⟨U5, hU5⟩ : ∃ U, w5.alloc (.cells #[.int .i64 c, .int .i64 t] 36) = U := ⟨_, rfl⟩
  obtain ⟨P2, hP2⟩ : ∃ P, w5.heap.size = P := ⟨_, rfl⟩
  rw [hU5] at n5 d5 ⊢
  rw [hP2] at n5 ⊢
  clear hU5 hP2
  obtain ⟨k0, k1, -, -⟩ := Cel2.of n5
  have B5 : Below V.heap.size V w5 := mbel B2 (mbel b4 b5)
  have BU5 := mbel B5 d5
  obtain ⟨p, hp, hco⟩ := HT.out.co
  have FL := faultedL ev c p t U5 hp (fun X hX => hco X (HE.out.below (mbel BU5 hX) (Nat.le_refl _)) (mbel d5 hX))
  obtain ⟨Ba, hao⟩ := HT.out.a
  have SS : ∀ X, Below w5.heap.size w5 X → Calls Tryz.prog 41 #[va, .slice ub xs.length cb] X fun e w' => e = .returned (.bool true) ∧ Below X.heap.size X w' := fun X hX => sameSheet_ref xs HT.out.l Ba va ub cb X (own_bel hao hX) (HT.out.b.below hX)
  have HAO : Hid (w5.ownsRow Ba 150 3 va xs.length (cellsR (xs.map R4.rl))) := hao
  obtain ⟨ova, kva, rfl⟩ := own_slice hao
  clear hp hco hao
  go_upto_region 9 with (first | (go_at_call 42; refine (Of_nil _ _ _ _).mono ?_; rintro e w8 ⟨rfl, hw8⟩; subst hw8) | (go_at_call 41; refine (SS _ (mbel d5 b6)).mono ?_; rintro e w7 ⟨rfl, b7⟩) | (go_at_call 40; refine FL.mono ?_; rintro e w6 ⟨rfl, b6⟩))
  clear FL SS
  have b58 := mbel d5 (mbel b6 b7)
  have B8 := mbel BU5 (mbel b6 b7)
  have BW8 := mbel bV0 B8
  have A8 := (B8.block _ (heap_lt A0)).trans A0
  have x0 := NB.c0 A8
  have x1 := NB.c1 A8
  have x2 := NB.c2 A8
  have E8 := HE.out.below B8 (Nat.le_refl _)
  clear n5 k0 k1
  by_cases hc : (ckN n 1 0).1 = 0
  · have NW := New_S E n _ _ _ w8 E8.ceT (NdC.below B8 n HA.out) (by have := HSZ.out; omega) hc
    have HF : Hid (FitD (newD n)) := FitD.new n hc
    have HOK : Hid (∀ lR, RelE (elN 0 (-1) n) (szN n) lR → OkRE (newD n) lR) := fun lR h => okRE_new hc h
    have H12 : Hid (∀ f ∈ flN 0 (-1) 1 n, f.attrs.length ≤ 12) := fl12 n 0 (-1) 1 (lowN_of n 1 0 hc)
    rw [HSZ.out] at NW
    clear hc
    go_upto_region 12 with (go_at_call 8; refine NW.mono ?_; rintro e w10 ⟨b10, DB, MB, tg, p', rfl, d10⟩)
    clear x0 x1 x2 NW A8
    have HD : Hid (DocS w8.heap.size tg w10 DB MB p' (newD n) Mx.length Mx.length (rkD n)) := d10
    have b210 : Below w2.heap.size w2 w10 := mbel b4 (mbel b5 (mbel b58 b10))
    have DO := DocOf_any n w1 w10 Mx g cap (mbel b2 b210) (HROW.out.1.below b210) HROW.out.2 (by omega) H12.out
    clear d10
    go_upto_region 13 with (go_at_call 11; refine DO.mono ?_; rintro e w11 ⟨rfl, hDR⟩)
    clear DO
    obtain ⟨dv, lR, hRO, hRel, b11⟩ := hDR
    have hRel' : RelE (elN 0 (-1) n) (szN n) lR := by rw [HSZ.out]; exact hRel
    have hlR : lR.length = Mx.length := hRel.1
    obtain ⟨ro, rc, rfl, hRD⟩ := hRO.rdoc
    have b511 := mbel b58 (mbel b10 b11)
    have HSE : Hid (StyE w11 w10.heap.size ro rc lR (newD n) (rkD n) ub xs) := ⟨hRD, HD.out.d, HOK.out lR hRel', (fun i e he => by
      obtain ⟨j, x, h1, h2, -⟩ := all_new hRel' i e he
      exact ⟨j, x, h1, h2⟩), by omega, by omega, HT.out.b.below b511, (fun x hx => (HT.out.st x hx).below b511), HT.out.l⟩
    have HDS : Hid (DocS w8.heap.size tg w11 DB MB p' (newD n) Mx.length Mx.length (rkD n)) := HD.out.below b11
    have HAO11 : Hid (w11.ownsRow Ba 150 3 (.slice ova xs.length kva) xs.length (cellsR (xs.map R4.rl))) := own_bel HAO.out b511
    have BW11 : Below W.heap.size W w11 := mbel BW8 (mbel b10 b11)
    have hxl : (xs.map R4.rl).length = xs.length := List.length_map ..
    have OF : ∀ (X : World) (z : Int) (q : Bs), Below w11.heap.size w11 X → Wf64 z → Calls Tryz.prog 42 #[.pointer (some ⟨DB, 0, none⟩), .slice ova xs.length kva, .int .i64 z, bV q] X fun e w' => e = .returned (bV (ofM (newD n) (xs.map R4.rl) q z)) ∧ Below X.heap.size X w' := fun X z q hX hz => Of_any (HDS.out.below hX).w HDS.out.d HF.out (xs.map R4.rl) HT.out.ok Ba (.slice ova xs.length kva) (by rw [hxl]; exact own_bel HAO11.out hX) z hz q
    have SY : ∀ (X : World) (z : Int) (q : Bs), Below w11.heap.size w11 X → q.length ≤ 100 → Calls Tryz.prog 43 #[.pointer (some ⟨w10.heap.size, 0, none⟩), .slice ub xs.length cb, .int .i64 z, bV q] X fun e w' => e = .returned (bV (ofM (newD n) (xs.map R4.rl) q z)) ∧ Below X.heap.size X w' := fun X z q hX hq => StyleOf_any w10.heap.size ro rc lR (newD n) (rkD n) ub cb xs HT.out.ro q hq z X (HSE.out.below hX)
    clear hRO hRel hRel' hRD hlR hxl
    go_wp2_with fail
    go_loopw [15] (fun i wr => ∃ z : Int, -1 ≤ z ∧ z ≤ (Mx.length : Int) + 1 ∧ i = .int .i64 z ∧ Below w11.heap.size w11 wr) (fun i _ => ((Mx.length : Int) + 1 - intOf i).toNat)
    case atStart => exact ⟨-1, by omega, by omega, rfl, Below.refl _ _⟩
    case round =>
      obtain ⟨z, hz1, hz2, rfl, hb⟩ := hrel
      by_cases hlt : z ≤ (Mx.length : Int)
      · have hwz : Wf64 z := by
          show (Lit.int .i64 z).wf = true
          simp [Lit.wf, IntKind.min, IntKind.max, IntKind.signed, IntKind.bits]
          omega
        have O1 := OF wr z nm hb hwz
        have O2 := fun X hX => SY X z nm hX (by omega)
        have O3 := fun X hX => OF X z [102, 105, 108, 108] hX hwz
        have O4 := fun X hX => SY X z [102, 105, 108, 108] hX (by decide)
        obtain ⟨u1, hu1⟩ : ∃ u, ofM (newD n) (xs.map R4.rl) nm z = u := ⟨_, rfl⟩
        obtain ⟨u2, hu2⟩ : ∃ u, ofM (newD n) (xs.map R4.rl) [102, 105, 108, 108] z = u := ⟨_, rfl⟩
        simp only [hu1] at O1 O2
        simp only [hu2] at O3 O4
        clear hu1 hu2
        go_wp2_with fail
        refine O1.mono ?_
        rintro e w20 ⟨rfl, b20⟩
        have h20 := mbel hb b20
        go_wp2_with fail
        refine (O2 w20 h20).mono ?_
        rintro e w21 ⟨rfl, b21⟩
        have h21 := mbel h20 b21
        go_wp2_with fail
        refine (O3 w21 h21).mono ?_
        rintro e w22 ⟨rfl, b22⟩
        have h22 := mbel h21 b22
        go_wp2_with fail
        refine (O4 w22 h22).mono ?_
        rintro e w23 ⟨rfl, b23⟩
        have h23 := mbel h22 b23
        clear O1 O2 O3 O4
        go_wp2_with fail
        go_roundw
        case rel => exact ⟨z + 1, by omega, by omega, by go_num, h23⟩
        case measure => simp [intOf]; omega
      · have hge : ¬ z ≤ (Mx.length : Int) := hlt
        go_wp2_with fail
        go_ret
        exact ⟨rfl, mbel BW11 hb⟩
  · have NW := New_no E n _ _ _ w8 E8.ceT (NdC.below B8 n HA.out) (by have := HSZ.out; omega) hc
    clear hc
    go_wp2_with (go_at_call 8; refine NW.mono ?_; rintro e w10 ⟨b10, pb, rfl⟩)
    go_ret
    exact ⟨rfl, mbel BW8 b10⟩
theorem tells_ba (E : Nat → Addr) (n : Nd) (a0 a1 a2 : Value) (s1 s2 : ByteArray) (W : World) (hE : EE E W) (hMx : MxL W) (ha : NdC W a0 a1 a2 n) :
    Calls Tryz.prog 5 #[.agg #[a0, a1, a2], .string s1, .string s2] W fun e w' => e = .returned (.bool true) ∧ Below W.heap.size W w' := by
  have h := tells_any E n a0 a1 a2 s1.data.toList s2.data.toList W hE hMx ha
  have e1 : (⟨s1.data.toList.toArray⟩ : ByteArray) = s1 := by cases s1; simp
  have e2 : (⟨s2.data.toList.toArray⟩ : ByteArray) = s2 := by cases s2; simp
  unfold bV at h
  rw [e1, e2] at h
  exact h
end Go.Proofs.YtnoecobddhmhlaaGreatDoor

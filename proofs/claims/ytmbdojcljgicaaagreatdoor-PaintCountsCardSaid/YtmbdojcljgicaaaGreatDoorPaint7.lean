/-
  Package paint: a row of a picture.
-/
import Derived.Test.YtmbdojcljgicaaaGreatDoorPaint4
import Derived.Test.YtmbdojcljgicaaaGreatDoorPaint6
namespace Go.Proofs.YtmbdojcljgicaaaGreatDoor
open Go.RowKit

theorem ask_row (aB aS aZ : Addr) (y : Int) (l : List P5) (w : World) (By : Nat) (hl : ∀ x ∈ l, x.s.pts.length ≤ 1000) (hP : PtsOf w l) (hE : E3 aB aS aZ w) (hy : w.cell? ⟨By, 0, none⟩ = some (.int .i64 y)) : AskR w.heap.size By w l (fun x => !reachM x.s.pts y) := fun x hx V hV =>
  rowOf1_any aB aS aZ x y By V (hl x hx) ((hP x hx).below hV (Nat.le_refl _)) (hE.below hV (Nat.le_refl _)) ((hV.cell (cell_lt hy)).trans hy)
theorem filter_sP (l : List P5) (y : Int) : sP (l.filter fun x => !!reachM x.s.pts y) = (sP l).filter fun s => reachM s.pts y := by
  induction l with
  | nil => rfl
  | cons a l ih =>
    simp only [sP, List.filter_cons, List.map_cons, Bool.not_not] at ih ⊢
    cases h : reachM a.s.pts y with
    | true => simp [ih]
    | false => simp [ih]
set_option maxHeartbeats 2000000 in
theorem DeleteNil (By : Nat) (w : World) : Calls Tryz.prog 25 #[.slice none 0 0, rfV By] w fun e W => e = .returned (.slice none 0 0) ∧ Below w.heap.size w W := by
  have IX := IndexPcs w.heap.size By (fun _ => false) [] none 0 w w (by simp) (fun i x hx => by simp at hx) (Below.refl _ _) (Nat.le_refl _) (fun x hx => by cases hx)
  go_enter Tryz.func25, Tryz.ntmps25
  go_upto_region 2 with (go_at_call 38; refine IX.mono ?_; rintro e w1 ⟨hix, b1⟩; obtain rfl : e = .returned (.int .i64 (-1)) := (by rcases hix with ⟨-, k2⟩ | ⟨k, x, k1, -⟩; exact k2; simp at k1))
  go_wp2_with fail
  go_ret
  exact ⟨rfl, b1⟩
/-- A row that is being filled: as far as k. -/
def rowC (f : Nat → ByteArray) (n k : Nat) : Array Value := ((List.range n).map fun x => if x < k then Value.string (f x) else .string ⟨#[]⟩).toArray
theorem rowC_get (f : Nat → ByteArray) (n k i : Nat) (h : i < n) : (rowC f n k)[i]? = some (if i < k then Value.string (f i) else .string ⟨#[]⟩) := by
  unfold rowC
  rw [List.getElem?_toArray, List.getElem?_map, List.getElem?_range h]
  rfl
theorem rowC_size (f : Nat → ByteArray) (n k : Nat) : (rowC f n k).size = n := by simp [rowC]
theorem rowC_set (f : Nat → ByteArray) (n k : Nat) (h : k < n) : (rowC f n k).setIfInBounds k (.string (f k)) = rowC f n (k + 1) := by
  apply Array.ext_getElem?
  intro i
  by_cases hi : i < n
  · rw [rowC_get f n (k + 1) i hi]
    by_cases e : k = i
    · subst e
      rw [Array.getElem?_setIfInBounds_self_of_lt (by rw [rowC_size]; exact h), if_pos (by omega)]
    · rw [Array.getElem?_setIfInBounds_ne e, rowC_get f n k i hi]
      by_cases h1 : i < k
      · rw [if_pos h1, if_pos (by omega)]
      · rw [if_neg h1, if_neg (by omega)]
  · rw [Array.getElem?_eq_none (by rw [Array.size_setIfInBounds, rowC_size]; omega), Array.getElem?_eq_none (by rw [rowC_size]; omega)]
theorem rowC_zero (f : Nat → ByteArray) (n : Nat) : rowC f n 0 = Array.replicate n (.string ⟨#[]⟩) := by
  apply Array.ext_getElem?
  intro i
  by_cases hi : i < n
  · rw [rowC_get f n 0 i hi, if_neg (by omega), Array.getElem?_replicate, if_pos hi]
  · rw [Array.getElem?_eq_none (by rw [rowC_size]; omega), Array.getElem?_eq_none (by simp; omega)]
theorem madeC (f : Nat → ByteArray) (n : Nat) : madeCells (Value.string ⟨#[]⟩).cells n = rowC f n 0 := by
  apply Array.ext_getElem?
  intro i
  by_cases hi : i < n
  · rw [rowC_get f n 0 i hi, if_neg (by omega)]
    simp [madeCells, Value.cells, hi, Nat.mod_one]
  · rw [Array.getElem?_eq_none (by simp [madeCells]; omega), Array.getElem?_eq_none (by rw [rowC_size]; omega)]
theorem infoStr : (Tryz.prog.info? 9).map (fun i => (i.zero, i.size, i.bytes)) = some (some (.string ⟨#[]⟩), 1, 16) := by kernel_rfl
theorem run_makeT (f : Nat → ByteArray) (n : Nat) (w : World) (hn : n ≤ 100) : (Instr.makeSlice 25 (.int .i64 (n : Int)) (.int .i64 (n : Int))).run Tryz.prog w = .ok (.slice (some ⟨w.heap.size, 0, none⟩) n n) (w.alloc (.cells (rowC f n 0) 9)) := by
  obtain ⟨i0, hi, hz0, hz1, hz2⟩ := info_parts infoStr
  have := run_makeSlice (P := Tryz.prog) (w := w) 25 9 i0 (.string ⟨#[]⟩) Tryz.underlying25 hi hz0 .i64 .i64 n n (by omega) (Int.le_refl _) (by rw [hz1]; omega) (by rw [hz2]; omega) (by omega)
  rw [this, hz1, Int.toNat_natCast, Nat.mul_one, madeC f n]
theorem rowC_full (f : Nat → ByteArray) (n : Nat) : (rowC f n n).toList = ((List.range n).map f).map .string := by
  unfold rowC
  rw [List.map_map]
  apply List.map_congr_left
  intro x hx
  rw [if_pos (List.mem_range.1 hx)]
  rfl
set_option maxRecDepth 20000 in
set_option maxHeartbeats 4000000 in
theorem rowOf_any (aB aS aZ aV : Addr) (l : List P5) (o : Option Addr) (cap n : Nat) (y : Int) (w : World) (hn : n ≤ 100) (hy1 : 0 ≤ y) (hy2 : y ≤ 100) (hl : l.length ≤ 1000) (h : Row5 w o cap l) (hP : PtsOf w l) (hk : ∀ x ∈ l, okPm x.s) (hE : EP aB aS aZ aV w) :
    Calls Tryz.prog 15 #[.slice o l.length cap, .int .i64 n, .int .i64 y] w fun e W => ∃ v, e = .returned v ∧ W.ownsRow w.heap.size 9 1 v n ((rowM reachM (sP l) n y).map .string) ∧ Below w.heap.size w W := by
  have hrow : rowM reachM (sP l) n y = (List.range n).map fun (x : Nat) => shownM (sP (l.filter fun x => !!reachM x.s.pts y)) (cenQ (x : Int) y) := by
    rw [filter_sP]
    rfl
  rw [hrow]
  clear hrow
  obtain ⟨lr, hlr⟩ : ∃ lr, (l.filter fun x => !!reachM x.s.pts y) = lr := ⟨_, rfl⟩
  rw [hlr]
  have HLR : Hid ((l.filter fun x => !!reachM x.s.pts y) = lr) := hlr
  clear hlr
  have b0 := mbelow w (.cells #[.int .i64 y] 3)
  have hcy := (cell_onew w (.int .i64 y) 3).1
  go_enter Tryz.func15, Tryz.ntmps15
  go_upto_region 1 with fail
  obtain ⟨U, hU⟩ : ∃ U, w.alloc (.cells #[.int .i64 y] 3) = U := ⟨_, rfl⟩
  rw [hU] at b0 hcy ⊢
  clear hU
  have hPU := hP.below b0 (Nat.le_refl _)
  have hEU := hE.below b0 (Nat.le_refl _)
  have CL := ClonePcs U o cap l (h.below b0) hl
  go_cut [7] from 10 to 14 (fun v wx => ∃ oo cc, v = .slice oo lr.length cc ∧ P5sAt wx oo lr ∧ Below U.heap.size U wx)
  case first =>
    go_wp2_with (go_at_call 26; refine CL.mono ?_; rintro e w1 ⟨v1, rfl, ow1, b1⟩)
    have hP1 := hPU.below b1 (Nat.le_refl _)
    have hE1 := hEU.below b1 (Nat.le_refl _)
    have hcy1 := (b1.cell (cell_lt hcy)).trans hcy
    have hpl : ∀ x ∈ l, x.s.pts.length ≤ 1000 := fun x hx => by have := (hk x hx).1.1; omega
    have AR := ask_row aB aS aZ y l U w.heap.size hpl hPU hEU.e3 hcy
    rcases ow1.rw with ⟨rfl, rfl⟩ | ⟨b, cc, rfl, hb1, hb2, hb3, hrw⟩
    · have DN := DeleteNil w.heap.size w1
      go_wp2_with (go_at_call 25; refine DN.mono ?_; rintro e w2 ⟨rfl, b2⟩)
      go_meet
      exact ⟨none, 0, by rw [← HLR.out]; rfl, fun i x hx => by rw [← HLR.out] at hx; simp at hx, bel_more b1 b2⟩
    · have DF := DeletePcs U.heap.size w.heap.size (fun x => !reachM x.s.pts y) l b cc U w1 hl hrw hb1 hb2 hb3 b1 AR
      go_wp2_with (go_at_call 25; refine DF.mono ?_; rintro e w2 ⟨rfl, hrw2, b2, -⟩)
      go_meet
      exact ⟨some ⟨b, 0, none⟩, cc, by rw [← HLR.out]; simp, by rw [← HLR.out]; exact hrw2.at_, b2⟩
  case rest =>
    obtain ⟨oo, cc, rfl, hAt, bX⟩ := hcut
    have hPX : PtsOf wc lr := fun x hx => (hPU.below bX (Nat.le_refl _)) x (by rw [← HLR.out] at hx; exact (List.mem_filter.1 hx).1)
    have hkX : ∀ x ∈ lr, okPm x.s := fun x hx => hk x (by rw [← HLR.out] at hx; exact (List.mem_filter.1 hx).1)
    have hlX : lr.length ≤ 1000 := by rw [← HLR.out]; exact Nat.le_trans (List.length_filter_le _ _) hl
    have hEX := hEU.below bX (Nat.le_refl _)
    have hcyX := (bX.cell (cell_lt hcy)).trans hcy
    clear HLR CL
    have bwX := bel_more b0 bX
    have MK := run_makeT (fun x => shownM (sP lr) (cenQ (x : Int) y)) n wc hn
    go_upto_region 3 with fail
    have bM := mbelow wc (.cells (rowC (fun x => shownM (sP lr) (cenQ (x : Int) y)) n 0) 9)
    have rM := World.alloc_heap_new wc (.cells (rowC (fun x => shownM (sP lr) (cenQ (x : Int) y)) n 0) 9)
    obtain ⟨V, hV⟩ : ∃ V, wc.alloc (.cells (rowC (fun x => shownM (sP lr) (cenQ (x : Int) y)) n 0) 9) = V := ⟨_, rfl⟩
    obtain ⟨R, hR⟩ : ∃ R, wc.heap.size = R := ⟨_, rfl⟩
    have hRw : w.heap.size ≤ R := by rw [← hR]; exact bwX.size
    have hcyV := (bM.cell (cell_lt hcyX)).trans hcyX
    rw [hV] at bM rM hcyV ⊢
    rw [hR] at rM ⊢
    have hcyR : w.heap.size < R := by rw [← hR]; exact cell_lt hcyX
    have HR : Hid (wc.heap.size = R) := hR
    clear hV MK hR
    go_wp2_with fail
    go_loopw [18] (fun i wr => ∃ k : Nat, k ≤ n ∧ i = .int .i64 k ∧ wr.heap[R]? = some (.cells (rowC (fun x => shownM (sP lr) (cenQ (x : Int) y)) n k) 9) ∧ Below R wc wr) (fun i _ => n - (intOf i).toNat)
    case atStart => exact ⟨0, Nat.zero_le _, rfl, rM, by rw [← HR.out]; exact bM⟩
    case round =>
      obtain ⟨k, hk', rfl, hrow, hb⟩ := hrel
      by_cases hlt : k < n
      · have hlt' : (k : Int) < (n : Int) := by omega
        have hbW : Below wc.heap.size wc wr := by rw [HR.out]; exact hb
        have hRs : R < wr.heap.size := (Array.getElem?_eq_some_iff.1 hrow).1
        obtain ⟨ec, ip⟩ := cen_ok (x := (k : Int)) (y := y) (by omega) (by omega) hy1 hy2
        have CE := centre_any (k : Int) y wr (by omega) (by omega) (by omega) (by omega)
        have bC := cen_below (k : Int) y wr
        have hcyr := (hbW.cell (cell_lt hcyX)).trans hcyX
        obtain ⟨Z, hZ⟩ : ∃ Z, ((wr.alloc (cenO (k : Int) y)).alloc (halfO (k : Int))).alloc (halfO y) = Z := ⟨_, rfl⟩
        rw [hZ] at CE bC
        have hbZ := bel_more hbW bC
        have SA := shownAt_any aB aS aZ aV lr oo cc (cenQ (k : Int) y) Z hlX (hAt.below hbZ (Nat.le_refl _)) (hPX.below hbZ (Nat.le_refl _)) hkX ip ec (hEX.below hbZ (Nat.le_refl _))
        clear hZ
        have HC : Hid (rowC (fun x => shownM (sP lr) (cenQ (x : Int) y)) n (k + 1) = (rowC (fun x => shownM (sP lr) (cenQ (x : Int) y)) n k).setIfInBounds k (.string (shownM (sP lr) (cenQ (k : Int) y)))) := (rowC_set (fun x => shownM (sP lr) (cenQ (x : Int) y)) n k hlt).symm
        have c0 : wr.cell? ⟨R, k, none⟩ = some (.string ⟨#[]⟩) := by
          simp only [World.cell?, hrow]
          rw [rowC_get _ n k k hlt, if_neg (Nat.lt_irrefl k)]
          rfl
        have f0 : wr.frozen? ⟨R, k, none⟩ = false := by
          unfold World.frozen?
          rw [hrow]
          simp
        generalize shownM (sP lr) (cenQ (k : Int) y) = sh at SA HC
        go_wp2_with (first | (go_at_call 29; refine SA.mono ?_; rintro e w2 ⟨rfl, b2⟩; have bz := bel_more bC b2; have c2 := (bz.cell (cell_lt c0)).trans c0; have f2 := (bz.frozen (cell_lt c0)).trans f0) | (go_at_call 30; refine CE.mono ?_; rintro e w1 ⟨rfl, rfl⟩))
        go_roundw
        case rel =>
          refine ⟨k + 1, by omega, by go_num, ?_, ?_⟩
          · rw [HC.out]
            have := heap_setCell_same w2 R k _ _ (.string sh) (((bz.block R hRs)).trans hrow)
            exact this
          · exact (hb.trans (bz.mono (by omega))).setCell (Nat.le_refl _) _
        case measure => simp [intOf]; omega
      · obtain rfl : k = n := by omega
        go_wp2_with fail
        go_ret
        refine ⟨_, rfl, ⟨by simp, .inr ⟨R, _, _, rfl, hRw, hrow, Nat.le_refl _, by simp only [maxLen]; omega, by rw [rowC_size, Nat.mul_one], ?_⟩⟩, bwX.trans (hb.mono hRw)⟩
        rw [Nat.mul_one, List.take_of_length_le (by rw [Array.length_toList, rowC_size]; exact Nat.le_refl _)]
        exact rowC_full _ _
end Go.Proofs.YtmbdojcljgicaaaGreatDoor

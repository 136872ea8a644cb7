/-
  Package paint: Row and Paint, where the sides are right.
-/
import Derived.Test.YtmbdojcljgicaaaDoorPaint7
import Derived.Deep.AppendLies
import Derived.Deep.RegionLaw
namespace Go.Proofs.YtmbdojcljgicaaaDoor
open Go.RowKit

/-- What Row and Paint answer beside their value. -/
def okAll (l : List P5) : Prop := ∀ x ∈ l, okPm x.s
theorem not_okAll {l : List P5} (h : ∃ x ∈ l, ¬ okPm x.s) : ¬ okAll l := fun hk => by
  obtain ⟨x, hx, hn⟩ := h
  exact hn (hk x hx)
set_option maxRecDepth 20000 in
set_option maxHeartbeats 4000000 in
theorem Row_in (aB aS aZ aV : Addr) (l : List P5) (o : Option Addr) (cap n : Nat) (y : Int) (w : World) (hn1 : 1 ≤ n) (hn : n ≤ 40) (hy1 : 0 ≤ y) (hy2 : y < 40) (hl : l.length ≤ 1000) (h : Row5 w o cap l) (hP : PtsOf w l) (hE : EP aB aS aZ aV w) :
    Calls Tryd.prog 8 #[.slice o l.length cap, .int .i64 n, .int .i64 y] w fun e W => ((okAll l ∧ ∃ v, e = .returned (.tuple #[v, .nilIface]) ∧ W.ownsRow w.heap.size 9 1 v n ((rowM reachM (sP l) n y).map .string)) ∨ (¬ okAll l ∧ ∃ a, e = .returned (.tuple #[.slice none 0 0, .iface 64 (.pointer (some a))]))) ∧ Below w.heap.size w W := by
  have IS := isSide_any (n : Int) w
  rw [show decide (1 ≤ (n : Int) ∧ (n : Int) ≤ 40) = true from by simp; omega] at IS
  have CK := check_pcs aB aS aZ aV l o cap w hl h.at_ hP hE
  have RO := fun V (hv : Below w.heap.size w V) (hk : okAll l) => rowOf_any aB aS aZ aV l o cap n y V (by omega) hy1 (by omega) hl (h.below hv) (hP.below hv (Nat.le_refl _)) hk (hE.below hv (Nat.le_refl _))
  go_enter Tryd.func8, Tryd.ntmps8
  go_upto_region 4 with (first | (go_at_call 12; refine IS.mono ?_; rintro e w1 ⟨rfl, rfl⟩) | (go_at_call 13; refine CK.mono ?_; rintro e w1 ⟨hc, b1⟩; obtain ⟨v, rfl, hv⟩ : ∃ v, e = .returned v ∧ ((okAll l ∧ v = .nilIface) ∨ (¬ okAll l ∧ ∃ a, v = .iface 64 (.pointer (some a)))) := (by rcases hc with ⟨k1, k2⟩ | ⟨k1, a, k2⟩; exact ⟨_, k2, .inl ⟨k1, rfl⟩⟩; exact ⟨_, k2, .inr ⟨not_okAll k1, a, rfl⟩⟩)))
  rcases hv with ⟨hok, rfl⟩ | ⟨hno, a, rfl⟩
  · have RO := RO w1 b1 hok
    go_wp2_with (go_at_call 14; refine RO.mono ?_; rintro e w2 ⟨v, rfl, ow, b2⟩)
    refine bodyPost_ret (results_tmp2 rfl _ _ _) rfl ?_
    exact ⟨.inl ⟨hok, v, rfl, by
      refine ⟨ow.1, ?_⟩
      rcases ow.2 with h0 | ⟨g, c, cur, h1, h2, h3⟩
      · exact .inl h0
      · exact .inr ⟨g, c, cur, h1, Nat.le_trans b1.size h2, h3⟩⟩, bel_more b1 b2⟩
  · go_wp2_with fail
    refine bodyPost_ret (results_tmp2 rfl _ _ _) rfl ?_
    exact ⟨.inr ⟨hno, a, rfl⟩, b1⟩
theorem set3 {w : World} {b : Nat} {x y z : Value} {t : TypeId} (h : w.heap[b]? = some (.cells #[x, y, z] t)) (u0 u1 u2 : Value) : (((w.setCell ⟨b, 0, none⟩ u0).setCell ⟨b, 1, none⟩ u1).setCell ⟨b, 2, none⟩ u2).heap[b]? = some (.cells #[u0, u1, u2] t) := by
  have h1 := heap_setCell_same w b 0 _ _ u0 h
  have h2 := heap_setCell_same _ b 1 _ _ u1 h1
  have h3 := heap_setCell_same _ b 2 _ _ u2 h2
  rw [h3]
  rfl
structure Blk3 (w : World) (b : Nat) (x y z : Value) : Prop where
  c0 : w.cell? ⟨b, 0, none⟩ = some x
  c1 : w.cell? ⟨b, 1, none⟩ = some y
  c2 : w.cell? ⟨b, 2, none⟩ = some z
  f0 : w.frozen? ⟨b, 0, none⟩ = false
  f1 : w.frozen? ⟨b, 1, none⟩ = false
  f2 : w.frozen? ⟨b, 2, none⟩ = false
theorem Blk3.of {w : World} {b : Nat} {x y z : Value} {t : TypeId} (h : w.heap[b]? = some (.cells #[x, y, z] t)) : Blk3 w b x y z := by
  have fz : ∀ j, w.frozen? ⟨b, j, none⟩ = false := fun j => by unfold World.frozen?; rw [h]; simp
  exact ⟨by simp [World.cell?, h], by simp [World.cell?, h], by simp [World.cell?, h], fz 0, fz 1, fz 2⟩
theorem own_base {w : World} {base base' : Nat} {e : TypeId} {size : Nat} {v : Value} {n : Nat} {xs : List Value} (h : w.ownsRow base e size v n xs) (hb : base' ≤ base) : w.ownsRow base' e size v n xs := by
  refine ⟨h.1, ?_⟩
  rcases h.2 with h0 | ⟨g, cap, cur, h1, h2, h3⟩
  · exact .inl h0
  · exact .inr ⟨g, cap, cur, h1, Nat.le_trans hb h2, h3⟩
theorem own_below {w w' : World} {base : Nat} {e : TypeId} {size : Nat} {v : Value} {n : Nat} {xs : List Value} (h : w.ownsRow base e size v n xs) (hb : Below w.heap.size w w') : w'.ownsRow base e size v n xs := by
  refine ⟨h.1, ?_⟩
  rcases h.2 with h0 | ⟨g, cap, cur, h1, h2, h3, h4⟩
  · exact .inl h0
  · exact .inr ⟨g, cap, cur, h1, h2, (hb.block g (Array.getElem?_eq_some_iff.1 h3).1).trans h3, h4⟩
theorem own_set {w : World} {base : Nat} {e : TypeId} {size : Nat} {v : Value} {n : Nat} {xs : List Value} (h : w.ownsRow base e size v n xs) {p : Addr} (hp : p.block < base) (u : Value) : (w.setCell p u).ownsRow base e size v n xs := by
  refine ⟨h.1, ?_⟩
  rcases h.2 with h0 | ⟨g, cap, cur, h1, h2, h3, h4⟩
  · exact .inl h0
  · exact .inr ⟨g, cap, cur, h1, h2, (Below.heap_setCell w p u g (by omega)).trans h3, h4⟩
theorem own_news {w : World} {base g : Nat} {e : TypeId} {n n' cap : Nat} {xs : List Value} (h : w.ownsRow base e 1 (.slice (some ⟨g, 0, none⟩) n' cap) n xs) : ∀ j u, xs[j]? = some u → w.cell? ((⟨g, 0, none⟩ : Addr).add j) = some u := fun j u hj => World.ownsRow.cells h (g := g) rfl j u hj
theorem str_one (l : List ByteArray) : ∀ u ∈ l.map Value.string, u.oneCell' = true := fun u hu => by
  obtain ⟨s, -, rfl⟩ := List.mem_map.1 hu
  rfl
theorem pic_zero (l : List Pm) (n : Nat) : picM reachM l n 0 = [] := rfl
set_option maxRecDepth 20000 in
set_option maxHeartbeats 16000000 in
theorem Paint_in (aB aS aZ aV : Addr) (l : List P5) (o : Option Addr) (cap n h : Nat) (w : World) (hn1 : 1 ≤ n) (hn : n ≤ 40) (hh1 : 1 ≤ h) (hh : h ≤ 40) (hl : l.length ≤ 1000) (hR : Row5 w o cap l) (hP : PtsOf w l) (hE : EP aB aS aZ aV w) :
    Calls Tryd.prog 6 #[.slice o l.length cap, .int .i64 n, .int .i64 h] w fun e W => ((okAll l ∧ ∃ v, e = .returned (.tuple #[.agg #[.int .i64 n, .int .i64 h, v], .nilIface]) ∧ W.ownsRow w.heap.size 9 1 v (n * h) ((picM reachM (sP l) n h).map .string)) ∨ (¬ okAll l ∧ ∃ a, e = .returned (.tuple #[.agg #[.int .i64 0, .int .i64 0, .slice none 0 0], .iface 64 (.pointer (some a))]))) ∧ Below w.heap.size w W := by
  have b0 := mbelow w (.cells #[.int .i64 0, .int .i64 0, .slice none 0 0] 27)
  have r0 := World.alloc_heap_new w (.cells #[.int .i64 0, .int .i64 0, .slice none 0 0] 27)
  have IS := fun V => isSide_any (n : Int) V
  rw [show decide (1 ≤ (n : Int) ∧ (n : Int) ≤ 40) = true from by simp; omega] at IS
  have IH := fun V => isSide_any (h : Int) V
  rw [show decide (1 ≤ (h : Int) ∧ (h : Int) ≤ 40) = true from by simp; omega] at IH
  go_enter Tryd.func6, Tryd.ntmps6
  go_upto_region 1 with fail
  obtain ⟨U, hU⟩ : ∃ U, w.alloc (.cells #[.int .i64 0, .int .i64 0, .slice none 0 0] 27) = U := ⟨_, rfl⟩
  rw [hU] at b0 r0 ⊢
  clear hU
  have CK := check_pcs aB aS aZ aV l o cap U hl (hR.below b0).at_ (hP.below b0 (Nat.le_refl _)) (hE.below b0 (Nat.le_refl _))
  go_upto_region 4 with (first | (go_at_call 13; refine CK.mono ?_; rintro e w1 ⟨hc, b1⟩; obtain ⟨v, rfl, hv⟩ : ∃ v, e = .returned v ∧ ((okAll l ∧ v = .nilIface) ∨ (¬ okAll l ∧ ∃ a, v = .iface 64 (.pointer (some a)))) := (by rcases hc with ⟨k1, k2⟩ | ⟨k1, a, k2⟩; exact ⟨_, k2, .inl ⟨k1, rfl⟩⟩; exact ⟨_, k2, .inr ⟨not_okAll k1, a, rfl⟩⟩)) | (go_at_call_of 12 (Value.int .i64 (h : Int)); refine (IH _).mono ?_; rintro e w1 ⟨rfl, hw⟩; rw [hw]; clear hw) | (go_at_call_of 12 (Value.int .i64 (n : Int)); refine (IS _).mono ?_; rintro e w1 ⟨rfl, hw⟩; rw [hw]; clear hw))
  clear CK IS IH
  have bw1 := bel_more b0 b1
  have r1 := (b1.block _ (Array.getElem?_eq_some_iff.1 r0).1).trans r0
  have q0 : w1.cell? ⟨w.heap.size, 0, none⟩ = some (.int .i64 0) := by simp [World.cell?, r1]
  have q1 : w1.cell? ⟨w.heap.size, 1, none⟩ = some (.int .i64 0) := by simp [World.cell?, r1]
  have q2 : w1.cell? ⟨w.heap.size, 2, none⟩ = some (.slice none 0 0) := by simp [World.cell?, r1]
  have z : ∀ j, w1.frozen? ⟨w.heap.size, j, none⟩ = false := fun j => by unfold World.frozen?; rw [r1]; simp
  have z0 := z 0
  have z1 := z 1
  have z2 := z 2
  rcases hv with ⟨hok, rfl⟩ | ⟨hno, a, rfl⟩
  · go_upto_region 7 with fail
    have b2 := mbelow w1 (.cells #[.int .i64 n, .int .i64 h, .slice none 0 0] 27)
    have r2 := World.alloc_heap_new w1 (.cells #[.int .i64 n, .int .i64 h, .slice none 0 0] 27)
    have sz2 : (w1.alloc (.cells #[.int .i64 n, .int .i64 h, .slice none 0 0] 27)).heap.size = w1.heap.size + 1 := by simp
    obtain ⟨V, hV⟩ : ∃ V, w1.alloc (.cells #[.int .i64 n, .int .i64 h, .slice none 0 0] 27) = V := ⟨_, rfl⟩
    obtain ⟨B, hB⟩ : ∃ B, w1.heap.size = B := ⟨_, rfl⟩
    have hwB : w.heap.size < B := by rw [← hB]; exact (Array.getElem?_eq_some_iff.1 r1).1
    have bwV := bel_more bw1 b2
    rw [hV] at r2 sz2 bwV ⊢
    have bB : Below B w1 V := by rw [← hB, ← hV]; exact b2
    rw [hB] at r2 sz2 ⊢
    have HB : Hid (w1.heap.size = B) := hB
    clear hV hB b2 q0 q1 q2 z z0 z1 z2
    obtain ⟨i0, hi, hz0, hz1, hz2⟩ := info_parts infoStr
    go_wp2_with fail
    go_loopw [31] (fun i wr => ∃ (k : Nat) (v : Value), k ≤ h ∧ i = .int .i64 k ∧ wr.heap[B]? = some (.cells #[.int .i64 n, .int .i64 h, v] 27) ∧ wr.ownsRow (B + 1) 9 1 v (n * k) ((picM reachM (sP l) n k).map .string) ∧ Below B w1 wr) (fun i _ => h - (intOf i).toNat)
    case atStart => exact ⟨0, _, Nat.zero_le _, rfl, r2, World.ownsRow_nil _ _ _ _, bB⟩
    case round =>
      obtain ⟨k, v, hk, rfl, hblk, hown, hb⟩ := hrel
      have hb1 : Below w1.heap.size w1 wr := by rw [HB.out]; exact hb
      have bwr := bel_more bw1 hb1
      have hBs : B < wr.heap.size := (Array.getElem?_eq_some_iff.1 hblk).1
      obtain ⟨c0, c1, c2, f0, f1, f2⟩ := Blk3.of hblk
      by_cases hlt : k < h
      · have hlt' : (k : Int) < (h : Int) := by omega
        have RO := fun V (hv : Below w.heap.size w V) => rowOf_any aB aS aZ aV l o cap n (k : Int) V (by omega) (by omega) (by omega) hl (hR.below hv) (hP.below hv (Nat.le_refl _)) hok (hE.below hv (Nat.le_refl _))
        have hnk : n * k ≤ 40 * 40 := Nat.mul_le_mul hn (by omega)
        go_upto_region 10 with fail
        have hBB : B + 1 ≤ wr.heap.size := hBs
        have c2d : wr.drew.cell? ⟨B, 2, none⟩ = some v := c2
        have hBv : ∀ r, v.ownBlock = some r → B < r := fun r e => by have := (hown.lt r e).1; omega
        have RO2 : ∀ V, Below wr.heap.size wr V → Calls Tryd.prog 14 #[.slice o l.length cap, .int .i64 n, .int .i64 (k : Int)] V fun e w4 => ∃ g1 cap1, e = .returned (.slice (some ⟨g1, 0, none⟩) n cap1) ∧ w4.ownsRow (B + 1) 9 1 v (n * k) ((picM reachM (sP l) n k).map .string) ∧ w4.ownsRow wr.heap.size 9 1 (.slice (some ⟨g1, 0, none⟩) n cap1) n ((rowM reachM (sP l) n (k : Int)).map .string) ∧ Below wr.heap.size wr w4 ∧ w4.cell? ⟨B, 2, none⟩ = some v ∧ B + 1 ≤ w4.heap.size := fun V hV => (RO V (bel_more bwr hV)).mono (by
          rintro e w4 ⟨vr, rfl, owR, b4⟩
          obtain ⟨g1, cap1, rfl, -, -⟩ := owR.form (by omega)
          have b5 := bel_more hV b4
          exact ⟨g1, cap1, rfl, own_below hown b5, own_base owR hV.size, b5, (b5.cell (cell_lt c2)).trans c2, by have := b5.size; omega⟩)
        have KEEP : ∀ w4 w7, Below wr.heap.size wr w4 → w4.grownBy w7 v.ownBlock → w7.heap[B]? = some (.cells #[.int .i64 n, .int .i64 h, v] 27) ∧ Below B w1 w7 := fun w4 w7 b4 gr => by
          have h4 := (b4.block B hBs).trans hblk
          refine ⟨(gr.block B (Array.getElem?_eq_some_iff.1 h4).1 (fun e => by have := hBv B e.symm; omega)).trans h4, ?_⟩
          exact (hb.trans (b4.mono (by omega))).grown gr (by have := b4.size; omega) (fun r e => by have := hBv r e; omega)
        clear RO
        go_region_law (first | (refine step_append_lies _ rfl (.tmp 35) (.tmp 39) 25 rfl (B + 1) 9 i0 (.string ⟨#[]⟩) 1 16 Tryd.underlying25 hi hz0 hz1 hz2 rfl (by decide) v (n * k) ((picM reachM (sP l) n k).map .string) rfl ow4 ⟨g1, 0, none⟩ n cap1 ((rowM reachM (sP l) n (k : Int)).map .string) rfl (by rw [List.length_map, rowM_len, Nat.mul_one]) (own_news owR) (str_one _) (by omega) (by simp only [maxLen]; omega) (by omega) (by omega) _ rfl ?_; intro g7 cap7 w7 ow7 gr7 hat7 hlt7; obtain ⟨hK7, bK7⟩ := KEEP _ _ b4 gr7; obtain ⟨-, -, cc7, -, -, ff7⟩ := Blk3.of hK7) | (go_simp; go_wp2_with (go_at_call 14; refine (RO2 _ (by exact (Below.refl _ _).drew)).mono ?_; rintro e w4 ⟨g1, cap1, rfl, ow4, owR, b4, cc4, hs4⟩)))
        all_goals
          have hfin : (w7.setCell ⟨B, 2, none⟩ (.slice (some ⟨g7, 0, none⟩) (n * k + n) cap7)).heap[B]? = some (.cells #[.int .i64 n, .int .i64 h, .slice (some ⟨g7, 0, none⟩) (n * k + n) cap7] 27) := by
            rw [heap_setCell_same w7 B 2 _ _ _ hK7]
            rfl
          have hpic : (picM reachM (sP l) n (k + 1)).map Value.string = (picM reachM (sP l) n k).map Value.string ++ (rowM reachM (sP l) n (k : Int)).map Value.string := by rw [picM_succ, List.map_append]
          have HFN : Hid (_ ∧ _) := And.intro hfin hpic
          have HOW : Hid (w7.ownsRow (B + 1) 9 1 (.slice (some ⟨g7, 0, none⟩) (n * k + n) cap7) (n * k + n) ((picM reachM (sP l) n k).map .string ++ (rowM reachM (sP l) n (k : Int)).map .string)) := ow7
          clear hfin hpic ow7 gr7 hK7 KEEP RO2 ow4 owR
          go_wp2_with fail
          go_roundw
          case rel =>
            refine ⟨k + 1, _, by omega, by go_num, HFN.out.1, ?_, bK7.setCell (Nat.le_refl _) _⟩
            rw [HFN.out.2, Nat.mul_succ]
            exact own_set HOW.out (by simp) _
          case measure => simp [intOf]; omega
      · obtain rfl : k = h := by omega
        have r3 := (hb.block w.heap.size hwB).trans r1
        obtain ⟨q0, q1, q2, z0, z1, z2⟩ := Blk3.of r3
        obtain ⟨g, cp, rfl, hg, hgl⟩ := hown.form (Nat.mul_pos hn1 hh1)
        go_wp2_with fail
        have r4 := set3 r3 (.int .i64 n) (.int .i64 k) (.slice (some ⟨g, 0, none⟩) (n * k) cp)
        obtain ⟨e0, e1, e2, -, -, -⟩ := Blk3.of r4
        refine bodyPost_ret (v := .tuple #[.agg #[.int .i64 n, .int .i64 k, .slice (some ⟨g, 0, none⟩) (n * k) cp], .nilIface]) (by simp [results, Tryd.results6, go_sem, e0, e1, e2]) rfl ?_
        refine ⟨.inl ⟨hok, _, rfl, ?_⟩, ((bwr.setCell (Nat.le_refl _) _).setCell (Nat.le_refl _) _).setCell (Nat.le_refl _) _⟩
        exact own_base (own_set (own_set (own_set hown (by simp; omega) _) (by simp; omega) _) (by simp; omega) _) (by omega)
  · go_wp2_with fail
    have r3 := set3 r1 (.int .i64 0) (.int .i64 0) (.slice none 0 0)
    obtain ⟨e0, e1, e2, -, -, -⟩ := Blk3.of r3
    refine bodyPost_ret (v := .tuple #[.agg #[.int .i64 0, .int .i64 0, .slice none 0 0], .iface 64 (.pointer (some a))]) (by simp [results, Tryd.results6, go_sem, e0, e1, e2]) rfl ?_
    exact ⟨.inr ⟨hno, a, rfl⟩, ((bw1.setCell (Nat.le_refl _) _).setCell (Nat.le_refl _) _).setCell (Nat.le_refl _) _⟩
end Go.Proofs.YtmbdojcljgicaaaDoor

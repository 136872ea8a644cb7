/-
  ShapeTurns: the walk.
-/
import Derived.Test.YtdjeblcmpegmpaaDoorShape11
import Derived.Deep.Cut
import Derived.Deep.CutRange
namespace Go.Proofs.YtdjeblcmpegmpaaDoor
open Go.RowKit

/-- A row of points that came in. -/
structure RowP (w : World) (o : Option Addr) (cap : Nat) (l : List Qt) : Prop where
  pts : PtsAt w o l
  le : l.length ≤ cap
  no : o = none → cap = 0
theorem RowP.below {w w' : World} {o : Option Addr} {cap : Nat} {l : List Qt} (h : RowP w o cap l) (hb : Below w.heap.size w w') : RowP w' o cap l := ⟨h.pts.below hb (Nat.le_refl _), h.le, h.no⟩

theorem PtsAt.drop {w : World} {a : Addr} {l : List Qt} (h : PtsAt w (some a) l) (k : Nat) : PtsAt w (some (a.add (k * 4))) (l.drop k) := fun i x hx => by
  rw [List.getElem?_drop] at hx
  obtain ⟨b, off, h1, c0, c1, c2, c3, hpi⟩ := h (k + i) x hx
  cases h1
  rw [addr_add]
  have e : off + (k + i) * 4 = off + k * 4 + i * 4 := by omega
  rw [e] at c0 c1 c2 c3
  exact ⟨b, off + k * 4, rfl, c0, c1, c2, c3, hpi⟩
theorem PtsAt.take {w : World} {o : Option Addr} {l : List Qt} (h : PtsAt w o l) (k : Nat) : PtsAt w o (l.take k) := fun i x hx => by
  rw [List.getElem?_take] at hx
  split at hx
  · exact h i x hx
  · cases hx
theorem OwnP.nil (w : World) (base : Nat) : OwnP w base (.slice none 0 0) [] := World.ownsRow_nil _ _ _ _
theorem OwnP.base {w : World} {base base' : Nat} {v : Value} {l : List Qt} (h : OwnP w base v l) (hb : base' ≤ base) : OwnP w base' v l := by
  refine ⟨h.1, ?_⟩
  rcases h.2 with h0 | ⟨g, cap, cur, h1, h2, h3⟩
  · exact .inl h0
  · exact .inr ⟨g, cap, cur, h1, Nat.le_trans hb h2, h3⟩
theorem OwnP.cap {w : World} {base : Nat} {o : Option Addr} {n c : Nat} {l : List Qt} (h : OwnP w base (.slice o n c) l) : l.length ≤ c := by
  rcases h.2 with ⟨-, h0⟩ | ⟨g, cap, cur, h1, -, -, h2, -⟩
  · omega
  · cases h1
    exact h2
theorem OwnP.app {w : World} {base : Nat} {v : Value} {l m : List Qt} {k : Nat} (h : w.ownsRow base 26 4 v (l.length + k) (cellsP l ++ cellsP m)) (hk : k = m.length) : OwnP w base v (l ++ m) := by
  unfold OwnP
  rw [cellsP_app, List.length_append, ← hk]
  exact h

set_option maxRecDepth 20000 in
set_option maxHeartbeats 16000000 in
theorem shturns_any (aB aS aZ : Addr) (l : List Qt) (o : Option Addr) (cap : Nat) (p : Qt) (at_ : Int) (W : World) (hE : E3 aB aS aZ W) (hR : RowP W o cap l) (hp : PI p) (ha : I64 at_) :
    Calls Tryd.prog 3 #[.slice o l.length cap, qtV p, .int .i64 at_] W fun e w' => e = .returned (.bool true) ∧ Below W.heap.size W w' := by
  obtain ⟨ha1, ha2⟩ := ha
  have hb0 := mbelow W (.cells #[.int .i64 p.xn, .int .i64 p.xd, .int .i64 p.yn, .int .i64 p.yd] 26)
  have F0 := Four.new W (.int .i64 p.xn) (.int .i64 p.xd) (.int .i64 p.yn) (.int .i64 p.yd) 26
  go_enter Tryd.func3, Tryd.ntmps3
  go_upto_region 1 with fail
  obtain ⟨V, hV⟩ : ∃ V, W.alloc (.cells #[.int .i64 p.xn, .int .i64 p.xd, .int .i64 p.yn, .int .i64 p.yd] 26) = V := ⟨_, rfl⟩
  rw [hV] at hb0 F0 ⊢
  clear hV
  have SH := shaped_any aB aS aZ V (hE.below hb0 (Nat.le_refl _))
  go_upto_region 2 with (go_at_call 6; refine SH.mono ?_; rintro e w1 ⟨rfl, b1⟩)
  clear SH
  have bw1 := bel_more hb0 b1
  by_cases h15 : 15 < l.length
  · have h15' : 15 < (l.length : Int) := by omega
    go_wp2_with fail
    go_ret
    exact ⟨rfl, bw1⟩
  have h15' : ¬ 15 < (l.length : Int) := by omega
  by_cases hneg : at_ < 0
  · go_wp2_with fail
    go_ret
    exact ⟨rfl, bw1⟩
  by_cases hbig : (l.length : Int) < at_
  · go_wp2_with fail
    go_ret
    exact ⟨rfl, bw1⟩
  obtain ⟨k, rfl⟩ : ∃ k : Nat, at_ = k := ⟨at_.toNat, by omega⟩
  have hk : k ≤ l.length := by omega
  have hR1 := hR.below bw1
  have hE1 := hE.below bw1 (Nat.le_refl _)
  have F1 := F0.below b1 (Nat.le_refl _)
  have OP := OwnPoints_any l o cap w1 (by omega) hR1.pts
  go_upto_region 5 with (go_at_call 7; refine OP.mono ?_; rintro e w2 ⟨v1, rfl, ow1, b2⟩; obtain ⟨o1, c1, rfl, hP1⟩ := ow1.at_ (fun a ha => hR1.pts.pi ha))
  clear OP F0
  obtain ⟨U, hU⟩ : ∃ U, w2.alloc (.cells #[.slice o1 l.length c1] 30) = U := ⟨_, rfl⟩
  have b3 := mbelow w2 (.cells #[.slice o1 l.length c1] 30)
  have s1 := (cell_onew w2 (.slice o1 l.length c1) 30).1
  rw [hU] at b3 s1 ⊢
  clear hU
  obtain ⟨B1, hB1⟩ : ∃ B, w2.heap.size = B := ⟨_, rfl⟩
  have bU := bel_more b2 b3
  have hPU := hP1.below b3 (Nat.le_refl _)
  have hRU := hR1.below bU
  have hEU := hE1.below bU (Nat.le_refl _)
  have FU := F1.below bU (Nat.le_refl _)
  have bWU := bel_more bw1 bU
  rw [hB1] at s1 ⊢
  clear hB1 b3 b2 hP1 ow1 hR1 hE1 F1 bw1 b1
  have WD := Wind_any aB aS aZ l o1 c1 p U hPU hp hEU
  obtain ⟨f0, f1, f2, f3⟩ := id FU
  go_upto_region 6 with (go_at_call 8; refine WD.mono ?_; rintro e w3 ⟨n, cr, v, hv, rfl, b3⟩)
  clear WD f0 f1 f2 f3
  rcases hv with ⟨hok, hpe, hn, -, rfl⟩ | ⟨hno, rfl, -, hv⟩
  · have HOK : Hid (okSh l ∧ errP p = 0) := ⟨hok, hpe⟩
    have HN : Hid (n = windE (turnI p) l) := hn
    clear hok hpe hn
    have s3 := (b3.cell (cell_lt s1)).trans s1
    obtain ⟨f0, f1, f2, f3⟩ := FU.below b3 (Nat.le_refl _)
    have CR := Cross_any aB aS aZ l o1 c1 p w3 (hPU.below b3 (Nat.le_refl _)) hp (hEU.below b3 (Nat.le_refl _))
    go_upto_region 9 with (go_at_call 9; refine CR.mono ?_; rintro e w4 ⟨n', m, v, hv, rfl, b4⟩)
    rcases hv with ⟨-, -, -, hm, rfl⟩ | ⟨hno, -⟩
    · have ho := sum_odd (turnI p) (fun a b => turn_three p a b) (edges l)
      have hm' : m = sumE (fun a b => turnI p a b * turnI p a b) (edges l) := hm
      have hn' : n = sumE (turnI p) (edges l) := HN.out
      rw [← hm', ← hn', edges_len] at ho
      obtain ⟨o1', o2', o3', o4', o5', o6', o7'⟩ := ho
      have hmod : (n - m).tmod 2 = 0 := Int.tmod_eq_zero_of_dvd (Int.dvd_of_emod_eq_zero o1')
      clear hm hm' hn' o1' CR
      have q1 : ¬ m < 0 := by omega
      have q2 : ¬ m < n := by omega
      have q3 : ¬ m < -n := by omega
      obtain ⟨i0, hi, hz0, hz1, hz2⟩ := info_parts infoPt
      go_upto_region 12 with fail
      have hRV := hRU.below (bel_more b3 b4)
      go_cut [12] from 82 to 86 (fun v wx => OwnP wx w4.heap.size v (l.drop k) ∧ Below w4.heap.size w4 wx ∧ (o = none → v = .slice none 0 0))
      case first =>
        cases o with
        | none =>
          have hc0 := hRV.no rfl
          subst hc0
          have hn0 : l = [] := List.length_eq_zero_iff.1 (by have := hRV.le; omega)
          subst hn0
          have hk0 : k = 0 := by simpa using hk
          subst hk0
          go_wp2
          go_meet
          exact ⟨World.ownsRow_nil _ _ _ _, Below.refl _ _, fun _ => rfl⟩
        | some a =>
          have hcap := hRV.le
          have HD : Hid (∀ j u, (cellsP (l.drop k))[j]? = some u → w4.cell? ((a.add (k * 4)).add j) = some u) := pts_news (hRV.pts.drop k)
          by_cases hck : k < cap
          · have hck' : ¬ cap - k = 0 := by omega
            have hck2 : (k : Int) < (cap : Int) := by omega
            go_wp2_with (at_builtin; refine wpList_append_own _ rfl _ _ 22 rfl (w4.heap.size) 26 i0 (.agg #[.int .i64 0, .int .i64 0, .int .i64 0, .int .i64 0]) 4 32 Tryd.underlying22 hi hz0 hz1 hz2 rfl (by decide) _ _ _ rfl (World.ownsRow_nil _ _ _ _) _ _ _ (cellsP (l.drop k)) rfl (by rw [cellsP_len, List.length_drop]) (HD.out) (cellsP_one _) (by simp only [maxLen]; omega) (by omega) (Nat.le_refl _) ?_; intro v7 w7 ow7 gr7 _)
            go_meet
            exact ⟨OwnP.app (l := []) ow7 (by rw [List.length_drop]), (Below.refl _ _).grown gr7 (Nat.le_refl _) (fun k hk => by cases hk), fun h => by cases h⟩
          · have hd : l.drop k = [] := List.drop_eq_nil_iff.2 (by omega)
            obtain rfl : k = cap := by omega
            have hkl : l.length ≤ k := by omega
            have HDN : Hid (l.drop k = []) := hd
            clear hd
            go_wp2_with fail
            go_meet
            rw [HDN.out]
            exact ⟨OwnP.nil _ _, Below.refl _ _, fun h => by cases h⟩
      case rest =>
        obtain ⟨ow8, b8, hn8⟩ := hcut
        obtain ⟨w8, rfl⟩ : ∃ V, V = wc := ⟨_, rfl⟩
        obtain ⟨o8, c8, rfl, -⟩ := ow8.at_ (fun a ha => hRV.pts.pi (List.mem_of_mem_drop ha))
        have hRW := hRV.below b8
        go_upto_region 13 with fail
        go_cut [12] from 87 to 91 (fun v wx => OwnP wx w4.heap.size v (l.drop k ++ l.take k) ∧ Below w4.heap.size w4 wx)
        case first =>
          cases o with
          | none =>
            have hc0 := hRV.no rfl
            subst hc0
            have hn0 : l = [] := List.length_eq_zero_iff.1 (by have := hRV.le; omega)
            subst hn0
            have hk0 : k = 0 := by simpa using hk
            subst hk0
            have hn9 := hn8 rfl
            simp only [Value.slice.injEq] at hn9
            obtain ⟨rfl, -, rfl⟩ := hn9
            go_wp2
            go_meet
            exact ⟨World.ownsRow_nil _ _ _ _, b8⟩
          | some a =>
            have hcap := hRV.le
            have HD : Hid (∀ j u, (cellsP (l.take k))[j]? = some u → w8.cell? (a.add j) = some u) := pts_news (hRW.pts.take k)
            have hlk : (cellsP (l.take k)).length = k * 4 := by rw [cellsP_len, List.length_take]; omega
            have hkc : (k : Int) ≤ (cap : Int) := by omega
            have hwz := b8.size
            go_wp2_with (at_builtin; refine wpList_append_own _ rfl _ _ 22 rfl (w4.heap.size) 26 i0 (.agg #[.int .i64 0, .int .i64 0, .int .i64 0, .int .i64 0]) 4 32 Tryd.underlying22 hi hz0 hz1 hz2 rfl (by decide) _ _ _ rfl (ow8) _ _ _ (cellsP (l.take k)) rfl (hlk) (HD.out) (cellsP_one _) (by rw [List.length_drop]; simp only [maxLen]; omega) (by rw [List.length_drop]; omega) (hwz) ?_; intro v9 w9 ow9 gr9 _)
            go_meet
            exact ⟨OwnP.app ow9 (by rw [List.length_take]; omega), b8.grown gr9 hwz (own_ge' ow8)⟩
        case rest =>
          obtain ⟨ow9, b9⟩ := hcut
          obtain ⟨w9, rfl⟩ : ∃ V, V = wc := ⟨_, rfl⟩
          obtain ⟨o9, c9, rfl, hP9⟩ := ow9.at_ (fun a ha => hRV.pts.pi (by rcases List.mem_append.1 ha with h | h; exact List.mem_of_mem_drop h; exact List.mem_of_mem_take h))
          clear ow8 hRW hn8 b8
          have hlen9 : (l.drop k ++ l.take k).length = l.length := by rw [List.length_append, List.length_drop, List.length_take]; omega
          have hmem9 : ∀ a, a ∈ l.drop k ++ l.take k ↔ a ∈ l := fun a => by
            rw [List.mem_append]
            constructor
            · rintro (h | h)
              · exact List.mem_of_mem_drop h
              · exact List.mem_of_mem_take h
            · intro h
              rw [← List.take_append_drop k l] at h
              exact (List.mem_append.1 h).symm
          have hwd9 : windE (turnI p) (l.drop k ++ l.take k) = n := by rw [HN.out, windE_turn (turnI p) (l.take k) (l.drop k), List.take_append_drop]
          have hok9 : okSh (l.drop k ++ l.take k) := ⟨by rw [hlen9]; exact HOK.out.1.1, fun y hy => HOK.out.1.2 y ((hmem9 y).1 hy)⟩
          obtain ⟨L9, hL9⟩ : ∃ L, l.drop k ++ l.take k = L := ⟨_, rfl⟩
          rw [hL9] at hwd9 hok9 hP9 ow9 ⊢
          have HW9 : Hid (windE (turnI p) L9 = n ∧ okSh L9) := ⟨hwd9, hok9⟩
          clear hL9 hlen9 hmem9 hwd9 hok9 ow9
          go_upto_region 15 with fail
          have b10 := mbelow w9 (.cells #[.slice o9 L9.length c9] 30)
          have s10 := (cell_onew w9 (.slice o9 L9.length c9) 30).1
          obtain ⟨w10, hw10⟩ : ∃ U, w9.alloc (.cells #[.slice o9 L9.length c9] 30) = U := ⟨_, rfl⟩
          rw [hw10] at b10 s10 ⊢
          clear hw10
          have bA := bel_more (bel_more b3 b4) (bel_more b9 b10)
          obtain ⟨f0, f1, f2, f3⟩ := FU.below bA (Nat.le_refl _)
          have WD := Wind_any aB aS aZ L9 o9 c9 p w10 (hP9.below b10 (Nat.le_refl _)) hp (hEU.below bA (Nat.le_refl _))
          go_upto_region 16 with (go_at_call 8; refine WD.mono ?_; rintro e w11 ⟨n2, cr2, v2, hv2, rfl, b11⟩)
          clear f0 f1 f2 f3 WD
          rcases hv2 with ⟨-, -, hn2, -, rfl⟩ | ⟨hno, -⟩
          · obtain rfl : n2 = n := hn2.trans HW9.out.1
            have bB := bel_more bA b11
            clear hn2 b10 bA s10 hP9 b11 b9 s1 s3 hRV
            have hRB := hRU.below bB
            go_wp2_with fail
            go_loopw [15, 16] (fun v y wr => ∃ j : Nat, j ≤ l.length ∧ y = .int .i64 ((j : Int) - 1) ∧ OwnP wr w11.heap.size v (l.drop j).reverse ∧ Below w11.heap.size w11 wr) (fun _ y _ => (intOf y + 1).toNat)
            case atStart => exact ⟨l.length, Nat.le_refl _, rfl, by rw [List.drop_length]; exact OwnP.nil _ _, Below.refl _ _⟩
            case round =>
              obtain ⟨j, hj, rfl, owj, bj⟩ := hrel
              obtain ⟨ob, cb, rfl, hPb⟩ := owj.at_ (fun a ha => hRU.pts.pi (List.mem_of_mem_drop (List.mem_reverse.1 ha)))
              cases j with
              | succ j =>
                have hj0 : ((j + 1 : Nat) : Int) - 1 = (j : Int) := by omega
                rw [hj0]
                obtain ⟨a, ha⟩ : ∃ a, l[j]? = some a := ⟨_, List.getElem?_eq_getElem (by omega)⟩
                obtain ⟨b, off, ho, hq⟩ := (hRB.below bj).pts j a ha
                subst ho
                obtain ⟨q0, q1, q2, q3, hpi⟩ := hq
                have hjl : (j : Int) < (l.length : Int) := by omega
                have hwz := bj.size
                have hrl : ((l.drop (j + 1)).reverse).length ≤ 15 := by rw [List.length_reverse, List.length_drop]; omega
                have hrev : (l.drop j).reverse = (l.drop (j + 1)).reverse ++ [a] := by
                  obtain ⟨hjl', e⟩ := List.getElem?_eq_some_iff.1 ha
                  rw [List.drop_eq_getElem_cons hjl', e, List.reverse_cons]
                have HREV : Hid ((l.drop j).reverse = (l.drop (j + 1)).reverse ++ [a]) := hrev
                have hnb := World.alloc_heap_new wr (.cells #[.int .i64 a.xn, .int .i64 a.xd, .int .i64 a.yn, .int .i64 a.yd] 26)
                have owj' : (wr.alloc (.cells #[.int .i64 a.xn, .int .i64 a.xd, .int .i64 a.yn, .int .i64 a.yd] 26)).ownsRow w11.heap.size 26 4 (.slice ob ((l.drop (j + 1)).reverse).length cb) ((l.drop (j + 1)).reverse).length (cellsP (l.drop (j + 1)).reverse) := World.ownsRow.alloc owj _
                clear hrev ha hj0
                generalize (l.drop (j + 1)).reverse = R at *
                go_wp2_with (at_builtin; refine wpList_append_own _ rfl _ _ 22 rfl (w11.heap.size) 26 i0 (.agg #[.int .i64 0, .int .i64 0, .int .i64 0, .int .i64 0]) 4 32 Tryd.underlying22 hi hz0 hz1 hz2 rfl (by decide) _ _ _ rfl owj' _ _ _ (cellsP [a]) rfl (cellsP_len [a]) (World.news_of_block hnb) (cellsP_one _) (by simp only [maxLen]; omega) (by omega) (by simp; omega) ?_; intro v12 w12 ow12 gr12 _)
                go_roundw
                case rel => exact ⟨j, by omega, by go_num, by rw [HREV.out]; exact OwnP.app ow12 rfl, (bj.alloc hwz _).grown gr12 (by simp; omega) (own_ge' owj')⟩
                case measure => simp [intOf]
              | zero =>
                rw [List.drop_zero] at owj hPb ⊢
                have hwdR : windE (turnI p) l.reverse = -n2 := by
                  rw [windE_rev (turnI p) l (fun a ha b hb => turn_swap (PB.of (HOK.out.1.2 a ha)).pos (PB.of (HOK.out.1.2 b hb)).pos), ← HN.out]
                have hokR : okSh l.reverse := ⟨by rw [List.length_reverse]; exact HOK.out.1.1, fun y hy => HOK.out.1.2 y (List.mem_reverse.1 hy)⟩
                have hlR : l.reverse.length ≤ 15 := by rw [List.length_reverse]; omega
                have HRV : Hid (l.reverse.length = l.length) := List.length_reverse
                have HWR : Hid (windE (turnI p) l.reverse = -n2 ∧ okSh l.reverse) := ⟨hwdR, hokR⟩
                clear hwdR hokR
                obtain ⟨R, hRe⟩ : ∃ R, l.reverse = R := ⟨_, rfl⟩
                rw [hRe] at owj hPb hlR HRV HWR ⊢
                have HRE : Hid (l.reverse = R) := hRe
                clear hRe
                have OP := OwnPoints_any R ob cb wr (by omega) hPb
                have hRJ := hRB.below bj
                have bC := bel_more bB bj
                go_upto_region 24 with (go_at_call 7; refine OP.mono ?_; rintro e w13 ⟨v13, rfl, ow13, b13⟩; obtain ⟨o13, c13, rfl, hP13⟩ := ow13.at_ (fun a ha => hPb.pi ha))
                clear OP
                have b14 := mbelow w13 (.cells #[.slice o13 R.length c13] 30)
                have s14 := (cell_onew w13 (.slice o13 R.length c13) 30).1
                obtain ⟨w14, hw14⟩ : ∃ U, w13.alloc (.cells #[.slice o13 R.length c13] 30) = U := ⟨_, rfl⟩
                rw [hw14] at b14 s14 ⊢
                clear hw14
                have bD0 := bel_more b13 b14
                have bD := bel_more bC bD0
                obtain ⟨f0, f1, f2, f3⟩ := FU.below bD (Nat.le_refl _)
                have WD := Wind_any aB aS aZ R o13 c13 p w14 (hP13.below b14 (Nat.le_refl _)) hp (hEU.below bD (Nat.le_refl _))
                go_upto_region 25 with (go_at_call 8; refine WD.mono ?_; rintro e w15 ⟨n3, cr3, v3, hv3, rfl, b15⟩)
                clear f0 f1 f2 f3 WD ow13 hP13
                rcases hv3 with ⟨-, -, hn3, -, rfl⟩ | ⟨hno, -⟩
                · obtain rfl : n3 = -n2 := hn3.trans HWR.out.1
                  have bE0 := bel_more bD0 b15
                  have bE := bel_more bD b15
                  clear hn3 s14 b14 b13
                  by_cases hl0 : l.length = 0
                  · have hl0' : ((l.length : Int) == 0) = true := by rw [beq_iff_eq]; omega
                    go_wp2_with fail
                    go_ret
                    exact ⟨rfl, bel_more bWU bE⟩
                  · have hl0' : ((l.length : Int) == 0) = false := by rw [beq_eq_false_iff_ne]; omega
                    go_upto_region 27 with fail
                    cases hl : l with
                    | nil => rw [hl] at hl0; exact absurd rfl hl0
                    | cons a t =>
                    have hRX := hRJ.below bE0
                    obtain ⟨b, off, ho, hq⟩ := hRX.pts 0 a (by rw [hl]; rfl)
                    have HLT : Hid (l = a :: t) := hl
                    subst ho
                    have hPI := hq.pi
                    have KS : ∀ V, Below w15.heap.size w15 V → (fun X : World => X.cell? ⟨b, off, none⟩ = some (.int .i64 a.xn) ∧ X.cell? ⟨b, off + 1, none⟩ = some (.int .i64 a.xd) ∧ X.cell? ⟨b, off + 2, none⟩ = some (.int .i64 a.yn) ∧ X.cell? ⟨b, off + 3, none⟩ = some (.int .i64 a.yd)) V := fun V hV => by
                      obtain ⟨q0, q1, q2, q3, -⟩ := hq.below hV (Nat.le_refl _)
                      simp only [Nat.zero_mul, Nat.add_zero] at q0 q1 q2 q3
                      exact ⟨q0, q1, q2, q3⟩
                    have OPX := fun V (hv : Below w15.heap.size w15 V) => OwnPoints_any l (some ⟨b, off, none⟩) cap V (by omega) (hRX.below hv).pts
                    have hpiL : ∀ x ∈ l, PI x := fun x hx => hRX.pts.pi hx
                    have hllen : 0 < l.length := by omega
                    have hllen' : (0 : Int) < (l.length : Int) := by omega
                    rw [← hl]
                    clear hl
                    go_cut [18] from 151 to 157 (fun v wx => OwnP wx w15.heap.size v (l ++ [a]) ∧ Below w15.heap.size w15 wx)
                    case first =>
                      go_region_held3 (fun X => X.cell? ⟨b, off, none⟩ = some (.int .i64 a.xn) ∧ X.cell? ⟨b, off + 1, none⟩ = some (.int .i64 a.xd) ∧ X.cell? ⟨b, off + 2, none⟩ = some (.int .i64 a.yn) ∧ X.cell? ⟨b, off + 3, none⟩ = some (.int .i64 a.yd)) ((refine KS _ ?_; repeat (first | exact Below.refl _ _ | exact hk17 | exact hk16 | refine Below.drew ?_ | refine Below.alloc ?_ (by first | omega | (simp; done) | (simp; omega)) _))) (first | (refine step_append_lies _ rfl (.tmp 152) (.tmp 156) 22 rfl w15.heap.size 26 i0 (.agg #[.int .i64 0, .int .i64 0, .int .i64 0, .int .i64 0]) 4 32 Tryd.underlying22 hi hz0 hz1 hz2 rfl (by decide) (.slice o16 l.length c16) l.length (cellsP l) rfl (World.ownsRow.alloc ow16b _) ⟨w16.heap.size, 0, none⟩ 1 1 (cellsP [a]) rfl (cellsP_len [a]) (World.news_of_block (World.alloc_heap_new w16 _)) (cellsP_one _) (by decide) (by simp only [maxLen]; omega) (by omega) (by simp; omega) _ rfl ?_; intro g17 c17 w17 ow17 gr17 hat17 hlt17; have hk17 : Below w15.heap.size w15 w17 := ((hk16.alloc hz16 _).grown gr17 (by simp; omega) (own_ge' ow16b))) | (refine step_append_lies _ rfl (.tmp 152) (.tmp 156) 22 rfl w15.heap.size 26 i0 (.agg #[.int .i64 0, .int .i64 0, .int .i64 0, .int .i64 0]) 4 32 Tryd.underlying22 hi hz0 hz1 hz2 rfl (by decide) (.slice o16 l.length c16) l.length (cellsP l) rfl (ow16b) ⟨w15.heap.size, 0, none⟩ 1 1 (cellsP [a]) rfl (cellsP_len [a]) (World.news_of_block ((b16.block _ (by simp)).trans (World.alloc_heap_new w15 _))) (cellsP_one _) (by decide) (by simp only [maxLen]; omega) (by omega) (hz16) _ rfl ?_; intro g17 c17 w17 ow17 gr17 hat17 hlt17; have hk17 : Below w15.heap.size w15 w17 := (hk16.grown gr17 hz16 (own_ge' ow16b))) | (go_at_call 7; refine (OPX _ (by repeat (first | exact Below.refl _ _ | refine Below.drew ?_ | refine Below.alloc ?_ (by first | omega | (simp; done) | (simp; omega)) _))).mono ?_; rintro e w16 ⟨v16, rfl, ow16, b16⟩; obtain ⟨o16, c16, rfl, -⟩ := ow16.at_ hpiL; have hk16 : Below w15.heap.size w15 w16 := (by refine Below.trans ?_ (b16.mono (by first | exact Nat.le_refl _ | (simp; done) | (simp; omega))); repeat (first | exact Below.refl _ _ | refine Below.drew ?_ | refine Below.alloc ?_ (by first | omega | (simp; done) | (simp; omega)) _)); have hz16 := hk16.size; have ow16b := OwnP.base (base' := w15.heap.size) ow16 (by first | exact Nat.le_refl _ | (simp; done) | (simp; omega))))
                      all_goals (go_wp2_with fail; go_meet; exact ⟨OwnP.app ow17 rfl, hk17⟩)
                    case rest =>
                      obtain ⟨ow18, b18⟩ := hcut
                      obtain ⟨w18, rfl⟩ : ∃ V, V = wc := ⟨_, rfl⟩
                      have hpi1 : ∀ x ∈ l ++ [a], PI x := fun x hx => by
                        rcases List.mem_append.1 hx with h | h
                        · exact hpiL x h
                        · simp at h; rw [h]; exact hPI
                      obtain ⟨o18, c18, rfl, -⟩ := ow18.at_ hpi1
                      have hcb := owj.cap
                      have hPw := (hPb.below bE0 (Nat.le_refl _)).below b18 (Nat.le_refl _)
                      have hRt : R = t.reverse ++ [a] := by rw [← HRE.out, HLT.out, List.reverse_cons]
                      have hRl : R.length = t.length + 1 := by rw [hRt]; simp
                      obtain ⟨r1, hr1e⟩ : ∃ r1, t.length = r1 := ⟨_, rfl⟩
                      have hRa : R[r1]? = some a := by rw [hRt, ← hr1e, ← List.length_reverse, List.getElem?_concat_length]
                      have hRk : R.take r1 = t.reverse := by rw [hRt, ← hr1e, ← List.length_reverse, List.take_left']; rfl
                      have hr1 : (R.length : Int) - 1 = (r1 : Int) := by omega
                      have hr1l : (r1 : Int) < (R.length : Int) := by omega
                      have hr1c : (r1 : Int) ≤ (cb : Int) := by omega
                      have hr15 : r1 ≤ 14 := by omega
                      obtain ⟨b2, off2, ho2, hq2⟩ := hPw r1 a hRa
                      subst ho2
                      obtain ⟨q0, q1, q2, q3, -⟩ := hq2
                      have hl1 : (l ++ [a]).length ≤ 16 := by simp; omega
                      have hz18 := b18.size
                      have HRK : Hid (R.take r1 = t.reverse) := hRk
                      have hnb := World.alloc_heap_new w18 (.cells #[.int .i64 a.xn, .int .i64 a.xd, .int .i64 a.yn, .int .i64 a.yd] 26)
                      have owA : (w18.alloc (.cells #[.int .i64 a.xn, .int .i64 a.xd, .int .i64 a.yn, .int .i64 a.yd] 26)).ownsRow w15.heap.size 26 4 (.slice o18 (l ++ [a]).length c18) (l ++ [a]).length (cellsP (l ++ [a])) := World.ownsRow.alloc ow18 _
                      have HRR : Hid (R.length = r1 + 1 ∧ l.length = r1 + 1 ∧ (l ++ [a]).length = r1 + 2) := by
                        have h1 : l.length = t.length + 1 := by rw [HLT.out]; rfl
                        exact ⟨by omega, by omega, by simp; omega⟩
                      have HA : Hid (PtsAt w18 (some ⟨b2, off2, none⟩) R) := hPw
                      have hbz := b18.alloc hz18 (.cells #[.int .i64 a.xn, .int .i64 a.xd, .int .i64 a.yn, .int .i64 a.yd] 26)
                      clear hRt hRl hr1e hRa hRk hPw
                      obtain ⟨A1, hA1⟩ : ∃ A, l ++ [a] = A := ⟨_, rfl⟩
                      have HA1 : Hid (l ++ [a] = A1) := hA1
                      rw [hA1] at owA ow18 hl1 HRR ⊢
                      clear hA1
                      go_upto_region 29 with (at_builtin; refine wpList_append_own _ rfl _ _ 22 rfl (w15.heap.size) 26 i0 (.agg #[.int .i64 0, .int .i64 0, .int .i64 0, .int .i64 0]) 4 32 Tryd.underlying22 hi hz0 hz1 hz2 rfl (by decide) _ _ _ rfl (owA) _ _ _ (cellsP ([a])) rfl (cellsP_len [a]) (World.news_of_block hnb) (cellsP_one _) (by simp only [maxLen]; omega) (by omega) (by first | omega | (simp; omega)) ?_; intro v20 w20 ow20 gr20 _)
                      have ow20' := OwnP.app ow20 rfl
                      have b20 := hbz.grown gr20 (by simp; omega) (own_ge' owA)
                      have hpA : ∀ x ∈ A1, PI x := by rw [← HA1.out]; exact hpi1
                      have hpi2 : ∀ x ∈ A1 ++ [a], PI x := fun x hx => by
                        rcases List.mem_append.1 hx with h | h
                        · exact hpA x h
                        · simp at h; rw [h]; exact hPI
                      obtain ⟨o20, c20, rfl, -⟩ := ow20'.at_ hpi2
                      have hP20 : PtsAt w20 (some ⟨b2, off2, none⟩) R := (hPb.below bE0 (Nat.le_refl _)).below b20 (Nat.le_refl _)
                      have HN20 : Hid (∀ j u, (cellsP (R.take r1))[j]? = some u → w20.cell? ((⟨b2, off2, none⟩ : Addr).add j) = some u) := pts_news (hP20.take r1)
                      have hlk : (cellsP (R.take r1)).length = r1 * 4 := by rw [cellsP_len, List.length_take]; have := HRR.out.1; omega
                      have hz20 := b20.size
                      have hl2 : (A1 ++ [a]).length ≤ 17 := by simp; omega
                      clear ow20 gr20 owA hnb q0 q1 q2 q3 hbz b18 hz18 ow18
                      obtain ⟨A2, hA2⟩ : ∃ A, A1 ++ [a] = A := ⟨_, rfl⟩
                      have HA2 : Hid (A1 ++ [a] = A2) := hA2
                      rw [hA2] at ow20' hl2 hpi2 ⊢
                      clear hA2
                      have ow20'' : w20.ownsRow w15.heap.size 26 4 (.slice o20 A2.length c20) A2.length (cellsP A2) := ow20'
                      go_upto_region 30 with (at_builtin; refine wpList_append_own _ rfl _ _ 22 rfl (w15.heap.size) 26 i0 (.agg #[.int .i64 0, .int .i64 0, .int .i64 0, .int .i64 0]) 4 32 Tryd.underlying22 hi hz0 hz1 hz2 rfl (by decide) _ _ _ rfl (ow20'') _ _ _ (cellsP (R.take r1)) rfl (hlk) (HN20.out) (cellsP_one _) (by simp only [maxLen]; omega) (by omega) (by first | omega | (simp; omega)) ?_; intro v21 w21 ow21 gr21 _)
                      have ow21' := OwnP.app ow21 (by rw [List.length_take]; have := HRR.out.1; omega)
                      have b21 := b20.grown gr21 hz20 (own_ge' ow20'')
                      have hpi3 : ∀ x ∈ A2 ++ R.take r1, PI x := fun x hx => by
                        rcases List.mem_append.1 hx with h | h
                        · exact hpi2 x h
                        · exact hPb.pi (List.mem_of_mem_take h)
                      obtain ⟨o21, c21, rfl, hP21⟩ := ow21'.at_ hpi3
                      have hall : A2 ++ R.take r1 = a :: t ++ [a] ++ [a] ++ t.reverse := by rw [← HA2.out, ← HA1.out, HLT.out, HRK.out]
                      have hwdB : windE (turnI p) (A2 ++ R.take r1) = 0 := by
                        rw [hall]
                        exact windE_both (turnI p) a t (fun x hx y hy => turn_swap (PB.of (HOK.out.1.2 x (by rw [HLT.out]; exact hx))).pos (PB.of (HOK.out.1.2 y (by rw [HLT.out]; exact hy))).pos) (turn_self p a)
                      have hokB : (A2 ++ R.take r1).length ≤ 30 → okSh (A2 ++ R.take r1) := fun h30 => ⟨h30, fun y hy => HOK.out.1.2 y (by
                        rw [hall] at hy
                        rw [HLT.out]
                        simp at hy ⊢
                        rcases hy with h | h | h <;> simp [h])⟩
                      have HWB : Hid (windE (turnI p) (A2 ++ R.take r1) = 0 ∧ ((A2 ++ R.take r1).length ≤ 30 → okSh (A2 ++ R.take r1))) := ⟨hwdB, hokB⟩
                      clear hall hwdB hokB ow21 gr21 ow20' ow20'' HN20 hlk
                      obtain ⟨A3, hA3⟩ : ∃ A, A2 ++ R.take r1 = A := ⟨_, rfl⟩
                      rw [hA3] at ow21' hP21 HWB ⊢
                      clear hA3 ow21' hpi3
                      by_cases h30 : 30 < A3.length
                      · have h30' : 30 < (A3.length : Int) := by omega
                        go_wp2_with fail
                        go_ret
                        exact ⟨rfl, bel_more bWU (bel_more bE b21)⟩
                      · have h30' : ¬ 30 < (A3.length : Int) := by omega
                        have b22 := mbelow w21 (.cells #[.slice o21 A3.length c21] 30)
                        have s22 := (cell_onew w21 (.slice o21 A3.length c21) 30).1
                        go_upto_region 33 with fail
                        obtain ⟨w22, hw22⟩ : ∃ U, w21.alloc (.cells #[.slice o21 A3.length c21] 30) = U := ⟨_, rfl⟩
                        rw [hw22] at b22 s22 ⊢
                        clear hw22
                        have bF := bel_more bE (bel_more b21 b22)
                        obtain ⟨f0, f1, f2, f3⟩ := FU.below bF (Nat.le_refl _)
                        have WD := Wind_any aB aS aZ A3 o21 c21 p w22 (hP21.below b22 (Nat.le_refl _)) hp (hEU.below bF (Nat.le_refl _))
                        go_upto_region 34 with (go_at_call 8; refine WD.mono ?_; rintro e w23 ⟨n4, cr4, v4, hv4, rfl, b23⟩)
                        rcases hv4 with ⟨-, -, hn4, -, rfl⟩ | ⟨hno, -⟩
                        · obtain rfl : n4 = 0 := hn4.trans HWB.out.1
                          go_wp2_with fail
                          go_ret
                          exact ⟨rfl, bel_more bWU (bel_more bF b23)⟩
                        · exact absurd ⟨HWB.out.2 (by omega), HOK.out.2⟩ hno
                · exact absurd ⟨HWR.out.2, HOK.out.2⟩ hno
          · exact absurd ⟨HW9.out.2, HOK.out.2⟩ hno
    · exact absurd HOK.out hno
  · rcases hv with ⟨a, rfl⟩ | ⟨a, rfl⟩
    all_goals
      go_wp2_with fail
      go_ret
      exact ⟨rfl, bel_more bWU b3⟩
end Go.Proofs.YtdjeblcmpegmpaaDoor

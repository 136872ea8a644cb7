/-
  The walks of package shape's checked and Box.
-/
import Derived.Test.YtdjeblcmpegmpaaDoorShape10
import Derived.Test.YtdjeblcmpegmpaaDoorShapeM2
import Derived.Test.YtdjeblcmpegmpaaDoorFrac5
import Derived.Deep.CutRange
namespace Go.Proofs.YtdjeblcmpegmpaaDoor
open Go.RowKit

/-- What checked answers. -/
def CkdR (l : List Qt) (o : Option Addr) (cap : Nat) (e : Ending) : Prop :=
  (okSh l ∧ e = .returned (.tuple #[.agg #[.slice o l.length cap], .nilIface])) ∨ (¬ okSh l ∧ ∃ v, ErrV v ∧ e = .returned (.tuple #[.agg #[.slice none 0 0], v]))
set_option maxRecDepth 20000 in
set_option maxHeartbeats 4000000 in
theorem checked_any (aB aS aZ : Addr) (l : List Qt) (o : Option Addr) (cap : Nat) (w : World) (h : PtsAt w o l) (hE : E3 aB aS aZ w) :
    Calls Tryd.prog 40 #[.slice o l.length cap] w fun e W => CkdR l o cap e ∧ Below w.heap.size w W := by
  go_enter Tryd.func40, Tryd.ntmps40
  go_upto_region 2 with fail
  obtain ⟨U, hU⟩ : ∃ U, (w.alloc (.cells #[.slice none 0 0] 30)).alloc (.cells #[.slice o l.length cap] 30) = U := ⟨_, rfl⟩
  have hbU : Below w.heap.size w U := by rw [← hU]; exact ((Below.refl _ _).alloc (Nat.le_refl _) _).alloc (by simp) _
  have c0 : U.cell? ⟨w.heap.size, 0, none⟩ = some (.slice none 0 0) ∧ U.frozen? ⟨w.heap.size, 0, none⟩ = false := by
    rw [← hU]
    have h1 := mbelow (w.alloc (.cells #[.slice none 0 0] 30)) (.cells #[.slice o l.length cap] 30)
    exact ⟨(h1.cell (p := ⟨w.heap.size, 0, none⟩) (by simp)).trans (cell_onew w _ _).1, (h1.frozen (p := ⟨w.heap.size, 0, none⟩) (by simp)).trans (cell_onew w _ _).2⟩
  have c1 : U.cell? ⟨w.heap.size + 1, 0, none⟩ = some (.slice o l.length cap) := by
    have h1 := (cell_onew (w.alloc (.cells #[.slice none 0 0] 30)) (.slice o l.length cap) 30).1
    rw [show (w.alloc (.cells #[.slice none 0 0] 30)).heap.size = w.heap.size + 1 from by simp, hU] at h1
    exact h1
  rw [hU]
  clear hU
  obtain ⟨c0, f0⟩ := c0
  have CK := Check_sh aB aS aZ l o cap U (h.below hbU (Nat.le_refl _)) (hE.below hbU (Nat.le_refl _))
  go_upto_region 3 with (go_at_call 23; refine CK.mono ?_; rintro e w1 ⟨hc, b1⟩; obtain ⟨v, rfl, hcv⟩ : ∃ v, e = .returned v ∧ ((okSh l ∧ v = .nilIface) ∨ (¬ okSh l ∧ ErrV v)) := (by rcases hc.plain with ⟨h1, h2⟩ | ⟨h1, v, h2, h3⟩; exact ⟨_, h2, .inl ⟨h1, rfl⟩⟩; exact ⟨v, h3, .inr ⟨h1, h2⟩⟩))
  have q0 := (b1.cell (cell_lt c0)).trans c0
  have g0 := (b1.frozen (cell_lt c0)).trans f0
  have q1 := (b1.cell (cell_lt c1)).trans c1
  have bw1 := bel_more hbU b1
  clear hc CK c0 f0 c1
  rcases hcv with ⟨hok, rfl⟩ | ⟨hno, hv⟩
  · go_wp2_with fail
    have d0 : (w1.setCell ⟨w.heap.size, 0, none⟩ (.slice o l.length cap)).cell? ⟨w.heap.size, 0, none⟩ = some (.slice o l.length cap) := World.cell?_setCell_same' _ _ _ (by rw [q0]; rfl)
    exact bodyPost_ret (v := .tuple #[.agg #[.slice o l.length cap], .nilIface]) (by simp [results, Tryd.results40, go_sem, d0]) rfl ⟨.inl ⟨hok, rfl⟩, bw1.setCell (by simp) _⟩
  · have d0 : (w1.setCell ⟨w.heap.size, 0, none⟩ (.slice none 0 0)).cell? ⟨w.heap.size, 0, none⟩ = some (.slice none 0 0) := World.cell?_setCell_same' _ _ _ (by rw [q0]; rfl)
    rcases hv with ⟨a, rfl⟩ | ⟨a, rfl⟩
    · go_wp2_with fail
      exact bodyPost_ret (v := .tuple #[.agg #[.slice none 0 0], .iface 108 (.pointer (some a))]) (by simp [results, Tryd.results40, go_sem, d0]) rfl ⟨.inr ⟨hno, _, .inl ⟨a, rfl⟩, rfl⟩, bw1.setCell (by simp) _⟩
    · go_wp2_with fail
      exact bodyPost_ret (v := .tuple #[.agg #[.slice none 0 0], .iface 59 (.pointer (some a))]) (by simp [results, Tryd.results40, go_sem, d0]) rfl ⟨.inr ⟨hno, _, .inr ⟨a, rfl⟩, rfl⟩, bw1.setCell (by simp) _⟩

theorem bcellQ {w : World} {b : Nat} {cs : Array Value} {t : TypeId} {f : Nat × Nat} (h : w.heap[b]? = some (.cells cs t f)) (k : Nat) (v : Value) (hv : cs[k]? = some v) : w.cell? ⟨b, k, none⟩ = some v := by
  simp only [World.cell?, h]
  exact hv
theorem bfrozQ {w : World} {b : Nat} {cs : Array Value} {t : TypeId} (h : w.heap[b]? = some (.cells cs t (0, 0))) (k : Nat) : w.frozen? ⟨b, k, none⟩ = false := by
  simp [World.frozen?, h]
theorem al_old {X : World} {k : Nat} {v : Obj} (o : Obj) (h : X.heap[k]? = some v) : (X.alloc o).heap[k]? = some v := ((mbelow X o).block k (Array.getElem?_eq_some_iff.1 h).1).trans h
theorem al_new {X : World} {k : Nat} (o : Obj) (h : X.heap.size = k) : (X.alloc o).heap[k]? = some o := by rw [← h]; exact World.alloc_heap_new X o
theorem heap6 (w : World) (o0 o1 o2 o3 o4 o5 : Obj) : ∀ U, (((((w.alloc o0).alloc o1).alloc o2).alloc o3).alloc o4).alloc o5 = U →
    U.heap[w.heap.size]? = some o0 ∧ U.heap[w.heap.size + 1]? = some o1 ∧ U.heap[w.heap.size + 1 + 1]? = some o2 ∧ U.heap[w.heap.size + 1 + 1 + 1]? = some o3 ∧ U.heap[w.heap.size + 1 + 1 + 1 + 1]? = some o4 ∧ U.heap[w.heap.size + 1 + 1 + 1 + 1 + 1]? = some o5 ∧ Below w.heap.size w U := by
  rintro U rfl
  refine ⟨?_, ?_, ?_, ?_, ?_, ?_, ?_⟩
  · exact al_old _ (al_old _ (al_old _ (al_old _ (al_old _ (al_new _ rfl)))))
  · exact al_old _ (al_old _ (al_old _ (al_old _ (al_new _ (by simp)))))
  · exact al_old _ (al_old _ (al_old _ (al_new _ (by simp))))
  · exact al_old _ (al_old _ (al_new _ (by simp)))
  · exact al_old _ (al_new _ (by simp))
  · exact al_new _ (by simp)
  · exact ((((((Below.refl _ _).alloc (Nat.le_refl _) _).alloc (by simp) _).alloc (by simp; omega) _).alloc (by simp; omega) _).alloc (by simp; omega) _).alloc (by simp; omega) _
theorem add_c {an ad bn bd : Int} (ha : chk an ad = 0) (hb : chk bn bd = 0) : (add an ad bn bd).c = 0 ∨ (add an ad bn bd).c = 2 := by
  have e : add an ad bn bd = low (an * bd + bn * ad) (ad * bd) := by unfold add; rw [if_neg (by simp [ha]), if_neg (by simp [hb])]
  rw [e]
  rcases low_cases (n := an * bd + bn * ad) (d := ad * bd) with h | h
  · rw [h]; exact .inr rfl
  · exact .inl h
/-- What Box answers. -/
def BoxR (xn xd yn yd wn wd hn hd : Int) (e : Ending) (W : World) : Prop :=
  (∃ Xn Xd Yn Yd b cap, chk xn xd = 0 ∧ chk yn yd = 0 ∧ add xn xd wn wd = ⟨Xn, Xd, 0⟩ ∧ add yn yd hn hd = ⟨Yn, Yd, 0⟩ ∧ okSh (boxL xn xd yn yd Xn Xd Yn Yd) ∧ e = .returned (.tuple #[.agg #[.slice (some ⟨b, 0, none⟩) 4 cap], .nilIface]) ∧ PtsAt W (some ⟨b, 0, none⟩) (boxL xn xd yn yd Xn Xd Yn Yd)) ∨
  (∃ v, ErrV v ∧ e = .returned (.tuple #[.agg #[.slice none 0 0], v]))
set_option maxRecDepth 20000 in
set_option maxHeartbeats 8000000 in
theorem Box_any (aB aS aZ : Addr) (xn xd yn yd wn wd hn hd : Int) (w : World) (hx1 : I64 xn) (hx2 : I64 xd) (hy1 : I64 yn) (hy2 : I64 yd) (hw1 : I64 wn) (hw2 : I64 wd) (hh1 : I64 hn) (hh2 : I64 hd) (hE : E3 aB aS aZ w) :
    Calls Tryd.prog 16 #[.agg #[.int .i64 xn, .int .i64 xd], .agg #[.int .i64 yn, .int .i64 yd], .agg #[.int .i64 wn, .int .i64 wd], .agg #[.int .i64 hn, .int .i64 hd]] w fun e W => BoxR xn xd yn yd wn wd hn hd e W ∧ Below w.heap.size w W := by
  go_enter Tryd.func16, Tryd.ntmps16
  go_wp2
  obtain ⟨U, hU⟩ : ∃ U, (((((w.alloc (.cells #[.int .i64 xn, .int .i64 xd] 24)).alloc (.cells #[.int .i64 yn, .int .i64 yd] 24)).alloc (.cells #[.int .i64 wn, .int .i64 wd] 24)).alloc (.cells #[.int .i64 hn, .int .i64 hd] 24)).alloc (.cells #[.slice none 0 0] 30)).alloc (.cells #[.int .i64 xn, .int .i64 xd, .int .i64 yn, .int .i64 yd, .int .i64 wn, .int .i64 wd, .int .i64 hn, .int .i64 hd] 24) = U := ⟨_, rfl⟩
  obtain ⟨k0, k1, k2, k3, k4, k5, hbU⟩ := heap6 w _ _ _ _ _ _ U hU
  rw [hU]
  clear hU
  have hEU := hE.below hbU (Nat.le_refl _)
  obtain ⟨L, hL⟩ : ∃ L : List (Int × Int), L = [(xn, xd), (yn, yd), (wn, wd), (hn, hd)] := ⟨_, rfl⟩
  have hLl : L.length = 4 := by rw [hL]; rfl
  have hLc : ∀ j n d, L[j]? = some (n, d) → U.cell? ⟨w.heap.size + 1 + 1 + 1 + 1 + 1, j * 2, none⟩ = some (.int .i64 n) ∧ U.cell? ⟨w.heap.size + 1 + 1 + 1 + 1 + 1, j * 2 + 1, none⟩ = some (.int .i64 d) ∧ I64 n ∧ I64 d := fun j n d hj => by
    rw [hL] at hj
    match j, hj with
    | 0, hj => cases hj; exact ⟨bcellQ k5 0 _ rfl, bcellQ k5 1 _ rfl, hx1, hx2⟩
    | 1, hj => cases hj; exact ⟨bcellQ k5 2 _ rfl, bcellQ k5 3 _ rfl, hy1, hy2⟩
    | 2, hj => cases hj; exact ⟨bcellQ k5 4 _ rfl, bcellQ k5 5 _ rfl, hw1, hw2⟩
    | 3, hj => cases hj; exact ⟨bcellQ k5 6 _ rfl, bcellQ k5 7 _ rfl, hh1, hh2⟩
    | (j + 4), hj => simp at hj
  have HL : Hid (L = [(xn, xd), (yn, yd), (wn, wd), (hn, hd)]) := hL
  have HLC : Hid _ := hLc
  have HLL : Hid (L.length = 4) := hLl
  clear hL hLc hLl k5
  go_loopw [22] (fun y wr => ∃ k : Nat, k ≤ 4 ∧ y = .int .i64 k ∧ (∀ j n d, j < k → L[j]? = some (n, d) → chk n d = 0) ∧ Below U.heap.size U wr) (fun y _ => 4 - (intOf y).toNat)
  case atStart => exact ⟨0, by omega, rfl, fun j n d hj => by omega, Below.refl _ _⟩
  case round =>
    obtain ⟨k, hk, rfl, hall, hb⟩ := hrel
    have HA : Hid (∀ j n d, j < k → L[j]? = some (n, d) → chk n d = 0) := hall
    clear hall
    by_cases hlt : k < 4
    · have hlt' : (k : Int) < 4 := by omega
      obtain ⟨⟨n, d⟩, hnd⟩ : ∃ x, L[k]? = some x := ⟨_, List.getElem?_eq_getElem (by have := HLL.out; omega)⟩
      obtain ⟨c0, c1, hn', hd'⟩ := HLC.out k n d hnd
      have c0 := (hb.cell (cell_lt c0)).trans c0
      have c1 := (hb.cell (cell_lt c1)).trans c1
      have HN : Hid (L[k]? = some (n, d)) := hnd
      have hbx := mbelow wr (.cells #[.int .i64 n, .int .i64 d] 24)
      have hbU2 := bel_more hb hbx
      have CK := Check_any aB aS aZ n d (wr.alloc (.cells #[.int .i64 n, .int .i64 d] 24)) hn' hd' (hEU.below hbU2 (Nat.le_refl _))
      clear hnd
      by_cases hc : chk n d = 0
      · rw [hc] at CK
        have HC : Hid (chk n d = 0) := hc
        clear hc
        go_wp2_with (go_at_call 38; refine CK.mono ?_; rintro e w1 ⟨rfl, b1⟩; simp only [er_0])
        go_roundw
        case rel => exact ⟨k + 1, by omega, by go_num, fun j n' d' hj hj2 => by
          rcases Nat.lt_or_ge j k with h | h
          · exact HA.out j n' d' h hj2
          · obtain rfl : j = k := by omega
            have := HN.out.symm.trans hj2
            cases this
            exact HC.out, bel_more hbU2 b1⟩
        case measure => simp [intOf]; omega
      · obtain ⟨ad, hea⟩ := er_cases aB aS aZ (show chk n d = 2 ∨ chk n d = 3 by have := chk_cases n d; omega)
        rw [hea] at CK
        clear hea hc
        have k4r := (hb.block _ (Array.getElem?_eq_some_iff.1 k4).1).trans k4
        go_wp2_with (go_at_call 38; refine CK.mono ?_; rintro e w1 ⟨rfl, b1⟩; have k41 := (b1.block _ (by have := (Array.getElem?_eq_some_iff.1 k4r).1; simp; omega)).trans ((hbx.block _ (Array.getElem?_eq_some_iff.1 k4r).1).trans k4r); have q4 := cell_kept (bcellQ k41 0 _ rfl) (World.grownBy_alloc w1 (.cells #[.int .i64 k, .iface 108 (.pointer (some ad))] 61) none) (fun r e => by cases e); have f4 := (frozen_kept (bcellQ k41 0 _ rfl) (World.grownBy_alloc w1 (.cells #[.int .i64 k, .iface 108 (.pointer (some ad))] 61) none) (fun r e => by cases e)).trans (bfrozQ k41 0))
        have d4 : ((w1.alloc (.cells #[.int .i64 k, .iface 108 (.pointer (some ad))] 61)).setCell ⟨w.heap.size + 1 + 1 + 1 + 1, 0, none⟩ (.slice none 0 0)).cell? ⟨w.heap.size + 1 + 1 + 1 + 1, 0, none⟩ = some (.slice none 0 0) := World.cell?_setCell_same' _ _ _ (by rw [q4]; rfl)
        have bz := bel_more hbU (bel_more hbU2 b1)
        exact bodyPost_ret (v := .tuple #[.agg #[.slice none 0 0], .iface 59 (.pointer (some ⟨w1.heap.size, 0, none⟩))]) (by simp [results, Tryd.results16, go_sem, d4]) rfl ⟨.inr ⟨_, .inr ⟨_, rfl⟩, rfl⟩, (bz.alloc bz.size _).setCell (by simp; omega) _⟩
    · obtain rfl : k = 4 := by omega
      have h4 := HA.out
      rw [HL.out] at h4
      have cx : chk xn xd = 0 := h4 0 xn xd (by omega) rfl
      have cy : chk yn yd = 0 := h4 1 yn yd (by omega) rfl
      have cw : chk wn wd = 0 := h4 2 wn wd (by omega) rfl
      have ch : chk hn hd = 0 := h4 3 hn hd (by omega) rfl
      clear h4 HA
      have hEr := hEU.below hb (Nat.le_refl _)
      have lt := fun {b : Nat} {o : Obj} (h : U.heap[b]? = some o) => (Array.getElem?_eq_some_iff.1 h).1
      have j0 := (hb.block _ (lt k0)).trans k0
      have j1 := (hb.block _ (lt k1)).trans k1
      have j2 := (hb.block _ (lt k2)).trans k2
      have j3 := (hb.block _ (lt k3)).trans k3
      have j4 := (hb.block _ (lt k4)).trans k4
      have bWr := bel_more hbU hb
      clear lt k0 k1 k2 k3 k4 HL HLC HLL
      have AX := Add_any aB aS aZ xn xd wn wd wr hx1 hx2 hw1 hw2 hEr
      have a0 := bcellQ j0 0 _ rfl
      have a1 := bcellQ j0 1 _ rfl
      have a2 := bcellQ j2 0 _ rfl
      have a3 := bcellQ j2 1 _ rfl
      obtain ⟨Xn, Xd, c, hadd⟩ : ∃ n d c, add xn xd wn wd = ⟨n, d, c⟩ := ⟨_, _, _, rfl⟩
      rw [hadd] at AX
      have HX : Hid (add xn xd wn wd = ⟨Xn, Xd, c⟩) := hadd
      clear hadd
      go_upto_region 9 with (go_at_call 39; refine AX.mono ?_; rintro e w1 ⟨rfl, b1⟩)
      have hc1 := add_c cx cw
      rw [HX.out] at hc1
      have hc1 : c = 0 ∨ c = 2 := hc1
      have b2 := mbelow w1 (.cells #[.int .i64 Xn, .int .i64 Xd] 24)
      have kX := World.alloc_heap_new w1 (.cells #[.int .i64 Xn, .int .i64 Xd] 24)
      obtain ⟨V, hV⟩ : ∃ V, w1.alloc (.cells #[.int .i64 Xn, .int .i64 Xd] 24) = V := ⟨_, rfl⟩
      obtain ⟨BX, hBX⟩ : ∃ B, w1.heap.size = B := ⟨_, rfl⟩
      rw [hV] at b2 kX ⊢
      have bV := bel_more b1 b2
      rw [hBX] at kX ⊢
      clear hV hBX b2 b1 AX a0 a1 a2 a3
      have lt := fun {b : Nat} {o : Obj} (h : wr.heap[b]? = some o) => (Array.getElem?_eq_some_iff.1 h).1
      have j0 := (bV.block _ (lt j0)).trans j0
      have j1 := (bV.block _ (lt j1)).trans j1
      have j3 := (bV.block _ (lt j3)).trans j3
      have j4 := (bV.block _ (lt j4)).trans j4
      have bWV := bel_more bWr bV
      have hEV := hEr.below bV (Nat.le_refl _)
      clear lt
      have f4 := bfrozQ j4 0
      have q4 := bcellQ j4 0 _ rfl
      rcases hc1 with rfl | rfl
      · simp only [er_0]
        have AY := Add_any aB aS aZ yn yd hn hd V hy1 hy2 hh1 hh2 hEV
        obtain ⟨Yn, Yd, c, hadd⟩ : ∃ n d c, add yn yd hn hd = ⟨n, d, c⟩ := ⟨_, _, _, rfl⟩
        rw [hadd] at AY
        have HY : Hid (add yn yd hn hd = ⟨Yn, Yd, c⟩) := hadd
        clear hadd
        have a0 := bcellQ j1 0 _ rfl
        have a1 := bcellQ j1 1 _ rfl
        have a2 := bcellQ j3 0 _ rfl
        have a3 := bcellQ j3 1 _ rfl
        go_upto_region 12 with (go_at_call 39; refine AY.mono ?_; rintro e w2 ⟨rfl, b3⟩)
        have hc2 := add_c cy ch
        rw [HY.out] at hc2
        have hc2 : c = 0 ∨ c = 2 := hc2
        have b4 := mbelow w2 (.cells #[.int .i64 Yn, .int .i64 Yd] 24)
        have kY := World.alloc_heap_new w2 (.cells #[.int .i64 Yn, .int .i64 Yd] 24)
        obtain ⟨V2, hV2⟩ : ∃ V, w2.alloc (.cells #[.int .i64 Yn, .int .i64 Yd] 24) = V := ⟨_, rfl⟩
        obtain ⟨BY, hBY⟩ : ∃ B, w2.heap.size = B := ⟨_, rfl⟩
        rw [hV2] at b4 kY ⊢
        have bV2 := bel_more b3 b4
        rw [hBY] at kY ⊢
        clear hV2 hBY b4 b3 AY a0 a1 a2 a3 q4 f4
        have lt := fun {b : Nat} {o : Obj} (h : V.heap[b]? = some o) => (Array.getElem?_eq_some_iff.1 h).1
        have j0 := (bV2.block _ (lt j0)).trans j0
        have j1 := (bV2.block _ (lt j1)).trans j1
        have j4 := (bV2.block _ (lt j4)).trans j4
        have kX := (bV2.block _ (lt kX)).trans kX
        have bWV2 := bel_more bWV bV2
        have hEV2 := hEV.below bV2 (Nat.le_refl _)
        clear lt
        rcases hc2 with rfl | rfl
        · simp only [er_0]
          have cX := (add_some.1 HX.out).2.2.1
          have cY := (add_some.1 HY.out).2.2.1
          have iX := i64_of_chk cX
          have iY := i64_of_chk cY
          have x0 := bcellQ j0 0 _ rfl
          have x1 := bcellQ j0 1 _ rfl
          have y0 := bcellQ j1 0 _ rfl
          have y1 := bcellQ j1 1 _ rfl
          have X0 := bcellQ kX 0 _ rfl
          have X1 := bcellQ kX 1 _ rfl
          have Y0 := bcellQ kY 0 _ rfl
          have Y1 := bcellQ kY 1 _ rfl
          have b5 := mbelow V2 (.cells #[.int .i64 xn, .int .i64 xd, .int .i64 yn, .int .i64 yd, .int .i64 Xn, .int .i64 Xd, .int .i64 yn, .int .i64 yd, .int .i64 Xn, .int .i64 Xd, .int .i64 Yn, .int .i64 Yd, .int .i64 xn, .int .i64 xd, .int .i64 Yn, .int .i64 Yd] 26)
          have kL := World.alloc_heap_new V2 (.cells #[.int .i64 xn, .int .i64 xd, .int .i64 yn, .int .i64 yd, .int .i64 Xn, .int .i64 Xd, .int .i64 yn, .int .i64 yd, .int .i64 Xn, .int .i64 Xd, .int .i64 Yn, .int .i64 Yd, .int .i64 xn, .int .i64 xd, .int .i64 Yn, .int .i64 Yd] 26)
          have hP := pts_four (a0 := ⟨xn, xd, yn, yd⟩) (a1 := ⟨Xn, Xd, yn, yd⟩) (a2 := ⟨Xn, Xd, Yn, Yd⟩) (a3 := ⟨xn, xd, Yn, Yd⟩) kL ⟨hx1, hx2, hy1, hy2⟩ ⟨iX.1, iX.2, hy1, hy2⟩ ⟨iX.1, iX.2, iY.1, iY.2⟩ ⟨hx1, hx2, iY.1, iY.2⟩
          have CK := checked_any aB aS aZ (boxL xn xd yn yd Xn Xd Yn Yd) (some ⟨V2.heap.size, 0, none⟩) 4 _ hP (hEV2.below b5 (Nat.le_refl _))
          have j4' := (b5.block _ (Array.getElem?_eq_some_iff.1 j4).1).trans j4
          go_wp2_with (go_at_call 40; refine CK.mono ?_; rintro e w3 ⟨hck, b6⟩; have j4'' := (b6.block _ (Array.getElem?_eq_some_iff.1 j4').1).trans j4'; have q4 := bcellQ j4'' 0 _ rfl; have f4 := bfrozQ j4'' 0; obtain ⟨os, ns, cs, v, rfl, hsv⟩ : ∃ os ns cs v, e = .returned (.tuple #[.agg #[.slice os ns cs], v]) ∧ ((okSh (boxL xn xd yn yd Xn Xd Yn Yd) ∧ os = some ⟨V2.heap.size, 0, none⟩ ∧ ns = 4 ∧ cs = 4 ∧ v = .nilIface) ∨ (os = none ∧ ns = 0 ∧ cs = 0 ∧ ErrV v)) := (by rcases hck with ⟨h1, rfl⟩ | ⟨h1, v, h2, rfl⟩; exact ⟨_, _, _, _, rfl, .inl ⟨h1, rfl, rfl, rfl, rfl⟩⟩; exact ⟨_, _, _, _, rfl, .inr ⟨rfl, rfl, rfl, h2⟩⟩))
          have d4 : (w3.setCell ⟨w.heap.size + 1 + 1 + 1 + 1, 0, none⟩ (.slice os ns cs)).cell? ⟨w.heap.size + 1 + 1 + 1 + 1, 0, none⟩ = some (.slice os ns cs) := World.cell?_setCell_same' _ _ _ (by rw [q4]; rfl)
          have bz := bel_more (bel_more bWV2 b5) b6
          refine bodyPost_ret (v := .tuple #[.agg #[.slice os ns cs], v]) (by simp [results, Tryd.results16, go_sem, d4]) rfl ⟨?_, bz.setCell (by simp; omega) _⟩
          rcases hsv with ⟨hok, rfl, rfl, rfl, rfl⟩ | ⟨rfl, rfl, rfl, hv⟩
          · refine .inl ⟨Xn, Xd, Yn, Yd, _, _, cx, cy, HX.out, HY.out, hok, rfl, ?_⟩
            have hP3 := hP.below b6 (Nat.le_refl _)
            have hne : V2.heap.size ≠ w.heap.size + 1 + 1 + 1 + 1 := by have := (Array.getElem?_eq_some_iff.1 j4).1; omega
            intro i a ha
            obtain ⟨b, off, h1, c0, c1, c2, c3, hpi⟩ := hP3 i a ha
            cases h1
            have far : ∀ k v, w3.cell? ⟨V2.heap.size, k, none⟩ = some v → (w3.setCell ⟨w.heap.size + 1 + 1 + 1 + 1, 0, none⟩ (.slice (some ⟨V2.heap.size, 0, none⟩) 4 4)).cell? ⟨V2.heap.size, k, none⟩ = some v := fun k v hv => by
              rw [World.cell?_setCell_far _ _ _ _ (by simp; exact fun e => hne e.symm)]
              exact hv
            exact ⟨_, 0, rfl, far _ _ c0, far _ _ c1, far _ _ c2, far _ _ c3, hpi⟩
          · exact .inr ⟨v, hv, rfl⟩
        · have e2 : er aB aS aZ 2 = .iface 108 (.pointer (some aB)) := rfl
          simp only [e2]
          have f4 := bfrozQ j4 0
          have q4 := bcellQ j4 0 _ rfl
          have d4 : (V2.setCell ⟨w.heap.size + 1 + 1 + 1 + 1, 0, none⟩ (.slice none 0 0)).cell? ⟨w.heap.size + 1 + 1 + 1 + 1, 0, none⟩ = some (.slice none 0 0) := World.cell?_setCell_same' _ _ _ (by rw [q4]; rfl)
          go_wp2_with fail
          exact bodyPost_ret (v := .tuple #[.agg #[.slice none 0 0], .iface 108 (.pointer (some aB))]) (by simp [results, Tryd.results16, go_sem, d4]) rfl ⟨.inr ⟨_, .inl ⟨_, rfl⟩, rfl⟩, bWV2.setCell (by simp; omega) _⟩
      · have e2 : er aB aS aZ 2 = .iface 108 (.pointer (some aB)) := rfl
        simp only [e2]
        have f4 := bfrozQ j4 0
        have q4 := bcellQ j4 0 _ rfl
        have d4 : (V.setCell ⟨w.heap.size + 1 + 1 + 1 + 1, 0, none⟩ (.slice none 0 0)).cell? ⟨w.heap.size + 1 + 1 + 1 + 1, 0, none⟩ = some (.slice none 0 0) := World.cell?_setCell_same' _ _ _ (by rw [q4]; rfl)
        go_wp2_with fail
        exact bodyPost_ret (v := .tuple #[.agg #[.slice none 0 0], .iface 108 (.pointer (some aB))]) (by simp [results, Tryd.results16, go_sem, d4]) rfl ⟨.inr ⟨_, .inl ⟨_, rfl⟩, rfl⟩, bWV.setCell (by simp; omega) _⟩
end Go.Proofs.YtdjeblcmpegmpaaDoor

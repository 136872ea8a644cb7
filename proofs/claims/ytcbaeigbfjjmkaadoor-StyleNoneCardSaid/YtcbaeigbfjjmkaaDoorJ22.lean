/-
  Package pick: Fits; All where all fit.
-/
import Derived.Test.YtcbaeigbfjjmkaaDoorPick10
import Derived.Test.YtcbaeigbfjjmkaaDoorJ12
import Derived.Test.YtcbaeigbfjjmkaaDoorJ21
namespace Go.Proofs.YtcbaeigbfjjmkaaDoor
open Go.RowKit Go.Shelf

theorem run_store_fn (P : Program) (w : World) (a : Addr) (f : Fn) (x y : Array Value) (m : Mode) : (store a (.func f x y) m).run P w = stored P w a (.func f x y) m := run_store P w a _ m rfl
attribute [local go_sem] run_store_fn
section
variable {B : Nat} {tg : Tags} {W : World} {DB MB : Nat} {p : Int → Option Nat} {M : Dm} {nx c : Nat} {r : Int → Nat}
set_option maxRecDepth 20000 in
set_option maxHeartbeats 4000000 in
theorem Fits_doc (h : DocW B tg W DB MB p M nx c) (hw : Wd M r) (hF : FitD M) (s : Bs) (hs : s.length ≤ 1000000) (hs0 : s ≠ []) (n : Int) (hn : Wf64 n) :
    Calls Tryd.prog 25 #[.agg #[bV s], .pointer (some ⟨DB, 0, none⟩), .int .i64 n] W fun e w' => e = .returned (.bool (fitsM M s n)) ∧ Below W.heap.size W w' := by
  have hem : s.isEmpty = false := by
    cases s with
    | nil => exact absurd rfl hs0
    | cons _ _ => rfl
  obtain ⟨hS0, hD0, hT0, hsz0, b0⟩ := three_blocks W (.cells #[bV s] 55) (.cells #[.pointer (some ⟨DB, 0, none⟩)] 30) (.cells #[.nilFunc] 101)
  go_enter Tryd.func25, Tryd.ntmps25
  go_upto_region 4 with fail
  obtain ⟨U, hU⟩ : ∃ U, (((W.alloc (.cells #[bV s] 55)).alloc (.cells #[.pointer (some ⟨DB, 0, none⟩)] 30)).alloc (.cells #[.nilFunc] 101)) = U := ⟨_, rfl⟩
  rw [hU] at hS0 hD0 hT0 hsz0 b0 ⊢
  clear hU
  have c1 := cell_one hT0
  have f1 := froz_one hT0
  have hT1 := set_one hT0 (tryV (W.heap.size + 1) (W.heap.size + 1 + 1))
  have hD1 : (U.setCell ⟨W.heap.size + 1 + 1, 0, none⟩ (tryV (W.heap.size + 1) (W.heap.size + 1 + 1))).heap[W.heap.size + 1]? = some (.cells #[.pointer (some ⟨DB, 0, none⟩)] 30) := (Below.heap_setCell _ _ _ _ (by simp only; omega)).trans hD0
  have hS1 : (U.setCell ⟨W.heap.size + 1 + 1, 0, none⟩ (tryV (W.heap.size + 1) (W.heap.size + 1 + 1))).heap[W.heap.size]? = some (.cells #[bV s] 55) := (Below.heap_setCell _ _ _ _ (by simp only; omega)).trans hS0
  have b1 : Below W.heap.size W (U.setCell ⟨W.heap.size + 1 + 1, 0, none⟩ (tryV (W.heap.size + 1) (W.heap.size + 1 + 1))) := b0.setCell (by simp only; omega) _
  go_upto_region 5 with fail
  obtain ⟨U1, hU1⟩ : ∃ U1, U.setCell ⟨W.heap.size + 1 + 1, 0, none⟩ (tryV (W.heap.size + 1) (W.heap.size + 1 + 1)) = U1 := ⟨_, rfl⟩
  rw [hU1] at hT1 hD1 hS1 b1 ⊢
  clear hU1
  have d1 := cell_one hT1
  have d2 := cell_one hD1
  have d3 := cell_one hS1
  have TR := try_doc (h.below b1) hw hF (W.heap.size + 1) (W.heap.size + 1 + 1) d2 d1 (s.length + 1) s n U1 (by omega) hs hn (Below.refl _ _)
  go_wp2_with (go_at_call 52; refine TR.mono ?_; rintro e w2 ⟨rfl, b2⟩)
  go_ret
  exact ⟨rfl, mbel b1 b2⟩
set_option maxHeartbeats 2000000 in
/-- A row of numbers: where none is to be struck, it is looked through. -/
theorem IndexNone (L : List Int) (B0 PS PD : Nat) (v : Value) (W : World) (h : W.ownsRow B0 3 1 v L.length (intsV L))
    (hg : ∀ m V, m ∈ L → Below W.heap.size W V → Calls Tryd.prog 51 #[.int .i64 m, .pointer (some ⟨PS, 0, none⟩), .pointer (some ⟨PD, 0, none⟩)] V fun e w' => e = .returned (.bool false) ∧ Below V.heap.size V w') :
    Calls Tryd.prog 81 #[v, .func (.func 51) #[] #[.pointer (some ⟨PS, 0, none⟩), .pointer (some ⟨PD, 0, none⟩)]] W fun e w' => e = .returned (.int .i64 (-1)) ∧ Below W.heap.size W w' := by
  obtain ⟨o, cap, hvo, h1, h2, h3, h5⟩ := row_slice h
  have hlen : (L.length : Int) ≤ 9223372036854775807 := by rw [maxLen_eq] at h2; omega
  have hcap : (L.length : Int) ≤ (cap : Int) := by omega
  have HR : Hid (W.ownsRow B0 3 1 v L.length (intsV L)) := h
  have HG : Hid (∀ m V, m ∈ L → Below W.heap.size W V → Calls Tryd.prog 51 #[.int .i64 m, .pointer (some ⟨PS, 0, none⟩), .pointer (some ⟨PD, 0, none⟩)] V fun e w' => e = .returned (.bool false) ∧ Below V.heap.size V w') := hg
  have H5 : Hid (∀ g, v.ownBlock = some g → o = some ⟨g, 0, none⟩) := h5
  subst hvo
  clear h hg h5 h3
  go_enter Tryd.func81, Tryd.ntmps81
  go_wp2_with fail
  go_loopw [8] (fun y wr => ∃ k : Nat, k ≤ L.length ∧ y = .int .i64 k ∧ Below W.heap.size W wr) (fun y _ => L.length - (intOf y).toNat)
  case atStart => exact ⟨0, Nat.zero_le _, rfl, Below.refl _ _⟩
  case round =>
    obtain ⟨k, hk, rfl, hb⟩ := hrel
    by_cases hlt : k < L.length
    · have hlt' : (k : Int) < (L.length : Int) := by omega
      obtain ⟨x, hx⟩ : ∃ x, L[k]? = some x := ⟨_, List.getElem?_eq_getElem hlt⟩
      obtain ⟨g, hg, hc⟩ := row_get (own_bel HR.out hb) k _ (intsV_get hx)
      have hog := H5.out g hg
      subst hog
      have GM := HG.out x wr (List.mem_of_getElem? hx) hb
      clear hg hx
      go_wp2_with (go_at_call 51; refine GM.mono ?_; rintro e w1 ⟨rfl, hb1⟩)
      go_roundw
      case rel => exact ⟨k + 1, by omega, by go_num, mbel hb hb1⟩
      case measure => simp [intOf]; omega
    · have hge : ¬ (k : Int) < (L.length : Int) := by omega
      go_wp2_with fail
      go_ret
      exact ⟨rfl, hb⟩
end

end Go.Proofs.YtcbaeigbfjjmkaaDoor

namespace Go.Proofs.YtcbaeigbfjjmkaaDoor
open Go.RowKit Go.Shelf

theorem star_cut : cutM [42] = ([], .no, [42]) := rfl
theorem star_fits {M : Dm} {n : Int} {e : Elm} (he : M n = some e) (hn : e.name ≠ []) : fitsM M [42] n = true := by
  rw [fitsM_no star_cut]
  unfold fitSt
  rw [he]
  show (e.name != [] && (ptsOf [42]).all (fitPt e)) = true
  rw [show ptsOf [42] = [(0, [42])] from rfl]
  simp [hn, fitPt, anyNm]
section
variable {B : Nat} {tg : Tags} {W : World} {DB MB : Nat} {p : Int → Option Nat} {M : Dm} {nx c : Nat} {r : Int → Nat}
set_option maxHeartbeats 2000000 in
theorem AllF_any (h : DocW B tg W DB MB p M nx c) (hw : Wd M r) (hF : FitD M) (s : Bs) (hs : s.length ≤ 1000000) (hs0 : s ≠ []) (n : Int) (hn : Wf64 n) (PS PD : Nat) (h1 : W.cell? ⟨PS, 0, none⟩ = some (bV s)) (h2 : W.cell? ⟨PD, 0, none⟩ = some (.pointer (some ⟨DB, 0, none⟩))) :
    Calls Tryd.prog 51 #[.int .i64 n, .pointer (some ⟨PS, 0, none⟩), .pointer (some ⟨PD, 0, none⟩)] W fun e w' => e = .returned (.bool (!fitsM M s n)) ∧ Below W.heap.size W w' := by
  have FD := Fits_doc h hw hF s hs hs0 n hn
  go_enter Tryd.func51, Tryd.ntmps51
  go_wp2_with (go_at_call 25; refine FD.mono ?_; rintro e w1 ⟨rfl, b1⟩)
  go_ret
  exact ⟨rfl, b1⟩
set_option maxHeartbeats 4000000 in
theorem All_star (h : DocS B tg W DB MB p M nx c r) (hF : FitD M) :
    Calls Tryd.prog 24 #[.pointer (some ⟨DB, 0, none⟩), .agg #[.string ⟨#[42]⟩]] W fun e w' => ∃ o k, e = .returned (.slice o c k) ∧ Below W.heap.size W w' := by
  obtain ⟨hD0, hS0, -, -, -⟩ := three_blocks W (.cells #[.pointer (some ⟨DB, 0, none⟩)] 30) (.cells #[.string ⟨#[42]⟩] 55) (.cells #[] 3)
  have n0 := World.alloc_heap_new W (.cells #[.pointer (some ⟨DB, 0, none⟩)] 30)
  have n1 := World.alloc_heap_new (W.alloc (.cells #[.pointer (some ⟨DB, 0, none⟩)] 30)) (.cells #[.string ⟨#[42]⟩] 55)
  rw [World.size_alloc] at n1
  have n0' : ((W.alloc (.cells #[.pointer (some ⟨DB, 0, none⟩)] 30)).alloc (.cells #[.string ⟨#[42]⟩] 55)).heap[W.heap.size]? = some (.cells #[.pointer (some ⟨DB, 0, none⟩)] 30) := (Below.heap_alloc _ _ _ (by rw [World.size_alloc]; omega)).trans n0
  have b0 : Below W.heap.size W ((W.alloc (.cells #[.pointer (some ⟨DB, 0, none⟩)] 30)).alloc (.cells #[.string ⟨#[42]⟩] 55)) := ((Below.refl _ W).alloc (Nat.le_refl _) _).alloc (by rw [World.size_alloc]; omega) _
  have hll := h.alll
  obtain ⟨La, hLa, hlen, -⟩ := h.all
  have hin : ∀ y ∈ fromL M 11 0, ∃ e, M y = some e := fun y hy => ((h.d.mem h.d.dp0).1 hy).in_
  rw [← hLa] at hlen
  clear hD0 hS0 n0 hLa La
  go_enter Tryd.func24, Tryd.ntmps24
  go_upto_region 1 with fail
  obtain ⟨U, hU⟩ : ∃ U, (W.alloc (.cells #[.pointer (some ⟨DB, 0, none⟩)] 30)).alloc (.cells #[.string ⟨#[42]⟩] 55) = U := ⟨_, rfl⟩
  rw [hU] at n0' n1 b0 ⊢
  clear hU
  have hd := h.below b0
  have AL := All_doc hd.w 11 (by omega) hd.d.dp0 (by omega)
  obtain ⟨L, hL⟩ : ∃ L, fromL M 11 0 = L := ⟨_, rfl⟩
  rw [hL] at AL hin hlen hll
  clear hL
  have c1 := cell_one n0'
  have c2 := cell_one n1
  have HLN : Hid (L.length = c) := hlen
  clear hlen
  have DF : ∀ V o k, Below U.heap.size U V → V.ownsRow (U.heap.size + 1) 3 1 (.slice o L.length k) L.length (intsV L) → Calls Tryd.prog 50 #[.slice o L.length k, .func (.func 51) #[] #[.pointer (some ⟨W.heap.size + 1, 0, none⟩), .pointer (some ⟨W.heap.size, 0, none⟩)]] V fun e w' => e = .returned (.slice o L.length k) ∧ Below V.heap.size V w' := fun V o k hv ow => by
    have IN := IndexNone L (U.heap.size + 1) (W.heap.size + 1) W.heap.size _ V ow (fun m X hm hx => by
      obtain ⟨e, he⟩ := hin m hm
      have hx2 := hv.trans (hx.mono hv.size)
      have hd2 := hd.below hx2
      have h9 := AllF_any hd2.w hd2.d hF [42] (by decide) (by decide) m (hd2.w.i64 he) (W.heap.size + 1) W.heap.size ((hx2.cell (cell_lt3 c2)).trans c2) ((hx2.cell (cell_lt3 c1)).trans c1)
      rw [star_fits he (hF m e he).1] at h9
      exact h9)
    go_enter Tryd.func50, Tryd.ntmps50
    go_wp2_with (go_at_call 81; refine IN.mono ?_; rintro e w1 ⟨rfl, b1⟩)
    go_ret
    exact ⟨rfl, b1⟩
  go_wp2_with (first | (go_at_call 15; refine AL.mono ?_; rintro e w1 ⟨o1, k1, rfl, b1, ow1⟩) | (go_at_call 50; refine (DF _ _ _ b1 ow1).mono ?_; rintro e w2 ⟨rfl, b2⟩))
  go_ret
  exact ⟨o1, k1, by rw [← HLN.out]; rfl, mbel b0 (mbel b1 b2)⟩
end
set_option maxHeartbeats 2000000 in
theorem picked_any (W : World) (ea : Addr) (hE : W.cell? ⟨7, 0, none⟩ = some (.iface 200 (.pointer (some ea)))) :
    Calls Tryd.prog 22 #[] W fun e w' => e = .returned (.bool true) ∧ Below W.heap.size W w' := by
  have RD : Calls Tryd.prog 23 #[.string ⟨#[97, 32, 62, 32, 98, 46, 99]⟩] W fun e w' => e = .returned (.tuple #[.agg #[.string ⟨#[97, 32, 62, 32, 98, 46, 99]⟩], .nilIface]) ∧ Below W.heap.size W w' := by
    have h := Read_any [97, 32, 62, 32, 98, 46, 99] (by decide) W ea hE
    rw [show isSelM [97, 32, 62, 32, 98, 46, 99] = true from by decide +kernel] at h
    exact h
  have WT : ∀ V, Calls Tryd.prog 26 #[.agg #[.string ⟨#[97, 32, 62, 32, 98, 46, 99]⟩]] V fun e w' => e = .returned (.int .i64 12) ∧ Below V.heap.size V w' := fun V => by
    have h := Weight_any [97, 32, 62, 32, 98, 46, 99] (by decide) V
    rw [show wtM [97, 32, 62, 32, 98, 46, 99] = 12 from by decide +kernel] at h
    exact h
  have TX : ∀ V, Calls Tryd.prog 47 #[.agg #[.string ⟨#[97, 32, 62, 32, 98, 46, 99]⟩]] V fun e w' => e = .returned (.string ⟨#[97, 32, 62, 32, 98, 46, 99]⟩) ∧ Below V.heap.size V w' := fun V => by
    go_enter Tryd.func47, Tryd.ntmps47
    go_wp2
    go_ret
    exact ⟨rfl, (Below.refl _ V).alloc (Nat.le_refl _) _⟩
  go_enter Tryd.func22, Tryd.ntmps22
  go_upto_region 2 with (go_at_call 23; refine RD.mono ?_; rintro e w1 ⟨rfl, b1⟩)
  have n1 := World.alloc_heap_new w1 (.cells #[.string ⟨#[97, 32, 62, 32, 98, 46, 99]⟩] 55)
  have b2 := b1.alloc b1.size (.cells #[.string ⟨#[97, 32, 62, 32, 98, 46, 99]⟩] 55)
  obtain ⟨U, hU⟩ : ∃ U, w1.alloc (.cells #[.string ⟨#[97, 32, 62, 32, 98, 46, 99]⟩] 55) = U := ⟨_, rfl⟩
  rw [hU] at n1 b2 ⊢
  clear hU
  have c1 := cell_one n1
  go_wp2_with (first | (go_at_call 47; refine (TX _).mono ?_; rintro e w2 ⟨rfl, b3⟩; have c2 := (b3.cell (cell_lt3 c1)).trans c1) | (go_at_call 26; refine (WT _).mono ?_; rintro e w3 ⟨rfl, b4⟩))
  go_ret
  exact ⟨rfl, mbel b2 (mbel b3 b4)⟩

end Go.Proofs.YtcbaeigbfjjmkaaDoor

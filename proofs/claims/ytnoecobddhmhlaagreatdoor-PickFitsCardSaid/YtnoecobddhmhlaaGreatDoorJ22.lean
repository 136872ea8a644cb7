/-
  Package pick: Fits; All where all fit.
-/
import Derived.Test.YtnoecobddhmhlaaGreatDoorPick10
import Derived.Test.YtnoecobddhmhlaaGreatDoorJ12
import Derived.Test.YtnoecobddhmhlaaGreatDoorJ21
import Derived.Test.YtnoecobddhmhlaaGreatDoorJ17
namespace Go.Proofs.YtnoecobddhmhlaaGreatDoor
open Go.RowKit Go.Shelf

theorem run_store_fn (P : Program) (w : World) (a : Addr) (f : Fn) (x y : Array Value) (m : Mode) : (store a (.func f x y) m).run P w = stored P w a (.func f x y) m := run_store P w a _ m rfl
attribute [local go_sem] run_store_fn
section
variable {B : Nat} {tg : Tags} {W : World} {DB MB : Nat} {p : Int → Option Nat} {M : Dm} {nx c : Nat} {r : Int → Nat}
set_option maxRecDepth 20000 in
set_option maxHeartbeats 4000000 in
theorem Fits_doc (h : DocW B tg W DB MB p M nx c) (hw : Wd M r) (hF : FitD M) (s : Bs) (hs : s.length ≤ 1000000) (hs0 : s ≠ []) (n : Int) (hn : Wf64 n) :
    Calls Tryz.prog 31 #[.agg #[bV s], .pointer (some ⟨DB, 0, none⟩), .int .i64 n] W fun e w' => e = .returned (.bool (fitsM M s n)) ∧ Below W.heap.size W w' := by
  have hem : s.isEmpty = false := by
    cases s with
    | nil => exact absurd rfl hs0
    | cons _ _ => rfl
  obtain ⟨hS0, hD0, hT0, hsz0, b0⟩ := three_blocks W (.cells #[bV s] 69) (.cells #[.pointer (some ⟨DB, 0, none⟩)] 30) (.cells #[.nilFunc] 140)
  go_enter Tryz.func31, Tryz.ntmps31
  go_upto_region 4 with fail
  obtain ⟨U, hU⟩ : ∃ U, (((W.alloc (.cells #[bV s] 69)).alloc (.cells #[.pointer (some ⟨DB, 0, none⟩)] 30)).alloc (.cells #[.nilFunc] 140)) = U := ⟨_, rfl⟩
  rw [hU] at hS0 hD0 hT0 hsz0 b0 ⊢
  clear hU
  have c1 := cell_one hT0
  have f1 := froz_one hT0
  have hT1 := set_one hT0 (tryV (W.heap.size + 1) (W.heap.size + 1 + 1))
  have hD1 : (U.setCell ⟨W.heap.size + 1 + 1, 0, none⟩ (tryV (W.heap.size + 1) (W.heap.size + 1 + 1))).heap[W.heap.size + 1]? = some (.cells #[.pointer (some ⟨DB, 0, none⟩)] 30) := (Below.heap_setCell _ _ _ _ (by simp only; omega)).trans hD0
  have hS1 : (U.setCell ⟨W.heap.size + 1 + 1, 0, none⟩ (tryV (W.heap.size + 1) (W.heap.size + 1 + 1))).heap[W.heap.size]? = some (.cells #[bV s] 69) := (Below.heap_setCell _ _ _ _ (by simp only; omega)).trans hS0
  have b1 : Below W.heap.size W (U.setCell ⟨W.heap.size + 1 + 1, 0, none⟩ (tryV (W.heap.size + 1) (W.heap.size + 1 + 1))) := b0.setCell (by simp only; omega) _
  go_upto_region 5 with fail
  obtain ⟨U1, hU1⟩ : ∃ U1, U.setCell ⟨W.heap.size + 1 + 1, 0, none⟩ (tryV (W.heap.size + 1) (W.heap.size + 1 + 1)) = U1 := ⟨_, rfl⟩
  rw [hU1] at hT1 hD1 hS1 b1 ⊢
  clear hU1
  have d1 := cell_one hT1
  have d2 := cell_one hD1
  have d3 := cell_one hS1
  have TR := try_doc (h.below b1) hw hF (W.heap.size + 1) (W.heap.size + 1 + 1) d2 d1 (s.length + 1) s n U1 (by omega) hs hn (Below.refl _ _)
  go_wp2_with (go_at_call 84; refine TR.mono ?_; rintro e w2 ⟨rfl, b2⟩)
  go_ret
  exact ⟨rfl, mbel b1 b2⟩
set_option maxHeartbeats 2000000 in
/-- A row of numbers: where none is to be struck, it is looked through. -/
theorem IndexNone (L : List Int) (B0 PS PD : Nat) (v : Value) (W : World) (h : W.ownsRow B0 3 1 v L.length (intsV L))
    (hg : ∀ m V, m ∈ L → Below W.heap.size W V → Calls Tryz.prog 90 #[.int .i64 m, .pointer (some ⟨PS, 0, none⟩), .pointer (some ⟨PD, 0, none⟩)] V fun e w' => e = .returned (.bool false) ∧ Below V.heap.size V w') :
    Calls Tryz.prog 127 #[v, .func (.func 90) #[] #[.pointer (some ⟨PS, 0, none⟩), .pointer (some ⟨PD, 0, none⟩)]] W fun e w' => e = .returned (.int .i64 (-1)) ∧ Below W.heap.size W w' := by
  obtain ⟨o, cap, hvo, h1, h2, h3, h5⟩ := row_slice h
  have hlen : (L.length : Int) ≤ 9223372036854775807 := by rw [maxLen_eq] at h2; omega
  have hcap : (L.length : Int) ≤ (cap : Int) := by omega
  have HR : Hid (W.ownsRow B0 3 1 v L.length (intsV L)) := h
  have HG : Hid (∀ m V, m ∈ L → Below W.heap.size W V → Calls Tryz.prog 90 #[.int .i64 m, .pointer (some ⟨PS, 0, none⟩), .pointer (some ⟨PD, 0, none⟩)] V fun e w' => e = .returned (.bool false) ∧ Below V.heap.size V w') := hg
  have H5 : Hid (∀ g, v.ownBlock = some g → o = some ⟨g, 0, none⟩) := h5
  subst hvo
  clear h hg h5 h3
  go_enter Tryz.func127, Tryz.ntmps127
  go_wp2_with fail
  go_loopw [8] (fun y wr => ∃ k : Nat, k ≤ L.length ∧ y = .int .i64 k ∧ Below W.heap.size W wr) (fun y _ => L.length - (intOf y).toNat)
  case atStart => exact ⟨0, Nat.zero_le _, rfl, Below.refl _ _⟩
  case round =>
    obtain ⟨k, hk, rfl, hb⟩ := hrel
    by_cases hlt : k < L.length
    · have hlt' : (k : Int) < (L.length : Int) := by omega
      obtain ⟨x, hx⟩ : ∃ x, L[k]? = some x := ⟨_, List.getElem?_eq_getElem hlt⟩
      obtain ⟨g, hg, hc⟩ := row_get (own_bel HR.out hb) k _ (intsV_get hx)
      have hog := H5.out g hg
      subst hog
      have GM := HG.out x wr (List.mem_of_getElem? hx) hb
      clear hg hx
      go_wp2_with (go_at_call 90; refine GM.mono ?_; rintro e w1 ⟨rfl, hb1⟩)
      go_roundw
      case rel => exact ⟨k + 1, by omega, by go_num, mbel hb hb1⟩
      case measure => simp [intOf]; omega
    · have hge : ¬ (k : Int) < (L.length : Int) := by omega
      go_wp2_with fail
      go_ret
      exact ⟨rfl, hb⟩
end

end Go.Proofs.YtnoecobddhmhlaaGreatDoor

namespace Go.Proofs.YtnoecobddhmhlaaGreatDoor
open Go.RowKit Go.Shelf

theorem star_cut : cutM [42] = ([], .no, [42]) := rfl
theorem star_fits {M : Dm} {n : Int} {e : Elm} (he : M n = some e) (hn : e.name ≠ []) : fitsM M [42] n = true := by
  rw [fitsM_no star_cut]
  unfold fitSt
  rw [he]
  show (e.name != [] && (ptsOf [42]).all (fitPt e)) = true
  rw [show ptsOf [42] = [(0, [42])] from rfl]
  simp [hn, fitPt, anyNm]
section
variable {B : Nat} {tg : Tags} {W : World} {DB MB : Nat} {p : Int → Option Nat} {M : Dm} {nx c : Nat} {r : Int → Nat}
set_option maxHeartbeats 2000000 in
theorem AllF_any (h : DocW B tg W DB MB p M nx c) (hw : Wd M r) (hF : FitD M) (s : Bs) (hs : s.length ≤ 1000000) (hs0 : s ≠ []) (n : Int) (hn : Wf64 n) (PS PD : Nat) (h1 : W.cell? ⟨PS, 0, none⟩ = some (bV s)) (h2 : W.cell? ⟨PD, 0, none⟩ = some (.pointer (some ⟨DB, 0, none⟩))) :
    Calls Tryz.prog 90 #[.int .i64 n, .pointer (some ⟨PS, 0, none⟩), .pointer (some ⟨PD, 0, none⟩)] W fun e w' => e = .returned (.bool (!fitsM M s n)) ∧ Below W.heap.size W w' := by
  have FD := Fits_doc h hw hF s hs hs0 n hn
  go_enter Tryz.func90, Tryz.ntmps90
  go_wp2_with (go_at_call 31; refine FD.mono ?_; rintro e w1 ⟨rfl, b1⟩)
  go_ret
  exact ⟨rfl, b1⟩
set_option maxHeartbeats 4000000 in
theorem All_star (h : DocS B tg W DB MB p M nx c r) (hF : FitD M) :
    Calls Tryz.prog 33 #[.pointer (some ⟨DB, 0, none⟩), .agg #[.string ⟨#[42]⟩]] W fun e w' => ∃ o k, e = .returned (.slice o c k) ∧ Below W.heap.size W w' := by
  obtain ⟨hD0, hS0, -, -, -⟩ := three_blocks W (.cells #[.pointer (some ⟨DB, 0, none⟩)] 30) (.cells #[.string ⟨#[42]⟩] 69) (.cells #[] 3)
  have n0 := World.alloc_heap_new W (.cells #[.pointer (some ⟨DB, 0, none⟩)] 30)
  have n1 := World.alloc_heap_new (W.alloc (.cells #[.pointer (some ⟨DB, 0, none⟩)] 30)) (.cells #[.string ⟨#[42]⟩] 69)
  rw [World.size_alloc] at n1
  have n0' : ((W.alloc (.cells #[.pointer (some ⟨DB, 0, none⟩)] 30)).alloc (.cells #[.string ⟨#[42]⟩] 69)).heap[W.heap.size]? = some (.cells #[.pointer (some ⟨DB, 0, none⟩)] 30) := (Below.heap_alloc _ _ _ (by rw [World.size_alloc]; omega)).trans n0
  have b0 : Below W.heap.size W ((W.alloc (.cells #[.pointer (some ⟨DB, 0, none⟩)] 30)).alloc (.cells #[.string ⟨#[42]⟩] 69)) := ((Below.refl _ W).alloc (Nat.le_refl _) _).alloc (by rw [World.size_alloc]; omega) _
  have hll := h.alll
  obtain ⟨La, hLa, hlen, -⟩ := h.all
  have hin : ∀ y ∈ fromL M 11 0, ∃ e, M y = some e := fun y hy => ((h.d.mem h.d.dp0).1 hy).in_
  rw [← hLa] at hlen
  clear hD0 hS0 n0 hLa La
  go_enter Tryz.func33, Tryz.ntmps33
  go_upto_region 1 with fail
  obtain ⟨U, hU⟩ : ∃ U, (W.alloc (.cells #[.pointer (some ⟨DB, 0, none⟩)] 30)).alloc (.cells #[.string ⟨#[42]⟩] 69) = U := ⟨_, rfl⟩
  rw [hU] at n0' n1 b0 ⊢
  clear hU
  have hd := h.below b0
  have AL := All_doc hd.w 11 (by omega) hd.d.dp0 (by omega)
  obtain ⟨L, hL⟩ : ∃ L, fromL M 11 0 = L := ⟨_, rfl⟩
  rw [hL] at AL hin hlen hll
  clear hL
  have c1 := cell_one n0'
  have c2 := cell_one n1
  have HLN : Hid (L.length = c) := hlen
  clear hlen
  have DF : ∀ V o k, Below U.heap.size U V → V.ownsRow (U.heap.size + 1) 3 1 (.slice o L.length k) L.length (intsV L) → Calls Tryz.prog 89 #[.slice o L.length k, .func (.func 90) #[] #[.pointer (some ⟨W.heap.size + 1, 0, none⟩), .pointer (some ⟨W.heap.size, 0, none⟩)]] V fun e w' => e = .returned (.slice o L.length k) ∧ Below V.heap.size V w' := fun V o k hv ow => by
    have IN := IndexNone L (U.heap.size + 1) (W.heap.size + 1) W.heap.size _ V ow (fun m X hm hx => by
      obtain ⟨e, he⟩ := hin m hm
      have hx2 := hv.trans (hx.mono hv.size)
      have hd2 := hd.below hx2
      have h9 := AllF_any hd2.w hd2.d hF [42] (by decide) (by decide) m (hd2.w.i64 he) (W.heap.size + 1) W.heap.size ((hx2.cell (cell_lt3 c2)).trans c2) ((hx2.cell (cell_lt3 c1)).trans c1)
      rw [star_fits he (hF m e he).1] at h9
      exact h9)
    go_enter Tryz.func89, Tryz.ntmps89
    go_wp2_with (go_at_call 127; refine IN.mono ?_; rintro e w1 ⟨rfl, b1⟩)
    go_ret
    exact ⟨rfl, b1⟩
  go_wp2_with (first | (go_at_call 73; refine AL.mono ?_; rintro e w1 ⟨o1, k1, rfl, b1, ow1⟩) | (go_at_call 89; refine (DF _ _ _ b1 ow1).mono ?_; rintro e w2 ⟨rfl, b2⟩))
  go_ret
  exact ⟨o1, k1, by rw [← HLN.out]; rfl, mbel b0 (mbel b1 b2)⟩
end
set_option maxHeartbeats 2000000 in
theorem picked_any (W : World) (ea : Addr) (hE : W.cell? ⟨8, 0, none⟩ = some (.iface 245 (.pointer (some ea)))) :
    Calls Tryz.prog 26 #[] W fun e w' => e = .returned (.bool true) ∧ Below W.heap.size W w' := by
  have RD : Calls Tryz.prog 27 #[.string ⟨#[97, 32, 62, 32, 98, 46, 99]⟩] W fun e w' => e = .returned (.tuple #[.agg #[.string ⟨#[97, 32, 62, 32, 98, 46, 99]⟩], .nilIface]) ∧ Below W.heap.size W w' := by
    have h := Read_any [97, 32, 62, 32, 98, 46, 99] (by decide) W ea hE
    rw [show isSelM [97, 32, 62, 32, 98, 46, 99] = true from by decide +kernel] at h
    exact h
  have WT : ∀ V, Calls Tryz.prog 30 #[.agg #[.string ⟨#[97, 32, 62, 32, 98, 46, 99]⟩]] V fun e w' => e = .returned (.int .i64 12) ∧ Below V.heap.size V w' := fun V => by
    have h := Weight_any [97, 32, 62, 32, 98, 46, 99] (by decide) V
    rw [show wtM [97, 32, 62, 32, 98, 46, 99] = 12 from by decide +kernel] at h
    exact h
  have TX : ∀ V, Calls Tryz.prog 29 #[.agg #[.string ⟨#[97, 32, 62, 32, 98, 46, 99]⟩]] V fun e w' => e = .returned (.string ⟨#[97, 32, 62, 32, 98, 46, 99]⟩) ∧ Below V.heap.size V w' := fun V => by
    go_enter Tryz.func29, Tryz.ntmps29
    go_wp2
    go_ret
    exact ⟨rfl, (Below.refl _ V).alloc (Nat.le_refl _) _⟩
  go_enter Tryz.func26, Tryz.ntmps26
  go_upto_region 2 with (go_at_call 27; refine RD.mono ?_; rintro e w1 ⟨rfl, b1⟩)
  have n1 := World.alloc_heap_new w1 (.cells #[.string ⟨#[97, 32, 62, 32, 98, 46, 99]⟩] 69)
  have b2 := b1.alloc b1.size (.cells #[.string ⟨#[97, 32, 62, 32, 98, 46, 99]⟩] 69)
  obtain ⟨U, hU⟩ : ∃ U, w1.alloc (.cells #[.string ⟨#[97, 32, 62, 32, 98, 46, 99]⟩] 69) = U := ⟨_, rfl⟩
  rw [hU] at n1 b2 ⊢
  clear hU
  have c1 := cell_one n1
  go_wp2_with (first | (go_at_call 29; refine (TX _).mono ?_; rintro e w2 ⟨rfl, b3⟩; have c2 := (b3.cell (cell_lt3 c1)).trans c1) | (go_at_call 30; refine (WT _).mono ?_; rintro e w3 ⟨rfl, b4⟩))
  go_ret
  exact ⟨rfl, mbel b2 (mbel b3 b4)⟩

end Go.Proofs.YtnoecobddhmhlaaGreatDoor

namespace Go.Proofs.YtnoecobddhmhlaaGreatDoor
open Go.RowKit Go.Shelf

abbrev afV (PS PD : Nat) : Value := .func (.func 90) #[] #[.pointer (some ⟨PS, 0, none⟩), .pointer (some ⟨PD, 0, none⟩)]
/-- The function that is asked, in every world behind. -/
def AskA (base PS PD : Nat) (w : World) (l : List Int) (q : Int → Bool) : Prop := ∀ x ∈ l, ∀ V, Below base w V → Calls Tryz.prog 90 #[.int .i64 x, .pointer (some ⟨PS, 0, none⟩), .pointer (some ⟨PD, 0, none⟩)] V fun e W => e = .returned (.bool (q x)) ∧ Below V.heap.size V W
/-- A row of numbers that is struck from. -/
def RwN (w : World) (base b cap n : Nat) (l : List Int) : Prop := w.ownsRow base 3 1 (.slice (some ⟨b, 0, none⟩) n cap) n (intsV l)
theorem RwN.cell {w : World} {base b cap n : Nat} {l : List Int} (h : RwN w base b cap n l) {i : Nat} {x : Int} (hx : l[i]? = some x) : w.cell? ⟨b, i, none⟩ = some (.int .i64 x) := by
  obtain ⟨g, hg, hc⟩ := row_get h i _ (intsV_get hx)
  cases hg
  exact hc
theorem RwN.len {w : World} {base b cap n : Nat} {l : List Int} (h : RwN w base b cap n l) : l.length = n := by
  have := h.1
  rw [intsV_len, Nat.mul_one] at this
  exact this
theorem RwN.lt {w : World} {base b cap n : Nat} {l : List Int} (h : RwN w base b cap n l) : base ≤ b ∧ b < w.heap.size := World.ownsRow.lt h b rfl
theorem RwN.below {w w' : World} {base b cap n : Nat} {l : List Int} (h : RwN w base b cap n l) (hb : Below w.heap.size w w') : RwN w' base b cap n l := own_bel h hb
theorem RwN.set {w : World} {base b cap n : Nat} {l : List Int} (h : RwN w base b cap n l) (i : Nat) (x : Int) : RwN (w.setCell ⟨b, i, none⟩ (.int .i64 x)) base b cap n (l.set i x) := by
  unfold RwN
  have e : intsV (l.set i x) = (intsV l).set i (.int .i64 x) := by unfold intsV; rw [List.map_set]
  rw [e]
  exact (World.ownsRow.stored h i _).1
theorem RwN.zero {w : World} {base b cap n : Nat} {l : List Int} (h : RwN w base b cap n l) : ∀ (m o : Nat), ∃ l' : List Int, RwN (w.setCells b o (List.replicate m (.int .i64 0))) base b cap n l' ∧ l'.take o = l.take o
  | 0, o => ⟨l, h, rfl⟩
  | m + 1, o => by
    have h1 := h.set o 0
    obtain ⟨l', h2, h3⟩ := RwN.zero h1 m (o + 1)
    refine ⟨l', h2, ?_⟩
    have h4 := congrArg (List.take o) h3
    rw [List.take_take, List.take_take, Nat.min_eq_left (by omega), List.take_set_of_le (Nat.le_refl _)] at h4
    exact h4
theorem RwN.cut {w : World} {base b cap n : Nat} {l : List Int} (h : RwN w base b cap n l) {k : Nat} (hk : k ≤ n) : RwN w base b cap k (l.take k) := by
  have hl := h.len
  rcases h.2 with ⟨h1, -⟩ | ⟨g, c, cur, h1, h2, h3, h4, h5, h6, h7⟩
  · cases h1
  · cases h1
    refine ⟨by rw [intsV_len, List.length_take]; omega, .inr ⟨b, cap, cur, rfl, h2, h3, by omega, h5, h6, ?_⟩⟩
    have e : intsV (l.take k) = (intsV l).take k := by unfold intsV; rw [List.map_take]
    rw [e, ← h7, List.take_take]
    congr 1
    omega
theorem below_setCellsN {B b : Nat} {a : World} (hb : B ≤ b) : ∀ (vs : List Value) (o : Nat) (w : World), Below B a w → Below B a (w.setCells b o vs)
  | [], _, _, h => h
  | _ :: vs, _, _, h => below_setCellsN hb vs _ _ (h.setCell hb _)
/-- What IndexFunc answers. -/
def IdxN (q : Int → Bool) (l : List Int) (n : Int) : Prop := ((∀ x ∈ l, q x = false) ∧ n = -1) ∨ ∃ (k : Nat) (x : Int), l[k]? = some x ∧ (∀ y ∈ l.take k, q y = false) ∧ q x = true ∧ n = k
set_option maxRecDepth 20000 in
set_option maxHeartbeats 4000000 in
theorem IndexN (base PS PD : Nat) (q : Int → Bool) (l : List Int) (bb b cap : Nat) (w0 w : World) (h : RwN w bb b cap l.length l) (hb0 : Below base w0 w) (hbase : base ≤ w.heap.size) (hl : l.length ≤ 1000000) (hq : AskA base PS PD w0 l q) :
    Calls Tryz.prog 127 #[.slice (some ⟨b, 0, none⟩) l.length cap, afV PS PD] w fun e W => (∃ n : Int, e = .returned (.int .i64 n) ∧ IdxN q l n) ∧ Below w.heap.size w W := by
  go_enter Tryz.func127, Tryz.ntmps127
  go_wp2
  go_loopw [8] (fun i wr => ∃ k : Nat, k ≤ l.length ∧ i = .int .i64 k ∧ (∀ x ∈ l.take k, q x = false) ∧ Below w.heap.size w wr) (fun i _ => l.length - (intOf i).toNat)
  case atStart => exact ⟨0, Nat.zero_le _, rfl, (fun a ha => by simp at ha), Below.refl _ _⟩
  case round =>
    obtain ⟨k, hk, rfl, hrt, hb⟩ := hrel
    have HRT : Hid (∀ x ∈ l.take k, q x = false) := hrt
    clear hrt
    by_cases hlt : k < l.length
    · have hlt' : (k : Int) < (l.length : Int) := by omega
      obtain ⟨x, hx⟩ : ∃ x, l[k]? = some x := ⟨_, List.getElem?_eq_getElem hlt⟩
      have hmem : x ∈ l := List.mem_of_getElem? hx
      have c0 := (h.below hb).cell hx
      have AQ := hq x hmem wr (hb0.trans (hb.mono hbase))
      have HX : Hid (l[k]? = some x) := hx
      clear hx
      cases hqx : q x with
      | false =>
        rw [hqx] at AQ
        go_wp2_with (go_at_call 90; refine AQ.mono ?_; rintro e w1 ⟨rfl, b1⟩)
        go_roundw
        case rel => exact ⟨k + 1, by omega, by go_num, fun y hy => by rw [List.take_add_one, HX.out] at hy; rcases List.mem_append.1 hy with hy | hy; exact HRT.out y hy; simp at hy; subst hy; exact hqx, mbel hb b1⟩
        case measure => simp [intOf]; omega
      | true =>
        rw [hqx] at AQ
        go_wp2_with (go_at_call 90; refine AQ.mono ?_; rintro e w1 ⟨rfl, b1⟩)
        go_ret
        exact ⟨⟨k, rfl, .inr ⟨k, x, HX.out, HRT.out, hqx, rfl⟩⟩, mbel hb b1⟩
    · have hge : ¬ (k : Int) < (l.length : Int) := by omega
      have h1 := HRT.out
      rw [List.take_of_length_le (by omega)] at h1
      have H1 : Hid (∀ x ∈ l, q x = false) := h1
      clear h1
      go_wp2_with fail
      go_ret
      exact ⟨⟨-1, rfl, .inl ⟨H1.out, rfl⟩⟩, hb⟩
theorem run_clear_ints (w : World) (ty : TypeId) (b o n c : Nat) (hn : 0 < n) (hc : ∀ j, j < n → (w.cell? ⟨b, o + j, none⟩).isSome = true) (hf : ∀ j, j < n → w.frozen? ⟨b, o + j, none⟩ = false) :
    (Builtin.clear_ #[60] ty #[.slice (some ⟨b, o, none⟩) n c]).run Tryz.prog w = .ok (.tuple #[]) (w.setCells b o (List.replicate n (.int .i64 0))) := by
  have hv : ∀ w, (zeroValue 3).run Tryz.prog w = .ok (.int .i64 0) w := fun w => by kernel_rfl
  have hz : (Builtin.zeroCells (Value.int .i64 0).cells n).toList = List.replicate n (.int .i64 0) := by
    apply List.ext_getElem?
    intro j
    by_cases hj : j < n
    · simp [Builtin.zeroCells, Value.cells, hj, Nat.mod_one]
    · simp [Builtin.zeroCells, Value.cells, hj]
  have hst := run_storeCells_cells (P := Tryz.prog) b o (List.replicate n (.int .i64 0)) 0 w (by rw [List.length_replicate]; simpa using hc) (by rw [List.length_replicate]; simpa using hf) (fun v hv => by rw [List.eq_of_mem_replicate hv]; rfl)
  simp only [Nat.add_zero] at hst
  rw [← hz] at hst
  obtain ⟨m, rfl⟩ : ∃ m, n = m + 1 := ⟨n - 1, by omega⟩
  rw [← hz]
  simp [Builtin.clear_, run_underlying Tryz.underlying60, hv, hst]
/-- What is kept so far. -/
structure DelN (q : Int → Bool) (l : List Int) (bb b cap base : Nat) (w0 : World) (i j : Nat) (l' : List Int) (w : World) : Prop where
  lt : i < j
  le : j ≤ l.length
  kept : l'.take i = (l.take j).filter fun x => !q x
  rest : l'.drop j = l.drop j
  row : RwN w bb b cap l.length l'
  bel : Below base w0 w
theorem filter_noN {q : Int → Bool} {l : List Int} (h : ∀ x ∈ l, q x = false) : (l.filter fun x => !q x) = l := List.filter_eq_self.2 (fun x hx => by rw [h x hx]; rfl)
theorem DelN.skip {q : Int → Bool} {l : List Int} {bb b cap base : Nat} {w0 : World} {i j : Nat} {l' : List Int} {w w' : World} {x : Int} (h : DelN q l bb b cap base w0 i j l' w) (hx : l[j]? = some x) (hq : q x = true) (hb : Below w.heap.size w w') (hbase : base ≤ w.heap.size) : DelN q l bb b cap base w0 i (j + 1) l' w' := by
  have hj : j < l.length := (List.getElem?_eq_some_iff.1 hx).1
  refine ⟨by have := h.lt; omega, hj, ?_, ?_, h.row.below hb, h.bel.trans (hb.mono hbase)⟩
  · rw [h.kept, List.take_add_one, hx, List.filter_append]
    simp [hq]
  · rw [← List.drop_drop, h.rest, List.drop_drop]
theorem DelN.keep {q : Int → Bool} {l : List Int} {bb b cap base : Nat} {w0 : World} {i j : Nat} {l' : List Int} {w w' : World} {x : Int} (h : DelN q l bb b cap base w0 i j l' w) (hx : l[j]? = some x) (hq : q x = false) (hb : Below w.heap.size w w') (hbase : base ≤ w.heap.size) (hbb : base ≤ b) : DelN q l bb b cap base w0 (i + 1) (j + 1) (l'.set i x) (w'.setCell ⟨b, i, none⟩ (.int .i64 x)) := by
  have hj : j < l.length := (List.getElem?_eq_some_iff.1 hx).1
  have hl := h.row.len
  have hi : i < l'.length := by have := h.lt; have := h.le; omega
  have hbl := h.bel.trans (hb.mono hbase)
  refine ⟨by have := h.lt; omega, hj, ?_, ?_, (h.row.below hb).set i x, hbl.setCell (p := ⟨b, i, none⟩) hbb _⟩
  · rw [List.take_add_one, List.take_set_of_le (Nat.le_refl _), h.kept, List.getElem?_set_self hi, List.take_add_one, hx, List.filter_append]
    simp [hq]
  · rw [List.drop_set_of_lt (by have := h.lt; omega), ← List.drop_drop, h.rest, List.drop_drop]
theorem DelN.start {q : Int → Bool} {l : List Int} {bb b cap base : Nat} {w0 w : World} {k : Nat} {x : Int} (hr : RwN w bb b cap l.length l) (hb : Below base w0 w) (hx : l[k]? = some x) (hall : ∀ y ∈ l.take k, q y = false) (hq : q x = true) : DelN q l bb b cap base w0 k (k + 1) l w := by
  have hk : k < l.length := (List.getElem?_eq_some_iff.1 hx).1
  refine ⟨by omega, hk, ?_, rfl, hr, hb⟩
  rw [List.take_add_one, hx, List.filter_append, filter_noN hall]
  simp [hq]
set_option maxRecDepth 20000 in
set_option maxHeartbeats 4000000 in
theorem DeleteN (base PS PD : Nat) (q : Int → Bool) (l : List Int) (bb b cap : Nat) (w0 w : World) (hl : l.length ≤ 1000000) (hr : RwN w bb b cap l.length l) (hbb : base ≤ b) (hb0 : Below base w0 w) (hq : AskA base PS PD w0 l q) :
    Calls Tryz.prog 89 #[.slice (some ⟨b, 0, none⟩) l.length cap, afV PS PD] w fun e W => e = .returned (.slice (some ⟨b, 0, none⟩) (l.filter fun x => !q x).length cap) ∧ RwN W bb b cap (l.filter fun x => !q x).length (l.filter fun x => !q x) ∧ Below base w0 W := by
  have hbw := hr.lt.2
  have hbase : base ≤ w.heap.size := by omega
  have hcap : l.length ≤ cap := by
    rcases hr.2 with ⟨h1, -⟩ | ⟨g, c, cur, h1, h2, h3, h4, -⟩
    · cases h1
    · cases h1; exact h4
  have IX := IndexN base PS PD q l bb b cap w0 w hr hb0 hbase hl hq
  go_enter Tryz.func89, Tryz.ntmps89
  go_upto_region 2 with (go_at_call 127; refine IX.mono ?_; rintro e w1 ⟨⟨n, rfl, hn⟩, b1⟩)
  clear IX
  have hr1 := hr.below b1
  have hb1 := hb0.trans (b1.mono hbase)
  rcases hn with ⟨hall, rfl⟩ | ⟨k, x, hx, hall, hqx, rfl⟩
  · have HA : Hid ((l.filter fun x => !q x) = l) := filter_noN hall
    clear hall
    go_wp2_with fail
    go_ret
    rw [HA.out]
    exact ⟨rfl, hr1, hb1⟩
  · have D0 := DelN.start hr1 hb1 hx hall hqx
    have hk : k < l.length := (List.getElem?_eq_some_iff.1 hx).1
    have hne : ((k : Int) == -1) = false := beq_eq_false_iff_ne.2 (by omega)
    clear hx hall hqx hr1 hb1 hr
    go_wp2_with fail
    go_loopw [5, 6] (fun u v wr => ∃ (i j : Nat) (l' : List Int), u = .int .i64 i ∧ v = .int .i64 j ∧ DelN q l bb b cap base w0 i j l' wr) (fun _ v _ => l.length - (intOf v).toNat)
    case atStart => exact ⟨k, k + 1, l, rfl, by go_num, D0⟩
    case round =>
      obtain ⟨i, j, l', rfl, rfl, hD⟩ := hrel
      have hij := hD.lt
      have hjl := hD.le
      have hll := hD.row.len
      have hwb : base ≤ wr.heap.size := by have := hD.row.lt; omega
      by_cases hlt : j < l.length
      · have hlt' : (j : Int) < (l.length : Int) := by omega
        have hil' : (i : Int) < (l.length : Int) := by omega
        obtain ⟨x, hx⟩ : ∃ x, l[j]? = some x := ⟨_, List.getElem?_eq_getElem hlt⟩
        have hmem : x ∈ l := List.mem_of_getElem? hx
        have hx' : l'[j]? = some x := by
          have h1 : (l'.drop j)[0]? = some x := by rw [hD.rest, List.getElem?_drop]; exact hx
          rw [List.getElem?_drop] at h1
          exact h1
        have c0 := hD.row.cell hx'
        have AQ := hq x hmem wr hD.bel
        have HX : Hid (l[j]? = some x) := hx
        clear hx hx'
        cases hqx : q x with
        | true =>
          rw [hqx] at AQ
          go_wp2_with (go_at_call 90; refine AQ.mono ?_; rintro e w2 ⟨rfl, b3⟩)
          go_roundw
          case rel => exact ⟨i, j + 1, l', rfl, by go_num, hD.skip HX.out hqx b3 hwb⟩
          case measure => simp [intOf]; omega
        | false =>
          rw [hqx] at AQ
          obtain ⟨old, hold⟩ : ∃ old, l'[i]? = some old := ⟨_, List.getElem?_eq_getElem (by omega)⟩
          have ci := hD.row.cell hold
          go_upto_region 9 with (go_at_call 90; refine AQ.mono ?_; rintro e w2 ⟨rfl, b3⟩)
          have ci2 := (b3.cell (cell_lt3 ci)).trans ci
          have fi2 := World.ownsRow.frozenAt (hD.row.below b3) i
          have K := hD.keep HX.out hqx b3 hwb hbb
          clear hold
          go_wp2_with fail
          go_roundw
          case rel => exact ⟨i + 1, j + 1, _, by go_num, by go_num, K⟩
          case measure => simp [intOf]; omega
      · have hge : j = l.length := by omega
        have hlt' : ¬ (j : Int) < (l.length : Int) := by omega
        have hni : 0 < l.length - i := by omega
        have hcl : ∀ ty, (Builtin.clear_ #[60] ty #[.slice (some ⟨b, i, none⟩) (l.length - i) (cap - i)]).run Tryz.prog wr = .ok (.tuple #[]) (wr.setCells b i (List.replicate (l.length - i) (.int .i64 0))) := fun ty => run_clear_ints wr ty b i (l.length - i) (cap - i) hni (fun m hm => by
          obtain ⟨y, hy⟩ : ∃ y, l'[i + m]? = some y := ⟨_, List.getElem?_eq_getElem (by omega)⟩
          rw [hD.row.cell hy]
          rfl) (fun m _ => World.ownsRow.frozenAt hD.row _)
        have hic : (i : Int) < (cap : Int) := by omega
        have hil : (i : Int) < (l.length : Int) := by omega
        have hicn : ¬ cap - i = 0 := by omega
        have hkept : l'.take i = l.filter fun x => !q x := by
          have h1 := hD.kept
          rw [hge, List.take_length] at h1
          exact h1
        have hfl : (l.filter fun x => !q x).length = i := by
          rw [← hkept, List.length_take]
          omega
        obtain ⟨l2, hz, hz2⟩ := hD.row.zero (l.length - i) i
        have K : RwN (wr.setCells b i (List.replicate (l.length - i) (.int .i64 0))) bb b cap (l.filter fun x => !q x).length (l.filter fun x => !q x) := by
          have h1 := hz.cut (k := i) (by omega)
          rw [hz2, hkept] at h1
          rw [hfl]
          exact h1
        have HF : Hid ((l.filter fun x => !q x).length = i) := hfl
        have hB2 := below_setCellsN hbb (List.replicate (l.length - i) (.int .i64 0)) i wr hD.bel
        clear hfl hkept hz hz2 hge
        go_wp2_with fail
        go_ret
        exact ⟨by rw [HF.out]; rfl, K, hB2⟩
end Go.Proofs.YtnoecobddhmhlaaGreatDoor

/-
  Package pick: All of a star; the law's own closed fact.
-/
import Derived.Test.YtmlajdhkkcmjnacDoorJ9
import Derived.Test.YtmlajdhkkcmjnacDoorDoc24
namespace Go.Proofs.YtmlajdhkkcmjnacDoor
open Go.RowKit Go.Shelf

theorem star_cut : cutM [42] = ([], .no, [42]) := rfl
theorem star_fits {M : Dm} {n : Int} {e : Elm} (he : M n = some e) (hn : e.name ≠ []) : fitsM M [42] n = true := by
  rw [fitsM_no star_cut]
  unfold fitSt
  rw [he]
  show (e.name != [] && (ptsOf [42]).all (fitPt e)) = true
  rw [show ptsOf [42] = [(0, [42])] from rfl]
  simp [hn, fitPt, anyNm]
section
variable {B : Nat} {tg : Tags} {W : World} {DB MB : Nat} {p : Int → Option Nat} {M : Dm} {nx c : Nat} {r : Int → Nat}
set_option maxHeartbeats 2000000 in
theorem AllF_any (h : DocW B tg W DB MB p M nx c) (hw : Wd M r) (hF : FitD M) (s : Bs) (hs : s.length ≤ 1000000) (hs0 : s ≠ []) (n : Int) (hn : Wf64 n) (PS PD : Nat) (h1 : W.cell? ⟨PS, 0, none⟩ = some (bV s)) (h2 : W.cell? ⟨PD, 0, none⟩ = some (.pointer (some ⟨DB, 0, none⟩))) :
    Calls Tryd.prog 45 #[.int .i64 n, .pointer (some ⟨PS, 0, none⟩), .pointer (some ⟨PD, 0, none⟩)] W fun e w' => e = .returned (.bool (!fitsM M s n)) ∧ Below W.heap.size W w' := by
  have FD := Fits_doc h hw hF s hs hs0 n hn
  go_enter Tryd.func45, Tryd.ntmps45
  go_wp2_with (go_at_call 23; refine FD.mono ?_; rintro e w1 ⟨rfl, b1⟩)
  go_ret
  exact ⟨rfl, b1⟩
set_option maxHeartbeats 4000000 in
theorem All_star (h : DocS B tg W DB MB p M nx c r) (hF : FitD M) :
    Calls Tryd.prog 22 #[.pointer (some ⟨DB, 0, none⟩), .agg #[.string ⟨#[42]⟩]] W fun e w' => ∃ o k, e = .returned (.slice o c k) ∧ Below W.heap.size W w' := by
  obtain ⟨hD0, hS0, -, -, -⟩ := three_blocks W (.cells #[.pointer (some ⟨DB, 0, none⟩)] 30) (.cells #[.string ⟨#[42]⟩] 55) (.cells #[] 3)
  have n0 := World.alloc_heap_new W (.cells #[.pointer (some ⟨DB, 0, none⟩)] 30)
  have n1 := World.alloc_heap_new (W.alloc (.cells #[.pointer (some ⟨DB, 0, none⟩)] 30)) (.cells #[.string ⟨#[42]⟩] 55)
  rw [World.size_alloc] at n1
  have n0' : ((W.alloc (.cells #[.pointer (some ⟨DB, 0, none⟩)] 30)).alloc (.cells #[.string ⟨#[42]⟩] 55)).heap[W.heap.size]? = some (.cells #[.pointer (some ⟨DB, 0, none⟩)] 30) := (Below.heap_alloc _ _ _ (by rw [World.size_alloc]; omega)).trans n0
  have b0 : Below W.heap.size W ((W.alloc (.cells #[.pointer (some ⟨DB, 0, none⟩)] 30)).alloc (.cells #[.string ⟨#[42]⟩] 55)) := ((Below.refl _ W).alloc (Nat.le_refl _) _).alloc (by rw [World.size_alloc]; omega) _
  have hll := h.alll
  obtain ⟨La, hLa, hlen, -⟩ := h.all
  have hin : ∀ y ∈ fromL M 11 0, ∃ e, M y = some e := fun y hy => ((h.d.mem h.d.dp0).1 hy).in_
  rw [← hLa] at hlen
  clear hD0 hS0 n0 hLa La
  go_enter Tryd.func22, Tryd.ntmps22
  go_upto_region 1 with fail
  obtain ⟨U, hU⟩ : ∃ U, (W.alloc (.cells #[.pointer (some ⟨DB, 0, none⟩)] 30)).alloc (.cells #[.string ⟨#[42]⟩] 55) = U := ⟨_, rfl⟩
  rw [hU] at n0' n1 b0 ⊢
  clear hU
  have hd := h.below b0
  have AL := All_doc hd.w 11 (by omega) hd.d.dp0 (by omega)
  obtain ⟨L, hL⟩ : ∃ L, fromL M 11 0 = L := ⟨_, rfl⟩
  rw [hL] at AL hin hlen hll
  clear hL
  have c1 := cell_one n0'
  have c2 := cell_one n1
  have HLN : Hid (L.length = c) := hlen
  clear hlen
  have DF : ∀ V o k, Below U.heap.size U V → V.ownsRow (U.heap.size + 1) 3 1 (.slice o L.length k) L.length (intsV L) → Calls Tryd.prog 44 #[.slice o L.length k, .func (.func 45) #[] #[.pointer (some ⟨W.heap.size + 1, 0, none⟩), .pointer (some ⟨W.heap.size, 0, none⟩)]] V fun e w' => e = .returned (.slice o L.length k) ∧ Below V.heap.size V w' := fun V o k hv ow => by
    have IN := IndexNone L (U.heap.size + 1) (W.heap.size + 1) W.heap.size _ V ow (fun m X hm hx => by
      obtain ⟨e, he⟩ := hin m hm
      have hx2 := hv.trans (hx.mono hv.size)
      have hd2 := hd.below hx2
      have h9 := AllF_any hd2.w hd2.d hF [42] (by decide) (by decide) m (hd2.w.i64 he) (W.heap.size + 1) W.heap.size ((hx2.cell (cell_lt3 c2)).trans c2) ((hx2.cell (cell_lt3 c1)).trans c1)
      rw [star_fits he (hF m e he).1] at h9
      exact h9)
    go_enter Tryd.func44, Tryd.ntmps44
    go_wp2_with (go_at_call 68; refine IN.mono ?_; rintro e w1 ⟨rfl, b1⟩)
    go_ret
    exact ⟨rfl, b1⟩
  go_wp2_with (first | (go_at_call 13; refine AL.mono ?_; rintro e w1 ⟨o1, k1, rfl, b1, ow1⟩) | (go_at_call 44; refine (DF _ _ _ b1 ow1).mono ?_; rintro e w2 ⟨rfl, b2⟩))
  go_ret
  exact ⟨o1, k1, by rw [← HLN.out]; rfl, mbel b0 (mbel b1 b2)⟩
end
set_option maxHeartbeats 2000000 in
theorem picked_any (W : World) (ea : Addr) (hE : W.cell? ⟨7, 0, none⟩ = some (.iface 181 (.pointer (some ea)))) :
    Calls Tryd.prog 20 #[] W fun e w' => e = .returned (.bool true) ∧ Below W.heap.size W w' := by
  have RD : Calls Tryd.prog 21 #[.string ⟨#[97, 32, 62, 32, 98, 46, 99]⟩] W fun e w' => e = .returned (.tuple #[.agg #[.string ⟨#[97, 32, 62, 32, 98, 46, 99]⟩], .nilIface]) ∧ Below W.heap.size W w' := by
    have h := Read_any [97, 32, 62, 32, 98, 46, 99] (by decide) W ea hE
    rw [show isSelM [97, 32, 62, 32, 98, 46, 99] = true from by decide +kernel] at h
    exact h
  have WT : ∀ V, Calls Tryd.prog 24 #[.agg #[.string ⟨#[97, 32, 62, 32, 98, 46, 99]⟩]] V fun e w' => e = .returned (.int .i64 12) ∧ Below V.heap.size V w' := fun V => by
    have h := Weight_any [97, 32, 62, 32, 98, 46, 99] (by decide) V
    rw [show wtM [97, 32, 62, 32, 98, 46, 99] = 12 from by decide +kernel] at h
    exact h
  have TX : ∀ V, Calls Tryd.prog 41 #[.agg #[.string ⟨#[97, 32, 62, 32, 98, 46, 99]⟩]] V fun e w' => e = .returned (.string ⟨#[97, 32, 62, 32, 98, 46, 99]⟩) ∧ Below V.heap.size V w' := fun V => by
    go_enter Tryd.func41, Tryd.ntmps41
    go_wp2
    go_ret
    exact ⟨rfl, (Below.refl _ V).alloc (Nat.le_refl _) _⟩
  go_enter Tryd.func20, Tryd.ntmps20
  go_upto_region 2 with (go_at_call 21; refine RD.mono ?_; rintro e w1 ⟨rfl, b1⟩)
  have n1 := World.alloc_heap_new w1 (.cells #[.string ⟨#[97, 32, 62, 32, 98, 46, 99]⟩] 55)
  have b2 := b1.alloc b1.size (.cells #[.string ⟨#[97, 32, 62, 32, 98, 46, 99]⟩] 55)
  obtain ⟨U, hU⟩ : ∃ U, w1.alloc (.cells #[.string ⟨#[97, 32, 62, 32, 98, 46, 99]⟩] 55) = U := ⟨_, rfl⟩
  rw [hU] at n1 b2 ⊢
  clear hU
  have c1 := cell_one n1
  go_wp2_with (first | (go_at_call 41; refine (TX _).mono ?_; rintro e w2 ⟨rfl, b3⟩; have c2 := (b3.cell (cell_lt3 c1)).trans c1) | (go_at_call 24; refine (WT _).mono ?_; rintro e w3 ⟨rfl, b4⟩))
  go_ret
  exact ⟨rfl, mbel b2 (mbel b3 b4)⟩

end Go.Proofs.YtmlajdhkkcmjnacDoor

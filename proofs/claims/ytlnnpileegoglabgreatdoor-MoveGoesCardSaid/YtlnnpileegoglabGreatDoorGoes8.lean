/-
  The document's reading of a right text of moves.
-/
import Derived.Test.YtlnnpileegoglabGreatDoorGoes7
namespace Go.Proofs.YtlnnpileegoglabGreatDoor
open Go.RowKit


set_option maxRecDepth 20000 in
set_option maxHeartbeats 32000000 in
theorem SixOf_ok (s : ByteArray) (ws : List ByteArray) (R : List Mv) (W : World) (hs : s.size ≤ 900) (hw : words s = ws) (hN : ws.length ≤ 1000) (hsz : ∀ a ∈ ws, a.size ≤ 1000000) (hne : s.toList.isEmpty = false)
    (hR : readL ws.length ws [] = (R, 0)) (hR0 : 0 < R.length) (hR1 : R.length ≤ 1000) (hok : ∀ m ∈ R, m.ok) :
    Calls Tryz.prog 21 #[.string s] W fun e w' => e = .returned (.tuple #[mv (foldR .one R.reverse).1, .int .i64 (foldR .one R.reverse).2]) ∧ Below W.heap.size W w' := by
  have HC := Cut_words s (by omega)
  rw [hw] at HC
  obtain ⟨i0, hi, hz0, hz1, hz2⟩ := info_parts infoSix
  have R0 := Blk.new W #[.int .i64 0, .int .i64 0, .int .i64 0, .int .i64 0, .int .i64 0, .int .i64 0, .int .i64 0, .int .i64 0, .int .i64 0, .int .i64 0, .int .i64 0, .int .i64 0] 25
  have L0 := (Below.refl W.heap.size W).alloc (Nat.le_refl _) (.cells #[.int .i64 0, .int .i64 0, .int .i64 0, .int .i64 0, .int .i64 0, .int .i64 0, .int .i64 0, .int .i64 0, .int .i64 0, .int .i64 0, .int .i64 0, .int .i64 0] 25)
  go_enter Tryz.func21, Tryz.ntmps21
  go_wp2_with (first | (go_at_call 44; refine (HC _).mono ?_; rintro e wk ⟨⟨g, cap, cur, rfl, hg, GB, hcur⟩, hbc⟩) | (go_at_call 43; refine (Stay_any _).mono ?_; rintro e wo ⟨rfl, hbo⟩; dsimp only [Mv.one, Fr.whole]; have LO := (bel0 L0 hbo).alloc (bel0 L0 hbo).size (.cells #[.int .i64 1, .int .i64 1, .int .i64 0, .int .i64 1, .int .i64 0, .int .i64 1, .int .i64 1, .int .i64 1, .int .i64 0, .int .i64 1, .int .i64 0, .int .i64 1] 25); have OB := Blk.new wo #[.int .i64 1, .int .i64 1, .int .i64 0, .int .i64 1, .int .i64 0, .int .i64 1, .int .i64 1, .int .i64 1, .int .i64 0, .int .i64 1, .int .i64 0, .int .i64 1] 25; have RB := (R0.below hbo (Nat.le_refl _)).alloc (.cells #[.int .i64 1, .int .i64 1, .int .i64 0, .int .i64 1, .int .i64 0, .int .i64 1, .int .i64 1, .int .i64 1, .int .i64 0, .int .i64 1, .int .i64 0, .int .i64 1] 25); have so := hbo.size; simp only [World.size_alloc] at so))
  replace OB := OB.below hbc (Nat.le_refl _)
  replace RB := RB.below hbc (Nat.le_refl _)
  have LC := bel0 LO hbc
  have sc := hbc.size
  simp only [World.size_alloc] at sc hg
  have gl := GB.lt
  clear HC R0 L0 hbc hbo LO
  go_loopw [6, 7] (fun lv iv wr => ∃ (j f : Nat) (acc : List Mv), j ≤ ws.length ∧ acc.length ≤ j ∧ iv = .int .i64 j ∧ wr.ownsRow wk.heap.size 25 12 lv acc.length (cellsM acc) ∧ Blk wr W.heap.size #[.int .i64 0, .int .i64 0, .int .i64 0, .int .i64 0, .int .i64 0, .int .i64 0, .int .i64 0, .int .i64 0, .int .i64 0, .int .i64 0, .int .i64 0, .int .i64 0] 25 ∧ Blk wr wo.heap.size #[.int .i64 1, .int .i64 1, .int .i64 0, .int .i64 1, .int .i64 0, .int .i64 1, .int .i64 1, .int .i64 1, .int .i64 0, .int .i64 1, .int .i64 0, .int .i64 1] 25 ∧ Blk wr g cur 9 ∧ Below W.heap.size W wr ∧ wk.heap.size ≤ wr.heap.size ∧ ws.length - j ≤ f ∧ readL f (ws.drop j) acc = (R, 0)) (fun _ iv _ => ws.length - (intOf iv).toNat)
  case atStart => exact ⟨0, ws.length, [], by omega, by simp, rfl, World.ownsRow_nil _ _ _ _, RB, OB, GB, LC, Nat.le_refl _, by omega, hR⟩
  case round =>
    obtain ⟨j, f, acc, hjN, haj, rfl, hown, BR, BO, BG, hlow, hH, hf, hRf⟩ := hrel
    by_cases hj : j = ws.length
    · rw [List.drop_eq_nil_of_le (by omega)] at hRf
      have hacc : acc = R := by cases f <;> exact congrArg Prod.fst hRf
      subst hacc
      subst hj
      clear hRf hR
      obtain ⟨g2, cap2, cur2, rfl, hg2, BL, hc2⟩ := own_blk hown hR0
      have hl1 : IntKind.i64.wrap ((acc.length : Int) - 1) = ((acc.length - 1 : Nat) : Int) := by rw [i64_in (by omega) (by omega)]; omega
      go_wp2
      go_loopw [15] (fun iv wr2 => ∃ (r : Nat) (m : Mv), r ≤ acc.length ∧ iv = .int .i64 ((r : Int) - 1) ∧ m.ok ∧ foldR m (acc.take r).reverse = foldR .one acc.reverse ∧ Blk wr2 W.heap.size #[.int .i64 0, .int .i64 0, .int .i64 0, .int .i64 0, .int .i64 0, .int .i64 0, .int .i64 0, .int .i64 0, .int .i64 0, .int .i64 0, .int .i64 0, .int .i64 0] 25 ∧ Blk wr2 wo.heap.size #[.int .i64 m.a.n, .int .i64 m.a.d, .int .i64 m.b.n, .int .i64 m.b.d, .int .i64 m.c.n, .int .i64 m.c.d, .int .i64 m.d.n, .int .i64 m.d.d, .int .i64 m.e.n, .int .i64 m.e.d, .int .i64 m.f.n, .int .i64 m.f.d] 25 ∧ Blk wr2 g2 cur2 25 ∧ Below W.heap.size W wr2 ∧ wk.heap.size ≤ wr2.heap.size) (fun iv _ => (intOf iv + 1).toNat)
      case atStart => exact ⟨acc.length, .one, Nat.le_refl _, by first | rfl | (congr 1; omega) | (simp; omega), one_ok, by rw [List.take_length], BR, BO, BL, hlow, hH⟩
      case round =>
        obtain ⟨r, m, hrl, rfl, om, hfold, BR2, BO2, BL2, hlow2, hsz2⟩ := hrel
        clear BR BO BL hlow
        have BR := BR2
        have BO := BO2
        have BL := BL2
        have hlow := hlow2
        cases r with
        | zero =>
          have oc0 := BO.cell 0 _ rfl
          have rc0 := BR.cell 0 _ rfl
          have rf0 := BR.froz 0 _ rfl
          have oc1 := BO.cell 1 _ rfl
          have rc1 := BR.cell 1 _ rfl
          have rf1 := BR.froz 1 _ rfl
          have oc2 := BO.cell 2 _ rfl
          have rc2 := BR.cell 2 _ rfl
          have rf2 := BR.froz 2 _ rfl
          have oc3 := BO.cell 3 _ rfl
          have rc3 := BR.cell 3 _ rfl
          have rf3 := BR.froz 3 _ rfl
          have oc4 := BO.cell 4 _ rfl
          have rc4 := BR.cell 4 _ rfl
          have rf4 := BR.froz 4 _ rfl
          have oc5 := BO.cell 5 _ rfl
          have rc5 := BR.cell 5 _ rfl
          have rf5 := BR.froz 5 _ rfl
          have oc6 := BO.cell 6 _ rfl
          have rc6 := BR.cell 6 _ rfl
          have rf6 := BR.froz 6 _ rfl
          have oc7 := BO.cell 7 _ rfl
          have rc7 := BR.cell 7 _ rfl
          have rf7 := BR.froz 7 _ rfl
          have oc8 := BO.cell 8 _ rfl
          have rc8 := BR.cell 8 _ rfl
          have rf8 := BR.froz 8 _ rfl
          have oc9 := BO.cell 9 _ rfl
          have rc9 := BR.cell 9 _ rfl
          have rf9 := BR.froz 9 _ rfl
          have oc10 := BO.cell 10 _ rfl
          have rc10 := BR.cell 10 _ rfl
          have rf10 := BR.froz 10 _ rfl
          have oc11 := BO.cell 11 _ rfl
          have rc11 := BR.cell 11 _ rfl
          have rf11 := BR.froz 11 _ rfl

          go_wp2
          refine bodyPost_ret (v := .tuple #[mv m, .int .i64 0]) (by simp [results, Tryz.results21, go_sem, rc0, rc1, rc2, rc3, rc4, rc5, rc6, rc7, rc8, rc9, rc10, rc11]) rfl ⟨?_, ?_⟩
          · rw [← hfold]; rfl
          · exact put_below (R := W.heap.size) (Nat.le_refl _) [.int .i64 m.a.n, .int .i64 m.a.d, .int .i64 m.b.n, .int .i64 m.b.d, .int .i64 m.c.n, .int .i64 m.c.d, .int .i64 m.d.n, .int .i64 m.d.d, .int .i64 m.e.n, .int .i64 m.e.d, .int .i64 m.f.n, .int .i64 m.f.d] 0 hlow
        | succ r =>
          obtain ⟨x, hx⟩ : ∃ x, acc[r]? = some x := ⟨acc[r], by simp⟩
          have ox : x.ok := hok x (List.mem_of_getElem? hx)
          have hrv : (acc.take (r + 1)).reverse = x :: (acc.take r).reverse := by rw [List.take_add_one, hx]; simp
          rw [hrv, foldR_cons] at hfold
          have HT := fun V => ThenOf_any om ox V
          have oc0 := BO.cell 0 _ rfl
          have oc1 := BO.cell 1 _ rfl
          have oc2 := BO.cell 2 _ rfl
          have oc3 := BO.cell 3 _ rfl
          have oc4 := BO.cell 4 _ rfl
          have oc5 := BO.cell 5 _ rfl
          have oc6 := BO.cell 6 _ rfl
          have oc7 := BO.cell 7 _ rfl
          have oc8 := BO.cell 8 _ rfl
          have oc9 := BO.cell 9 _ rfl
          have oc10 := BO.cell 10 _ rfl
          have oc11 := BO.cell 11 _ rfl

          have xc0 := BL.cell (r * 12) _ (hc2 r x 0 _ hx rfl)
          have xc1 := BL.cell (r * 12 + 1) _ (hc2 r x 1 _ hx rfl)
          have xc2 := BL.cell (r * 12 + 2) _ (hc2 r x 2 _ hx rfl)
          have xc3 := BL.cell (r * 12 + 3) _ (hc2 r x 3 _ hx rfl)
          have xc4 := BL.cell (r * 12 + 4) _ (hc2 r x 4 _ hx rfl)
          have xc5 := BL.cell (r * 12 + 5) _ (hc2 r x 5 _ hx rfl)
          have xc6 := BL.cell (r * 12 + 6) _ (hc2 r x 6 _ hx rfl)
          have xc7 := BL.cell (r * 12 + 7) _ (hc2 r x 7 _ hx rfl)
          have xc8 := BL.cell (r * 12 + 8) _ (hc2 r x 8 _ hx rfl)
          have xc9 := BL.cell (r * 12 + 9) _ (hc2 r x 9 _ hx rfl)
          have xc10 := BL.cell (r * 12 + 10) _ (hc2 r x 10 _ hx rfl)
          have xc11 := BL.cell (r * 12 + 11) _ (hc2 r x 11 _ hx rfl)

          have do0 : wr.drew.cell? ⟨wo.heap.size, 0, none⟩ = some (.int .i64 m.a.n) := oc0
          have eo0 : (wr.alloc (.cells #[.int .i64 0, .int .i64 0, .int .i64 0, .int .i64 0, .int .i64 0, .int .i64 0, .int .i64 0, .int .i64 0, .int .i64 0, .int .i64 0, .int .i64 0, .int .i64 0] 25)).drew.cell? ⟨wo.heap.size, 0, none⟩ = some (.int .i64 m.a.n) := cell_al _ oc0
          have do1 : wr.drew.cell? ⟨wo.heap.size, 1, none⟩ = some (.int .i64 m.a.d) := oc1
          have eo1 : (wr.alloc (.cells #[.int .i64 0, .int .i64 0, .int .i64 0, .int .i64 0, .int .i64 0, .int .i64 0, .int .i64 0, .int .i64 0, .int .i64 0, .int .i64 0, .int .i64 0, .int .i64 0] 25)).drew.cell? ⟨wo.heap.size, 1, none⟩ = some (.int .i64 m.a.d) := cell_al _ oc1
          have do2 : wr.drew.cell? ⟨wo.heap.size, 2, none⟩ = some (.int .i64 m.b.n) := oc2
          have eo2 : (wr.alloc (.cells #[.int .i64 0, .int .i64 0, .int .i64 0, .int .i64 0, .int .i64 0, .int .i64 0, .int .i64 0, .int .i64 0, .int .i64 0, .int .i64 0, .int .i64 0, .int .i64 0] 25)).drew.cell? ⟨wo.heap.size, 2, none⟩ = some (.int .i64 m.b.n) := cell_al _ oc2
          have do3 : wr.drew.cell? ⟨wo.heap.size, 3, none⟩ = some (.int .i64 m.b.d) := oc3
          have eo3 : (wr.alloc (.cells #[.int .i64 0, .int .i64 0, .int .i64 0, .int .i64 0, .int .i64 0, .int .i64 0, .int .i64 0, .int .i64 0, .int .i64 0, .int .i64 0, .int .i64 0, .int .i64 0] 25)).drew.cell? ⟨wo.heap.size, 3, none⟩ = some (.int .i64 m.b.d) := cell_al _ oc3
          have do4 : wr.drew.cell? ⟨wo.heap.size, 4, none⟩ = some (.int .i64 m.c.n) := oc4
          have eo4 : (wr.alloc (.cells #[.int .i64 0, .int .i64 0, .int .i64 0, .int .i64 0, .int .i64 0, .int .i64 0, .int .i64 0, .int .i64 0, .int .i64 0, .int .i64 0, .int .i64 0, .int .i64 0] 25)).drew.cell? ⟨wo.heap.size, 4, none⟩ = some (.int .i64 m.c.n) := cell_al _ oc4
          have do5 : wr.drew.cell? ⟨wo.heap.size, 5, none⟩ = some (.int .i64 m.c.d) := oc5
          have eo5 : (wr.alloc (.cells #[.int .i64 0, .int .i64 0, .int .i64 0, .int .i64 0, .int .i64 0, .int .i64 0, .int .i64 0, .int .i64 0, .int .i64 0, .int .i64 0, .int .i64 0, .int .i64 0] 25)).drew.cell? ⟨wo.heap.size, 5, none⟩ = some (.int .i64 m.c.d) := cell_al _ oc5
          have do6 : wr.drew.cell? ⟨wo.heap.size, 6, none⟩ = some (.int .i64 m.d.n) := oc6
          have eo6 : (wr.alloc (.cells #[.int .i64 0, .int .i64 0, .int .i64 0, .int .i64 0, .int .i64 0, .int .i64 0, .int .i64 0, .int .i64 0, .int .i64 0, .int .i64 0, .int .i64 0, .int .i64 0] 25)).drew.cell? ⟨wo.heap.size, 6, none⟩ = some (.int .i64 m.d.n) := cell_al _ oc6
          have do7 : wr.drew.cell? ⟨wo.heap.size, 7, none⟩ = some (.int .i64 m.d.d) := oc7
          have eo7 : (wr.alloc (.cells #[.int .i64 0, .int .i64 0, .int .i64 0, .int .i64 0, .int .i64 0, .int .i64 0, .int .i64 0, .int .i64 0, .int .i64 0, .int .i64 0, .int .i64 0, .int .i64 0] 25)).drew.cell? ⟨wo.heap.size, 7, none⟩ = some (.int .i64 m.d.d) := cell_al _ oc7
          have do8 : wr.drew.cell? ⟨wo.heap.size, 8, none⟩ = some (.int .i64 m.e.n) := oc8
          have eo8 : (wr.alloc (.cells #[.int .i64 0, .int .i64 0, .int .i64 0, .int .i64 0, .int .i64 0, .int .i64 0, .int .i64 0, .int .i64 0, .int .i64 0, .int .i64 0, .int .i64 0, .int .i64 0] 25)).drew.cell? ⟨wo.heap.size, 8, none⟩ = some (.int .i64 m.e.n) := cell_al _ oc8
          have do9 : wr.drew.cell? ⟨wo.heap.size, 9, none⟩ = some (.int .i64 m.e.d) := oc9
          have eo9 : (wr.alloc (.cells #[.int .i64 0, .int .i64 0, .int .i64 0, .int .i64 0, .int .i64 0, .int .i64 0, .int .i64 0, .int .i64 0, .int .i64 0, .int .i64 0, .int .i64 0, .int .i64 0] 25)).drew.cell? ⟨wo.heap.size, 9, none⟩ = some (.int .i64 m.e.d) := cell_al _ oc9
          have do10 : wr.drew.cell? ⟨wo.heap.size, 10, none⟩ = some (.int .i64 m.f.n) := oc10
          have eo10 : (wr.alloc (.cells #[.int .i64 0, .int .i64 0, .int .i64 0, .int .i64 0, .int .i64 0, .int .i64 0, .int .i64 0, .int .i64 0, .int .i64 0, .int .i64 0, .int .i64 0, .int .i64 0] 25)).drew.cell? ⟨wo.heap.size, 10, none⟩ = some (.int .i64 m.f.n) := cell_al _ oc10
          have do11 : wr.drew.cell? ⟨wo.heap.size, 11, none⟩ = some (.int .i64 m.f.d) := oc11
          have eo11 : (wr.alloc (.cells #[.int .i64 0, .int .i64 0, .int .i64 0, .int .i64 0, .int .i64 0, .int .i64 0, .int .i64 0, .int .i64 0, .int .i64 0, .int .i64 0, .int .i64 0, .int .i64 0] 25)).drew.cell? ⟨wo.heap.size, 11, none⟩ = some (.int .i64 m.f.d) := cell_al _ oc11
          have dx0 : wr.drew.cell? ⟨g2, r * 12, none⟩ = some (.int .i64 x.a.n) := xc0
          have ex0 : (wr.alloc (.cells #[.int .i64 0, .int .i64 0, .int .i64 0, .int .i64 0, .int .i64 0, .int .i64 0, .int .i64 0, .int .i64 0, .int .i64 0, .int .i64 0, .int .i64 0, .int .i64 0] 25)).drew.cell? ⟨g2, r * 12, none⟩ = some (.int .i64 x.a.n) := cell_al _ xc0
          have dx1 : wr.drew.cell? ⟨g2, r * 12 + 1, none⟩ = some (.int .i64 x.a.d) := xc1
          have ex1 : (wr.alloc (.cells #[.int .i64 0, .int .i64 0, .int .i64 0, .int .i64 0, .int .i64 0, .int .i64 0, .int .i64 0, .int .i64 0, .int .i64 0, .int .i64 0, .int .i64 0, .int .i64 0] 25)).drew.cell? ⟨g2, r * 12 + 1, none⟩ = some (.int .i64 x.a.d) := cell_al _ xc1
          have dx2 : wr.drew.cell? ⟨g2, r * 12 + 2, none⟩ = some (.int .i64 x.b.n) := xc2
          have ex2 : (wr.alloc (.cells #[.int .i64 0, .int .i64 0, .int .i64 0, .int .i64 0, .int .i64 0, .int .i64 0, .int .i64 0, .int .i64 0, .int .i64 0, .int .i64 0, .int .i64 0, .int .i64 0] 25)).drew.cell? ⟨g2, r * 12 + 2, none⟩ = some (.int .i64 x.b.n) := cell_al _ xc2
          have dx3 : wr.drew.cell? ⟨g2, r * 12 + 3, none⟩ = some (.int .i64 x.b.d) := xc3
          have ex3 : (wr.alloc (.cells #[.int .i64 0, .int .i64 0, .int .i64 0, .int .i64 0, .int .i64 0, .int .i64 0, .int .i64 0, .int .i64 0, .int .i64 0, .int .i64 0, .int .i64 0, .int .i64 0] 25)).drew.cell? ⟨g2, r * 12 + 3, none⟩ = some (.int .i64 x.b.d) := cell_al _ xc3
          have dx4 : wr.drew.cell? ⟨g2, r * 12 + 4, none⟩ = some (.int .i64 x.c.n) := xc4
          have ex4 : (wr.alloc (.cells #[.int .i64 0, .int .i64 0, .int .i64 0, .int .i64 0, .int .i64 0, .int .i64 0, .int .i64 0, .int .i64 0, .int .i64 0, .int .i64 0, .int .i64 0, .int .i64 0] 25)).drew.cell? ⟨g2, r * 12 + 4, none⟩ = some (.int .i64 x.c.n) := cell_al _ xc4
          have dx5 : wr.drew.cell? ⟨g2, r * 12 + 5, none⟩ = some (.int .i64 x.c.d) := xc5
          have ex5 : (wr.alloc (.cells #[.int .i64 0, .int .i64 0, .int .i64 0, .int .i64 0, .int .i64 0, .int .i64 0, .int .i64 0, .int .i64 0, .int .i64 0, .int .i64 0, .int .i64 0, .int .i64 0] 25)).drew.cell? ⟨g2, r * 12 + 5, none⟩ = some (.int .i64 x.c.d) := cell_al _ xc5
          have dx6 : wr.drew.cell? ⟨g2, r * 12 + 6, none⟩ = some (.int .i64 x.d.n) := xc6
          have ex6 : (wr.alloc (.cells #[.int .i64 0, .int .i64 0, .int .i64 0, .int .i64 0, .int .i64 0, .int .i64 0, .int .i64 0, .int .i64 0, .int .i64 0, .int .i64 0, .int .i64 0, .int .i64 0] 25)).drew.cell? ⟨g2, r * 12 + 6, none⟩ = some (.int .i64 x.d.n) := cell_al _ xc6
          have dx7 : wr.drew.cell? ⟨g2, r * 12 + 7, none⟩ = some (.int .i64 x.d.d) := xc7
          have ex7 : (wr.alloc (.cells #[.int .i64 0, .int .i64 0, .int .i64 0, .int .i64 0, .int .i64 0, .int .i64 0, .int .i64 0, .int .i64 0, .int .i64 0, .int .i64 0, .int .i64 0, .int .i64 0] 25)).drew.cell? ⟨g2, r * 12 + 7, none⟩ = some (.int .i64 x.d.d) := cell_al _ xc7
          have dx8 : wr.drew.cell? ⟨g2, r * 12 + 8, none⟩ = some (.int .i64 x.e.n) := xc8
          have ex8 : (wr.alloc (.cells #[.int .i64 0, .int .i64 0, .int .i64 0, .int .i64 0, .int .i64 0, .int .i64 0, .int .i64 0, .int .i64 0, .int .i64 0, .int .i64 0, .int .i64 0, .int .i64 0] 25)).drew.cell? ⟨g2, r * 12 + 8, none⟩ = some (.int .i64 x.e.n) := cell_al _ xc8
          have dx9 : wr.drew.cell? ⟨g2, r * 12 + 9, none⟩ = some (.int .i64 x.e.d) := xc9
          have ex9 : (wr.alloc (.cells #[.int .i64 0, .int .i64 0, .int .i64 0, .int .i64 0, .int .i64 0, .int .i64 0, .int .i64 0, .int .i64 0, .int .i64 0, .int .i64 0, .int .i64 0, .int .i64 0] 25)).drew.cell? ⟨g2, r * 12 + 9, none⟩ = some (.int .i64 x.e.d) := cell_al _ xc9
          have dx10 : wr.drew.cell? ⟨g2, r * 12 + 10, none⟩ = some (.int .i64 x.f.n) := xc10
          have ex10 : (wr.alloc (.cells #[.int .i64 0, .int .i64 0, .int .i64 0, .int .i64 0, .int .i64 0, .int .i64 0, .int .i64 0, .int .i64 0, .int .i64 0, .int .i64 0, .int .i64 0, .int .i64 0] 25)).drew.cell? ⟨g2, r * 12 + 10, none⟩ = some (.int .i64 x.f.n) := cell_al _ xc10
          have dx11 : wr.drew.cell? ⟨g2, r * 12 + 11, none⟩ = some (.int .i64 x.f.d) := xc11
          have ex11 : (wr.alloc (.cells #[.int .i64 0, .int .i64 0, .int .i64 0, .int .i64 0, .int .i64 0, .int .i64 0, .int .i64 0, .int .i64 0, .int .i64 0, .int .i64 0, .int .i64 0, .int .i64 0] 25)).drew.cell? ⟨g2, r * 12 + 11, none⟩ = some (.int .i64 x.f.d) := cell_al _ xc11

          have hlo := BO.lt
          have hlg := BL.lt
          have nv1 : ¬ wr.heap.size = wo.heap.size := by omega
          have nv2 : ¬ wr.heap.size = g2 := by omega
          have HZ : ∀ u, Below (wr.alloc (.cells #[.int .i64 0, .int .i64 0, .int .i64 0, .int .i64 0, .int .i64 0, .int .i64 0, .int .i64 0, .int .i64 0, .int .i64 0, .int .i64 0, .int .i64 0, .int .i64 0] 25)).drew.heap.size (wr.alloc (.cells #[.int .i64 0, .int .i64 0, .int .i64 0, .int .i64 0, .int .i64 0, .int .i64 0, .int .i64 0, .int .i64 0, .int .i64 0, .int .i64 0, .int .i64 0, .int .i64 0] 25)).drew u → Blk u wr.heap.size #[.int .i64 0, .int .i64 0, .int .i64 0, .int .i64 0, .int .i64 0, .int .i64 0, .int .i64 0, .int .i64 0, .int .i64 0, .int .i64 0, .int .i64 0, .int .i64 0] 25 := fun u h => blk_after h
          have hri : ((r + 1 : Nat) : Int) - 1 = (r : Int) := by omega
          simp only [hri]
          have hrI : (0 : Int) ≤ (r : Int) := by omega
          have hrI' : (r : Int) < (acc.length : Int) := by omega
          by_cases h3 : (thenS m x).2 = 0
          · obtain ⟨y, hy⟩ : ∃ y, thenS m x = (y, 0) := ⟨_, pair_eq h3⟩
            rw [(thenS_iff om ox).1 hy] at HT
            have oy : y.ok := by have := ((then_step om ox).2 h3).1; rw [hy] at this; exact this
            have hfy : foldR y (acc.take r).reverse = foldR .one acc.reverse := by rw [if_pos h3, hy] at hfold; exact hfold
            clear hfold h3 hy
            go_wp2_with fail
            go_cut [16, 17] from 123 to 139 (fun p v wx => v = .bool true ∧ ∃ Bx, p = .pointer (some ⟨Bx, 0, none⟩) ∧ wr.heap.size ≤ Bx ∧ (∀ j u, [.int .i64 y.a.n, .int .i64 y.a.d, .int .i64 y.b.n, .int .i64 y.b.d, .int .i64 y.c.n, .int .i64 y.c.d, .int .i64 y.d.n, .int .i64 y.d.d, .int .i64 y.e.n, .int .i64 y.e.d, .int .i64 y.f.n, .int .i64 y.f.d][j]? = some u → wx.cell? ⟨Bx, j, none⟩ = some u) ∧ Below wr.heap.size wr wx)
            case first =>
              go_region_held3 (fun w' => w'.cell? ⟨wo.heap.size, 0, none⟩ = some (.int .i64 m.a.n) ∧ w'.cell? ⟨wo.heap.size, 1, none⟩ = some (.int .i64 m.a.d) ∧ w'.cell? ⟨wo.heap.size, 2, none⟩ = some (.int .i64 m.b.n) ∧ w'.cell? ⟨wo.heap.size, 3, none⟩ = some (.int .i64 m.b.d) ∧ w'.cell? ⟨wo.heap.size, 4, none⟩ = some (.int .i64 m.c.n) ∧ w'.cell? ⟨wo.heap.size, 5, none⟩ = some (.int .i64 m.c.d) ∧ w'.cell? ⟨wo.heap.size, 6, none⟩ = some (.int .i64 m.d.n) ∧ w'.cell? ⟨wo.heap.size, 7, none⟩ = some (.int .i64 m.d.d) ∧ w'.cell? ⟨wo.heap.size, 8, none⟩ = some (.int .i64 m.e.n) ∧ w'.cell? ⟨wo.heap.size, 9, none⟩ = some (.int .i64 m.e.d) ∧ w'.cell? ⟨wo.heap.size, 10, none⟩ = some (.int .i64 m.f.n) ∧ w'.cell? ⟨wo.heap.size, 11, none⟩ = some (.int .i64 m.f.d) ∧ w'.cell? ⟨g2, r * 12, none⟩ = some (.int .i64 x.a.n) ∧ w'.cell? ⟨g2, r * 12 + 1, none⟩ = some (.int .i64 x.a.d) ∧ w'.cell? ⟨g2, r * 12 + 2, none⟩ = some (.int .i64 x.b.n) ∧ w'.cell? ⟨g2, r * 12 + 3, none⟩ = some (.int .i64 x.b.d) ∧ w'.cell? ⟨g2, r * 12 + 4, none⟩ = some (.int .i64 x.c.n) ∧ w'.cell? ⟨g2, r * 12 + 5, none⟩ = some (.int .i64 x.c.d) ∧ w'.cell? ⟨g2, r * 12 + 6, none⟩ = some (.int .i64 x.d.n) ∧ w'.cell? ⟨g2, r * 12 + 7, none⟩ = some (.int .i64 x.d.d) ∧ w'.cell? ⟨g2, r * 12 + 8, none⟩ = some (.int .i64 x.e.n) ∧ w'.cell? ⟨g2, r * 12 + 9, none⟩ = some (.int .i64 x.e.d) ∧ w'.cell? ⟨g2, r * 12 + 10, none⟩ = some (.int .i64 x.f.n) ∧ w'.cell? ⟨g2, r * 12 + 11, none⟩ = some (.int .i64 x.f.d)) (refine ⟨?_, ?_, ?_, ?_, ?_, ?_, ?_, ?_, ?_, ?_, ?_, ?_, ?_, ?_, ?_, ?_, ?_, ?_, ?_, ?_, ?_, ?_, ?_, ?_⟩ <;> (repeat (first | rw [World.cell?_setCell_far _ _ _ _ nv1] | rw [World.cell?_setCell_far _ _ _ _ nv2])) <;> assumption) ((go_at_call 19; refine (HT _).mono ?_; rintro e w3 ⟨rfl, hb3⟩; have hz3 := hb3.size; have hs3 := keep24 hb3 (by assumption); obtain ⟨j0, j1, j2, j3, j4, j5, j6, j7, j8, j9, j10, j11, j12, j13, j14, j15, j16, j17, j18, j19, j20, j21, j22, j23⟩ := hs3; have ya0 := cell_al (.cells #[.int .i64 y.a.n, .int .i64 y.a.d, .int .i64 y.b.n, .int .i64 y.b.d, .int .i64 y.c.n, .int .i64 y.c.d, .int .i64 y.d.n, .int .i64 y.d.d, .int .i64 y.e.n, .int .i64 y.e.d, .int .i64 y.f.n, .int .i64 y.f.d] 25) j0; have yb0 := cell_al (.cells #[.int .i64 0, .int .i64 0, .int .i64 0, .int .i64 0, .int .i64 0, .int .i64 0, .int .i64 0, .int .i64 0, .int .i64 0, .int .i64 0, .int .i64 0, .int .i64 0] 25) j0; have ya1 := cell_al (.cells #[.int .i64 y.a.n, .int .i64 y.a.d, .int .i64 y.b.n, .int .i64 y.b.d, .int .i64 y.c.n, .int .i64 y.c.d, .int .i64 y.d.n, .int .i64 y.d.d, .int .i64 y.e.n, .int .i64 y.e.d, .int .i64 y.f.n, .int .i64 y.f.d] 25) j1; have yb1 := cell_al (.cells #[.int .i64 0, .int .i64 0, .int .i64 0, .int .i64 0, .int .i64 0, .int .i64 0, .int .i64 0, .int .i64 0, .int .i64 0, .int .i64 0, .int .i64 0, .int .i64 0] 25) j1; have ya2 := cell_al (.cells #[.int .i64 y.a.n, .int .i64 y.a.d, .int .i64 y.b.n, .int .i64 y.b.d, .int .i64 y.c.n, .int .i64 y.c.d, .int .i64 y.d.n, .int .i64 y.d.d, .int .i64 y.e.n, .int .i64 y.e.d, .int .i64 y.f.n, .int .i64 y.f.d] 25) j2; have yb2 := cell_al (.cells #[.int .i64 0, .int .i64 0, .int .i64 0, .int .i64 0, .int .i64 0, .int .i64 0, .int .i64 0, .int .i64 0, .int .i64 0, .int .i64 0, .int .i64 0, .int .i64 0] 25) j2; have ya3 := cell_al (.cells #[.int .i64 y.a.n, .int .i64 y.a.d, .int .i64 y.b.n, .int .i64 y.b.d, .int .i64 y.c.n, .int .i64 y.c.d, .int .i64 y.d.n, .int .i64 y.d.d, .int .i64 y.e.n, .int .i64 y.e.d, .int .i64 y.f.n, .int .i64 y.f.d] 25) j3; have yb3 := cell_al (.cells #[.int .i64 0, .int .i64 0, .int .i64 0, .int .i64 0, .int .i64 0, .int .i64 0, .int .i64 0, .int .i64 0, .int .i64 0, .int .i64 0, .int .i64 0, .int .i64 0] 25) j3; have ya4 := cell_al (.cells #[.int .i64 y.a.n, .int .i64 y.a.d, .int .i64 y.b.n, .int .i64 y.b.d, .int .i64 y.c.n, .int .i64 y.c.d, .int .i64 y.d.n, .int .i64 y.d.d, .int .i64 y.e.n, .int .i64 y.e.d, .int .i64 y.f.n, .int .i64 y.f.d] 25) j4; have yb4 := cell_al (.cells #[.int .i64 0, .int .i64 0, .int .i64 0, .int .i64 0, .int .i64 0, .int .i64 0, .int .i64 0, .int .i64 0, .int .i64 0, .int .i64 0, .int .i64 0, .int .i64 0] 25) j4; have ya5 := cell_al (.cells #[.int .i64 y.a.n, .int .i64 y.a.d, .int .i64 y.b.n, .int .i64 y.b.d, .int .i64 y.c.n, .int .i64 y.c.d, .int .i64 y.d.n, .int .i64 y.d.d, .int .i64 y.e.n, .int .i64 y.e.d, .int .i64 y.f.n, .int .i64 y.f.d] 25) j5; have yb5 := cell_al (.cells #[.int .i64 0, .int .i64 0, .int .i64 0, .int .i64 0, .int .i64 0, .int .i64 0, .int .i64 0, .int .i64 0, .int .i64 0, .int .i64 0, .int .i64 0, .int .i64 0] 25) j5; have ya6 := cell_al (.cells #[.int .i64 y.a.n, .int .i64 y.a.d, .int .i64 y.b.n, .int .i64 y.b.d, .int .i64 y.c.n, .int .i64 y.c.d, .int .i64 y.d.n, .int .i64 y.d.d, .int .i64 y.e.n, .int .i64 y.e.d, .int .i64 y.f.n, .int .i64 y.f.d] 25) j6; have yb6 := cell_al (.cells #[.int .i64 0, .int .i64 0, .int .i64 0, .int .i64 0, .int .i64 0, .int .i64 0, .int .i64 0, .int .i64 0, .int .i64 0, .int .i64 0, .int .i64 0, .int .i64 0] 25) j6; have ya7 := cell_al (.cells #[.int .i64 y.a.n, .int .i64 y.a.d, .int .i64 y.b.n, .int .i64 y.b.d, .int .i64 y.c.n, .int .i64 y.c.d, .int .i64 y.d.n, .int .i64 y.d.d, .int .i64 y.e.n, .int .i64 y.e.d, .int .i64 y.f.n, .int .i64 y.f.d] 25) j7; have yb7 := cell_al (.cells #[.int .i64 0, .int .i64 0, .int .i64 0, .int .i64 0, .int .i64 0, .int .i64 0, .int .i64 0, .int .i64 0, .int .i64 0, .int .i64 0, .int .i64 0, .int .i64 0] 25) j7; have ya8 := cell_al (.cells #[.int .i64 y.a.n, .int .i64 y.a.d, .int .i64 y.b.n, .int .i64 y.b.d, .int .i64 y.c.n, .int .i64 y.c.d, .int .i64 y.d.n, .int .i64 y.d.d, .int .i64 y.e.n, .int .i64 y.e.d, .int .i64 y.f.n, .int .i64 y.f.d] 25) j8; have yb8 := cell_al (.cells #[.int .i64 0, .int .i64 0, .int .i64 0, .int .i64 0, .int .i64 0, .int .i64 0, .int .i64 0, .int .i64 0, .int .i64 0, .int .i64 0, .int .i64 0, .int .i64 0] 25) j8; have ya9 := cell_al (.cells #[.int .i64 y.a.n, .int .i64 y.a.d, .int .i64 y.b.n, .int .i64 y.b.d, .int .i64 y.c.n, .int .i64 y.c.d, .int .i64 y.d.n, .int .i64 y.d.d, .int .i64 y.e.n, .int .i64 y.e.d, .int .i64 y.f.n, .int .i64 y.f.d] 25) j9; have yb9 := cell_al (.cells #[.int .i64 0, .int .i64 0, .int .i64 0, .int .i64 0, .int .i64 0, .int .i64 0, .int .i64 0, .int .i64 0, .int .i64 0, .int .i64 0, .int .i64 0, .int .i64 0] 25) j9; have ya10 := cell_al (.cells #[.int .i64 y.a.n, .int .i64 y.a.d, .int .i64 y.b.n, .int .i64 y.b.d, .int .i64 y.c.n, .int .i64 y.c.d, .int .i64 y.d.n, .int .i64 y.d.d, .int .i64 y.e.n, .int .i64 y.e.d, .int .i64 y.f.n, .int .i64 y.f.d] 25) j10; have yb10 := cell_al (.cells #[.int .i64 0, .int .i64 0, .int .i64 0, .int .i64 0, .int .i64 0, .int .i64 0, .int .i64 0, .int .i64 0, .int .i64 0, .int .i64 0, .int .i64 0, .int .i64 0] 25) j10; have ya11 := cell_al (.cells #[.int .i64 y.a.n, .int .i64 y.a.d, .int .i64 y.b.n, .int .i64 y.b.d, .int .i64 y.c.n, .int .i64 y.c.d, .int .i64 y.d.n, .int .i64 y.d.d, .int .i64 y.e.n, .int .i64 y.e.d, .int .i64 y.f.n, .int .i64 y.f.d] 25) j11; have yb11 := cell_al (.cells #[.int .i64 0, .int .i64 0, .int .i64 0, .int .i64 0, .int .i64 0, .int .i64 0, .int .i64 0, .int .i64 0, .int .i64 0, .int .i64 0, .int .i64 0, .int .i64 0] 25) j11; have ya12 := cell_al (.cells #[.int .i64 y.a.n, .int .i64 y.a.d, .int .i64 y.b.n, .int .i64 y.b.d, .int .i64 y.c.n, .int .i64 y.c.d, .int .i64 y.d.n, .int .i64 y.d.d, .int .i64 y.e.n, .int .i64 y.e.d, .int .i64 y.f.n, .int .i64 y.f.d] 25) j12; have yb12 := cell_al (.cells #[.int .i64 0, .int .i64 0, .int .i64 0, .int .i64 0, .int .i64 0, .int .i64 0, .int .i64 0, .int .i64 0, .int .i64 0, .int .i64 0, .int .i64 0, .int .i64 0] 25) j12; have ya13 := cell_al (.cells #[.int .i64 y.a.n, .int .i64 y.a.d, .int .i64 y.b.n, .int .i64 y.b.d, .int .i64 y.c.n, .int .i64 y.c.d, .int .i64 y.d.n, .int .i64 y.d.d, .int .i64 y.e.n, .int .i64 y.e.d, .int .i64 y.f.n, .int .i64 y.f.d] 25) j13; have yb13 := cell_al (.cells #[.int .i64 0, .int .i64 0, .int .i64 0, .int .i64 0, .int .i64 0, .int .i64 0, .int .i64 0, .int .i64 0, .int .i64 0, .int .i64 0, .int .i64 0, .int .i64 0] 25) j13; have ya14 := cell_al (.cells #[.int .i64 y.a.n, .int .i64 y.a.d, .int .i64 y.b.n, .int .i64 y.b.d, .int .i64 y.c.n, .int .i64 y.c.d, .int .i64 y.d.n, .int .i64 y.d.d, .int .i64 y.e.n, .int .i64 y.e.d, .int .i64 y.f.n, .int .i64 y.f.d] 25) j14; have yb14 := cell_al (.cells #[.int .i64 0, .int .i64 0, .int .i64 0, .int .i64 0, .int .i64 0, .int .i64 0, .int .i64 0, .int .i64 0, .int .i64 0, .int .i64 0, .int .i64 0, .int .i64 0] 25) j14; have ya15 := cell_al (.cells #[.int .i64 y.a.n, .int .i64 y.a.d, .int .i64 y.b.n, .int .i64 y.b.d, .int .i64 y.c.n, .int .i64 y.c.d, .int .i64 y.d.n, .int .i64 y.d.d, .int .i64 y.e.n, .int .i64 y.e.d, .int .i64 y.f.n, .int .i64 y.f.d] 25) j15; have yb15 := cell_al (.cells #[.int .i64 0, .int .i64 0, .int .i64 0, .int .i64 0, .int .i64 0, .int .i64 0, .int .i64 0, .int .i64 0, .int .i64 0, .int .i64 0, .int .i64 0, .int .i64 0] 25) j15; have ya16 := cell_al (.cells #[.int .i64 y.a.n, .int .i64 y.a.d, .int .i64 y.b.n, .int .i64 y.b.d, .int .i64 y.c.n, .int .i64 y.c.d, .int .i64 y.d.n, .int .i64 y.d.d, .int .i64 y.e.n, .int .i64 y.e.d, .int .i64 y.f.n, .int .i64 y.f.d] 25) j16; have yb16 := cell_al (.cells #[.int .i64 0, .int .i64 0, .int .i64 0, .int .i64 0, .int .i64 0, .int .i64 0, .int .i64 0, .int .i64 0, .int .i64 0, .int .i64 0, .int .i64 0, .int .i64 0] 25) j16; have ya17 := cell_al (.cells #[.int .i64 y.a.n, .int .i64 y.a.d, .int .i64 y.b.n, .int .i64 y.b.d, .int .i64 y.c.n, .int .i64 y.c.d, .int .i64 y.d.n, .int .i64 y.d.d, .int .i64 y.e.n, .int .i64 y.e.d, .int .i64 y.f.n, .int .i64 y.f.d] 25) j17; have yb17 := cell_al (.cells #[.int .i64 0, .int .i64 0, .int .i64 0, .int .i64 0, .int .i64 0, .int .i64 0, .int .i64 0, .int .i64 0, .int .i64 0, .int .i64 0, .int .i64 0, .int .i64 0] 25) j17; have ya18 := cell_al (.cells #[.int .i64 y.a.n, .int .i64 y.a.d, .int .i64 y.b.n, .int .i64 y.b.d, .int .i64 y.c.n, .int .i64 y.c.d, .int .i64 y.d.n, .int .i64 y.d.d, .int .i64 y.e.n, .int .i64 y.e.d, .int .i64 y.f.n, .int .i64 y.f.d] 25) j18; have yb18 := cell_al (.cells #[.int .i64 0, .int .i64 0, .int .i64 0, .int .i64 0, .int .i64 0, .int .i64 0, .int .i64 0, .int .i64 0, .int .i64 0, .int .i64 0, .int .i64 0, .int .i64 0] 25) j18; have ya19 := cell_al (.cells #[.int .i64 y.a.n, .int .i64 y.a.d, .int .i64 y.b.n, .int .i64 y.b.d, .int .i64 y.c.n, .int .i64 y.c.d, .int .i64 y.d.n, .int .i64 y.d.d, .int .i64 y.e.n, .int .i64 y.e.d, .int .i64 y.f.n, .int .i64 y.f.d] 25) j19; have yb19 := cell_al (.cells #[.int .i64 0, .int .i64 0, .int .i64 0, .int .i64 0, .int .i64 0, .int .i64 0, .int .i64 0, .int .i64 0, .int .i64 0, .int .i64 0, .int .i64 0, .int .i64 0] 25) j19; have ya20 := cell_al (.cells #[.int .i64 y.a.n, .int .i64 y.a.d, .int .i64 y.b.n, .int .i64 y.b.d, .int .i64 y.c.n, .int .i64 y.c.d, .int .i64 y.d.n, .int .i64 y.d.d, .int .i64 y.e.n, .int .i64 y.e.d, .int .i64 y.f.n, .int .i64 y.f.d] 25) j20; have yb20 := cell_al (.cells #[.int .i64 0, .int .i64 0, .int .i64 0, .int .i64 0, .int .i64 0, .int .i64 0, .int .i64 0, .int .i64 0, .int .i64 0, .int .i64 0, .int .i64 0, .int .i64 0] 25) j20; have ya21 := cell_al (.cells #[.int .i64 y.a.n, .int .i64 y.a.d, .int .i64 y.b.n, .int .i64 y.b.d, .int .i64 y.c.n, .int .i64 y.c.d, .int .i64 y.d.n, .int .i64 y.d.d, .int .i64 y.e.n, .int .i64 y.e.d, .int .i64 y.f.n, .int .i64 y.f.d] 25) j21; have yb21 := cell_al (.cells #[.int .i64 0, .int .i64 0, .int .i64 0, .int .i64 0, .int .i64 0, .int .i64 0, .int .i64 0, .int .i64 0, .int .i64 0, .int .i64 0, .int .i64 0, .int .i64 0] 25) j21; have ya22 := cell_al (.cells #[.int .i64 y.a.n, .int .i64 y.a.d, .int .i64 y.b.n, .int .i64 y.b.d, .int .i64 y.c.n, .int .i64 y.c.d, .int .i64 y.d.n, .int .i64 y.d.d, .int .i64 y.e.n, .int .i64 y.e.d, .int .i64 y.f.n, .int .i64 y.f.d] 25) j22; have yb22 := cell_al (.cells #[.int .i64 0, .int .i64 0, .int .i64 0, .int .i64 0, .int .i64 0, .int .i64 0, .int .i64 0, .int .i64 0, .int .i64 0, .int .i64 0, .int .i64 0, .int .i64 0] 25) j22; have ya23 := cell_al (.cells #[.int .i64 y.a.n, .int .i64 y.a.d, .int .i64 y.b.n, .int .i64 y.b.d, .int .i64 y.c.n, .int .i64 y.c.d, .int .i64 y.d.n, .int .i64 y.d.d, .int .i64 y.e.n, .int .i64 y.e.d, .int .i64 y.f.n, .int .i64 y.f.d] 25) j23; have yb23 := cell_al (.cells #[.int .i64 0, .int .i64 0, .int .i64 0, .int .i64 0, .int .i64 0, .int .i64 0, .int .i64 0, .int .i64 0, .int .i64 0, .int .i64 0, .int .i64 0, .int .i64 0] 25) j23; (first | (have BZ := HZ _ hb3; have zc0 := BZ.cell 0 _ rfl; have zf0 := BZ.froz 0 _ rfl; have zc1 := BZ.cell 1 _ rfl; have zf1 := BZ.froz 1 _ rfl; have zc2 := BZ.cell 2 _ rfl; have zf2 := BZ.froz 2 _ rfl; have zc3 := BZ.cell 3 _ rfl; have zf3 := BZ.froz 3 _ rfl; have zc4 := BZ.cell 4 _ rfl; have zf4 := BZ.froz 4 _ rfl; have zc5 := BZ.cell 5 _ rfl; have zf5 := BZ.froz 5 _ rfl; have zc6 := BZ.cell 6 _ rfl; have zf6 := BZ.froz 6 _ rfl; have zc7 := BZ.cell 7 _ rfl; have zf7 := BZ.froz 7 _ rfl; have zc8 := BZ.cell 8 _ rfl; have zf8 := BZ.froz 8 _ rfl; have zc9 := BZ.cell 9 _ rfl; have zf9 := BZ.froz 9 _ rfl; have zc10 := BZ.cell 10 _ rfl; have zf10 := BZ.froz 10 _ rfl; have zc11 := BZ.cell 11 _ rfl; have zf11 := BZ.froz 11 _ rfl) | skip)))
              · go_wp2_with fail
                go_meet
                exact ⟨rfl, w3.heap.size, rfl, hz3, list_at (cs := [.int .i64 y.a.n, .int .i64 y.a.d, .int .i64 y.b.n, .int .i64 y.b.d, .int .i64 y.c.n, .int .i64 y.c.d, .int .i64 y.d.n, .int .i64 y.d.d, .int .i64 y.e.n, .int .i64 y.e.d, .int .i64 y.f.n, .int .i64 y.f.d]), (undrew hb3).alloc hz3 _⟩
              · go_wp2_with fail
                go_meet
                have hb4 : Below wr.heap.size wr w3 := ((Below.refl wr.heap.size wr).alloc (Nat.le_refl _) (.cells #[.int .i64 0, .int .i64 0, .int .i64 0, .int .i64 0, .int .i64 0, .int .i64 0, .int .i64 0, .int .i64 0, .int .i64 0, .int .i64 0, .int .i64 0, .int .i64 0] 25)).trans ((undrew hb3).mono (by simp))
                have hat := put_at (R := wr.heap.size) [.int .i64 y.a.n, .int .i64 y.a.d, .int .i64 y.b.n, .int .i64 y.b.d, .int .i64 y.c.n, .int .i64 y.c.d, .int .i64 y.d.n, .int .i64 y.d.d, .int .i64 y.e.n, .int .i64 y.e.d, .int .i64 y.f.n, .int .i64 y.f.d] 0 w3 (fun i hi => blk_some BZ i hi)
                simp only [Nat.zero_add] at hat
                exact ⟨rfl, wr.heap.size, rfl, Nat.le_refl _, hat, put_below (R := wr.heap.size) (Nat.le_refl _) [.int .i64 y.a.n, .int .i64 y.a.d, .int .i64 y.b.n, .int .i64 y.b.d, .int .i64 y.c.n, .int .i64 y.c.d, .int .i64 y.d.n, .int .i64 y.d.d, .int .i64 y.e.n, .int .i64 y.e.d, .int .i64 y.f.n, .int .i64 y.f.d] 0 hb4⟩

            case rest =>
              obtain ⟨rfl, Bx, rfl, hBx, hcells, hbV⟩ := hcut
              have sx := hbV.size
              obtain ⟨y0, y1, y2, y3, y4, y5, y6, y7, y8, y9, y10, y11⟩ := And.intro (hcells 0 _ rfl) (And.intro (hcells 1 _ rfl) (And.intro (hcells 2 _ rfl) (And.intro (hcells 3 _ rfl) (And.intro (hcells 4 _ rfl) (And.intro (hcells 5 _ rfl) (And.intro (hcells 6 _ rfl) (And.intro (hcells 7 _ rfl) (And.intro (hcells 8 _ rfl) (And.intro (hcells 9 _ rfl) (And.intro (hcells 10 _ rfl) (hcells 11 _ rfl)))))))))))
              have OC := BO.below hbV (Nat.le_refl _)
              have oc0 := OC.cell 0 _ rfl
              have of0 := OC.froz 0 _ rfl
              have oc1 := OC.cell 1 _ rfl
              have of1 := OC.froz 1 _ rfl
              have oc2 := OC.cell 2 _ rfl
              have of2 := OC.froz 2 _ rfl
              have oc3 := OC.cell 3 _ rfl
              have of3 := OC.froz 3 _ rfl
              have oc4 := OC.cell 4 _ rfl
              have of4 := OC.froz 4 _ rfl
              have oc5 := OC.cell 5 _ rfl
              have of5 := OC.froz 5 _ rfl
              have oc6 := OC.cell 6 _ rfl
              have of6 := OC.froz 6 _ rfl
              have oc7 := OC.cell 7 _ rfl
              have of7 := OC.froz 7 _ rfl
              have oc8 := OC.cell 8 _ rfl
              have of8 := OC.froz 8 _ rfl
              have oc9 := OC.cell 9 _ rfl
              have of9 := OC.froz 9 _ rfl
              have oc10 := OC.cell 10 _ rfl
              have of10 := OC.froz 10 _ rfl
              have oc11 := OC.cell 11 _ rfl
              have of11 := OC.froz 11 _ rfl
              go_wp2_with fail
              go_roundw
              case rel =>
                refine ⟨r, y, by omega, by first | rfl | (congr 1; omega) | (simp; omega), oy, ?_, ?_, ?_, ?_, ?_, ?_⟩
                · rw [← hfy]
                · exact (BR.below hbV (Nat.le_refl _)).putOther (by omega) [.int .i64 y.a.n, .int .i64 y.a.d, .int .i64 y.b.n, .int .i64 y.b.d, .int .i64 y.c.n, .int .i64 y.c.d, .int .i64 y.d.n, .int .i64 y.d.d, .int .i64 y.e.n, .int .i64 y.e.d, .int .i64 y.f.n, .int .i64 y.f.d]
                · exact Blk.all12 OC _ _ _ _ _ _ _ _ _ _ _ _
                · exact (BL.below hbV (Nat.le_refl _)).putOther (by omega) [.int .i64 y.a.n, .int .i64 y.a.d, .int .i64 y.b.n, .int .i64 y.b.d, .int .i64 y.c.n, .int .i64 y.c.d, .int .i64 y.d.n, .int .i64 y.d.d, .int .i64 y.e.n, .int .i64 y.e.d, .int .i64 y.f.n, .int .i64 y.f.d]
                · exact put_below (R := wo.heap.size) (by omega) [.int .i64 y.a.n, .int .i64 y.a.d, .int .i64 y.b.n, .int .i64 y.b.d, .int .i64 y.c.n, .int .i64 y.c.d, .int .i64 y.d.n, .int .i64 y.d.d, .int .i64 y.e.n, .int .i64 y.e.d, .int .i64 y.f.n, .int .i64 y.f.d] 0 (bel0 hlow hbV)
                · have := (put_below (B := 0) (A := wc) (R := wo.heap.size) (Nat.zero_le _) [.int .i64 y.a.n, .int .i64 y.a.d, .int .i64 y.b.n, .int .i64 y.b.d, .int .i64 y.c.n, .int .i64 y.c.d, .int .i64 y.d.n, .int .i64 y.d.d, .int .i64 y.e.n, .int .i64 y.e.d, .int .i64 y.f.n, .int .i64 y.f.d] 0 (Below.refl 0 wc)).size
                  exact Nat.le_trans (Nat.le_trans hsz2 sx) this
              case measure => simp [intOf] <;> omega


          · have hnn : thenO m x = none := by
              cases hq : thenO m x with
              | none => rfl
              | some y => exact (h3 (by rw [(thenS_iff om ox).2 hq])).elim
            rw [hnn] at HT
            rw [if_neg h3] at hfold
            have hfn : foldR .one acc.reverse = (.zero, 2) := hfold.symm
            clear h3
            go_wp2_with fail
            go_cut [16, 17] from 123 to 139 (fun p v wx => v = .bool false ∧ ∃ Bx, p = .pointer (some ⟨Bx, 0, none⟩) ∧ wr.heap.size ≤ Bx ∧ (∀ j u, [.int .i64 0, .int .i64 0, .int .i64 0, .int .i64 0, .int .i64 0, .int .i64 0, .int .i64 0, .int .i64 0, .int .i64 0, .int .i64 0, .int .i64 0, .int .i64 0][j]? = some u → wx.cell? ⟨Bx, j, none⟩ = some u) ∧ Below wr.heap.size wr wx)
            case first =>
              go_region_held3 (fun w' => w'.cell? ⟨wo.heap.size, 0, none⟩ = some (.int .i64 m.a.n) ∧ w'.cell? ⟨wo.heap.size, 1, none⟩ = some (.int .i64 m.a.d) ∧ w'.cell? ⟨wo.heap.size, 2, none⟩ = some (.int .i64 m.b.n) ∧ w'.cell? ⟨wo.heap.size, 3, none⟩ = some (.int .i64 m.b.d) ∧ w'.cell? ⟨wo.heap.size, 4, none⟩ = some (.int .i64 m.c.n) ∧ w'.cell? ⟨wo.heap.size, 5, none⟩ = some (.int .i64 m.c.d) ∧ w'.cell? ⟨wo.heap.size, 6, none⟩ = some (.int .i64 m.d.n) ∧ w'.cell? ⟨wo.heap.size, 7, none⟩ = some (.int .i64 m.d.d) ∧ w'.cell? ⟨wo.heap.size, 8, none⟩ = some (.int .i64 m.e.n) ∧ w'.cell? ⟨wo.heap.size, 9, none⟩ = some (.int .i64 m.e.d) ∧ w'.cell? ⟨wo.heap.size, 10, none⟩ = some (.int .i64 m.f.n) ∧ w'.cell? ⟨wo.heap.size, 11, none⟩ = some (.int .i64 m.f.d) ∧ w'.cell? ⟨g2, r * 12, none⟩ = some (.int .i64 x.a.n) ∧ w'.cell? ⟨g2, r * 12 + 1, none⟩ = some (.int .i64 x.a.d) ∧ w'.cell? ⟨g2, r * 12 + 2, none⟩ = some (.int .i64 x.b.n) ∧ w'.cell? ⟨g2, r * 12 + 3, none⟩ = some (.int .i64 x.b.d) ∧ w'.cell? ⟨g2, r * 12 + 4, none⟩ = some (.int .i64 x.c.n) ∧ w'.cell? ⟨g2, r * 12 + 5, none⟩ = some (.int .i64 x.c.d) ∧ w'.cell? ⟨g2, r * 12 + 6, none⟩ = some (.int .i64 x.d.n) ∧ w'.cell? ⟨g2, r * 12 + 7, none⟩ = some (.int .i64 x.d.d) ∧ w'.cell? ⟨g2, r * 12 + 8, none⟩ = some (.int .i64 x.e.n) ∧ w'.cell? ⟨g2, r * 12 + 9, none⟩ = some (.int .i64 x.e.d) ∧ w'.cell? ⟨g2, r * 12 + 10, none⟩ = some (.int .i64 x.f.n) ∧ w'.cell? ⟨g2, r * 12 + 11, none⟩ = some (.int .i64 x.f.d)) (refine ⟨?_, ?_, ?_, ?_, ?_, ?_, ?_, ?_, ?_, ?_, ?_, ?_, ?_, ?_, ?_, ?_, ?_, ?_, ?_, ?_, ?_, ?_, ?_, ?_⟩ <;> (repeat (first | rw [World.cell?_setCell_far _ _ _ _ nv1] | rw [World.cell?_setCell_far _ _ _ _ nv2])) <;> assumption) ((go_at_call 19; refine (HT _).mono ?_; rintro e w3 ⟨rfl, hb3⟩; have hz3 := hb3.size; have hs3 := keep24 hb3 (by assumption); obtain ⟨j0, j1, j2, j3, j4, j5, j6, j7, j8, j9, j10, j11, j12, j13, j14, j15, j16, j17, j18, j19, j20, j21, j22, j23⟩ := hs3; have ya0 := cell_al (.cells #[.int .i64 0, .int .i64 0, .int .i64 0, .int .i64 0, .int .i64 0, .int .i64 0, .int .i64 0, .int .i64 0, .int .i64 0, .int .i64 0, .int .i64 0, .int .i64 0] 25) j0; have yb0 := cell_al (.cells #[.int .i64 0, .int .i64 0, .int .i64 0, .int .i64 0, .int .i64 0, .int .i64 0, .int .i64 0, .int .i64 0, .int .i64 0, .int .i64 0, .int .i64 0, .int .i64 0] 25) j0; have ya1 := cell_al (.cells #[.int .i64 0, .int .i64 0, .int .i64 0, .int .i64 0, .int .i64 0, .int .i64 0, .int .i64 0, .int .i64 0, .int .i64 0, .int .i64 0, .int .i64 0, .int .i64 0] 25) j1; have yb1 := cell_al (.cells #[.int .i64 0, .int .i64 0, .int .i64 0, .int .i64 0, .int .i64 0, .int .i64 0, .int .i64 0, .int .i64 0, .int .i64 0, .int .i64 0, .int .i64 0, .int .i64 0] 25) j1; have ya2 := cell_al (.cells #[.int .i64 0, .int .i64 0, .int .i64 0, .int .i64 0, .int .i64 0, .int .i64 0, .int .i64 0, .int .i64 0, .int .i64 0, .int .i64 0, .int .i64 0, .int .i64 0] 25) j2; have yb2 := cell_al (.cells #[.int .i64 0, .int .i64 0, .int .i64 0, .int .i64 0, .int .i64 0, .int .i64 0, .int .i64 0, .int .i64 0, .int .i64 0, .int .i64 0, .int .i64 0, .int .i64 0] 25) j2; have ya3 := cell_al (.cells #[.int .i64 0, .int .i64 0, .int .i64 0, .int .i64 0, .int .i64 0, .int .i64 0, .int .i64 0, .int .i64 0, .int .i64 0, .int .i64 0, .int .i64 0, .int .i64 0] 25) j3; have yb3 := cell_al (.cells #[.int .i64 0, .int .i64 0, .int .i64 0, .int .i64 0, .int .i64 0, .int .i64 0, .int .i64 0, .int .i64 0, .int .i64 0, .int .i64 0, .int .i64 0, .int .i64 0] 25) j3; have ya4 := cell_al (.cells #[.int .i64 0, .int .i64 0, .int .i64 0, .int .i64 0, .int .i64 0, .int .i64 0, .int .i64 0, .int .i64 0, .int .i64 0, .int .i64 0, .int .i64 0, .int .i64 0] 25) j4; have yb4 := cell_al (.cells #[.int .i64 0, .int .i64 0, .int .i64 0, .int .i64 0, .int .i64 0, .int .i64 0, .int .i64 0, .int .i64 0, .int .i64 0, .int .i64 0, .int .i64 0, .int .i64 0] 25) j4; have ya5 := cell_al (.cells #[.int .i64 0, .int .i64 0, .int .i64 0, .int .i64 0, .int .i64 0, .int .i64 0, .int .i64 0, .int .i64 0, .int .i64 0, .int .i64 0, .int .i64 0, .int .i64 0] 25) j5; have yb5 := cell_al (.cells #[.int .i64 0, .int .i64 0, .int .i64 0, .int .i64 0, .int .i64 0, .int .i64 0, .int .i64 0, .int .i64 0, .int .i64 0, .int .i64 0, .int .i64 0, .int .i64 0] 25) j5; have ya6 := cell_al (.cells #[.int .i64 0, .int .i64 0, .int .i64 0, .int .i64 0, .int .i64 0, .int .i64 0, .int .i64 0, .int .i64 0, .int .i64 0, .int .i64 0, .int .i64 0, .int .i64 0] 25) j6; have yb6 := cell_al (.cells #[.int .i64 0, .int .i64 0, .int .i64 0, .int .i64 0, .int .i64 0, .int .i64 0, .int .i64 0, .int .i64 0, .int .i64 0, .int .i64 0, .int .i64 0, .int .i64 0] 25) j6; have ya7 := cell_al (.cells #[.int .i64 0, .int .i64 0, .int .i64 0, .int .i64 0, .int .i64 0, .int .i64 0, .int .i64 0, .int .i64 0, .int .i64 0, .int .i64 0, .int .i64 0, .int .i64 0] 25) j7; have yb7 := cell_al (.cells #[.int .i64 0, .int .i64 0, .int .i64 0, .int .i64 0, .int .i64 0, .int .i64 0, .int .i64 0, .int .i64 0, .int .i64 0, .int .i64 0, .int .i64 0, .int .i64 0] 25) j7; have ya8 := cell_al (.cells #[.int .i64 0, .int .i64 0, .int .i64 0, .int .i64 0, .int .i64 0, .int .i64 0, .int .i64 0, .int .i64 0, .int .i64 0, .int .i64 0, .int .i64 0, .int .i64 0] 25) j8; have yb8 := cell_al (.cells #[.int .i64 0, .int .i64 0, .int .i64 0, .int .i64 0, .int .i64 0, .int .i64 0, .int .i64 0, .int .i64 0, .int .i64 0, .int .i64 0, .int .i64 0, .int .i64 0] 25) j8; have ya9 := cell_al (.cells #[.int .i64 0, .int .i64 0, .int .i64 0, .int .i64 0, .int .i64 0, .int .i64 0, .int .i64 0, .int .i64 0, .int .i64 0, .int .i64 0, .int .i64 0, .int .i64 0] 25) j9; have yb9 := cell_al (.cells #[.int .i64 0, .int .i64 0, .int .i64 0, .int .i64 0, .int .i64 0, .int .i64 0, .int .i64 0, .int .i64 0, .int .i64 0, .int .i64 0, .int .i64 0, .int .i64 0] 25) j9; have ya10 := cell_al (.cells #[.int .i64 0, .int .i64 0, .int .i64 0, .int .i64 0, .int .i64 0, .int .i64 0, .int .i64 0, .int .i64 0, .int .i64 0, .int .i64 0, .int .i64 0, .int .i64 0] 25) j10; have yb10 := cell_al (.cells #[.int .i64 0, .int .i64 0, .int .i64 0, .int .i64 0, .int .i64 0, .int .i64 0, .int .i64 0, .int .i64 0, .int .i64 0, .int .i64 0, .int .i64 0, .int .i64 0] 25) j10; have ya11 := cell_al (.cells #[.int .i64 0, .int .i64 0, .int .i64 0, .int .i64 0, .int .i64 0, .int .i64 0, .int .i64 0, .int .i64 0, .int .i64 0, .int .i64 0, .int .i64 0, .int .i64 0] 25) j11; have yb11 := cell_al (.cells #[.int .i64 0, .int .i64 0, .int .i64 0, .int .i64 0, .int .i64 0, .int .i64 0, .int .i64 0, .int .i64 0, .int .i64 0, .int .i64 0, .int .i64 0, .int .i64 0] 25) j11; have ya12 := cell_al (.cells #[.int .i64 0, .int .i64 0, .int .i64 0, .int .i64 0, .int .i64 0, .int .i64 0, .int .i64 0, .int .i64 0, .int .i64 0, .int .i64 0, .int .i64 0, .int .i64 0] 25) j12; have yb12 := cell_al (.cells #[.int .i64 0, .int .i64 0, .int .i64 0, .int .i64 0, .int .i64 0, .int .i64 0, .int .i64 0, .int .i64 0, .int .i64 0, .int .i64 0, .int .i64 0, .int .i64 0] 25) j12; have ya13 := cell_al (.cells #[.int .i64 0, .int .i64 0, .int .i64 0, .int .i64 0, .int .i64 0, .int .i64 0, .int .i64 0, .int .i64 0, .int .i64 0, .int .i64 0, .int .i64 0, .int .i64 0] 25) j13; have yb13 := cell_al (.cells #[.int .i64 0, .int .i64 0, .int .i64 0, .int .i64 0, .int .i64 0, .int .i64 0, .int .i64 0, .int .i64 0, .int .i64 0, .int .i64 0, .int .i64 0, .int .i64 0] 25) j13; have ya14 := cell_al (.cells #[.int .i64 0, .int .i64 0, .int .i64 0, .int .i64 0, .int .i64 0, .int .i64 0, .int .i64 0, .int .i64 0, .int .i64 0, .int .i64 0, .int .i64 0, .int .i64 0] 25) j14; have yb14 := cell_al (.cells #[.int .i64 0, .int .i64 0, .int .i64 0, .int .i64 0, .int .i64 0, .int .i64 0, .int .i64 0, .int .i64 0, .int .i64 0, .int .i64 0, .int .i64 0, .int .i64 0] 25) j14; have ya15 := cell_al (.cells #[.int .i64 0, .int .i64 0, .int .i64 0, .int .i64 0, .int .i64 0, .int .i64 0, .int .i64 0, .int .i64 0, .int .i64 0, .int .i64 0, .int .i64 0, .int .i64 0] 25) j15; have yb15 := cell_al (.cells #[.int .i64 0, .int .i64 0, .int .i64 0, .int .i64 0, .int .i64 0, .int .i64 0, .int .i64 0, .int .i64 0, .int .i64 0, .int .i64 0, .int .i64 0, .int .i64 0] 25) j15; have ya16 := cell_al (.cells #[.int .i64 0, .int .i64 0, .int .i64 0, .int .i64 0, .int .i64 0, .int .i64 0, .int .i64 0, .int .i64 0, .int .i64 0, .int .i64 0, .int .i64 0, .int .i64 0] 25) j16; have yb16 := cell_al (.cells #[.int .i64 0, .int .i64 0, .int .i64 0, .int .i64 0, .int .i64 0, .int .i64 0, .int .i64 0, .int .i64 0, .int .i64 0, .int .i64 0, .int .i64 0, .int .i64 0] 25) j16; have ya17 := cell_al (.cells #[.int .i64 0, .int .i64 0, .int .i64 0, .int .i64 0, .int .i64 0, .int .i64 0, .int .i64 0, .int .i64 0, .int .i64 0, .int .i64 0, .int .i64 0, .int .i64 0] 25) j17; have yb17 := cell_al (.cells #[.int .i64 0, .int .i64 0, .int .i64 0, .int .i64 0, .int .i64 0, .int .i64 0, .int .i64 0, .int .i64 0, .int .i64 0, .int .i64 0, .int .i64 0, .int .i64 0] 25) j17; have ya18 := cell_al (.cells #[.int .i64 0, .int .i64 0, .int .i64 0, .int .i64 0, .int .i64 0, .int .i64 0, .int .i64 0, .int .i64 0, .int .i64 0, .int .i64 0, .int .i64 0, .int .i64 0] 25) j18; have yb18 := cell_al (.cells #[.int .i64 0, .int .i64 0, .int .i64 0, .int .i64 0, .int .i64 0, .int .i64 0, .int .i64 0, .int .i64 0, .int .i64 0, .int .i64 0, .int .i64 0, .int .i64 0] 25) j18; have ya19 := cell_al (.cells #[.int .i64 0, .int .i64 0, .int .i64 0, .int .i64 0, .int .i64 0, .int .i64 0, .int .i64 0, .int .i64 0, .int .i64 0, .int .i64 0, .int .i64 0, .int .i64 0] 25) j19; have yb19 := cell_al (.cells #[.int .i64 0, .int .i64 0, .int .i64 0, .int .i64 0, .int .i64 0, .int .i64 0, .int .i64 0, .int .i64 0, .int .i64 0, .int .i64 0, .int .i64 0, .int .i64 0] 25) j19; have ya20 := cell_al (.cells #[.int .i64 0, .int .i64 0, .int .i64 0, .int .i64 0, .int .i64 0, .int .i64 0, .int .i64 0, .int .i64 0, .int .i64 0, .int .i64 0, .int .i64 0, .int .i64 0] 25) j20; have yb20 := cell_al (.cells #[.int .i64 0, .int .i64 0, .int .i64 0, .int .i64 0, .int .i64 0, .int .i64 0, .int .i64 0, .int .i64 0, .int .i64 0, .int .i64 0, .int .i64 0, .int .i64 0] 25) j20; have ya21 := cell_al (.cells #[.int .i64 0, .int .i64 0, .int .i64 0, .int .i64 0, .int .i64 0, .int .i64 0, .int .i64 0, .int .i64 0, .int .i64 0, .int .i64 0, .int .i64 0, .int .i64 0] 25) j21; have yb21 := cell_al (.cells #[.int .i64 0, .int .i64 0, .int .i64 0, .int .i64 0, .int .i64 0, .int .i64 0, .int .i64 0, .int .i64 0, .int .i64 0, .int .i64 0, .int .i64 0, .int .i64 0] 25) j21; have ya22 := cell_al (.cells #[.int .i64 0, .int .i64 0, .int .i64 0, .int .i64 0, .int .i64 0, .int .i64 0, .int .i64 0, .int .i64 0, .int .i64 0, .int .i64 0, .int .i64 0, .int .i64 0] 25) j22; have yb22 := cell_al (.cells #[.int .i64 0, .int .i64 0, .int .i64 0, .int .i64 0, .int .i64 0, .int .i64 0, .int .i64 0, .int .i64 0, .int .i64 0, .int .i64 0, .int .i64 0, .int .i64 0] 25) j22; have ya23 := cell_al (.cells #[.int .i64 0, .int .i64 0, .int .i64 0, .int .i64 0, .int .i64 0, .int .i64 0, .int .i64 0, .int .i64 0, .int .i64 0, .int .i64 0, .int .i64 0, .int .i64 0] 25) j23; have yb23 := cell_al (.cells #[.int .i64 0, .int .i64 0, .int .i64 0, .int .i64 0, .int .i64 0, .int .i64 0, .int .i64 0, .int .i64 0, .int .i64 0, .int .i64 0, .int .i64 0, .int .i64 0] 25) j23; (first | (have BZ := HZ _ hb3; have zc0 := BZ.cell 0 _ rfl; have zf0 := BZ.froz 0 _ rfl; have zc1 := BZ.cell 1 _ rfl; have zf1 := BZ.froz 1 _ rfl; have zc2 := BZ.cell 2 _ rfl; have zf2 := BZ.froz 2 _ rfl; have zc3 := BZ.cell 3 _ rfl; have zf3 := BZ.froz 3 _ rfl; have zc4 := BZ.cell 4 _ rfl; have zf4 := BZ.froz 4 _ rfl; have zc5 := BZ.cell 5 _ rfl; have zf5 := BZ.froz 5 _ rfl; have zc6 := BZ.cell 6 _ rfl; have zf6 := BZ.froz 6 _ rfl; have zc7 := BZ.cell 7 _ rfl; have zf7 := BZ.froz 7 _ rfl; have zc8 := BZ.cell 8 _ rfl; have zf8 := BZ.froz 8 _ rfl; have zc9 := BZ.cell 9 _ rfl; have zf9 := BZ.froz 9 _ rfl; have zc10 := BZ.cell 10 _ rfl; have zf10 := BZ.froz 10 _ rfl; have zc11 := BZ.cell 11 _ rfl; have zf11 := BZ.froz 11 _ rfl) | skip)))
              · go_wp2_with fail
                go_meet
                exact ⟨rfl, w3.heap.size, rfl, hz3, list_at (cs := [.int .i64 0, .int .i64 0, .int .i64 0, .int .i64 0, .int .i64 0, .int .i64 0, .int .i64 0, .int .i64 0, .int .i64 0, .int .i64 0, .int .i64 0, .int .i64 0]), (undrew hb3).alloc hz3 _⟩
              · go_wp2_with fail
                go_meet
                have hb4 : Below wr.heap.size wr w3 := ((Below.refl wr.heap.size wr).alloc (Nat.le_refl _) (.cells #[.int .i64 0, .int .i64 0, .int .i64 0, .int .i64 0, .int .i64 0, .int .i64 0, .int .i64 0, .int .i64 0, .int .i64 0, .int .i64 0, .int .i64 0, .int .i64 0] 25)).trans ((undrew hb3).mono (by simp))
                have hat := put_at (R := wr.heap.size) [.int .i64 0, .int .i64 0, .int .i64 0, .int .i64 0, .int .i64 0, .int .i64 0, .int .i64 0, .int .i64 0, .int .i64 0, .int .i64 0, .int .i64 0, .int .i64 0] 0 w3 (fun i hi => blk_some BZ i hi)
                simp only [Nat.zero_add] at hat
                exact ⟨rfl, wr.heap.size, rfl, Nat.le_refl _, hat, put_below (R := wr.heap.size) (Nat.le_refl _) [.int .i64 0, .int .i64 0, .int .i64 0, .int .i64 0, .int .i64 0, .int .i64 0, .int .i64 0, .int .i64 0, .int .i64 0, .int .i64 0, .int .i64 0, .int .i64 0] 0 hb4⟩

            case rest =>
              obtain ⟨rfl, Bx, rfl, hBx, hcells, hbV⟩ := hcut
              have RC := BR.below hbV (Nat.le_refl _)
              have rc0 := RC.cell 0 _ rfl
              have rf0 := RC.froz 0 _ rfl
              have rc1 := RC.cell 1 _ rfl
              have rf1 := RC.froz 1 _ rfl
              have rc2 := RC.cell 2 _ rfl
              have rf2 := RC.froz 2 _ rfl
              have rc3 := RC.cell 3 _ rfl
              have rf3 := RC.froz 3 _ rfl
              have rc4 := RC.cell 4 _ rfl
              have rf4 := RC.froz 4 _ rfl
              have rc5 := RC.cell 5 _ rfl
              have rf5 := RC.froz 5 _ rfl
              have rc6 := RC.cell 6 _ rfl
              have rf6 := RC.froz 6 _ rfl
              have rc7 := RC.cell 7 _ rfl
              have rf7 := RC.froz 7 _ rfl
              have rc8 := RC.cell 8 _ rfl
              have rf8 := RC.froz 8 _ rfl
              have rc9 := RC.cell 9 _ rfl
              have rf9 := RC.froz 9 _ rfl
              have rc10 := RC.cell 10 _ rfl
              have rf10 := RC.froz 10 _ rfl
              have rc11 := RC.cell 11 _ rfl
              have rf11 := RC.froz 11 _ rfl
              go_wp2_with fail
              refine bodyPost_ret (v := .tuple #[mv .zero, .int .i64 2]) (by simp [results, Tryz.results21, go_sem, Mv.zero, Fr.zero, rc0, rc1, rc2, rc3, rc4, rc5, rc6, rc7, rc8, rc9, rc10, rc11]) rfl ⟨?_, ?_⟩
              · rw [hfn]; rfl
              · exact put_below (R := W.heap.size) (Nat.le_refl _) [.int .i64 0, .int .i64 0, .int .i64 0, .int .i64 0, .int .i64 0, .int .i64 0, .int .i64 0, .int .i64 0, .int .i64 0, .int .i64 0, .int .i64 0, .int .i64 0] 0 (bel0 hlow hbV)



    · obtain ⟨k, hk, hd⟩ := drop_cons (N := ws.length) (r := ws.length - j - 1) (j := j) rfl (by omega)
      rw [hd] at hRf
      obtain ⟨f', kd, m, hff, hkd, hnl, hkr, hRg⟩ := readL_step hRf
      rw [List.length_drop] at hnl
      rw [List.drop_drop] at hRg
      clear hRf hd hR
      have hjl : (j : Int) < (ws.length : Int) := by omega
      have hj0 : (0 : Int) ≤ (j : Int) := by omega
      cases kd with
      | turn =>
        have hkt := kindT_of hkd
        subst hkt
        rw [show Kd.turn.n = 1 from rfl] at hnl hRg
        obtain ⟨a, r, hdr, ha⟩ := drop_one (ws := ws) (o := j + 1) (by omega)
        rw [hdr] at hkr
        have TA := fun V => turnOf_any a V
        rw [show turnR a = (m, 0) from hkr] at TA
        have hj1 : (j : Int) + 1 < (ws.length : Int) := by omega
        have L_0 := hlow
        have G_0 := BG
        have R_0 := BR
        have bw0 := Below.refl wr.heap.size wr
        have cj := G_0.cell j _ (hcur j _ hk)
        have cj1 := G_0.cell (j + 1) _ (hcur (j + 1) _ ha)
        go_upto_if 51 with (first | (go_at_call 43; refine (Stay_any _).mono ?_; rintro e w1 ⟨rfl, hb1⟩; dsimp only [Mv.one, Fr.whole]; have M1 := bel0 L_0 hb1; have L_1 := M1.alloc M1.size (.cells #[.int .i64 1, .int .i64 1, .int .i64 0, .int .i64 1, .int .i64 0, .int .i64 1, .int .i64 1, .int .i64 1, .int .i64 0, .int .i64 1, .int .i64 0, .int .i64 1] 25); have bw1 := (bel0 bw0 hb1).alloc (bel0 bw0 hb1).size (.cells #[.int .i64 1, .int .i64 1, .int .i64 0, .int .i64 1, .int .i64 0, .int .i64 1, .int .i64 1, .int .i64 1, .int .i64 0, .int .i64 1, .int .i64 0, .int .i64 1] 25); have z1 := (bel0 bw0 hb1).size; have R_1 := (R_0.below hb1 (Nat.le_refl _)).alloc (.cells #[.int .i64 1, .int .i64 1, .int .i64 0, .int .i64 1, .int .i64 0, .int .i64 1, .int .i64 1, .int .i64 1, .int .i64 0, .int .i64 1, .int .i64 0, .int .i64 1] 25); have G_1 := (G_0.below hb1 (Nat.le_refl _)).alloc (.cells #[.int .i64 1, .int .i64 1, .int .i64 0, .int .i64 1, .int .i64 0, .int .i64 1, .int .i64 1, .int .i64 1, .int .i64 0, .int .i64 1, .int .i64 0, .int .i64 1] 25); have M_1 := Blk.new w1 #[.int .i64 1, .int .i64 1, .int .i64 0, .int .i64 1, .int .i64 0, .int .i64 1, .int .i64 1, .int .i64 1, .int .i64 0, .int .i64 1, .int .i64 0, .int .i64 1] 25; have cj := G_1.cell j _ (hcur j _ hk); have cj1 := G_1.cell (j + 1) _ (hcur (j + 1) _ ha)))
        have hMs : wr.heap.size ≤ w1.heap.size := z1
        go_cut [10, 11, 12, 13, 14] from 24 to 119 (fun _ _ _ _ _ wx => Blk wx w1.heap.size #[.int .i64 m.a.n, .int .i64 m.a.d, .int .i64 m.b.n, .int .i64 m.b.d, .int .i64 m.c.n, .int .i64 m.c.d, .int .i64 m.d.n, .int .i64 m.d.d, .int .i64 m.e.n, .int .i64 m.e.d, .int .i64 m.f.n, .int .i64 m.f.d] 25 ∧ Below wr.heap.size wr wx)
        case first =>
          go_wp2_with (first | (go_at_call 45; refine (TA _).mono ?_; rintro e w2 ⟨rfl, hb2⟩; have M2 := bel0 L_1 hb2; have L_2 := M2.alloc M2.size (.cells #[.int .i64 m.a.n, .int .i64 m.a.d, .int .i64 m.b.n, .int .i64 m.b.d, .int .i64 m.c.n, .int .i64 m.c.d, .int .i64 m.d.n, .int .i64 m.d.d, .int .i64 m.e.n, .int .i64 m.e.d, .int .i64 m.f.n, .int .i64 m.f.d] 25); have bw2 := (bel0 bw1 hb2).alloc (bel0 bw1 hb2).size (.cells #[.int .i64 m.a.n, .int .i64 m.a.d, .int .i64 m.b.n, .int .i64 m.b.d, .int .i64 m.c.n, .int .i64 m.c.d, .int .i64 m.d.n, .int .i64 m.d.d, .int .i64 m.e.n, .int .i64 m.e.d, .int .i64 m.f.n, .int .i64 m.f.d] 25); have z2 := (bel0 bw1 hb2).size; have R_2 := (R_1.below hb2 (Nat.le_refl _)).alloc (.cells #[.int .i64 m.a.n, .int .i64 m.a.d, .int .i64 m.b.n, .int .i64 m.b.d, .int .i64 m.c.n, .int .i64 m.c.d, .int .i64 m.d.n, .int .i64 m.d.d, .int .i64 m.e.n, .int .i64 m.e.d, .int .i64 m.f.n, .int .i64 m.f.d] 25); have G_2 := (G_1.below hb2 (Nat.le_refl _)).alloc (.cells #[.int .i64 m.a.n, .int .i64 m.a.d, .int .i64 m.b.n, .int .i64 m.b.d, .int .i64 m.c.n, .int .i64 m.c.d, .int .i64 m.d.n, .int .i64 m.d.d, .int .i64 m.e.n, .int .i64 m.e.d, .int .i64 m.f.n, .int .i64 m.f.d] 25); have M_2 := (M_1.below hb2 (Nat.le_refl _)).alloc (.cells #[.int .i64 m.a.n, .int .i64 m.a.d, .int .i64 m.b.n, .int .i64 m.b.d, .int .i64 m.c.n, .int .i64 m.c.d, .int .i64 m.d.n, .int .i64 m.d.d, .int .i64 m.e.n, .int .i64 m.e.d, .int .i64 m.f.n, .int .i64 m.f.d] 25); have T_2 := Blk.new w2 #[.int .i64 m.a.n, .int .i64 m.a.d, .int .i64 m.b.n, .int .i64 m.b.d, .int .i64 m.c.n, .int .i64 m.c.d, .int .i64 m.d.n, .int .i64 m.d.d, .int .i64 m.e.n, .int .i64 m.e.d, .int .i64 m.f.n, .int .i64 m.f.d] 25; have ys2 := hb2.size; simp only [World.size_alloc] at ys2; have nn1_2 : ¬ w1.heap.size = w2.heap.size := (by omega); have nm1_2 : ¬ w2.heap.size = w1.heap.size := (by omega); have Tc0 := T_2.cell 0 _ rfl; have Tc1 := T_2.cell 1 _ rfl; have Tc2 := T_2.cell 2 _ rfl; have Tc3 := T_2.cell 3 _ rfl; have Tc4 := T_2.cell 4 _ rfl; have Tc5 := T_2.cell 5 _ rfl; have Tc6 := T_2.cell 6 _ rfl; have Tc7 := T_2.cell 7 _ rfl; have Tc8 := T_2.cell 8 _ rfl; have Tc9 := T_2.cell 9 _ rfl; have Tc10 := T_2.cell 10 _ rfl; have Tc11 := T_2.cell 11 _ rfl; have Mc0 := M_2.cell 0 _ rfl; have Mf0 := M_2.froz 0 _ rfl; have Mc1 := M_2.cell 1 _ rfl; have Mf1 := M_2.froz 1 _ rfl; have Mc2 := M_2.cell 2 _ rfl; have Mf2 := M_2.froz 2 _ rfl; have Mc3 := M_2.cell 3 _ rfl; have Mf3 := M_2.froz 3 _ rfl; have Mc4 := M_2.cell 4 _ rfl; have Mf4 := M_2.froz 4 _ rfl; have Mc5 := M_2.cell 5 _ rfl; have Mf5 := M_2.froz 5 _ rfl; have Mc6 := M_2.cell 6 _ rfl; have Mf6 := M_2.froz 6 _ rfl; have Mc7 := M_2.cell 7 _ rfl; have Mf7 := M_2.froz 7 _ rfl; have Mc8 := M_2.cell 8 _ rfl; have Mf8 := M_2.froz 8 _ rfl; have Mc9 := M_2.cell 9 _ rfl; have Mf9 := M_2.froz 9 _ rfl; have Mc10 := M_2.cell 10 _ rfl; have Mf10 := M_2.froz 10 _ rfl; have Mc11 := M_2.cell 11 _ rfl; have Mf11 := M_2.froz 11 _ rfl))
          go_meet
          case rel =>
            exact ⟨Blk.all12 M_2 _ _ _ _ _ _ _ _ _ _ _ _, sets_below (R := w1.heap.size) z1 [(0, .int .i64 m.a.n), (1, .int .i64 m.a.d), (2, .int .i64 m.b.n), (3, .int .i64 m.b.d), (4, .int .i64 m.c.n), (5, .int .i64 m.c.d), (6, .int .i64 m.d.n), (7, .int .i64 m.d.d), (8, .int .i64 m.e.n), (9, .int .i64 m.e.d), (10, .int .i64 m.f.n), (11, .int .i64 m.f.d)] (bw2)⟩
        case rest =>
          obtain ⟨MB, hbx⟩ := hcut
          have m0 := MB.cell 0 _ rfl
          have m1 := MB.cell 1 _ rfl
          have m2 := MB.cell 2 _ rfl
          have m3 := MB.cell 3 _ rfl
          have m4 := MB.cell 4 _ rfl
          have m5 := MB.cell 5 _ rfl
          have m6 := MB.cell 6 _ rfl
          have m7 := MB.cell 7 _ rfl
          have m8 := MB.cell 8 _ rfl
          have m9 := MB.cell 9 _ rfl
          have m10 := MB.cell 10 _ rfl
          have m11 := MB.cell 11 _ rfl
          have OW : (wc.alloc (.cells #[.int .i64 m.a.n, .int .i64 m.a.d, .int .i64 m.b.n, .int .i64 m.b.d, .int .i64 m.c.n, .int .i64 m.c.d, .int .i64 m.d.n, .int .i64 m.d.d, .int .i64 m.e.n, .int .i64 m.e.d, .int .i64 m.f.n, .int .i64 m.f.d] 25)).ownsRow wk.heap.size 25 12 u6 acc.length (cellsM acc) := (ownsRow_below hown hbx).alloc _
          have sx := hbx.size
          have oh := own_hi hown
          have ol := own_lo hown
          go_wp2_with ((at_builtin; refine wpList_append_own_at _ rfl _ _ 88 rfl wk.heap.size 25 i0 (.agg #[.int .i64 0, .int .i64 0, .int .i64 0, .int .i64 0, .int .i64 0, .int .i64 0, .int .i64 0, .int .i64 0, .int .i64 0, .int .i64 0, .int .i64 0, .int .i64 0]) 12 96 Tryz.underlying88 hi hz0 hz1 hz2 rfl (by decide) u6 acc.length (cellsM acc) rfl OW ⟨wc.heap.size, 0, none⟩ 1 1 [.int .i64 m.a.n, .int .i64 m.a.d, .int .i64 m.b.n, .int .i64 m.b.d, .int .i64 m.c.n, .int .i64 m.c.d, .int .i64 m.d.n, .int .i64 m.d.d, .int .i64 m.e.n, .int .i64 m.e.d, .int .i64 m.f.n, .int .i64 m.f.d] rfl rfl (cells12 rfl) one12 (by unfold maxLen; omega) (by omega) (by simp; omega) ?_; intro v5 V5 hown5 hgrow5 _ hloc5))
          go_roundw
          case rel =>
            refine ⟨j + 1 + 1, f', acc ++ [m], by omega, by simp; omega, by go_num, by rw [List.length_append, cellsM_snoc]; exact hown5, ?_, ?_, ?_, ?_, ?_, by omega, hRg⟩
            · exact ((BR.below hbx (Nat.le_refl _)).alloc _).grown hgrow5 (fun e => by have := ol _ e; omega)
            · exact ((BO.below hbx (Nat.le_refl _)).alloc _).grown hgrow5 (fun e => by have := ol _ e; omega)
            · exact ((BG.below hbx (Nat.le_refl _)).alloc _).grown hgrow5 (fun e => by have := ol _ e; omega)
            · exact ((bel0 hlow hbx).alloc (bel0 hlow hbx).size _).grown hgrow5 (by have := (bel0 hlow hbx).size; simp; omega) (fun q e => by have := ol q e; omega)
            · have := hgrow5.size; simp at this; omega
          case measure => simp [intOf]; omega


      | skew =>
        have hkt := kd_is hkd
        simp only [Kd.word] at hkt
        subst hkt
        rw [show Kd.skew.n = 1 from rfl] at hnl hRg
        obtain ⟨a, r, hdr, ha⟩ := drop_one (ws := ws) (o := j + 1) (by omega)
        rw [hdr] at hkr
        obtain ⟨ca, hm⟩ := rd1_some hkr
        have FA1 := fun V => FracOf_ok (word_le hsz ha) ca V
        obtain ⟨x, hx⟩ : ∃ x, rdF a = x := ⟨_, rfl⟩
        rw [hx] at FA1 hm
        subst hm
        have hj1 : (j : Int) + 1 < (ws.length : Int) := by omega
        clear hkr ca hx
        have L_0 := hlow
        have G_0 := BG
        have R_0 := BR
        have bw0 := Below.refl wr.heap.size wr
        have cj := G_0.cell j _ (hcur j _ hk)
        have cj1 := G_0.cell (j + 1) _ (hcur (j + 1) _ ha)
        go_upto_if 51 with (first | (go_at_call 43; refine (Stay_any _).mono ?_; rintro e w1 ⟨rfl, hb1⟩; dsimp only [Mv.one, Fr.whole]; have M1 := bel0 L_0 hb1; have L_1 := M1.alloc M1.size (.cells #[.int .i64 1, .int .i64 1, .int .i64 0, .int .i64 1, .int .i64 0, .int .i64 1, .int .i64 1, .int .i64 1, .int .i64 0, .int .i64 1, .int .i64 0, .int .i64 1] 25); have bw1 := (bel0 bw0 hb1).alloc (bel0 bw0 hb1).size (.cells #[.int .i64 1, .int .i64 1, .int .i64 0, .int .i64 1, .int .i64 0, .int .i64 1, .int .i64 1, .int .i64 1, .int .i64 0, .int .i64 1, .int .i64 0, .int .i64 1] 25); have z1 := (bel0 bw0 hb1).size; have R_1 := (R_0.below hb1 (Nat.le_refl _)).alloc (.cells #[.int .i64 1, .int .i64 1, .int .i64 0, .int .i64 1, .int .i64 0, .int .i64 1, .int .i64 1, .int .i64 1, .int .i64 0, .int .i64 1, .int .i64 0, .int .i64 1] 25); have G_1 := (G_0.below hb1 (Nat.le_refl _)).alloc (.cells #[.int .i64 1, .int .i64 1, .int .i64 0, .int .i64 1, .int .i64 0, .int .i64 1, .int .i64 1, .int .i64 1, .int .i64 0, .int .i64 1, .int .i64 0, .int .i64 1] 25); have M_1 := Blk.new w1 #[.int .i64 1, .int .i64 1, .int .i64 0, .int .i64 1, .int .i64 0, .int .i64 1, .int .i64 1, .int .i64 1, .int .i64 0, .int .i64 1, .int .i64 0, .int .i64 1] 25; have cj := G_1.cell j _ (hcur j _ hk); have cj1 := G_1.cell (j + 1) _ (hcur (j + 1) _ ha)))
        have hMs : wr.heap.size ≤ w1.heap.size := z1
        go_cut [10, 11, 12, 13, 14] from 24 to 119 (fun _ _ _ _ _ wx => Blk wx w1.heap.size #[.int .i64 1, .int .i64 1, .int .i64 0, .int .i64 1, .int .i64 x.n, .int .i64 x.d, .int .i64 1, .int .i64 1, .int .i64 0, .int .i64 1, .int .i64 0, .int .i64 1] 25 ∧ Below wr.heap.size wr wx)
        case first =>
          go_wp2_with (first | (go_at_call_of 46 a; refine (FA1 _).mono ?_; rintro e w3 ⟨rfl, hb3⟩; have M3 := bel0 L_2 hb3; have L_3 := M3.alloc M3.size (.cells #[.int .i64 x.n, .int .i64 x.d] 23); have bw3 := (bel0 bw2 hb3).alloc (bel0 bw2 hb3).size (.cells #[.int .i64 x.n, .int .i64 x.d] 23); have z3 := (bel0 bw2 hb3).size; have R_3 := (R_2.below hb3 (Nat.le_refl _)).alloc (.cells #[.int .i64 x.n, .int .i64 x.d] 23); have G_3 := (G_2.below hb3 (Nat.le_refl _)).alloc (.cells #[.int .i64 x.n, .int .i64 x.d] 23); have M_3 := (M_2.below hb3 (Nat.le_refl _)).alloc (.cells #[.int .i64 x.n, .int .i64 x.d] 23); have X_3 := (X_2.below hb3 (Nat.le_refl _)).alloc (.cells #[.int .i64 x.n, .int .i64 x.d] 23); have Y_3 := Blk.new w3 #[.int .i64 x.n, .int .i64 x.d] 23; have ys3 := hb3.size; simp only [World.size_alloc] at ys3; have nn1_3 : ¬ w1.heap.size = w3.heap.size := (by omega); have nm1_3 : ¬ w3.heap.size = w1.heap.size := (by omega); have nn2_3 : ¬ w2.heap.size = w3.heap.size := (by omega); have nm2_3 : ¬ w3.heap.size = w2.heap.size := (by omega); have cj := G_3.cell j _ (hcur j _ hk); have Xc0 := X_3.cell 0 _ rfl; have Xc1 := X_3.cell 1 _ rfl; have Yc0 := Y_3.cell 0 _ rfl; have Yc1 := Y_3.cell 1 _ rfl; have Mc0 := M_3.cell 0 _ rfl; have Mf0 := M_3.froz 0 _ rfl; have Mc1 := M_3.cell 1 _ rfl; have Mf1 := M_3.froz 1 _ rfl; have Mc2 := M_3.cell 2 _ rfl; have Mf2 := M_3.froz 2 _ rfl; have Mc3 := M_3.cell 3 _ rfl; have Mf3 := M_3.froz 3 _ rfl; have Mc4 := M_3.cell 4 _ rfl; have Mf4 := M_3.froz 4 _ rfl; have Mc5 := M_3.cell 5 _ rfl; have Mf5 := M_3.froz 5 _ rfl; have Mc6 := M_3.cell 6 _ rfl; have Mf6 := M_3.froz 6 _ rfl; have Mc7 := M_3.cell 7 _ rfl; have Mf7 := M_3.froz 7 _ rfl; have Mc8 := M_3.cell 8 _ rfl; have Mf8 := M_3.froz 8 _ rfl; have Mc9 := M_3.cell 9 _ rfl; have Mf9 := M_3.froz 9 _ rfl; have Mc10 := M_3.cell 10 _ rfl; have Mf10 := M_3.froz 10 _ rfl; have Mc11 := M_3.cell 11 _ rfl; have Mf11 := M_3.froz 11 _ rfl) | (go_at_call_of 46 a; refine (FA1 _).mono ?_; rintro e w2 ⟨rfl, hb2⟩; have M2 := bel0 L_1 hb2; have L_2 := M2.alloc M2.size (.cells #[.int .i64 x.n, .int .i64 x.d] 23); have bw2 := (bel0 bw1 hb2).alloc (bel0 bw1 hb2).size (.cells #[.int .i64 x.n, .int .i64 x.d] 23); have z2 := (bel0 bw1 hb2).size; have R_2 := (R_1.below hb2 (Nat.le_refl _)).alloc (.cells #[.int .i64 x.n, .int .i64 x.d] 23); have G_2 := (G_1.below hb2 (Nat.le_refl _)).alloc (.cells #[.int .i64 x.n, .int .i64 x.d] 23); have M_2 := (M_1.below hb2 (Nat.le_refl _)).alloc (.cells #[.int .i64 x.n, .int .i64 x.d] 23); have X_2 := Blk.new w2 #[.int .i64 x.n, .int .i64 x.d] 23; have ys2 := hb2.size; simp only [World.size_alloc] at ys2; have nn1_2 : ¬ w1.heap.size = w2.heap.size := (by omega); have nm1_2 : ¬ w2.heap.size = w1.heap.size := (by omega); have cj := G_2.cell j _ (hcur j _ hk); have cj1 := G_2.cell (j + 1) _ (hcur (j + 1) _ ha)))
          go_meet
          case rel =>
            exact ⟨((M_3.set' 4 (.int .i64 x.n) (cs' := #[.int .i64 1, .int .i64 1, .int .i64 0, .int .i64 1, .int .i64 x.n, .int .i64 1, .int .i64 1, .int .i64 1, .int .i64 0, .int .i64 1, .int .i64 0, .int .i64 1]) (by simp)).set' 5 (.int .i64 x.d) (cs' := #[.int .i64 1, .int .i64 1, .int .i64 0, .int .i64 1, .int .i64 x.n, .int .i64 x.d, .int .i64 1, .int .i64 1, .int .i64 0, .int .i64 1, .int .i64 0, .int .i64 1]) (by simp)), sets_below (R := w1.heap.size) z1 [(4, .int .i64 x.n), (5, .int .i64 x.d)] (bw3)⟩
        case rest =>
          obtain ⟨MB, hbx⟩ := hcut
          have m0 := MB.cell 0 _ rfl
          have m1 := MB.cell 1 _ rfl
          have m2 := MB.cell 2 _ rfl
          have m3 := MB.cell 3 _ rfl
          have m4 := MB.cell 4 _ rfl
          have m5 := MB.cell 5 _ rfl
          have m6 := MB.cell 6 _ rfl
          have m7 := MB.cell 7 _ rfl
          have m8 := MB.cell 8 _ rfl
          have m9 := MB.cell 9 _ rfl
          have m10 := MB.cell 10 _ rfl
          have m11 := MB.cell 11 _ rfl
          have OW : (wc.alloc (.cells #[.int .i64 1, .int .i64 1, .int .i64 0, .int .i64 1, .int .i64 x.n, .int .i64 x.d, .int .i64 1, .int .i64 1, .int .i64 0, .int .i64 1, .int .i64 0, .int .i64 1] 25)).ownsRow wk.heap.size 25 12 u6 acc.length (cellsM acc) := (ownsRow_below hown hbx).alloc _
          have sx := hbx.size
          have oh := own_hi hown
          have ol := own_lo hown
          go_wp2_with ((at_builtin; refine wpList_append_own_at _ rfl _ _ 88 rfl wk.heap.size 25 i0 (.agg #[.int .i64 0, .int .i64 0, .int .i64 0, .int .i64 0, .int .i64 0, .int .i64 0, .int .i64 0, .int .i64 0, .int .i64 0, .int .i64 0, .int .i64 0, .int .i64 0]) 12 96 Tryz.underlying88 hi hz0 hz1 hz2 rfl (by decide) u6 acc.length (cellsM acc) rfl OW ⟨wc.heap.size, 0, none⟩ 1 1 [.int .i64 1, .int .i64 1, .int .i64 0, .int .i64 1, .int .i64 x.n, .int .i64 x.d, .int .i64 1, .int .i64 1, .int .i64 0, .int .i64 1, .int .i64 0, .int .i64 1] rfl rfl (cells12 (m := Mv.skew x) rfl) (one12 (m := Mv.skew x)) (by unfold maxLen; omega) (by omega) (by simp; omega) ?_; intro v5 V5 hown5 hgrow5 _ hloc5))
          go_roundw
          case rel =>
            refine ⟨j + 1 + 1, f', acc ++ [Mv.skew x], by omega, by simp; omega, by go_num, by rw [List.length_append, cellsM_snoc]; exact hown5, ?_, ?_, ?_, ?_, ?_, by omega, hRg⟩
            · exact ((BR.below hbx (Nat.le_refl _)).alloc _).grown hgrow5 (fun e => by have := ol _ e; omega)
            · exact ((BO.below hbx (Nat.le_refl _)).alloc _).grown hgrow5 (fun e => by have := ol _ e; omega)
            · exact ((BG.below hbx (Nat.le_refl _)).alloc _).grown hgrow5 (fun e => by have := ol _ e; omega)
            · exact ((bel0 hlow hbx).alloc (bel0 hlow hbx).size _).grown hgrow5 (by have := (bel0 hlow hbx).size; simp; omega) (fun q e => by have := ol q e; omega)
            · have := hgrow5.size; simp at this; omega
          case measure => simp [intOf]; omega


      | move =>
        have hkt := kd_is hkd
        simp only [Kd.word] at hkt
        subst hkt
        rw [show Kd.move.n = 2 from rfl] at hnl hRg
        obtain ⟨a, b, r, hdr, ha, hb⟩ := drop_two (ws := ws) (o := j + 1) (by omega)
        rw [hdr] at hkr
        obtain ⟨ca, cb, hm⟩ := rd2_some hkr
        have FA1 := fun V => FracOf_ok (word_le hsz ha) ca V
        have FA2 := fun V => FracOf_ok (word_le hsz hb) cb V
        obtain ⟨x, hx⟩ : ∃ x, rdF a = x := ⟨_, rfl⟩
        obtain ⟨y, hy⟩ : ∃ y, rdF b = y := ⟨_, rfl⟩
        rw [hx] at FA1 hm
        rw [hy] at FA2 hm
        subst hm
        have hj1 : (j : Int) + 1 < (ws.length : Int) := by omega
        have hj2 : (j : Int) + 2 < (ws.length : Int) := by omega
        clear hkr ca cb hx hy
        have L_0 := hlow
        have G_0 := BG
        have R_0 := BR
        have bw0 := Below.refl wr.heap.size wr
        have cj := G_0.cell j _ (hcur j _ hk)
        have cj1 := G_0.cell (j + 1) _ (hcur (j + 1) _ ha)
        go_upto_if 51 with (first | (go_at_call 43; refine (Stay_any _).mono ?_; rintro e w1 ⟨rfl, hb1⟩; dsimp only [Mv.one, Fr.whole]; have M1 := bel0 L_0 hb1; have L_1 := M1.alloc M1.size (.cells #[.int .i64 1, .int .i64 1, .int .i64 0, .int .i64 1, .int .i64 0, .int .i64 1, .int .i64 1, .int .i64 1, .int .i64 0, .int .i64 1, .int .i64 0, .int .i64 1] 25); have bw1 := (bel0 bw0 hb1).alloc (bel0 bw0 hb1).size (.cells #[.int .i64 1, .int .i64 1, .int .i64 0, .int .i64 1, .int .i64 0, .int .i64 1, .int .i64 1, .int .i64 1, .int .i64 0, .int .i64 1, .int .i64 0, .int .i64 1] 25); have z1 := (bel0 bw0 hb1).size; have R_1 := (R_0.below hb1 (Nat.le_refl _)).alloc (.cells #[.int .i64 1, .int .i64 1, .int .i64 0, .int .i64 1, .int .i64 0, .int .i64 1, .int .i64 1, .int .i64 1, .int .i64 0, .int .i64 1, .int .i64 0, .int .i64 1] 25); have G_1 := (G_0.below hb1 (Nat.le_refl _)).alloc (.cells #[.int .i64 1, .int .i64 1, .int .i64 0, .int .i64 1, .int .i64 0, .int .i64 1, .int .i64 1, .int .i64 1, .int .i64 0, .int .i64 1, .int .i64 0, .int .i64 1] 25); have M_1 := Blk.new w1 #[.int .i64 1, .int .i64 1, .int .i64 0, .int .i64 1, .int .i64 0, .int .i64 1, .int .i64 1, .int .i64 1, .int .i64 0, .int .i64 1, .int .i64 0, .int .i64 1] 25; have cj := G_1.cell j _ (hcur j _ hk); have cj1 := G_1.cell (j + 1) _ (hcur (j + 1) _ ha)))
        have hMs : wr.heap.size ≤ w1.heap.size := z1
        go_cut [10, 11, 12, 13, 14] from 24 to 119 (fun _ _ _ _ _ wx => Blk wx w1.heap.size #[.int .i64 1, .int .i64 1, .int .i64 0, .int .i64 1, .int .i64 0, .int .i64 1, .int .i64 1, .int .i64 1, .int .i64 x.n, .int .i64 x.d, .int .i64 y.n, .int .i64 y.d] 25 ∧ Below wr.heap.size wr wx)
        case first =>
          go_wp2_with (first | (go_at_call_of 46 b; refine (FA2 _).mono ?_; rintro e w3 ⟨rfl, hb3⟩; have M3 := bel0 L_2 hb3; have L_3 := M3.alloc M3.size (.cells #[.int .i64 y.n, .int .i64 y.d] 23); have bw3 := (bel0 bw2 hb3).alloc (bel0 bw2 hb3).size (.cells #[.int .i64 y.n, .int .i64 y.d] 23); have z3 := (bel0 bw2 hb3).size; have R_3 := (R_2.below hb3 (Nat.le_refl _)).alloc (.cells #[.int .i64 y.n, .int .i64 y.d] 23); have G_3 := (G_2.below hb3 (Nat.le_refl _)).alloc (.cells #[.int .i64 y.n, .int .i64 y.d] 23); have M_3 := (M_2.below hb3 (Nat.le_refl _)).alloc (.cells #[.int .i64 y.n, .int .i64 y.d] 23); have X_3 := (X_2.below hb3 (Nat.le_refl _)).alloc (.cells #[.int .i64 y.n, .int .i64 y.d] 23); have Y_3 := Blk.new w3 #[.int .i64 y.n, .int .i64 y.d] 23; have ys3 := hb3.size; simp only [World.size_alloc] at ys3; have nn1_3 : ¬ w1.heap.size = w3.heap.size := (by omega); have nm1_3 : ¬ w3.heap.size = w1.heap.size := (by omega); have nn2_3 : ¬ w2.heap.size = w3.heap.size := (by omega); have nm2_3 : ¬ w3.heap.size = w2.heap.size := (by omega); have cj := G_3.cell j _ (hcur j _ hk); have Xc0 := X_3.cell 0 _ rfl; have Xc1 := X_3.cell 1 _ rfl; have Yc0 := Y_3.cell 0 _ rfl; have Yc1 := Y_3.cell 1 _ rfl; have Mc0 := M_3.cell 0 _ rfl; have Mf0 := M_3.froz 0 _ rfl; have Mc1 := M_3.cell 1 _ rfl; have Mf1 := M_3.froz 1 _ rfl; have Mc2 := M_3.cell 2 _ rfl; have Mf2 := M_3.froz 2 _ rfl; have Mc3 := M_3.cell 3 _ rfl; have Mf3 := M_3.froz 3 _ rfl; have Mc4 := M_3.cell 4 _ rfl; have Mf4 := M_3.froz 4 _ rfl; have Mc5 := M_3.cell 5 _ rfl; have Mf5 := M_3.froz 5 _ rfl; have Mc6 := M_3.cell 6 _ rfl; have Mf6 := M_3.froz 6 _ rfl; have Mc7 := M_3.cell 7 _ rfl; have Mf7 := M_3.froz 7 _ rfl; have Mc8 := M_3.cell 8 _ rfl; have Mf8 := M_3.froz 8 _ rfl; have Mc9 := M_3.cell 9 _ rfl; have Mf9 := M_3.froz 9 _ rfl; have Mc10 := M_3.cell 10 _ rfl; have Mf10 := M_3.froz 10 _ rfl; have Mc11 := M_3.cell 11 _ rfl; have Mf11 := M_3.froz 11 _ rfl) | (go_at_call_of 46 a; refine (FA1 _).mono ?_; rintro e w2 ⟨rfl, hb2⟩; have M2 := bel0 L_1 hb2; have L_2 := M2.alloc M2.size (.cells #[.int .i64 x.n, .int .i64 x.d] 23); have bw2 := (bel0 bw1 hb2).alloc (bel0 bw1 hb2).size (.cells #[.int .i64 x.n, .int .i64 x.d] 23); have z2 := (bel0 bw1 hb2).size; have R_2 := (R_1.below hb2 (Nat.le_refl _)).alloc (.cells #[.int .i64 x.n, .int .i64 x.d] 23); have G_2 := (G_1.below hb2 (Nat.le_refl _)).alloc (.cells #[.int .i64 x.n, .int .i64 x.d] 23); have M_2 := (M_1.below hb2 (Nat.le_refl _)).alloc (.cells #[.int .i64 x.n, .int .i64 x.d] 23); have X_2 := Blk.new w2 #[.int .i64 x.n, .int .i64 x.d] 23; have ys2 := hb2.size; simp only [World.size_alloc] at ys2; have nn1_2 : ¬ w1.heap.size = w2.heap.size := (by omega); have nm1_2 : ¬ w2.heap.size = w1.heap.size := (by omega); have cj := G_2.cell j _ (hcur j _ hk); have cj2 := G_2.cell (j + 2) _ (hcur (j + 2) _ hb)))
          go_meet
          case rel =>
            exact ⟨((((M_3.set' 8 (.int .i64 x.n) (cs' := #[.int .i64 1, .int .i64 1, .int .i64 0, .int .i64 1, .int .i64 0, .int .i64 1, .int .i64 1, .int .i64 1, .int .i64 x.n, .int .i64 1, .int .i64 0, .int .i64 1]) (by simp)).set' 9 (.int .i64 x.d) (cs' := #[.int .i64 1, .int .i64 1, .int .i64 0, .int .i64 1, .int .i64 0, .int .i64 1, .int .i64 1, .int .i64 1, .int .i64 x.n, .int .i64 x.d, .int .i64 0, .int .i64 1]) (by simp)).set' 10 (.int .i64 y.n) (cs' := #[.int .i64 1, .int .i64 1, .int .i64 0, .int .i64 1, .int .i64 0, .int .i64 1, .int .i64 1, .int .i64 1, .int .i64 x.n, .int .i64 x.d, .int .i64 y.n, .int .i64 1]) (by simp)).set' 11 (.int .i64 y.d) (cs' := #[.int .i64 1, .int .i64 1, .int .i64 0, .int .i64 1, .int .i64 0, .int .i64 1, .int .i64 1, .int .i64 1, .int .i64 x.n, .int .i64 x.d, .int .i64 y.n, .int .i64 y.d]) (by simp)), sets_below (R := w1.heap.size) z1 [(8, .int .i64 x.n), (9, .int .i64 x.d), (10, .int .i64 y.n), (11, .int .i64 y.d)] (bw3)⟩
        case rest =>
          obtain ⟨MB, hbx⟩ := hcut
          have m0 := MB.cell 0 _ rfl
          have m1 := MB.cell 1 _ rfl
          have m2 := MB.cell 2 _ rfl
          have m3 := MB.cell 3 _ rfl
          have m4 := MB.cell 4 _ rfl
          have m5 := MB.cell 5 _ rfl
          have m6 := MB.cell 6 _ rfl
          have m7 := MB.cell 7 _ rfl
          have m8 := MB.cell 8 _ rfl
          have m9 := MB.cell 9 _ rfl
          have m10 := MB.cell 10 _ rfl
          have m11 := MB.cell 11 _ rfl
          have OW : (wc.alloc (.cells #[.int .i64 1, .int .i64 1, .int .i64 0, .int .i64 1, .int .i64 0, .int .i64 1, .int .i64 1, .int .i64 1, .int .i64 x.n, .int .i64 x.d, .int .i64 y.n, .int .i64 y.d] 25)).ownsRow wk.heap.size 25 12 u6 acc.length (cellsM acc) := (ownsRow_below hown hbx).alloc _
          have sx := hbx.size
          have oh := own_hi hown
          have ol := own_lo hown
          go_wp2_with ((at_builtin; refine wpList_append_own_at _ rfl _ _ 88 rfl wk.heap.size 25 i0 (.agg #[.int .i64 0, .int .i64 0, .int .i64 0, .int .i64 0, .int .i64 0, .int .i64 0, .int .i64 0, .int .i64 0, .int .i64 0, .int .i64 0, .int .i64 0, .int .i64 0]) 12 96 Tryz.underlying88 hi hz0 hz1 hz2 rfl (by decide) u6 acc.length (cellsM acc) rfl OW ⟨wc.heap.size, 0, none⟩ 1 1 [.int .i64 1, .int .i64 1, .int .i64 0, .int .i64 1, .int .i64 0, .int .i64 1, .int .i64 1, .int .i64 1, .int .i64 x.n, .int .i64 x.d, .int .i64 y.n, .int .i64 y.d] rfl rfl (cells12 (m := Mv.shift x y) rfl) (one12 (m := Mv.shift x y)) (by unfold maxLen; omega) (by omega) (by simp; omega) ?_; intro v5 V5 hown5 hgrow5 _ hloc5))
          go_roundw
          case rel =>
            refine ⟨j + 2 + 1, f', acc ++ [Mv.shift x y], by omega, by simp; omega, by go_num, by rw [List.length_append, cellsM_snoc]; exact hown5, ?_, ?_, ?_, ?_, ?_, by omega, hRg⟩
            · exact ((BR.below hbx (Nat.le_refl _)).alloc _).grown hgrow5 (fun e => by have := ol _ e; omega)
            · exact ((BO.below hbx (Nat.le_refl _)).alloc _).grown hgrow5 (fun e => by have := ol _ e; omega)
            · exact ((BG.below hbx (Nat.le_refl _)).alloc _).grown hgrow5 (fun e => by have := ol _ e; omega)
            · exact ((bel0 hlow hbx).alloc (bel0 hlow hbx).size _).grown hgrow5 (by have := (bel0 hlow hbx).size; simp; omega) (fun q e => by have := ol q e; omega)
            · have := hgrow5.size; simp at this; omega
          case measure => simp [intOf]; omega


      | scale =>
        have hkt := kd_is hkd
        simp only [Kd.word] at hkt
        subst hkt
        rw [show Kd.scale.n = 2 from rfl] at hnl hRg
        obtain ⟨a, b, r, hdr, ha, hb⟩ := drop_two (ws := ws) (o := j + 1) (by omega)
        rw [hdr] at hkr
        obtain ⟨ca, cb, hm⟩ := rd2_some hkr
        have FA1 := fun V => FracOf_ok (word_le hsz ha) ca V
        have FA2 := fun V => FracOf_ok (word_le hsz hb) cb V
        obtain ⟨x, hx⟩ : ∃ x, rdF a = x := ⟨_, rfl⟩
        obtain ⟨y, hy⟩ : ∃ y, rdF b = y := ⟨_, rfl⟩
        rw [hx] at FA1 hm
        rw [hy] at FA2 hm
        subst hm
        have hj1 : (j : Int) + 1 < (ws.length : Int) := by omega
        have hj2 : (j : Int) + 2 < (ws.length : Int) := by omega
        clear hkr ca cb hx hy
        have L_0 := hlow
        have G_0 := BG
        have R_0 := BR
        have bw0 := Below.refl wr.heap.size wr
        have cj := G_0.cell j _ (hcur j _ hk)
        have cj1 := G_0.cell (j + 1) _ (hcur (j + 1) _ ha)
        go_upto_if 51 with (first | (go_at_call 43; refine (Stay_any _).mono ?_; rintro e w1 ⟨rfl, hb1⟩; dsimp only [Mv.one, Fr.whole]; have M1 := bel0 L_0 hb1; have L_1 := M1.alloc M1.size (.cells #[.int .i64 1, .int .i64 1, .int .i64 0, .int .i64 1, .int .i64 0, .int .i64 1, .int .i64 1, .int .i64 1, .int .i64 0, .int .i64 1, .int .i64 0, .int .i64 1] 25); have bw1 := (bel0 bw0 hb1).alloc (bel0 bw0 hb1).size (.cells #[.int .i64 1, .int .i64 1, .int .i64 0, .int .i64 1, .int .i64 0, .int .i64 1, .int .i64 1, .int .i64 1, .int .i64 0, .int .i64 1, .int .i64 0, .int .i64 1] 25); have z1 := (bel0 bw0 hb1).size; have R_1 := (R_0.below hb1 (Nat.le_refl _)).alloc (.cells #[.int .i64 1, .int .i64 1, .int .i64 0, .int .i64 1, .int .i64 0, .int .i64 1, .int .i64 1, .int .i64 1, .int .i64 0, .int .i64 1, .int .i64 0, .int .i64 1] 25); have G_1 := (G_0.below hb1 (Nat.le_refl _)).alloc (.cells #[.int .i64 1, .int .i64 1, .int .i64 0, .int .i64 1, .int .i64 0, .int .i64 1, .int .i64 1, .int .i64 1, .int .i64 0, .int .i64 1, .int .i64 0, .int .i64 1] 25); have M_1 := Blk.new w1 #[.int .i64 1, .int .i64 1, .int .i64 0, .int .i64 1, .int .i64 0, .int .i64 1, .int .i64 1, .int .i64 1, .int .i64 0, .int .i64 1, .int .i64 0, .int .i64 1] 25; have cj := G_1.cell j _ (hcur j _ hk); have cj1 := G_1.cell (j + 1) _ (hcur (j + 1) _ ha)))
        have hMs : wr.heap.size ≤ w1.heap.size := z1
        go_cut [10, 11, 12, 13, 14] from 24 to 119 (fun _ _ _ _ _ wx => Blk wx w1.heap.size #[.int .i64 x.n, .int .i64 x.d, .int .i64 0, .int .i64 1, .int .i64 0, .int .i64 1, .int .i64 y.n, .int .i64 y.d, .int .i64 0, .int .i64 1, .int .i64 0, .int .i64 1] 25 ∧ Below wr.heap.size wr wx)
        case first =>
          go_wp2_with (first | (go_at_call_of 46 b; refine (FA2 _).mono ?_; rintro e w3 ⟨rfl, hb3⟩; have M3 := bel0 L_2 hb3; have L_3 := M3.alloc M3.size (.cells #[.int .i64 y.n, .int .i64 y.d] 23); have bw3 := (bel0 bw2 hb3).alloc (bel0 bw2 hb3).size (.cells #[.int .i64 y.n, .int .i64 y.d] 23); have z3 := (bel0 bw2 hb3).size; have R_3 := (R_2.below hb3 (Nat.le_refl _)).alloc (.cells #[.int .i64 y.n, .int .i64 y.d] 23); have G_3 := (G_2.below hb3 (Nat.le_refl _)).alloc (.cells #[.int .i64 y.n, .int .i64 y.d] 23); have M_3 := (M_2.below hb3 (Nat.le_refl _)).alloc (.cells #[.int .i64 y.n, .int .i64 y.d] 23); have X_3 := (X_2.below hb3 (Nat.le_refl _)).alloc (.cells #[.int .i64 y.n, .int .i64 y.d] 23); have Y_3 := Blk.new w3 #[.int .i64 y.n, .int .i64 y.d] 23; have ys3 := hb3.size; simp only [World.size_alloc] at ys3; have nn1_3 : ¬ w1.heap.size = w3.heap.size := (by omega); have nm1_3 : ¬ w3.heap.size = w1.heap.size := (by omega); have nn2_3 : ¬ w2.heap.size = w3.heap.size := (by omega); have nm2_3 : ¬ w3.heap.size = w2.heap.size := (by omega); have cj := G_3.cell j _ (hcur j _ hk); have Xc0 := X_3.cell 0 _ rfl; have Xc1 := X_3.cell 1 _ rfl; have Yc0 := Y_3.cell 0 _ rfl; have Yc1 := Y_3.cell 1 _ rfl; have Mc0 := M_3.cell 0 _ rfl; have Mf0 := M_3.froz 0 _ rfl; have Mc1 := M_3.cell 1 _ rfl; have Mf1 := M_3.froz 1 _ rfl; have Mc2 := M_3.cell 2 _ rfl; have Mf2 := M_3.froz 2 _ rfl; have Mc3 := M_3.cell 3 _ rfl; have Mf3 := M_3.froz 3 _ rfl; have Mc4 := M_3.cell 4 _ rfl; have Mf4 := M_3.froz 4 _ rfl; have Mc5 := M_3.cell 5 _ rfl; have Mf5 := M_3.froz 5 _ rfl; have Mc6 := M_3.cell 6 _ rfl; have Mf6 := M_3.froz 6 _ rfl; have Mc7 := M_3.cell 7 _ rfl; have Mf7 := M_3.froz 7 _ rfl; have Mc8 := M_3.cell 8 _ rfl; have Mf8 := M_3.froz 8 _ rfl; have Mc9 := M_3.cell 9 _ rfl; have Mf9 := M_3.froz 9 _ rfl; have Mc10 := M_3.cell 10 _ rfl; have Mf10 := M_3.froz 10 _ rfl; have Mc11 := M_3.cell 11 _ rfl; have Mf11 := M_3.froz 11 _ rfl) | (go_at_call_of 46 a; refine (FA1 _).mono ?_; rintro e w2 ⟨rfl, hb2⟩; have M2 := bel0 L_1 hb2; have L_2 := M2.alloc M2.size (.cells #[.int .i64 x.n, .int .i64 x.d] 23); have bw2 := (bel0 bw1 hb2).alloc (bel0 bw1 hb2).size (.cells #[.int .i64 x.n, .int .i64 x.d] 23); have z2 := (bel0 bw1 hb2).size; have R_2 := (R_1.below hb2 (Nat.le_refl _)).alloc (.cells #[.int .i64 x.n, .int .i64 x.d] 23); have G_2 := (G_1.below hb2 (Nat.le_refl _)).alloc (.cells #[.int .i64 x.n, .int .i64 x.d] 23); have M_2 := (M_1.below hb2 (Nat.le_refl _)).alloc (.cells #[.int .i64 x.n, .int .i64 x.d] 23); have X_2 := Blk.new w2 #[.int .i64 x.n, .int .i64 x.d] 23; have ys2 := hb2.size; simp only [World.size_alloc] at ys2; have nn1_2 : ¬ w1.heap.size = w2.heap.size := (by omega); have nm1_2 : ¬ w2.heap.size = w1.heap.size := (by omega); have cj := G_2.cell j _ (hcur j _ hk); have cj2 := G_2.cell (j + 2) _ (hcur (j + 2) _ hb)))
          go_meet
          case rel =>
            exact ⟨((((M_3.set' 0 (.int .i64 x.n) (cs' := #[.int .i64 x.n, .int .i64 1, .int .i64 0, .int .i64 1, .int .i64 0, .int .i64 1, .int .i64 1, .int .i64 1, .int .i64 0, .int .i64 1, .int .i64 0, .int .i64 1]) (by simp)).set' 1 (.int .i64 x.d) (cs' := #[.int .i64 x.n, .int .i64 x.d, .int .i64 0, .int .i64 1, .int .i64 0, .int .i64 1, .int .i64 1, .int .i64 1, .int .i64 0, .int .i64 1, .int .i64 0, .int .i64 1]) (by simp)).set' 6 (.int .i64 y.n) (cs' := #[.int .i64 x.n, .int .i64 x.d, .int .i64 0, .int .i64 1, .int .i64 0, .int .i64 1, .int .i64 y.n, .int .i64 1, .int .i64 0, .int .i64 1, .int .i64 0, .int .i64 1]) (by simp)).set' 7 (.int .i64 y.d) (cs' := #[.int .i64 x.n, .int .i64 x.d, .int .i64 0, .int .i64 1, .int .i64 0, .int .i64 1, .int .i64 y.n, .int .i64 y.d, .int .i64 0, .int .i64 1, .int .i64 0, .int .i64 1]) (by simp)), sets_below (R := w1.heap.size) z1 [(0, .int .i64 x.n), (1, .int .i64 x.d), (6, .int .i64 y.n), (7, .int .i64 y.d)] (bw3)⟩
        case rest =>
          obtain ⟨MB, hbx⟩ := hcut
          have m0 := MB.cell 0 _ rfl
          have m1 := MB.cell 1 _ rfl
          have m2 := MB.cell 2 _ rfl
          have m3 := MB.cell 3 _ rfl
          have m4 := MB.cell 4 _ rfl
          have m5 := MB.cell 5 _ rfl
          have m6 := MB.cell 6 _ rfl
          have m7 := MB.cell 7 _ rfl
          have m8 := MB.cell 8 _ rfl
          have m9 := MB.cell 9 _ rfl
          have m10 := MB.cell 10 _ rfl
          have m11 := MB.cell 11 _ rfl
          have OW : (wc.alloc (.cells #[.int .i64 x.n, .int .i64 x.d, .int .i64 0, .int .i64 1, .int .i64 0, .int .i64 1, .int .i64 y.n, .int .i64 y.d, .int .i64 0, .int .i64 1, .int .i64 0, .int .i64 1] 25)).ownsRow wk.heap.size 25 12 u6 acc.length (cellsM acc) := (ownsRow_below hown hbx).alloc _
          have sx := hbx.size
          have oh := own_hi hown
          have ol := own_lo hown
          go_wp2_with ((at_builtin; refine wpList_append_own_at _ rfl _ _ 88 rfl wk.heap.size 25 i0 (.agg #[.int .i64 0, .int .i64 0, .int .i64 0, .int .i64 0, .int .i64 0, .int .i64 0, .int .i64 0, .int .i64 0, .int .i64 0, .int .i64 0, .int .i64 0, .int .i64 0]) 12 96 Tryz.underlying88 hi hz0 hz1 hz2 rfl (by decide) u6 acc.length (cellsM acc) rfl OW ⟨wc.heap.size, 0, none⟩ 1 1 [.int .i64 x.n, .int .i64 x.d, .int .i64 0, .int .i64 1, .int .i64 0, .int .i64 1, .int .i64 y.n, .int .i64 y.d, .int .i64 0, .int .i64 1, .int .i64 0, .int .i64 1] rfl rfl (cells12 (m := Mv.scale x y) rfl) (one12 (m := Mv.scale x y)) (by unfold maxLen; omega) (by omega) (by simp; omega) ?_; intro v5 V5 hown5 hgrow5 _ hloc5))
          go_roundw
          case rel =>
            refine ⟨j + 2 + 1, f', acc ++ [Mv.scale x y], by omega, by simp; omega, by go_num, by rw [List.length_append, cellsM_snoc]; exact hown5, ?_, ?_, ?_, ?_, ?_, by omega, hRg⟩
            · exact ((BR.below hbx (Nat.le_refl _)).alloc _).grown hgrow5 (fun e => by have := ol _ e; omega)
            · exact ((BO.below hbx (Nat.le_refl _)).alloc _).grown hgrow5 (fun e => by have := ol _ e; omega)
            · exact ((BG.below hbx (Nat.le_refl _)).alloc _).grown hgrow5 (fun e => by have := ol _ e; omega)
            · exact ((bel0 hlow hbx).alloc (bel0 hlow hbx).size _).grown hgrow5 (by have := (bel0 hlow hbx).size; simp; omega) (fun q e => by have := ol q e; omega)
            · have := hgrow5.size; simp at this; omega
          case measure => simp [intOf]; omega



end Go.Proofs.YtlnnpileegoglabGreatDoor

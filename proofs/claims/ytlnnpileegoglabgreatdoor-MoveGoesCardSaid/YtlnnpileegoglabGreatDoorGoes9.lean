/-
  The document's reading of a wrong text of moves.
-/
import Derived.Test.YtlnnpileegoglabGreatDoorGoes7
namespace Go.Proofs.YtlnnpileegoglabGreatDoor
open Go.RowKit


set_option maxRecDepth 20000 in
set_option maxHeartbeats 32000000 in
theorem SixOf_no (s : ByteArray) (ws : List ByteArray) (c : Nat) (W : World) (hs : s.size ≤ 900) (hw : words s = ws) (hN : ws.length ≤ 1000) (hsz : ∀ a ∈ ws, a.size ≤ 1000000) (hne : s.toList.isEmpty = false)
    (hR : readL ws.length ws [] = ([], c)) (hc : c ≠ 0) :
    Calls Tryz.prog 21 #[.string s] W fun e w' => e = .returned (.tuple #[mv .zero, .int .i64 c]) ∧ Below W.heap.size W w' := by
  have HC := Cut_words s (by omega)
  rw [hw] at HC
  obtain ⟨i0, hi, hz0, hz1, hz2⟩ := info_parts infoSix
  have R0 := Blk.new W #[.int .i64 0, .int .i64 0, .int .i64 0, .int .i64 0, .int .i64 0, .int .i64 0, .int .i64 0, .int .i64 0, .int .i64 0, .int .i64 0, .int .i64 0, .int .i64 0] 25
  have L0 := (Below.refl W.heap.size W).alloc (Nat.le_refl _) (.cells #[.int .i64 0, .int .i64 0, .int .i64 0, .int .i64 0, .int .i64 0, .int .i64 0, .int .i64 0, .int .i64 0, .int .i64 0, .int .i64 0, .int .i64 0, .int .i64 0] 25)
  go_enter Tryz.func21, Tryz.ntmps21
  go_wp2_with (first | (go_at_call 44; refine (HC _).mono ?_; rintro e wk ⟨⟨g, cap, cur, rfl, hg, GB, hcur⟩, hbc⟩) | (go_at_call 43; refine (Stay_any _).mono ?_; rintro e wo ⟨rfl, hbo⟩; dsimp only [Mv.one, Fr.whole]; have LO := (bel0 L0 hbo).alloc (bel0 L0 hbo).size (.cells #[.int .i64 1, .int .i64 1, .int .i64 0, .int .i64 1, .int .i64 0, .int .i64 1, .int .i64 1, .int .i64 1, .int .i64 0, .int .i64 1, .int .i64 0, .int .i64 1] 25); have OB := Blk.new wo #[.int .i64 1, .int .i64 1, .int .i64 0, .int .i64 1, .int .i64 0, .int .i64 1, .int .i64 1, .int .i64 1, .int .i64 0, .int .i64 1, .int .i64 0, .int .i64 1] 25; have RB := (R0.below hbo (Nat.le_refl _)).alloc (.cells #[.int .i64 1, .int .i64 1, .int .i64 0, .int .i64 1, .int .i64 0, .int .i64 1, .int .i64 1, .int .i64 1, .int .i64 0, .int .i64 1, .int .i64 0, .int .i64 1] 25); have so := hbo.size; simp only [World.size_alloc] at so))
  replace OB := OB.below hbc (Nat.le_refl _)
  replace RB := RB.below hbc (Nat.le_refl _)
  have LC := bel0 LO hbc
  have sc := hbc.size
  simp only [World.size_alloc] at sc hg
  have gl := GB.lt
  clear HC R0 L0 hbc hbo LO
  go_loopw [6, 7] (fun lv iv wr => ∃ (j f : Nat) (acc : List Mv), j ≤ ws.length ∧ acc.length ≤ j ∧ iv = .int .i64 j ∧ wr.ownsRow wk.heap.size 25 12 lv acc.length (cellsM acc) ∧ Blk wr W.heap.size #[.int .i64 0, .int .i64 0, .int .i64 0, .int .i64 0, .int .i64 0, .int .i64 0, .int .i64 0, .int .i64 0, .int .i64 0, .int .i64 0, .int .i64 0, .int .i64 0] 25 ∧ Blk wr wo.heap.size #[.int .i64 1, .int .i64 1, .int .i64 0, .int .i64 1, .int .i64 0, .int .i64 1, .int .i64 1, .int .i64 1, .int .i64 0, .int .i64 1, .int .i64 0, .int .i64 1] 25 ∧ Blk wr g cur 9 ∧ Below W.heap.size W wr ∧ wk.heap.size ≤ wr.heap.size ∧ ws.length - j ≤ f ∧ readL f (ws.drop j) acc = ([], c)) (fun _ iv _ => ws.length - (intOf iv).toNat)
  case atStart => exact ⟨0, ws.length, [], by omega, by simp, rfl, World.ownsRow_nil _ _ _ _, RB, OB, GB, LC, Nat.le_refl _, by omega, hR⟩
  case round =>
    obtain ⟨j, f, acc, hjN, haj, rfl, hown, BR, BO, BG, hlow, hH, hf, hRf⟩ := hrel
    by_cases hj : j = ws.length
    · rw [List.drop_eq_nil_of_le (by omega)] at hRf
      have hacc : (0 : Nat) = c := by cases f <;> exact congrArg Prod.snd hRf
      exact (hc hacc.symm).elim
    · obtain ⟨k, hk, hd⟩ := drop_cons (N := ws.length) (r := ws.length - j - 1) (j := j) rfl (by omega)
      rw [hd] at hRf
      have hRf' := readL_no hRf hc (by omega)
      clear hRf hd hR
      have hjl : (j : Int) < (ws.length : Int) := by omega
      have hj0 : (0 : Int) ≤ (j : Int) := by omega
      rcases hRf' with ⟨hkd, rfl⟩ | ⟨kd, hkd, hnl, rfl⟩ | ⟨kd, hkd, hnl, hkr⟩ | ⟨f', kd, m, hff, hkd, hnl, hkr, hRg⟩
      · obtain ⟨q1, q2, q3, q4⟩ := kd_none hkd
        have L_0 := hlow
        have G_0 := BG
        have R_0 := BR
        have bw0 := Below.refl wr.heap.size wr
        have cj := G_0.cell j _ (hcur j _ hk)
        have Rc0 := R_0.cell 0 _ rfl
        have Rf0 := R_0.froz 0 _ rfl
        have Rc1 := R_0.cell 1 _ rfl
        have Rf1 := R_0.froz 1 _ rfl
        have Rc2 := R_0.cell 2 _ rfl
        have Rf2 := R_0.froz 2 _ rfl
        have Rc3 := R_0.cell 3 _ rfl
        have Rf3 := R_0.froz 3 _ rfl
        have Rc4 := R_0.cell 4 _ rfl
        have Rf4 := R_0.froz 4 _ rfl
        have Rc5 := R_0.cell 5 _ rfl
        have Rf5 := R_0.froz 5 _ rfl
        have Rc6 := R_0.cell 6 _ rfl
        have Rf6 := R_0.froz 6 _ rfl
        have Rc7 := R_0.cell 7 _ rfl
        have Rf7 := R_0.froz 7 _ rfl
        have Rc8 := R_0.cell 8 _ rfl
        have Rf8 := R_0.froz 8 _ rfl
        have Rc9 := R_0.cell 9 _ rfl
        have Rf9 := R_0.froz 9 _ rfl
        have Rc10 := R_0.cell 10 _ rfl
        have Rf10 := R_0.froz 10 _ rfl
        have Rc11 := R_0.cell 11 _ rfl
        have Rf11 := R_0.froz 11 _ rfl
        have e0 := ne_str (l := [109, 111, 118, 101]) q1
        have e1 := ne_str (l := [115, 99, 97, 108, 101]) q2
        have e2 := ne_str (l := [116, 117, 114, 110]) q3
        have e3 := ne_str (l := [115, 107, 101, 119]) q4
        go_wp2
        refine bodyPost_ret (v := .tuple #[mv .zero, .int .i64 1]) (by simp [results, Tryz.results21, go_sem, Mv.zero, Fr.zero, Rc0, Rc1, Rc2, Rc3, Rc4, Rc5, Rc6, Rc7, Rc8, Rc9, Rc10, Rc11]) rfl ⟨rfl, ?_⟩
        exact put_below (R := W.heap.size) (Nat.le_refl _) [.int .i64 0, .int .i64 0, .int .i64 0, .int .i64 0, .int .i64 0, .int .i64 0, .int .i64 0, .int .i64 0, .int .i64 0, .int .i64 0, .int .i64 0, .int .i64 0] 0 L_0

      · rw [List.length_drop] at hnl
        cases kd with
        | move =>
          have hkt := kd_is hkd
          simp only [Kd.word] at hkt
          subst hkt
          rw [show Kd.move.n = 2 from rfl] at hnl
          have hsh : (ws.length : Int) ≤ (j : Int) + 2 := by omega
          have L_0 := hlow
          have G_0 := BG
          have R_0 := BR
          have bw0 := Below.refl wr.heap.size wr
          have cj := G_0.cell j _ (hcur j _ hk)
          have Rc0 := R_0.cell 0 _ rfl
          have Rf0 := R_0.froz 0 _ rfl
          have Rc1 := R_0.cell 1 _ rfl
          have Rf1 := R_0.froz 1 _ rfl
          have Rc2 := R_0.cell 2 _ rfl
          have Rf2 := R_0.froz 2 _ rfl
          have Rc3 := R_0.cell 3 _ rfl
          have Rf3 := R_0.froz 3 _ rfl
          have Rc4 := R_0.cell 4 _ rfl
          have Rf4 := R_0.froz 4 _ rfl
          have Rc5 := R_0.cell 5 _ rfl
          have Rf5 := R_0.froz 5 _ rfl
          have Rc6 := R_0.cell 6 _ rfl
          have Rf6 := R_0.froz 6 _ rfl
          have Rc7 := R_0.cell 7 _ rfl
          have Rf7 := R_0.froz 7 _ rfl
          have Rc8 := R_0.cell 8 _ rfl
          have Rf8 := R_0.froz 8 _ rfl
          have Rc9 := R_0.cell 9 _ rfl
          have Rf9 := R_0.froz 9 _ rfl
          have Rc10 := R_0.cell 10 _ rfl
          have Rf10 := R_0.froz 10 _ rfl
          have Rc11 := R_0.cell 11 _ rfl
          have Rf11 := R_0.froz 11 _ rfl
          go_wp2
          refine bodyPost_ret (v := .tuple #[mv .zero, .int .i64 1]) (by simp [results, Tryz.results21, go_sem, Mv.zero, Fr.zero, Rc0, Rc1, Rc2, Rc3, Rc4, Rc5, Rc6, Rc7, Rc8, Rc9, Rc10, Rc11]) rfl ⟨rfl, ?_⟩
          exact put_below (R := W.heap.size) (Nat.le_refl _) [.int .i64 0, .int .i64 0, .int .i64 0, .int .i64 0, .int .i64 0, .int .i64 0, .int .i64 0, .int .i64 0, .int .i64 0, .int .i64 0, .int .i64 0, .int .i64 0] 0 L_0

        | scale =>
          have hkt := kd_is hkd
          simp only [Kd.word] at hkt
          subst hkt
          rw [show Kd.scale.n = 2 from rfl] at hnl
          have hsh : (ws.length : Int) ≤ (j : Int) + 2 := by omega
          have L_0 := hlow
          have G_0 := BG
          have R_0 := BR
          have bw0 := Below.refl wr.heap.size wr
          have cj := G_0.cell j _ (hcur j _ hk)
          have Rc0 := R_0.cell 0 _ rfl
          have Rf0 := R_0.froz 0 _ rfl
          have Rc1 := R_0.cell 1 _ rfl
          have Rf1 := R_0.froz 1 _ rfl
          have Rc2 := R_0.cell 2 _ rfl
          have Rf2 := R_0.froz 2 _ rfl
          have Rc3 := R_0.cell 3 _ rfl
          have Rf3 := R_0.froz 3 _ rfl
          have Rc4 := R_0.cell 4 _ rfl
          have Rf4 := R_0.froz 4 _ rfl
          have Rc5 := R_0.cell 5 _ rfl
          have Rf5 := R_0.froz 5 _ rfl
          have Rc6 := R_0.cell 6 _ rfl
          have Rf6 := R_0.froz 6 _ rfl
          have Rc7 := R_0.cell 7 _ rfl
          have Rf7 := R_0.froz 7 _ rfl
          have Rc8 := R_0.cell 8 _ rfl
          have Rf8 := R_0.froz 8 _ rfl
          have Rc9 := R_0.cell 9 _ rfl
          have Rf9 := R_0.froz 9 _ rfl
          have Rc10 := R_0.cell 10 _ rfl
          have Rf10 := R_0.froz 10 _ rfl
          have Rc11 := R_0.cell 11 _ rfl
          have Rf11 := R_0.froz 11 _ rfl
          go_wp2
          refine bodyPost_ret (v := .tuple #[mv .zero, .int .i64 1]) (by simp [results, Tryz.results21, go_sem, Mv.zero, Fr.zero, Rc0, Rc1, Rc2, Rc3, Rc4, Rc5, Rc6, Rc7, Rc8, Rc9, Rc10, Rc11]) rfl ⟨rfl, ?_⟩
          exact put_below (R := W.heap.size) (Nat.le_refl _) [.int .i64 0, .int .i64 0, .int .i64 0, .int .i64 0, .int .i64 0, .int .i64 0, .int .i64 0, .int .i64 0, .int .i64 0, .int .i64 0, .int .i64 0, .int .i64 0] 0 L_0

        | turn =>
          have hkt := kd_is hkd
          simp only [Kd.word] at hkt
          subst hkt
          rw [show Kd.turn.n = 1 from rfl] at hnl
          have hsh : (ws.length : Int) ≤ (j : Int) + 1 := by omega
          have L_0 := hlow
          have G_0 := BG
          have R_0 := BR
          have bw0 := Below.refl wr.heap.size wr
          have cj := G_0.cell j _ (hcur j _ hk)
          have Rc0 := R_0.cell 0 _ rfl
          have Rf0 := R_0.froz 0 _ rfl
          have Rc1 := R_0.cell 1 _ rfl
          have Rf1 := R_0.froz 1 _ rfl
          have Rc2 := R_0.cell 2 _ rfl
          have Rf2 := R_0.froz 2 _ rfl
          have Rc3 := R_0.cell 3 _ rfl
          have Rf3 := R_0.froz 3 _ rfl
          have Rc4 := R_0.cell 4 _ rfl
          have Rf4 := R_0.froz 4 _ rfl
          have Rc5 := R_0.cell 5 _ rfl
          have Rf5 := R_0.froz 5 _ rfl
          have Rc6 := R_0.cell 6 _ rfl
          have Rf6 := R_0.froz 6 _ rfl
          have Rc7 := R_0.cell 7 _ rfl
          have Rf7 := R_0.froz 7 _ rfl
          have Rc8 := R_0.cell 8 _ rfl
          have Rf8 := R_0.froz 8 _ rfl
          have Rc9 := R_0.cell 9 _ rfl
          have Rf9 := R_0.froz 9 _ rfl
          have Rc10 := R_0.cell 10 _ rfl
          have Rf10 := R_0.froz 10 _ rfl
          have Rc11 := R_0.cell 11 _ rfl
          have Rf11 := R_0.froz 11 _ rfl
          go_wp2
          refine bodyPost_ret (v := .tuple #[mv .zero, .int .i64 1]) (by simp [results, Tryz.results21, go_sem, Mv.zero, Fr.zero, Rc0, Rc1, Rc2, Rc3, Rc4, Rc5, Rc6, Rc7, Rc8, Rc9, Rc10, Rc11]) rfl ⟨rfl, ?_⟩
          exact put_below (R := W.heap.size) (Nat.le_refl _) [.int .i64 0, .int .i64 0, .int .i64 0, .int .i64 0, .int .i64 0, .int .i64 0, .int .i64 0, .int .i64 0, .int .i64 0, .int .i64 0, .int .i64 0, .int .i64 0] 0 L_0

        | skew =>
          have hkt := kd_is hkd
          simp only [Kd.word] at hkt
          subst hkt
          rw [show Kd.skew.n = 1 from rfl] at hnl
          have hsh : (ws.length : Int) ≤ (j : Int) + 1 := by omega
          have L_0 := hlow
          have G_0 := BG
          have R_0 := BR
          have bw0 := Below.refl wr.heap.size wr
          have cj := G_0.cell j _ (hcur j _ hk)
          have Rc0 := R_0.cell 0 _ rfl
          have Rf0 := R_0.froz 0 _ rfl
          have Rc1 := R_0.cell 1 _ rfl
          have Rf1 := R_0.froz 1 _ rfl
          have Rc2 := R_0.cell 2 _ rfl
          have Rf2 := R_0.froz 2 _ rfl
          have Rc3 := R_0.cell 3 _ rfl
          have Rf3 := R_0.froz 3 _ rfl
          have Rc4 := R_0.cell 4 _ rfl
          have Rf4 := R_0.froz 4 _ rfl
          have Rc5 := R_0.cell 5 _ rfl
          have Rf5 := R_0.froz 5 _ rfl
          have Rc6 := R_0.cell 6 _ rfl
          have Rf6 := R_0.froz 6 _ rfl
          have Rc7 := R_0.cell 7 _ rfl
          have Rf7 := R_0.froz 7 _ rfl
          have Rc8 := R_0.cell 8 _ rfl
          have Rf8 := R_0.froz 8 _ rfl
          have Rc9 := R_0.cell 9 _ rfl
          have Rf9 := R_0.froz 9 _ rfl
          have Rc10 := R_0.cell 10 _ rfl
          have Rf10 := R_0.froz 10 _ rfl
          have Rc11 := R_0.cell 11 _ rfl
          have Rf11 := R_0.froz 11 _ rfl
          go_wp2
          refine bodyPost_ret (v := .tuple #[mv .zero, .int .i64 1]) (by simp [results, Tryz.results21, go_sem, Mv.zero, Fr.zero, Rc0, Rc1, Rc2, Rc3, Rc4, Rc5, Rc6, Rc7, Rc8, Rc9, Rc10, Rc11]) rfl ⟨rfl, ?_⟩
          exact put_below (R := W.heap.size) (Nat.le_refl _) [.int .i64 0, .int .i64 0, .int .i64 0, .int .i64 0, .int .i64 0, .int .i64 0, .int .i64 0, .int .i64 0, .int .i64 0, .int .i64 0, .int .i64 0, .int .i64 0] 0 L_0


      · rw [List.length_drop] at hnl
        cases kd with
        | move =>
          have hkt := kd_is hkd
          simp only [Kd.word] at hkt
          subst hkt
          rw [show Kd.move.n = 2 from rfl] at hnl
          obtain ⟨a, b, r, hdr, ha, hb⟩ := drop_two (ws := ws) (o := j + 1) (by omega)
          rw [hdr] at hkr
          have hj1 : (j : Int) + 1 < (ws.length : Int) := by omega
          have hj2 : (j : Int) + 2 < (ws.length : Int) := by omega
          change (rd2 _ a b).2 = c at hkr
          unfold rd2 at hkr
          by_cases ca : rdC a = 0
          · rw [if_neg (fun e => e ca)] at hkr
            by_cases cb : rdC b = 0
            · rw [if_neg (fun e => e cb)] at hkr; exact (hc hkr.symm).elim
            · rw [if_pos cb] at hkr
              have FA1 := fun V => FracOf_ok (word_le hsz ha) ca V
              have FN2 := fun V => FracOf_no (word_le hsz hb) cb V
              obtain ⟨x, hx⟩ : ∃ x, rdF a = x := ⟨_, rfl⟩
              rw [hx] at FA1
              have hp : (0 : Int) < (rdC b : Int) := by omega
              subst hkr
              clear hx ca
              have L_0 := hlow
              have G_0 := BG
              have R_0 := BR
              have bw0 := Below.refl wr.heap.size wr
              have cj := G_0.cell j _ (hcur j _ hk)
              have cj1 := G_0.cell (j + 1) _ (hcur (j + 1) _ ha)
              go_wp2_with (first | (go_at_call_of 46 b; refine (FN2 _).mono ?_; rintro e w3 ⟨rfl, hb3⟩; have M3 := bel0 L_2 hb3; have L_3 := M3.alloc M3.size (.cells #[.int .i64 0, .int .i64 0] 23); have bw3 := (bel0 bw2 hb3).alloc (bel0 bw2 hb3).size (.cells #[.int .i64 0, .int .i64 0] 23); have z3 := (bel0 bw2 hb3).size; have R_3 := (R_2.below hb3 (Nat.le_refl _)).alloc (.cells #[.int .i64 0, .int .i64 0] 23); have G_3 := (G_2.below hb3 (Nat.le_refl _)).alloc (.cells #[.int .i64 0, .int .i64 0] 23); have M_3 := (M_2.below hb3 (Nat.le_refl _)).alloc (.cells #[.int .i64 0, .int .i64 0] 23); have X_3 := (X_2.below hb3 (Nat.le_refl _)).alloc (.cells #[.int .i64 0, .int .i64 0] 23); have Y_3 := Blk.new w3 #[.int .i64 0, .int .i64 0] 23; have ys3 := hb3.size; simp only [World.size_alloc] at ys3; have nn1_3 : ¬ w1.heap.size = w3.heap.size := (by omega); have nm1_3 : ¬ w3.heap.size = w1.heap.size := (by omega); have nn2_3 : ¬ w2.heap.size = w3.heap.size := (by omega); have nm2_3 : ¬ w3.heap.size = w2.heap.size := (by omega); have Rc0 := R_3.cell 0 _ rfl; have Rf0 := R_3.froz 0 _ rfl; have Rc1 := R_3.cell 1 _ rfl; have Rf1 := R_3.froz 1 _ rfl; have Rc2 := R_3.cell 2 _ rfl; have Rf2 := R_3.froz 2 _ rfl; have Rc3 := R_3.cell 3 _ rfl; have Rf3 := R_3.froz 3 _ rfl; have Rc4 := R_3.cell 4 _ rfl; have Rf4 := R_3.froz 4 _ rfl; have Rc5 := R_3.cell 5 _ rfl; have Rf5 := R_3.froz 5 _ rfl; have Rc6 := R_3.cell 6 _ rfl; have Rf6 := R_3.froz 6 _ rfl; have Rc7 := R_3.cell 7 _ rfl; have Rf7 := R_3.froz 7 _ rfl; have Rc8 := R_3.cell 8 _ rfl; have Rf8 := R_3.froz 8 _ rfl; have Rc9 := R_3.cell 9 _ rfl; have Rf9 := R_3.froz 9 _ rfl; have Rc10 := R_3.cell 10 _ rfl; have Rf10 := R_3.froz 10 _ rfl; have Rc11 := R_3.cell 11 _ rfl; have Rf11 := R_3.froz 11 _ rfl) | (go_at_call_of 46 a; refine (FA1 _).mono ?_; rintro e w2 ⟨rfl, hb2⟩; have M2 := bel0 L_1 hb2; have L_2 := M2.alloc M2.size (.cells #[.int .i64 x.n, .int .i64 x.d] 23); have bw2 := (bel0 bw1 hb2).alloc (bel0 bw1 hb2).size (.cells #[.int .i64 x.n, .int .i64 x.d] 23); have z2 := (bel0 bw1 hb2).size; have R_2 := (R_1.below hb2 (Nat.le_refl _)).alloc (.cells #[.int .i64 x.n, .int .i64 x.d] 23); have G_2 := (G_1.below hb2 (Nat.le_refl _)).alloc (.cells #[.int .i64 x.n, .int .i64 x.d] 23); have M_2 := (M_1.below hb2 (Nat.le_refl _)).alloc (.cells #[.int .i64 x.n, .int .i64 x.d] 23); have X_2 := Blk.new w2 #[.int .i64 x.n, .int .i64 x.d] 23; have ys2 := hb2.size; simp only [World.size_alloc] at ys2; have nn1_2 : ¬ w1.heap.size = w2.heap.size := (by omega); have nm1_2 : ¬ w2.heap.size = w1.heap.size := (by omega); have cj := G_2.cell j _ (hcur j _ hk); have cj2 := G_2.cell (j + 2) _ (hcur (j + 2) _ hb)) | (go_at_call 43; refine (Stay_any _).mono ?_; rintro e w1 ⟨rfl, hb1⟩; dsimp only [Mv.one, Fr.whole]; have M1 := bel0 L_0 hb1; have L_1 := M1.alloc M1.size (.cells #[.int .i64 1, .int .i64 1, .int .i64 0, .int .i64 1, .int .i64 0, .int .i64 1, .int .i64 1, .int .i64 1, .int .i64 0, .int .i64 1, .int .i64 0, .int .i64 1] 25); have bw1 := (bel0 bw0 hb1).alloc (bel0 bw0 hb1).size (.cells #[.int .i64 1, .int .i64 1, .int .i64 0, .int .i64 1, .int .i64 0, .int .i64 1, .int .i64 1, .int .i64 1, .int .i64 0, .int .i64 1, .int .i64 0, .int .i64 1] 25); have z1 := (bel0 bw0 hb1).size; have R_1 := (R_0.below hb1 (Nat.le_refl _)).alloc (.cells #[.int .i64 1, .int .i64 1, .int .i64 0, .int .i64 1, .int .i64 0, .int .i64 1, .int .i64 1, .int .i64 1, .int .i64 0, .int .i64 1, .int .i64 0, .int .i64 1] 25); have G_1 := (G_0.below hb1 (Nat.le_refl _)).alloc (.cells #[.int .i64 1, .int .i64 1, .int .i64 0, .int .i64 1, .int .i64 0, .int .i64 1, .int .i64 1, .int .i64 1, .int .i64 0, .int .i64 1, .int .i64 0, .int .i64 1] 25); have M_1 := Blk.new w1 #[.int .i64 1, .int .i64 1, .int .i64 0, .int .i64 1, .int .i64 0, .int .i64 1, .int .i64 1, .int .i64 1, .int .i64 0, .int .i64 1, .int .i64 0, .int .i64 1] 25; have cj := G_1.cell j _ (hcur j _ hk); have cj1 := G_1.cell (j + 1) _ (hcur (j + 1) _ ha)))
              refine bodyPost_ret (v := .tuple #[mv .zero, .int .i64 (rdC b)]) (by simp [results, Tryz.results21, go_sem, Mv.zero, Fr.zero, Rc0, Rc1, Rc2, Rc3, Rc4, Rc5, Rc6, Rc7, Rc8, Rc9, Rc10, Rc11]) rfl ⟨rfl, ?_⟩
              exact put_below (R := W.heap.size) (Nat.le_refl _) [.int .i64 0, .int .i64 0, .int .i64 0, .int .i64 0, .int .i64 0, .int .i64 0, .int .i64 0, .int .i64 0, .int .i64 0, .int .i64 0, .int .i64 0, .int .i64 0] 0 L_3

          · rw [if_pos ca] at hkr
            have FN1 := fun V => FracOf_no (word_le hsz ha) ca V
            have hp : (0 : Int) < (rdC a : Int) := by omega
            subst hkr
            have L_0 := hlow
            have G_0 := BG
            have R_0 := BR
            have bw0 := Below.refl wr.heap.size wr
            have cj := G_0.cell j _ (hcur j _ hk)
            have cj1 := G_0.cell (j + 1) _ (hcur (j + 1) _ ha)
            go_wp2_with (first | (go_at_call_of 46 a; refine (FN1 _).mono ?_; rintro e w2 ⟨rfl, hb2⟩; have M2 := bel0 L_1 hb2; have L_2 := M2.alloc M2.size (.cells #[.int .i64 0, .int .i64 0] 23); have bw2 := (bel0 bw1 hb2).alloc (bel0 bw1 hb2).size (.cells #[.int .i64 0, .int .i64 0] 23); have z2 := (bel0 bw1 hb2).size; have R_2 := (R_1.below hb2 (Nat.le_refl _)).alloc (.cells #[.int .i64 0, .int .i64 0] 23); have G_2 := (G_1.below hb2 (Nat.le_refl _)).alloc (.cells #[.int .i64 0, .int .i64 0] 23); have M_2 := (M_1.below hb2 (Nat.le_refl _)).alloc (.cells #[.int .i64 0, .int .i64 0] 23); have X_2 := Blk.new w2 #[.int .i64 0, .int .i64 0] 23; have ys2 := hb2.size; simp only [World.size_alloc] at ys2; have nn1_2 : ¬ w1.heap.size = w2.heap.size := (by omega); have nm1_2 : ¬ w2.heap.size = w1.heap.size := (by omega); have Rc0 := R_2.cell 0 _ rfl; have Rf0 := R_2.froz 0 _ rfl; have Rc1 := R_2.cell 1 _ rfl; have Rf1 := R_2.froz 1 _ rfl; have Rc2 := R_2.cell 2 _ rfl; have Rf2 := R_2.froz 2 _ rfl; have Rc3 := R_2.cell 3 _ rfl; have Rf3 := R_2.froz 3 _ rfl; have Rc4 := R_2.cell 4 _ rfl; have Rf4 := R_2.froz 4 _ rfl; have Rc5 := R_2.cell 5 _ rfl; have Rf5 := R_2.froz 5 _ rfl; have Rc6 := R_2.cell 6 _ rfl; have Rf6 := R_2.froz 6 _ rfl; have Rc7 := R_2.cell 7 _ rfl; have Rf7 := R_2.froz 7 _ rfl; have Rc8 := R_2.cell 8 _ rfl; have Rf8 := R_2.froz 8 _ rfl; have Rc9 := R_2.cell 9 _ rfl; have Rf9 := R_2.froz 9 _ rfl; have Rc10 := R_2.cell 10 _ rfl; have Rf10 := R_2.froz 10 _ rfl; have Rc11 := R_2.cell 11 _ rfl; have Rf11 := R_2.froz 11 _ rfl) | (go_at_call 43; refine (Stay_any _).mono ?_; rintro e w1 ⟨rfl, hb1⟩; dsimp only [Mv.one, Fr.whole]; have M1 := bel0 L_0 hb1; have L_1 := M1.alloc M1.size (.cells #[.int .i64 1, .int .i64 1, .int .i64 0, .int .i64 1, .int .i64 0, .int .i64 1, .int .i64 1, .int .i64 1, .int .i64 0, .int .i64 1, .int .i64 0, .int .i64 1] 25); have bw1 := (bel0 bw0 hb1).alloc (bel0 bw0 hb1).size (.cells #[.int .i64 1, .int .i64 1, .int .i64 0, .int .i64 1, .int .i64 0, .int .i64 1, .int .i64 1, .int .i64 1, .int .i64 0, .int .i64 1, .int .i64 0, .int .i64 1] 25); have z1 := (bel0 bw0 hb1).size; have R_1 := (R_0.below hb1 (Nat.le_refl _)).alloc (.cells #[.int .i64 1, .int .i64 1, .int .i64 0, .int .i64 1, .int .i64 0, .int .i64 1, .int .i64 1, .int .i64 1, .int .i64 0, .int .i64 1, .int .i64 0, .int .i64 1] 25); have G_1 := (G_0.below hb1 (Nat.le_refl _)).alloc (.cells #[.int .i64 1, .int .i64 1, .int .i64 0, .int .i64 1, .int .i64 0, .int .i64 1, .int .i64 1, .int .i64 1, .int .i64 0, .int .i64 1, .int .i64 0, .int .i64 1] 25); have M_1 := Blk.new w1 #[.int .i64 1, .int .i64 1, .int .i64 0, .int .i64 1, .int .i64 0, .int .i64 1, .int .i64 1, .int .i64 1, .int .i64 0, .int .i64 1, .int .i64 0, .int .i64 1] 25; have cj := G_1.cell j _ (hcur j _ hk); have cj1 := G_1.cell (j + 1) _ (hcur (j + 1) _ ha)))
            refine bodyPost_ret (v := .tuple #[mv .zero, .int .i64 (rdC a)]) (by simp [results, Tryz.results21, go_sem, Mv.zero, Fr.zero, Rc0, Rc1, Rc2, Rc3, Rc4, Rc5, Rc6, Rc7, Rc8, Rc9, Rc10, Rc11]) rfl ⟨rfl, ?_⟩
            exact put_below (R := W.heap.size) (Nat.le_refl _) [.int .i64 0, .int .i64 0, .int .i64 0, .int .i64 0, .int .i64 0, .int .i64 0, .int .i64 0, .int .i64 0, .int .i64 0, .int .i64 0, .int .i64 0, .int .i64 0] 0 L_2


        | scale =>
          have hkt := kd_is hkd
          simp only [Kd.word] at hkt
          subst hkt
          rw [show Kd.scale.n = 2 from rfl] at hnl
          obtain ⟨a, b, r, hdr, ha, hb⟩ := drop_two (ws := ws) (o := j + 1) (by omega)
          rw [hdr] at hkr
          have hj1 : (j : Int) + 1 < (ws.length : Int) := by omega
          have hj2 : (j : Int) + 2 < (ws.length : Int) := by omega
          change (rd2 _ a b).2 = c at hkr
          unfold rd2 at hkr
          by_cases ca : rdC a = 0
          · rw [if_neg (fun e => e ca)] at hkr
            by_cases cb : rdC b = 0
            · rw [if_neg (fun e => e cb)] at hkr; exact (hc hkr.symm).elim
            · rw [if_pos cb] at hkr
              have FA1 := fun V => FracOf_ok (word_le hsz ha) ca V
              have FN2 := fun V => FracOf_no (word_le hsz hb) cb V
              obtain ⟨x, hx⟩ : ∃ x, rdF a = x := ⟨_, rfl⟩
              rw [hx] at FA1
              have hp : (0 : Int) < (rdC b : Int) := by omega
              subst hkr
              clear hx ca
              have L_0 := hlow
              have G_0 := BG
              have R_0 := BR
              have bw0 := Below.refl wr.heap.size wr
              have cj := G_0.cell j _ (hcur j _ hk)
              have cj1 := G_0.cell (j + 1) _ (hcur (j + 1) _ ha)
              go_wp2_with (first | (go_at_call_of 46 b; refine (FN2 _).mono ?_; rintro e w3 ⟨rfl, hb3⟩; have M3 := bel0 L_2 hb3; have L_3 := M3.alloc M3.size (.cells #[.int .i64 0, .int .i64 0] 23); have bw3 := (bel0 bw2 hb3).alloc (bel0 bw2 hb3).size (.cells #[.int .i64 0, .int .i64 0] 23); have z3 := (bel0 bw2 hb3).size; have R_3 := (R_2.below hb3 (Nat.le_refl _)).alloc (.cells #[.int .i64 0, .int .i64 0] 23); have G_3 := (G_2.below hb3 (Nat.le_refl _)).alloc (.cells #[.int .i64 0, .int .i64 0] 23); have M_3 := (M_2.below hb3 (Nat.le_refl _)).alloc (.cells #[.int .i64 0, .int .i64 0] 23); have X_3 := (X_2.below hb3 (Nat.le_refl _)).alloc (.cells #[.int .i64 0, .int .i64 0] 23); have Y_3 := Blk.new w3 #[.int .i64 0, .int .i64 0] 23; have ys3 := hb3.size; simp only [World.size_alloc] at ys3; have nn1_3 : ¬ w1.heap.size = w3.heap.size := (by omega); have nm1_3 : ¬ w3.heap.size = w1.heap.size := (by omega); have nn2_3 : ¬ w2.heap.size = w3.heap.size := (by omega); have nm2_3 : ¬ w3.heap.size = w2.heap.size := (by omega); have Rc0 := R_3.cell 0 _ rfl; have Rf0 := R_3.froz 0 _ rfl; have Rc1 := R_3.cell 1 _ rfl; have Rf1 := R_3.froz 1 _ rfl; have Rc2 := R_3.cell 2 _ rfl; have Rf2 := R_3.froz 2 _ rfl; have Rc3 := R_3.cell 3 _ rfl; have Rf3 := R_3.froz 3 _ rfl; have Rc4 := R_3.cell 4 _ rfl; have Rf4 := R_3.froz 4 _ rfl; have Rc5 := R_3.cell 5 _ rfl; have Rf5 := R_3.froz 5 _ rfl; have Rc6 := R_3.cell 6 _ rfl; have Rf6 := R_3.froz 6 _ rfl; have Rc7 := R_3.cell 7 _ rfl; have Rf7 := R_3.froz 7 _ rfl; have Rc8 := R_3.cell 8 _ rfl; have Rf8 := R_3.froz 8 _ rfl; have Rc9 := R_3.cell 9 _ rfl; have Rf9 := R_3.froz 9 _ rfl; have Rc10 := R_3.cell 10 _ rfl; have Rf10 := R_3.froz 10 _ rfl; have Rc11 := R_3.cell 11 _ rfl; have Rf11 := R_3.froz 11 _ rfl) | (go_at_call_of 46 a; refine (FA1 _).mono ?_; rintro e w2 ⟨rfl, hb2⟩; have M2 := bel0 L_1 hb2; have L_2 := M2.alloc M2.size (.cells #[.int .i64 x.n, .int .i64 x.d] 23); have bw2 := (bel0 bw1 hb2).alloc (bel0 bw1 hb2).size (.cells #[.int .i64 x.n, .int .i64 x.d] 23); have z2 := (bel0 bw1 hb2).size; have R_2 := (R_1.below hb2 (Nat.le_refl _)).alloc (.cells #[.int .i64 x.n, .int .i64 x.d] 23); have G_2 := (G_1.below hb2 (Nat.le_refl _)).alloc (.cells #[.int .i64 x.n, .int .i64 x.d] 23); have M_2 := (M_1.below hb2 (Nat.le_refl _)).alloc (.cells #[.int .i64 x.n, .int .i64 x.d] 23); have X_2 := Blk.new w2 #[.int .i64 x.n, .int .i64 x.d] 23; have ys2 := hb2.size; simp only [World.size_alloc] at ys2; have nn1_2 : ¬ w1.heap.size = w2.heap.size := (by omega); have nm1_2 : ¬ w2.heap.size = w1.heap.size := (by omega); have cj := G_2.cell j _ (hcur j _ hk); have cj2 := G_2.cell (j + 2) _ (hcur (j + 2) _ hb)) | (go_at_call 43; refine (Stay_any _).mono ?_; rintro e w1 ⟨rfl, hb1⟩; dsimp only [Mv.one, Fr.whole]; have M1 := bel0 L_0 hb1; have L_1 := M1.alloc M1.size (.cells #[.int .i64 1, .int .i64 1, .int .i64 0, .int .i64 1, .int .i64 0, .int .i64 1, .int .i64 1, .int .i64 1, .int .i64 0, .int .i64 1, .int .i64 0, .int .i64 1] 25); have bw1 := (bel0 bw0 hb1).alloc (bel0 bw0 hb1).size (.cells #[.int .i64 1, .int .i64 1, .int .i64 0, .int .i64 1, .int .i64 0, .int .i64 1, .int .i64 1, .int .i64 1, .int .i64 0, .int .i64 1, .int .i64 0, .int .i64 1] 25); have z1 := (bel0 bw0 hb1).size; have R_1 := (R_0.below hb1 (Nat.le_refl _)).alloc (.cells #[.int .i64 1, .int .i64 1, .int .i64 0, .int .i64 1, .int .i64 0, .int .i64 1, .int .i64 1, .int .i64 1, .int .i64 0, .int .i64 1, .int .i64 0, .int .i64 1] 25); have G_1 := (G_0.below hb1 (Nat.le_refl _)).alloc (.cells #[.int .i64 1, .int .i64 1, .int .i64 0, .int .i64 1, .int .i64 0, .int .i64 1, .int .i64 1, .int .i64 1, .int .i64 0, .int .i64 1, .int .i64 0, .int .i64 1] 25); have M_1 := Blk.new w1 #[.int .i64 1, .int .i64 1, .int .i64 0, .int .i64 1, .int .i64 0, .int .i64 1, .int .i64 1, .int .i64 1, .int .i64 0, .int .i64 1, .int .i64 0, .int .i64 1] 25; have cj := G_1.cell j _ (hcur j _ hk); have cj1 := G_1.cell (j + 1) _ (hcur (j + 1) _ ha)))
              refine bodyPost_ret (v := .tuple #[mv .zero, .int .i64 (rdC b)]) (by simp [results, Tryz.results21, go_sem, Mv.zero, Fr.zero, Rc0, Rc1, Rc2, Rc3, Rc4, Rc5, Rc6, Rc7, Rc8, Rc9, Rc10, Rc11]) rfl ⟨rfl, ?_⟩
              exact put_below (R := W.heap.size) (Nat.le_refl _) [.int .i64 0, .int .i64 0, .int .i64 0, .int .i64 0, .int .i64 0, .int .i64 0, .int .i64 0, .int .i64 0, .int .i64 0, .int .i64 0, .int .i64 0, .int .i64 0] 0 L_3

          · rw [if_pos ca] at hkr
            have FN1 := fun V => FracOf_no (word_le hsz ha) ca V
            have hp : (0 : Int) < (rdC a : Int) := by omega
            subst hkr
            have L_0 := hlow
            have G_0 := BG
            have R_0 := BR
            have bw0 := Below.refl wr.heap.size wr
            have cj := G_0.cell j _ (hcur j _ hk)
            have cj1 := G_0.cell (j + 1) _ (hcur (j + 1) _ ha)
            go_wp2_with (first | (go_at_call_of 46 a; refine (FN1 _).mono ?_; rintro e w2 ⟨rfl, hb2⟩; have M2 := bel0 L_1 hb2; have L_2 := M2.alloc M2.size (.cells #[.int .i64 0, .int .i64 0] 23); have bw2 := (bel0 bw1 hb2).alloc (bel0 bw1 hb2).size (.cells #[.int .i64 0, .int .i64 0] 23); have z2 := (bel0 bw1 hb2).size; have R_2 := (R_1.below hb2 (Nat.le_refl _)).alloc (.cells #[.int .i64 0, .int .i64 0] 23); have G_2 := (G_1.below hb2 (Nat.le_refl _)).alloc (.cells #[.int .i64 0, .int .i64 0] 23); have M_2 := (M_1.below hb2 (Nat.le_refl _)).alloc (.cells #[.int .i64 0, .int .i64 0] 23); have X_2 := Blk.new w2 #[.int .i64 0, .int .i64 0] 23; have ys2 := hb2.size; simp only [World.size_alloc] at ys2; have nn1_2 : ¬ w1.heap.size = w2.heap.size := (by omega); have nm1_2 : ¬ w2.heap.size = w1.heap.size := (by omega); have Rc0 := R_2.cell 0 _ rfl; have Rf0 := R_2.froz 0 _ rfl; have Rc1 := R_2.cell 1 _ rfl; have Rf1 := R_2.froz 1 _ rfl; have Rc2 := R_2.cell 2 _ rfl; have Rf2 := R_2.froz 2 _ rfl; have Rc3 := R_2.cell 3 _ rfl; have Rf3 := R_2.froz 3 _ rfl; have Rc4 := R_2.cell 4 _ rfl; have Rf4 := R_2.froz 4 _ rfl; have Rc5 := R_2.cell 5 _ rfl; have Rf5 := R_2.froz 5 _ rfl; have Rc6 := R_2.cell 6 _ rfl; have Rf6 := R_2.froz 6 _ rfl; have Rc7 := R_2.cell 7 _ rfl; have Rf7 := R_2.froz 7 _ rfl; have Rc8 := R_2.cell 8 _ rfl; have Rf8 := R_2.froz 8 _ rfl; have Rc9 := R_2.cell 9 _ rfl; have Rf9 := R_2.froz 9 _ rfl; have Rc10 := R_2.cell 10 _ rfl; have Rf10 := R_2.froz 10 _ rfl; have Rc11 := R_2.cell 11 _ rfl; have Rf11 := R_2.froz 11 _ rfl) | (go_at_call 43; refine (Stay_any _).mono ?_; rintro e w1 ⟨rfl, hb1⟩; dsimp only [Mv.one, Fr.whole]; have M1 := bel0 L_0 hb1; have L_1 := M1.alloc M1.size (.cells #[.int .i64 1, .int .i64 1, .int .i64 0, .int .i64 1, .int .i64 0, .int .i64 1, .int .i64 1, .int .i64 1, .int .i64 0, .int .i64 1, .int .i64 0, .int .i64 1] 25); have bw1 := (bel0 bw0 hb1).alloc (bel0 bw0 hb1).size (.cells #[.int .i64 1, .int .i64 1, .int .i64 0, .int .i64 1, .int .i64 0, .int .i64 1, .int .i64 1, .int .i64 1, .int .i64 0, .int .i64 1, .int .i64 0, .int .i64 1] 25); have z1 := (bel0 bw0 hb1).size; have R_1 := (R_0.below hb1 (Nat.le_refl _)).alloc (.cells #[.int .i64 1, .int .i64 1, .int .i64 0, .int .i64 1, .int .i64 0, .int .i64 1, .int .i64 1, .int .i64 1, .int .i64 0, .int .i64 1, .int .i64 0, .int .i64 1] 25); have G_1 := (G_0.below hb1 (Nat.le_refl _)).alloc (.cells #[.int .i64 1, .int .i64 1, .int .i64 0, .int .i64 1, .int .i64 0, .int .i64 1, .int .i64 1, .int .i64 1, .int .i64 0, .int .i64 1, .int .i64 0, .int .i64 1] 25); have M_1 := Blk.new w1 #[.int .i64 1, .int .i64 1, .int .i64 0, .int .i64 1, .int .i64 0, .int .i64 1, .int .i64 1, .int .i64 1, .int .i64 0, .int .i64 1, .int .i64 0, .int .i64 1] 25; have cj := G_1.cell j _ (hcur j _ hk); have cj1 := G_1.cell (j + 1) _ (hcur (j + 1) _ ha)))
            refine bodyPost_ret (v := .tuple #[mv .zero, .int .i64 (rdC a)]) (by simp [results, Tryz.results21, go_sem, Mv.zero, Fr.zero, Rc0, Rc1, Rc2, Rc3, Rc4, Rc5, Rc6, Rc7, Rc8, Rc9, Rc10, Rc11]) rfl ⟨rfl, ?_⟩
            exact put_below (R := W.heap.size) (Nat.le_refl _) [.int .i64 0, .int .i64 0, .int .i64 0, .int .i64 0, .int .i64 0, .int .i64 0, .int .i64 0, .int .i64 0, .int .i64 0, .int .i64 0, .int .i64 0, .int .i64 0] 0 L_2


        | skew =>
          have hkt := kd_is hkd
          simp only [Kd.word] at hkt
          subst hkt
          rw [show Kd.skew.n = 1 from rfl] at hnl
          obtain ⟨a, r, hdr, ha⟩ := drop_one (ws := ws) (o := j + 1) (by omega)
          rw [hdr] at hkr
          have hj1 : (j : Int) + 1 < (ws.length : Int) := by omega
          change (rd1 _ a).2 = c at hkr
          unfold rd1 at hkr
          by_cases ca : rdC a = 0
          · rw [if_neg (fun e => e ca)] at hkr; exact (hc hkr.symm).elim
          · rw [if_pos ca] at hkr
            have FN1 := fun V => FracOf_no (word_le hsz ha) ca V
            have hp : (0 : Int) < (rdC a : Int) := by omega
            subst hkr
            have L_0 := hlow
            have G_0 := BG
            have R_0 := BR
            have bw0 := Below.refl wr.heap.size wr
            have cj := G_0.cell j _ (hcur j _ hk)
            have cj1 := G_0.cell (j + 1) _ (hcur (j + 1) _ ha)
            go_wp2_with (first | (go_at_call_of 46 a; refine (FN1 _).mono ?_; rintro e w2 ⟨rfl, hb2⟩; have M2 := bel0 L_1 hb2; have L_2 := M2.alloc M2.size (.cells #[.int .i64 0, .int .i64 0] 23); have bw2 := (bel0 bw1 hb2).alloc (bel0 bw1 hb2).size (.cells #[.int .i64 0, .int .i64 0] 23); have z2 := (bel0 bw1 hb2).size; have R_2 := (R_1.below hb2 (Nat.le_refl _)).alloc (.cells #[.int .i64 0, .int .i64 0] 23); have G_2 := (G_1.below hb2 (Nat.le_refl _)).alloc (.cells #[.int .i64 0, .int .i64 0] 23); have M_2 := (M_1.below hb2 (Nat.le_refl _)).alloc (.cells #[.int .i64 0, .int .i64 0] 23); have X_2 := Blk.new w2 #[.int .i64 0, .int .i64 0] 23; have ys2 := hb2.size; simp only [World.size_alloc] at ys2; have nn1_2 : ¬ w1.heap.size = w2.heap.size := (by omega); have nm1_2 : ¬ w2.heap.size = w1.heap.size := (by omega); have Rc0 := R_2.cell 0 _ rfl; have Rf0 := R_2.froz 0 _ rfl; have Rc1 := R_2.cell 1 _ rfl; have Rf1 := R_2.froz 1 _ rfl; have Rc2 := R_2.cell 2 _ rfl; have Rf2 := R_2.froz 2 _ rfl; have Rc3 := R_2.cell 3 _ rfl; have Rf3 := R_2.froz 3 _ rfl; have Rc4 := R_2.cell 4 _ rfl; have Rf4 := R_2.froz 4 _ rfl; have Rc5 := R_2.cell 5 _ rfl; have Rf5 := R_2.froz 5 _ rfl; have Rc6 := R_2.cell 6 _ rfl; have Rf6 := R_2.froz 6 _ rfl; have Rc7 := R_2.cell 7 _ rfl; have Rf7 := R_2.froz 7 _ rfl; have Rc8 := R_2.cell 8 _ rfl; have Rf8 := R_2.froz 8 _ rfl; have Rc9 := R_2.cell 9 _ rfl; have Rf9 := R_2.froz 9 _ rfl; have Rc10 := R_2.cell 10 _ rfl; have Rf10 := R_2.froz 10 _ rfl; have Rc11 := R_2.cell 11 _ rfl; have Rf11 := R_2.froz 11 _ rfl) | (go_at_call 43; refine (Stay_any _).mono ?_; rintro e w1 ⟨rfl, hb1⟩; dsimp only [Mv.one, Fr.whole]; have M1 := bel0 L_0 hb1; have L_1 := M1.alloc M1.size (.cells #[.int .i64 1, .int .i64 1, .int .i64 0, .int .i64 1, .int .i64 0, .int .i64 1, .int .i64 1, .int .i64 1, .int .i64 0, .int .i64 1, .int .i64 0, .int .i64 1] 25); have bw1 := (bel0 bw0 hb1).alloc (bel0 bw0 hb1).size (.cells #[.int .i64 1, .int .i64 1, .int .i64 0, .int .i64 1, .int .i64 0, .int .i64 1, .int .i64 1, .int .i64 1, .int .i64 0, .int .i64 1, .int .i64 0, .int .i64 1] 25); have z1 := (bel0 bw0 hb1).size; have R_1 := (R_0.below hb1 (Nat.le_refl _)).alloc (.cells #[.int .i64 1, .int .i64 1, .int .i64 0, .int .i64 1, .int .i64 0, .int .i64 1, .int .i64 1, .int .i64 1, .int .i64 0, .int .i64 1, .int .i64 0, .int .i64 1] 25); have G_1 := (G_0.below hb1 (Nat.le_refl _)).alloc (.cells #[.int .i64 1, .int .i64 1, .int .i64 0, .int .i64 1, .int .i64 0, .int .i64 1, .int .i64 1, .int .i64 1, .int .i64 0, .int .i64 1, .int .i64 0, .int .i64 1] 25); have M_1 := Blk.new w1 #[.int .i64 1, .int .i64 1, .int .i64 0, .int .i64 1, .int .i64 0, .int .i64 1, .int .i64 1, .int .i64 1, .int .i64 0, .int .i64 1, .int .i64 0, .int .i64 1] 25; have cj := G_1.cell j _ (hcur j _ hk); have cj1 := G_1.cell (j + 1) _ (hcur (j + 1) _ ha)))
            refine bodyPost_ret (v := .tuple #[mv .zero, .int .i64 (rdC a)]) (by simp [results, Tryz.results21, go_sem, Mv.zero, Fr.zero, Rc0, Rc1, Rc2, Rc3, Rc4, Rc5, Rc6, Rc7, Rc8, Rc9, Rc10, Rc11]) rfl ⟨rfl, ?_⟩
            exact put_below (R := W.heap.size) (Nat.le_refl _) [.int .i64 0, .int .i64 0, .int .i64 0, .int .i64 0, .int .i64 0, .int .i64 0, .int .i64 0, .int .i64 0, .int .i64 0, .int .i64 0, .int .i64 0, .int .i64 0] 0 L_2


        | turn =>
          have hkt := kd_is hkd
          simp only [Kd.word] at hkt
          subst hkt
          rw [show Kd.turn.n = 1 from rfl] at hnl
          obtain ⟨a, r, hdr, ha⟩ := drop_one (ws := ws) (o := j + 1) (by omega)
          rw [hdr] at hkr
          have hj1 : (j : Int) + 1 < (ws.length : Int) := by omega
          change (turnR a).2 = c at hkr
          obtain ⟨t1, t2⟩ : turnR a = (.zero, 1) ∧ c = 1 := turn_wrong hkr hc
          subst t2
          have TN := fun V => turnOf_any a V
          rw [t1] at TN
          have L_0 := hlow
          have G_0 := BG
          have R_0 := BR
          have bw0 := Below.refl wr.heap.size wr
          have cj := G_0.cell j _ (hcur j _ hk)
          have cj1 := G_0.cell (j + 1) _ (hcur (j + 1) _ ha)
          go_wp2_with (first | (go_at_call 45; refine (TN _).mono ?_; rintro e w2 ⟨rfl, hb2⟩; dsimp only [Mv.zero, Fr.zero]; have M2 := bel0 L_1 hb2; have L_2 := M2.alloc M2.size (.cells #[.int .i64 0, .int .i64 0, .int .i64 0, .int .i64 0, .int .i64 0, .int .i64 0, .int .i64 0, .int .i64 0, .int .i64 0, .int .i64 0, .int .i64 0, .int .i64 0] 25); have bw2 := (bel0 bw1 hb2).alloc (bel0 bw1 hb2).size (.cells #[.int .i64 0, .int .i64 0, .int .i64 0, .int .i64 0, .int .i64 0, .int .i64 0, .int .i64 0, .int .i64 0, .int .i64 0, .int .i64 0, .int .i64 0, .int .i64 0] 25); have z2 := (bel0 bw1 hb2).size; have R_2 := (R_1.below hb2 (Nat.le_refl _)).alloc (.cells #[.int .i64 0, .int .i64 0, .int .i64 0, .int .i64 0, .int .i64 0, .int .i64 0, .int .i64 0, .int .i64 0, .int .i64 0, .int .i64 0, .int .i64 0, .int .i64 0] 25); have G_2 := (G_1.below hb2 (Nat.le_refl _)).alloc (.cells #[.int .i64 0, .int .i64 0, .int .i64 0, .int .i64 0, .int .i64 0, .int .i64 0, .int .i64 0, .int .i64 0, .int .i64 0, .int .i64 0, .int .i64 0, .int .i64 0] 25); have M_2 := (M_1.below hb2 (Nat.le_refl _)).alloc (.cells #[.int .i64 0, .int .i64 0, .int .i64 0, .int .i64 0, .int .i64 0, .int .i64 0, .int .i64 0, .int .i64 0, .int .i64 0, .int .i64 0, .int .i64 0, .int .i64 0] 25); have T_2 := Blk.new w2 #[.int .i64 0, .int .i64 0, .int .i64 0, .int .i64 0, .int .i64 0, .int .i64 0, .int .i64 0, .int .i64 0, .int .i64 0, .int .i64 0, .int .i64 0, .int .i64 0] 25; have ys2 := hb2.size; simp only [World.size_alloc] at ys2; have nn1_2 : ¬ w1.heap.size = w2.heap.size := (by omega); have nm1_2 : ¬ w2.heap.size = w1.heap.size := (by omega); have Rc0 := R_2.cell 0 _ rfl; have Rf0 := R_2.froz 0 _ rfl; have Rc1 := R_2.cell 1 _ rfl; have Rf1 := R_2.froz 1 _ rfl; have Rc2 := R_2.cell 2 _ rfl; have Rf2 := R_2.froz 2 _ rfl; have Rc3 := R_2.cell 3 _ rfl; have Rf3 := R_2.froz 3 _ rfl; have Rc4 := R_2.cell 4 _ rfl; have Rf4 := R_2.froz 4 _ rfl; have Rc5 := R_2.cell 5 _ rfl; have Rf5 := R_2.froz 5 _ rfl; have Rc6 := R_2.cell 6 _ rfl; have Rf6 := R_2.froz 6 _ rfl; have Rc7 := R_2.cell 7 _ rfl; have Rf7 := R_2.froz 7 _ rfl; have Rc8 := R_2.cell 8 _ rfl; have Rf8 := R_2.froz 8 _ rfl; have Rc9 := R_2.cell 9 _ rfl; have Rf9 := R_2.froz 9 _ rfl; have Rc10 := R_2.cell 10 _ rfl; have Rf10 := R_2.froz 10 _ rfl; have Rc11 := R_2.cell 11 _ rfl; have Rf11 := R_2.froz 11 _ rfl) | (go_at_call 43; refine (Stay_any _).mono ?_; rintro e w1 ⟨rfl, hb1⟩; dsimp only [Mv.one, Fr.whole]; have M1 := bel0 L_0 hb1; have L_1 := M1.alloc M1.size (.cells #[.int .i64 1, .int .i64 1, .int .i64 0, .int .i64 1, .int .i64 0, .int .i64 1, .int .i64 1, .int .i64 1, .int .i64 0, .int .i64 1, .int .i64 0, .int .i64 1] 25); have bw1 := (bel0 bw0 hb1).alloc (bel0 bw0 hb1).size (.cells #[.int .i64 1, .int .i64 1, .int .i64 0, .int .i64 1, .int .i64 0, .int .i64 1, .int .i64 1, .int .i64 1, .int .i64 0, .int .i64 1, .int .i64 0, .int .i64 1] 25); have z1 := (bel0 bw0 hb1).size; have R_1 := (R_0.below hb1 (Nat.le_refl _)).alloc (.cells #[.int .i64 1, .int .i64 1, .int .i64 0, .int .i64 1, .int .i64 0, .int .i64 1, .int .i64 1, .int .i64 1, .int .i64 0, .int .i64 1, .int .i64 0, .int .i64 1] 25); have G_1 := (G_0.below hb1 (Nat.le_refl _)).alloc (.cells #[.int .i64 1, .int .i64 1, .int .i64 0, .int .i64 1, .int .i64 0, .int .i64 1, .int .i64 1, .int .i64 1, .int .i64 0, .int .i64 1, .int .i64 0, .int .i64 1] 25); have M_1 := Blk.new w1 #[.int .i64 1, .int .i64 1, .int .i64 0, .int .i64 1, .int .i64 0, .int .i64 1, .int .i64 1, .int .i64 1, .int .i64 0, .int .i64 1, .int .i64 0, .int .i64 1] 25; have cj := G_1.cell j _ (hcur j _ hk); have cj1 := G_1.cell (j + 1) _ (hcur (j + 1) _ ha)))
          refine bodyPost_ret (v := .tuple #[mv .zero, .int .i64 1]) (by simp [results, Tryz.results21, go_sem, Mv.zero, Fr.zero, Rc0, Rc1, Rc2, Rc3, Rc4, Rc5, Rc6, Rc7, Rc8, Rc9, Rc10, Rc11]) rfl ⟨rfl, ?_⟩
          exact put_below (R := W.heap.size) (Nat.le_refl _) [.int .i64 0, .int .i64 0, .int .i64 0, .int .i64 0, .int .i64 0, .int .i64 0, .int .i64 0, .int .i64 0, .int .i64 0, .int .i64 0, .int .i64 0, .int .i64 0] 0 L_2



      · rw [List.length_drop] at hnl
        rw [List.drop_drop] at hRg
        cases kd with
        | turn =>
          have hkt := kd_is hkd
          simp only [Kd.word] at hkt
          subst hkt
          rw [show Kd.turn.n = 1 from rfl] at hnl hRg
          obtain ⟨a, r, hdr, ha⟩ := drop_one (ws := ws) (o := j + 1) (by omega)
          rw [hdr] at hkr
          have TA := fun V => turnOf_any a V
          rw [show turnR a = (m, 0) from hkr] at TA
          have hj1 : (j : Int) + 1 < (ws.length : Int) := by omega
          have L_0 := hlow
          have G_0 := BG
          have R_0 := BR
          have bw0 := Below.refl wr.heap.size wr
          have cj := G_0.cell j _ (hcur j _ hk)
          have cj1 := G_0.cell (j + 1) _ (hcur (j + 1) _ ha)
          go_upto_if 51 with (first | (go_at_call 43; refine (Stay_any _).mono ?_; rintro e w1 ⟨rfl, hb1⟩; dsimp only [Mv.one, Fr.whole]; have M1 := bel0 L_0 hb1; have L_1 := M1.alloc M1.size (.cells #[.int .i64 1, .int .i64 1, .int .i64 0, .int .i64 1, .int .i64 0, .int .i64 1, .int .i64 1, .int .i64 1, .int .i64 0, .int .i64 1, .int .i64 0, .int .i64 1] 25); have bw1 := (bel0 bw0 hb1).alloc (bel0 bw0 hb1).size (.cells #[.int .i64 1, .int .i64 1, .int .i64 0, .int .i64 1, .int .i64 0, .int .i64 1, .int .i64 1, .int .i64 1, .int .i64 0, .int .i64 1, .int .i64 0, .int .i64 1] 25); have z1 := (bel0 bw0 hb1).size; have R_1 := (R_0.below hb1 (Nat.le_refl _)).alloc (.cells #[.int .i64 1, .int .i64 1, .int .i64 0, .int .i64 1, .int .i64 0, .int .i64 1, .int .i64 1, .int .i64 1, .int .i64 0, .int .i64 1, .int .i64 0, .int .i64 1] 25); have G_1 := (G_0.below hb1 (Nat.le_refl _)).alloc (.cells #[.int .i64 1, .int .i64 1, .int .i64 0, .int .i64 1, .int .i64 0, .int .i64 1, .int .i64 1, .int .i64 1, .int .i64 0, .int .i64 1, .int .i64 0, .int .i64 1] 25); have M_1 := Blk.new w1 #[.int .i64 1, .int .i64 1, .int .i64 0, .int .i64 1, .int .i64 0, .int .i64 1, .int .i64 1, .int .i64 1, .int .i64 0, .int .i64 1, .int .i64 0, .int .i64 1] 25; have cj := G_1.cell j _ (hcur j _ hk); have cj1 := G_1.cell (j + 1) _ (hcur (j + 1) _ ha)))
          have hMs : wr.heap.size ≤ w1.heap.size := z1
          go_cut [10, 11, 12, 13, 14] from 24 to 119 (fun _ _ _ _ _ wx => Blk wx w1.heap.size #[.int .i64 m.a.n, .int .i64 m.a.d, .int .i64 m.b.n, .int .i64 m.b.d, .int .i64 m.c.n, .int .i64 m.c.d, .int .i64 m.d.n, .int .i64 m.d.d, .int .i64 m.e.n, .int .i64 m.e.d, .int .i64 m.f.n, .int .i64 m.f.d] 25 ∧ Below wr.heap.size wr wx)
          case first =>
            go_wp2_with (first | (go_at_call 45; refine (TA _).mono ?_; rintro e w2 ⟨rfl, hb2⟩; have M2 := bel0 L_1 hb2; have L_2 := M2.alloc M2.size (.cells #[.int .i64 m.a.n, .int .i64 m.a.d, .int .i64 m.b.n, .int .i64 m.b.d, .int .i64 m.c.n, .int .i64 m.c.d, .int .i64 m.d.n, .int .i64 m.d.d, .int .i64 m.e.n, .int .i64 m.e.d, .int .i64 m.f.n, .int .i64 m.f.d] 25); have bw2 := (bel0 bw1 hb2).alloc (bel0 bw1 hb2).size (.cells #[.int .i64 m.a.n, .int .i64 m.a.d, .int .i64 m.b.n, .int .i64 m.b.d, .int .i64 m.c.n, .int .i64 m.c.d, .int .i64 m.d.n, .int .i64 m.d.d, .int .i64 m.e.n, .int .i64 m.e.d, .int .i64 m.f.n, .int .i64 m.f.d] 25); have z2 := (bel0 bw1 hb2).size; have R_2 := (R_1.below hb2 (Nat.le_refl _)).alloc (.cells #[.int .i64 m.a.n, .int .i64 m.a.d, .int .i64 m.b.n, .int .i64 m.b.d, .int .i64 m.c.n, .int .i64 m.c.d, .int .i64 m.d.n, .int .i64 m.d.d, .int .i64 m.e.n, .int .i64 m.e.d, .int .i64 m.f.n, .int .i64 m.f.d] 25); have G_2 := (G_1.below hb2 (Nat.le_refl _)).alloc (.cells #[.int .i64 m.a.n, .int .i64 m.a.d, .int .i64 m.b.n, .int .i64 m.b.d, .int .i64 m.c.n, .int .i64 m.c.d, .int .i64 m.d.n, .int .i64 m.d.d, .int .i64 m.e.n, .int .i64 m.e.d, .int .i64 m.f.n, .int .i64 m.f.d] 25); have M_2 := (M_1.below hb2 (Nat.le_refl _)).alloc (.cells #[.int .i64 m.a.n, .int .i64 m.a.d, .int .i64 m.b.n, .int .i64 m.b.d, .int .i64 m.c.n, .int .i64 m.c.d, .int .i64 m.d.n, .int .i64 m.d.d, .int .i64 m.e.n, .int .i64 m.e.d, .int .i64 m.f.n, .int .i64 m.f.d] 25); have T_2 := Blk.new w2 #[.int .i64 m.a.n, .int .i64 m.a.d, .int .i64 m.b.n, .int .i64 m.b.d, .int .i64 m.c.n, .int .i64 m.c.d, .int .i64 m.d.n, .int .i64 m.d.d, .int .i64 m.e.n, .int .i64 m.e.d, .int .i64 m.f.n, .int .i64 m.f.d] 25; have ys2 := hb2.size; simp only [World.size_alloc] at ys2; have nn1_2 : ¬ w1.heap.size = w2.heap.size := (by omega); have nm1_2 : ¬ w2.heap.size = w1.heap.size := (by omega); have Tc0 := T_2.cell 0 _ rfl; have Tc1 := T_2.cell 1 _ rfl; have Tc2 := T_2.cell 2 _ rfl; have Tc3 := T_2.cell 3 _ rfl; have Tc4 := T_2.cell 4 _ rfl; have Tc5 := T_2.cell 5 _ rfl; have Tc6 := T_2.cell 6 _ rfl; have Tc7 := T_2.cell 7 _ rfl; have Tc8 := T_2.cell 8 _ rfl; have Tc9 := T_2.cell 9 _ rfl; have Tc10 := T_2.cell 10 _ rfl; have Tc11 := T_2.cell 11 _ rfl; have Mc0 := M_2.cell 0 _ rfl; have Mf0 := M_2.froz 0 _ rfl; have Mc1 := M_2.cell 1 _ rfl; have Mf1 := M_2.froz 1 _ rfl; have Mc2 := M_2.cell 2 _ rfl; have Mf2 := M_2.froz 2 _ rfl; have Mc3 := M_2.cell 3 _ rfl; have Mf3 := M_2.froz 3 _ rfl; have Mc4 := M_2.cell 4 _ rfl; have Mf4 := M_2.froz 4 _ rfl; have Mc5 := M_2.cell 5 _ rfl; have Mf5 := M_2.froz 5 _ rfl; have Mc6 := M_2.cell 6 _ rfl; have Mf6 := M_2.froz 6 _ rfl; have Mc7 := M_2.cell 7 _ rfl; have Mf7 := M_2.froz 7 _ rfl; have Mc8 := M_2.cell 8 _ rfl; have Mf8 := M_2.froz 8 _ rfl; have Mc9 := M_2.cell 9 _ rfl; have Mf9 := M_2.froz 9 _ rfl; have Mc10 := M_2.cell 10 _ rfl; have Mf10 := M_2.froz 10 _ rfl; have Mc11 := M_2.cell 11 _ rfl; have Mf11 := M_2.froz 11 _ rfl))
            go_meet
            case rel =>
              exact ⟨Blk.all12 M_2 _ _ _ _ _ _ _ _ _ _ _ _, sets_below (R := w1.heap.size) z1 [(0, .int .i64 m.a.n), (1, .int .i64 m.a.d), (2, .int .i64 m.b.n), (3, .int .i64 m.b.d), (4, .int .i64 m.c.n), (5, .int .i64 m.c.d), (6, .int .i64 m.d.n), (7, .int .i64 m.d.d), (8, .int .i64 m.e.n), (9, .int .i64 m.e.d), (10, .int .i64 m.f.n), (11, .int .i64 m.f.d)] (bw2)⟩
          case rest =>
            obtain ⟨MB, hbx⟩ := hcut
            have m0 := MB.cell 0 _ rfl
            have m1 := MB.cell 1 _ rfl
            have m2 := MB.cell 2 _ rfl
            have m3 := MB.cell 3 _ rfl
            have m4 := MB.cell 4 _ rfl
            have m5 := MB.cell 5 _ rfl
            have m6 := MB.cell 6 _ rfl
            have m7 := MB.cell 7 _ rfl
            have m8 := MB.cell 8 _ rfl
            have m9 := MB.cell 9 _ rfl
            have m10 := MB.cell 10 _ rfl
            have m11 := MB.cell 11 _ rfl
            have OW : (wc.alloc (.cells #[.int .i64 m.a.n, .int .i64 m.a.d, .int .i64 m.b.n, .int .i64 m.b.d, .int .i64 m.c.n, .int .i64 m.c.d, .int .i64 m.d.n, .int .i64 m.d.d, .int .i64 m.e.n, .int .i64 m.e.d, .int .i64 m.f.n, .int .i64 m.f.d] 25)).ownsRow wk.heap.size 25 12 u6 acc.length (cellsM acc) := (ownsRow_below hown hbx).alloc _
            have sx := hbx.size
            have oh := own_hi hown
            have ol := own_lo hown
            go_wp2_with ((at_builtin; refine wpList_append_own_at _ rfl _ _ 88 rfl wk.heap.size 25 i0 (.agg #[.int .i64 0, .int .i64 0, .int .i64 0, .int .i64 0, .int .i64 0, .int .i64 0, .int .i64 0, .int .i64 0, .int .i64 0, .int .i64 0, .int .i64 0, .int .i64 0]) 12 96 Tryz.underlying88 hi hz0 hz1 hz2 rfl (by decide) u6 acc.length (cellsM acc) rfl OW ⟨wc.heap.size, 0, none⟩ 1 1 [.int .i64 m.a.n, .int .i64 m.a.d, .int .i64 m.b.n, .int .i64 m.b.d, .int .i64 m.c.n, .int .i64 m.c.d, .int .i64 m.d.n, .int .i64 m.d.d, .int .i64 m.e.n, .int .i64 m.e.d, .int .i64 m.f.n, .int .i64 m.f.d] rfl rfl (cells12 rfl) one12 (by unfold maxLen; omega) (by omega) (by simp; omega) ?_; intro v5 V5 hown5 hgrow5 _ hloc5))
            go_roundw
            case rel =>
              refine ⟨j + 1 + 1, f', acc ++ [m], by omega, by simp; omega, by go_num, by rw [List.length_append, cellsM_snoc]; exact hown5, ?_, ?_, ?_, ?_, ?_, by omega, hRg⟩
              · exact ((BR.below hbx (Nat.le_refl _)).alloc _).grown hgrow5 (fun e => by have := ol _ e; omega)
              · exact ((BO.below hbx (Nat.le_refl _)).alloc _).grown hgrow5 (fun e => by have := ol _ e; omega)
              · exact ((BG.below hbx (Nat.le_refl _)).alloc _).grown hgrow5 (fun e => by have := ol _ e; omega)
              · exact ((bel0 hlow hbx).alloc (bel0 hlow hbx).size _).grown hgrow5 (by have := (bel0 hlow hbx).size; simp; omega) (fun q e => by have := ol q e; omega)
              · have := hgrow5.size; simp at this; omega
            case measure => simp [intOf]; omega


        | skew =>
          have hkt := kd_is hkd
          simp only [Kd.word] at hkt
          subst hkt
          rw [show Kd.skew.n = 1 from rfl] at hnl hRg
          obtain ⟨a, r, hdr, ha⟩ := drop_one (ws := ws) (o := j + 1) (by omega)
          rw [hdr] at hkr
          obtain ⟨ca, hm⟩ := rd1_some hkr
          have FA1 := fun V => FracOf_ok (word_le hsz ha) ca V
          obtain ⟨x, hx⟩ : ∃ x, rdF a = x := ⟨_, rfl⟩
          rw [hx] at FA1 hm
          subst hm
          have hj1 : (j : Int) + 1 < (ws.length : Int) := by omega
          clear hkr ca hx
          have L_0 := hlow
          have G_0 := BG
          have R_0 := BR
          have bw0 := Below.refl wr.heap.size wr
          have cj := G_0.cell j _ (hcur j _ hk)
          have cj1 := G_0.cell (j + 1) _ (hcur (j + 1) _ ha)
          go_upto_if 51 with (first | (go_at_call 43; refine (Stay_any _).mono ?_; rintro e w1 ⟨rfl, hb1⟩; dsimp only [Mv.one, Fr.whole]; have M1 := bel0 L_0 hb1; have L_1 := M1.alloc M1.size (.cells #[.int .i64 1, .int .i64 1, .int .i64 0, .int .i64 1, .int .i64 0, .int .i64 1, .int .i64 1, .int .i64 1, .int .i64 0, .int .i64 1, .int .i64 0, .int .i64 1] 25); have bw1 := (bel0 bw0 hb1).alloc (bel0 bw0 hb1).size (.cells #[.int .i64 1, .int .i64 1, .int .i64 0, .int .i64 1, .int .i64 0, .int .i64 1, .int .i64 1, .int .i64 1, .int .i64 0, .int .i64 1, .int .i64 0, .int .i64 1] 25); have z1 := (bel0 bw0 hb1).size; have R_1 := (R_0.below hb1 (Nat.le_refl _)).alloc (.cells #[.int .i64 1, .int .i64 1, .int .i64 0, .int .i64 1, .int .i64 0, .int .i64 1, .int .i64 1, .int .i64 1, .int .i64 0, .int .i64 1, .int .i64 0, .int .i64 1] 25); have G_1 := (G_0.below hb1 (Nat.le_refl _)).alloc (.cells #[.int .i64 1, .int .i64 1, .int .i64 0, .int .i64 1, .int .i64 0, .int .i64 1, .int .i64 1, .int .i64 1, .int .i64 0, .int .i64 1, .int .i64 0, .int .i64 1] 25); have M_1 := Blk.new w1 #[.int .i64 1, .int .i64 1, .int .i64 0, .int .i64 1, .int .i64 0, .int .i64 1, .int .i64 1, .int .i64 1, .int .i64 0, .int .i64 1, .int .i64 0, .int .i64 1] 25; have cj := G_1.cell j _ (hcur j _ hk); have cj1 := G_1.cell (j + 1) _ (hcur (j + 1) _ ha)))
          have hMs : wr.heap.size ≤ w1.heap.size := z1
          go_cut [10, 11, 12, 13, 14] from 24 to 119 (fun _ _ _ _ _ wx => Blk wx w1.heap.size #[.int .i64 1, .int .i64 1, .int .i64 0, .int .i64 1, .int .i64 x.n, .int .i64 x.d, .int .i64 1, .int .i64 1, .int .i64 0, .int .i64 1, .int .i64 0, .int .i64 1] 25 ∧ Below wr.heap.size wr wx)
          case first =>
            go_wp2_with (first | (go_at_call_of 46 a; refine (FA1 _).mono ?_; rintro e w3 ⟨rfl, hb3⟩; have M3 := bel0 L_2 hb3; have L_3 := M3.alloc M3.size (.cells #[.int .i64 x.n, .int .i64 x.d] 23); have bw3 := (bel0 bw2 hb3).alloc (bel0 bw2 hb3).size (.cells #[.int .i64 x.n, .int .i64 x.d] 23); have z3 := (bel0 bw2 hb3).size; have R_3 := (R_2.below hb3 (Nat.le_refl _)).alloc (.cells #[.int .i64 x.n, .int .i64 x.d] 23); have G_3 := (G_2.below hb3 (Nat.le_refl _)).alloc (.cells #[.int .i64 x.n, .int .i64 x.d] 23); have M_3 := (M_2.below hb3 (Nat.le_refl _)).alloc (.cells #[.int .i64 x.n, .int .i64 x.d] 23); have X_3 := (X_2.below hb3 (Nat.le_refl _)).alloc (.cells #[.int .i64 x.n, .int .i64 x.d] 23); have Y_3 := Blk.new w3 #[.int .i64 x.n, .int .i64 x.d] 23; have ys3 := hb3.size; simp only [World.size_alloc] at ys3; have nn1_3 : ¬ w1.heap.size = w3.heap.size := (by omega); have nm1_3 : ¬ w3.heap.size = w1.heap.size := (by omega); have nn2_3 : ¬ w2.heap.size = w3.heap.size := (by omega); have nm2_3 : ¬ w3.heap.size = w2.heap.size := (by omega); have cj := G_3.cell j _ (hcur j _ hk); have Xc0 := X_3.cell 0 _ rfl; have Xc1 := X_3.cell 1 _ rfl; have Yc0 := Y_3.cell 0 _ rfl; have Yc1 := Y_3.cell 1 _ rfl; have Mc0 := M_3.cell 0 _ rfl; have Mf0 := M_3.froz 0 _ rfl; have Mc1 := M_3.cell 1 _ rfl; have Mf1 := M_3.froz 1 _ rfl; have Mc2 := M_3.cell 2 _ rfl; have Mf2 := M_3.froz 2 _ rfl; have Mc3 := M_3.cell 3 _ rfl; have Mf3 := M_3.froz 3 _ rfl; have Mc4 := M_3.cell 4 _ rfl; have Mf4 := M_3.froz 4 _ rfl; have Mc5 := M_3.cell 5 _ rfl; have Mf5 := M_3.froz 5 _ rfl; have Mc6 := M_3.cell 6 _ rfl; have Mf6 := M_3.froz 6 _ rfl; have Mc7 := M_3.cell 7 _ rfl; have Mf7 := M_3.froz 7 _ rfl; have Mc8 := M_3.cell 8 _ rfl; have Mf8 := M_3.froz 8 _ rfl; have Mc9 := M_3.cell 9 _ rfl; have Mf9 := M_3.froz 9 _ rfl; have Mc10 := M_3.cell 10 _ rfl; have Mf10 := M_3.froz 10 _ rfl; have Mc11 := M_3.cell 11 _ rfl; have Mf11 := M_3.froz 11 _ rfl) | (go_at_call_of 46 a; refine (FA1 _).mono ?_; rintro e w2 ⟨rfl, hb2⟩; have M2 := bel0 L_1 hb2; have L_2 := M2.alloc M2.size (.cells #[.int .i64 x.n, .int .i64 x.d] 23); have bw2 := (bel0 bw1 hb2).alloc (bel0 bw1 hb2).size (.cells #[.int .i64 x.n, .int .i64 x.d] 23); have z2 := (bel0 bw1 hb2).size; have R_2 := (R_1.below hb2 (Nat.le_refl _)).alloc (.cells #[.int .i64 x.n, .int .i64 x.d] 23); have G_2 := (G_1.below hb2 (Nat.le_refl _)).alloc (.cells #[.int .i64 x.n, .int .i64 x.d] 23); have M_2 := (M_1.below hb2 (Nat.le_refl _)).alloc (.cells #[.int .i64 x.n, .int .i64 x.d] 23); have X_2 := Blk.new w2 #[.int .i64 x.n, .int .i64 x.d] 23; have ys2 := hb2.size; simp only [World.size_alloc] at ys2; have nn1_2 : ¬ w1.heap.size = w2.heap.size := (by omega); have nm1_2 : ¬ w2.heap.size = w1.heap.size := (by omega); have cj := G_2.cell j _ (hcur j _ hk); have cj1 := G_2.cell (j + 1) _ (hcur (j + 1) _ ha)))
            go_meet
            case rel =>
              exact ⟨((M_3.set' 4 (.int .i64 x.n) (cs' := #[.int .i64 1, .int .i64 1, .int .i64 0, .int .i64 1, .int .i64 x.n, .int .i64 1, .int .i64 1, .int .i64 1, .int .i64 0, .int .i64 1, .int .i64 0, .int .i64 1]) (by simp)).set' 5 (.int .i64 x.d) (cs' := #[.int .i64 1, .int .i64 1, .int .i64 0, .int .i64 1, .int .i64 x.n, .int .i64 x.d, .int .i64 1, .int .i64 1, .int .i64 0, .int .i64 1, .int .i64 0, .int .i64 1]) (by simp)), sets_below (R := w1.heap.size) z1 [(4, .int .i64 x.n), (5, .int .i64 x.d)] (bw3)⟩
          case rest =>
            obtain ⟨MB, hbx⟩ := hcut
            have m0 := MB.cell 0 _ rfl
            have m1 := MB.cell 1 _ rfl
            have m2 := MB.cell 2 _ rfl
            have m3 := MB.cell 3 _ rfl
            have m4 := MB.cell 4 _ rfl
            have m5 := MB.cell 5 _ rfl
            have m6 := MB.cell 6 _ rfl
            have m7 := MB.cell 7 _ rfl
            have m8 := MB.cell 8 _ rfl
            have m9 := MB.cell 9 _ rfl
            have m10 := MB.cell 10 _ rfl
            have m11 := MB.cell 11 _ rfl
            have OW : (wc.alloc (.cells #[.int .i64 1, .int .i64 1, .int .i64 0, .int .i64 1, .int .i64 x.n, .int .i64 x.d, .int .i64 1, .int .i64 1, .int .i64 0, .int .i64 1, .int .i64 0, .int .i64 1] 25)).ownsRow wk.heap.size 25 12 u6 acc.length (cellsM acc) := (ownsRow_below hown hbx).alloc _
            have sx := hbx.size
            have oh := own_hi hown
            have ol := own_lo hown
            go_wp2_with ((at_builtin; refine wpList_append_own_at _ rfl _ _ 88 rfl wk.heap.size 25 i0 (.agg #[.int .i64 0, .int .i64 0, .int .i64 0, .int .i64 0, .int .i64 0, .int .i64 0, .int .i64 0, .int .i64 0, .int .i64 0, .int .i64 0, .int .i64 0, .int .i64 0]) 12 96 Tryz.underlying88 hi hz0 hz1 hz2 rfl (by decide) u6 acc.length (cellsM acc) rfl OW ⟨wc.heap.size, 0, none⟩ 1 1 [.int .i64 1, .int .i64 1, .int .i64 0, .int .i64 1, .int .i64 x.n, .int .i64 x.d, .int .i64 1, .int .i64 1, .int .i64 0, .int .i64 1, .int .i64 0, .int .i64 1] rfl rfl (cells12 (m := Mv.skew x) rfl) (one12 (m := Mv.skew x)) (by unfold maxLen; omega) (by omega) (by simp; omega) ?_; intro v5 V5 hown5 hgrow5 _ hloc5))
            go_roundw
            case rel =>
              refine ⟨j + 1 + 1, f', acc ++ [Mv.skew x], by omega, by simp; omega, by go_num, by rw [List.length_append, cellsM_snoc]; exact hown5, ?_, ?_, ?_, ?_, ?_, by omega, hRg⟩
              · exact ((BR.below hbx (Nat.le_refl _)).alloc _).grown hgrow5 (fun e => by have := ol _ e; omega)
              · exact ((BO.below hbx (Nat.le_refl _)).alloc _).grown hgrow5 (fun e => by have := ol _ e; omega)
              · exact ((BG.below hbx (Nat.le_refl _)).alloc _).grown hgrow5 (fun e => by have := ol _ e; omega)
              · exact ((bel0 hlow hbx).alloc (bel0 hlow hbx).size _).grown hgrow5 (by have := (bel0 hlow hbx).size; simp; omega) (fun q e => by have := ol q e; omega)
              · have := hgrow5.size; simp at this; omega
            case measure => simp [intOf]; omega


        | move =>
          have hkt := kd_is hkd
          simp only [Kd.word] at hkt
          subst hkt
          rw [show Kd.move.n = 2 from rfl] at hnl hRg
          obtain ⟨a, b, r, hdr, ha, hb⟩ := drop_two (ws := ws) (o := j + 1) (by omega)
          rw [hdr] at hkr
          obtain ⟨ca, cb, hm⟩ := rd2_some hkr
          have FA1 := fun V => FracOf_ok (word_le hsz ha) ca V
          have FA2 := fun V => FracOf_ok (word_le hsz hb) cb V
          obtain ⟨x, hx⟩ : ∃ x, rdF a = x := ⟨_, rfl⟩
          obtain ⟨y, hy⟩ : ∃ y, rdF b = y := ⟨_, rfl⟩
          rw [hx] at FA1 hm
          rw [hy] at FA2 hm
          subst hm
          have hj1 : (j : Int) + 1 < (ws.length : Int) := by omega
          have hj2 : (j : Int) + 2 < (ws.length : Int) := by omega
          clear hkr ca cb hx hy
          have L_0 := hlow
          have G_0 := BG
          have R_0 := BR
          have bw0 := Below.refl wr.heap.size wr
          have cj := G_0.cell j _ (hcur j _ hk)
          have cj1 := G_0.cell (j + 1) _ (hcur (j + 1) _ ha)
          go_upto_if 51 with (first | (go_at_call 43; refine (Stay_any _).mono ?_; rintro e w1 ⟨rfl, hb1⟩; dsimp only [Mv.one, Fr.whole]; have M1 := bel0 L_0 hb1; have L_1 := M1.alloc M1.size (.cells #[.int .i64 1, .int .i64 1, .int .i64 0, .int .i64 1, .int .i64 0, .int .i64 1, .int .i64 1, .int .i64 1, .int .i64 0, .int .i64 1, .int .i64 0, .int .i64 1] 25); have bw1 := (bel0 bw0 hb1).alloc (bel0 bw0 hb1).size (.cells #[.int .i64 1, .int .i64 1, .int .i64 0, .int .i64 1, .int .i64 0, .int .i64 1, .int .i64 1, .int .i64 1, .int .i64 0, .int .i64 1, .int .i64 0, .int .i64 1] 25); have z1 := (bel0 bw0 hb1).size; have R_1 := (R_0.below hb1 (Nat.le_refl _)).alloc (.cells #[.int .i64 1, .int .i64 1, .int .i64 0, .int .i64 1, .int .i64 0, .int .i64 1, .int .i64 1, .int .i64 1, .int .i64 0, .int .i64 1, .int .i64 0, .int .i64 1] 25); have G_1 := (G_0.below hb1 (Nat.le_refl _)).alloc (.cells #[.int .i64 1, .int .i64 1, .int .i64 0, .int .i64 1, .int .i64 0, .int .i64 1, .int .i64 1, .int .i64 1, .int .i64 0, .int .i64 1, .int .i64 0, .int .i64 1] 25); have M_1 := Blk.new w1 #[.int .i64 1, .int .i64 1, .int .i64 0, .int .i64 1, .int .i64 0, .int .i64 1, .int .i64 1, .int .i64 1, .int .i64 0, .int .i64 1, .int .i64 0, .int .i64 1] 25; have cj := G_1.cell j _ (hcur j _ hk); have cj1 := G_1.cell (j + 1) _ (hcur (j + 1) _ ha)))
          have hMs : wr.heap.size ≤ w1.heap.size := z1
          go_cut [10, 11, 12, 13, 14] from 24 to 119 (fun _ _ _ _ _ wx => Blk wx w1.heap.size #[.int .i64 1, .int .i64 1, .int .i64 0, .int .i64 1, .int .i64 0, .int .i64 1, .int .i64 1, .int .i64 1, .int .i64 x.n, .int .i64 x.d, .int .i64 y.n, .int .i64 y.d] 25 ∧ Below wr.heap.size wr wx)
          case first =>
            go_wp2_with (first | (go_at_call_of 46 b; refine (FA2 _).mono ?_; rintro e w3 ⟨rfl, hb3⟩; have M3 := bel0 L_2 hb3; have L_3 := M3.alloc M3.size (.cells #[.int .i64 y.n, .int .i64 y.d] 23); have bw3 := (bel0 bw2 hb3).alloc (bel0 bw2 hb3).size (.cells #[.int .i64 y.n, .int .i64 y.d] 23); have z3 := (bel0 bw2 hb3).size; have R_3 := (R_2.below hb3 (Nat.le_refl _)).alloc (.cells #[.int .i64 y.n, .int .i64 y.d] 23); have G_3 := (G_2.below hb3 (Nat.le_refl _)).alloc (.cells #[.int .i64 y.n, .int .i64 y.d] 23); have M_3 := (M_2.below hb3 (Nat.le_refl _)).alloc (.cells #[.int .i64 y.n, .int .i64 y.d] 23); have X_3 := (X_2.below hb3 (Nat.le_refl _)).alloc (.cells #[.int .i64 y.n, .int .i64 y.d] 23); have Y_3 := Blk.new w3 #[.int .i64 y.n, .int .i64 y.d] 23; have ys3 := hb3.size; simp only [World.size_alloc] at ys3; have nn1_3 : ¬ w1.heap.size = w3.heap.size := (by omega); have nm1_3 : ¬ w3.heap.size = w1.heap.size := (by omega); have nn2_3 : ¬ w2.heap.size = w3.heap.size := (by omega); have nm2_3 : ¬ w3.heap.size = w2.heap.size := (by omega); have cj := G_3.cell j _ (hcur j _ hk); have Xc0 := X_3.cell 0 _ rfl; have Xc1 := X_3.cell 1 _ rfl; have Yc0 := Y_3.cell 0 _ rfl; have Yc1 := Y_3.cell 1 _ rfl; have Mc0 := M_3.cell 0 _ rfl; have Mf0 := M_3.froz 0 _ rfl; have Mc1 := M_3.cell 1 _ rfl; have Mf1 := M_3.froz 1 _ rfl; have Mc2 := M_3.cell 2 _ rfl; have Mf2 := M_3.froz 2 _ rfl; have Mc3 := M_3.cell 3 _ rfl; have Mf3 := M_3.froz 3 _ rfl; have Mc4 := M_3.cell 4 _ rfl; have Mf4 := M_3.froz 4 _ rfl; have Mc5 := M_3.cell 5 _ rfl; have Mf5 := M_3.froz 5 _ rfl; have Mc6 := M_3.cell 6 _ rfl; have Mf6 := M_3.froz 6 _ rfl; have Mc7 := M_3.cell 7 _ rfl; have Mf7 := M_3.froz 7 _ rfl; have Mc8 := M_3.cell 8 _ rfl; have Mf8 := M_3.froz 8 _ rfl; have Mc9 := M_3.cell 9 _ rfl; have Mf9 := M_3.froz 9 _ rfl; have Mc10 := M_3.cell 10 _ rfl; have Mf10 := M_3.froz 10 _ rfl; have Mc11 := M_3.cell 11 _ rfl; have Mf11 := M_3.froz 11 _ rfl) | (go_at_call_of 46 a; refine (FA1 _).mono ?_; rintro e w2 ⟨rfl, hb2⟩; have M2 := bel0 L_1 hb2; have L_2 := M2.alloc M2.size (.cells #[.int .i64 x.n, .int .i64 x.d] 23); have bw2 := (bel0 bw1 hb2).alloc (bel0 bw1 hb2).size (.cells #[.int .i64 x.n, .int .i64 x.d] 23); have z2 := (bel0 bw1 hb2).size; have R_2 := (R_1.below hb2 (Nat.le_refl _)).alloc (.cells #[.int .i64 x.n, .int .i64 x.d] 23); have G_2 := (G_1.below hb2 (Nat.le_refl _)).alloc (.cells #[.int .i64 x.n, .int .i64 x.d] 23); have M_2 := (M_1.below hb2 (Nat.le_refl _)).alloc (.cells #[.int .i64 x.n, .int .i64 x.d] 23); have X_2 := Blk.new w2 #[.int .i64 x.n, .int .i64 x.d] 23; have ys2 := hb2.size; simp only [World.size_alloc] at ys2; have nn1_2 : ¬ w1.heap.size = w2.heap.size := (by omega); have nm1_2 : ¬ w2.heap.size = w1.heap.size := (by omega); have cj := G_2.cell j _ (hcur j _ hk); have cj2 := G_2.cell (j + 2) _ (hcur (j + 2) _ hb)))
            go_meet
            case rel =>
              exact ⟨((((M_3.set' 8 (.int .i64 x.n) (cs' := #[.int .i64 1, .int .i64 1, .int .i64 0, .int .i64 1, .int .i64 0, .int .i64 1, .int .i64 1, .int .i64 1, .int .i64 x.n, .int .i64 1, .int .i64 0, .int .i64 1]) (by simp)).set' 9 (.int .i64 x.d) (cs' := #[.int .i64 1, .int .i64 1, .int .i64 0, .int .i64 1, .int .i64 0, .int .i64 1, .int .i64 1, .int .i64 1, .int .i64 x.n, .int .i64 x.d, .int .i64 0, .int .i64 1]) (by simp)).set' 10 (.int .i64 y.n) (cs' := #[.int .i64 1, .int .i64 1, .int .i64 0, .int .i64 1, .int .i64 0, .int .i64 1, .int .i64 1, .int .i64 1, .int .i64 x.n, .int .i64 x.d, .int .i64 y.n, .int .i64 1]) (by simp)).set' 11 (.int .i64 y.d) (cs' := #[.int .i64 1, .int .i64 1, .int .i64 0, .int .i64 1, .int .i64 0, .int .i64 1, .int .i64 1, .int .i64 1, .int .i64 x.n, .int .i64 x.d, .int .i64 y.n, .int .i64 y.d]) (by simp)), sets_below (R := w1.heap.size) z1 [(8, .int .i64 x.n), (9, .int .i64 x.d), (10, .int .i64 y.n), (11, .int .i64 y.d)] (bw3)⟩
          case rest =>
            obtain ⟨MB, hbx⟩ := hcut
            have m0 := MB.cell 0 _ rfl
            have m1 := MB.cell 1 _ rfl
            have m2 := MB.cell 2 _ rfl
            have m3 := MB.cell 3 _ rfl
            have m4 := MB.cell 4 _ rfl
            have m5 := MB.cell 5 _ rfl
            have m6 := MB.cell 6 _ rfl
            have m7 := MB.cell 7 _ rfl
            have m8 := MB.cell 8 _ rfl
            have m9 := MB.cell 9 _ rfl
            have m10 := MB.cell 10 _ rfl
            have m11 := MB.cell 11 _ rfl
            have OW : (wc.alloc (.cells #[.int .i64 1, .int .i64 1, .int .i64 0, .int .i64 1, .int .i64 0, .int .i64 1, .int .i64 1, .int .i64 1, .int .i64 x.n, .int .i64 x.d, .int .i64 y.n, .int .i64 y.d] 25)).ownsRow wk.heap.size 25 12 u6 acc.length (cellsM acc) := (ownsRow_below hown hbx).alloc _
            have sx := hbx.size
            have oh := own_hi hown
            have ol := own_lo hown
            go_wp2_with ((at_builtin; refine wpList_append_own_at _ rfl _ _ 88 rfl wk.heap.size 25 i0 (.agg #[.int .i64 0, .int .i64 0, .int .i64 0, .int .i64 0, .int .i64 0, .int .i64 0, .int .i64 0, .int .i64 0, .int .i64 0, .int .i64 0, .int .i64 0, .int .i64 0]) 12 96 Tryz.underlying88 hi hz0 hz1 hz2 rfl (by decide) u6 acc.length (cellsM acc) rfl OW ⟨wc.heap.size, 0, none⟩ 1 1 [.int .i64 1, .int .i64 1, .int .i64 0, .int .i64 1, .int .i64 0, .int .i64 1, .int .i64 1, .int .i64 1, .int .i64 x.n, .int .i64 x.d, .int .i64 y.n, .int .i64 y.d] rfl rfl (cells12 (m := Mv.shift x y) rfl) (one12 (m := Mv.shift x y)) (by unfold maxLen; omega) (by omega) (by simp; omega) ?_; intro v5 V5 hown5 hgrow5 _ hloc5))
            go_roundw
            case rel =>
              refine ⟨j + 2 + 1, f', acc ++ [Mv.shift x y], by omega, by simp; omega, by go_num, by rw [List.length_append, cellsM_snoc]; exact hown5, ?_, ?_, ?_, ?_, ?_, by omega, hRg⟩
              · exact ((BR.below hbx (Nat.le_refl _)).alloc _).grown hgrow5 (fun e => by have := ol _ e; omega)
              · exact ((BO.below hbx (Nat.le_refl _)).alloc _).grown hgrow5 (fun e => by have := ol _ e; omega)
              · exact ((BG.below hbx (Nat.le_refl _)).alloc _).grown hgrow5 (fun e => by have := ol _ e; omega)
              · exact ((bel0 hlow hbx).alloc (bel0 hlow hbx).size _).grown hgrow5 (by have := (bel0 hlow hbx).size; simp; omega) (fun q e => by have := ol q e; omega)
              · have := hgrow5.size; simp at this; omega
            case measure => simp [intOf]; omega


        | scale =>
          have hkt := kd_is hkd
          simp only [Kd.word] at hkt
          subst hkt
          rw [show Kd.scale.n = 2 from rfl] at hnl hRg
          obtain ⟨a, b, r, hdr, ha, hb⟩ := drop_two (ws := ws) (o := j + 1) (by omega)
          rw [hdr] at hkr
          obtain ⟨ca, cb, hm⟩ := rd2_some hkr
          have FA1 := fun V => FracOf_ok (word_le hsz ha) ca V
          have FA2 := fun V => FracOf_ok (word_le hsz hb) cb V
          obtain ⟨x, hx⟩ : ∃ x, rdF a = x := ⟨_, rfl⟩
          obtain ⟨y, hy⟩ : ∃ y, rdF b = y := ⟨_, rfl⟩
          rw [hx] at FA1 hm
          rw [hy] at FA2 hm
          subst hm
          have hj1 : (j : Int) + 1 < (ws.length : Int) := by omega
          have hj2 : (j : Int) + 2 < (ws.length : Int) := by omega
          clear hkr ca cb hx hy
          have L_0 := hlow
          have G_0 := BG
          have R_0 := BR
          have bw0 := Below.refl wr.heap.size wr
          have cj := G_0.cell j _ (hcur j _ hk)
          have cj1 := G_0.cell (j + 1) _ (hcur (j + 1) _ ha)
          go_upto_if 51 with (first | (go_at_call 43; refine (Stay_any _).mono ?_; rintro e w1 ⟨rfl, hb1⟩; dsimp only [Mv.one, Fr.whole]; have M1 := bel0 L_0 hb1; have L_1 := M1.alloc M1.size (.cells #[.int .i64 1, .int .i64 1, .int .i64 0, .int .i64 1, .int .i64 0, .int .i64 1, .int .i64 1, .int .i64 1, .int .i64 0, .int .i64 1, .int .i64 0, .int .i64 1] 25); have bw1 := (bel0 bw0 hb1).alloc (bel0 bw0 hb1).size (.cells #[.int .i64 1, .int .i64 1, .int .i64 0, .int .i64 1, .int .i64 0, .int .i64 1, .int .i64 1, .int .i64 1, .int .i64 0, .int .i64 1, .int .i64 0, .int .i64 1] 25); have z1 := (bel0 bw0 hb1).size; have R_1 := (R_0.below hb1 (Nat.le_refl _)).alloc (.cells #[.int .i64 1, .int .i64 1, .int .i64 0, .int .i64 1, .int .i64 0, .int .i64 1, .int .i64 1, .int .i64 1, .int .i64 0, .int .i64 1, .int .i64 0, .int .i64 1] 25); have G_1 := (G_0.below hb1 (Nat.le_refl _)).alloc (.cells #[.int .i64 1, .int .i64 1, .int .i64 0, .int .i64 1, .int .i64 0, .int .i64 1, .int .i64 1, .int .i64 1, .int .i64 0, .int .i64 1, .int .i64 0, .int .i64 1] 25); have M_1 := Blk.new w1 #[.int .i64 1, .int .i64 1, .int .i64 0, .int .i64 1, .int .i64 0, .int .i64 1, .int .i64 1, .int .i64 1, .int .i64 0, .int .i64 1, .int .i64 0, .int .i64 1] 25; have cj := G_1.cell j _ (hcur j _ hk); have cj1 := G_1.cell (j + 1) _ (hcur (j + 1) _ ha)))
          have hMs : wr.heap.size ≤ w1.heap.size := z1
          go_cut [10, 11, 12, 13, 14] from 24 to 119 (fun _ _ _ _ _ wx => Blk wx w1.heap.size #[.int .i64 x.n, .int .i64 x.d, .int .i64 0, .int .i64 1, .int .i64 0, .int .i64 1, .int .i64 y.n, .int .i64 y.d, .int .i64 0, .int .i64 1, .int .i64 0, .int .i64 1] 25 ∧ Below wr.heap.size wr wx)
          case first =>
            go_wp2_with (first | (go_at_call_of 46 b; refine (FA2 _).mono ?_; rintro e w3 ⟨rfl, hb3⟩; have M3 := bel0 L_2 hb3; have L_3 := M3.alloc M3.size (.cells #[.int .i64 y.n, .int .i64 y.d] 23); have bw3 := (bel0 bw2 hb3).alloc (bel0 bw2 hb3).size (.cells #[.int .i64 y.n, .int .i64 y.d] 23); have z3 := (bel0 bw2 hb3).size; have R_3 := (R_2.below hb3 (Nat.le_refl _)).alloc (.cells #[.int .i64 y.n, .int .i64 y.d] 23); have G_3 := (G_2.below hb3 (Nat.le_refl _)).alloc (.cells #[.int .i64 y.n, .int .i64 y.d] 23); have M_3 := (M_2.below hb3 (Nat.le_refl _)).alloc (.cells #[.int .i64 y.n, .int .i64 y.d] 23); have X_3 := (X_2.below hb3 (Nat.le_refl _)).alloc (.cells #[.int .i64 y.n, .int .i64 y.d] 23); have Y_3 := Blk.new w3 #[.int .i64 y.n, .int .i64 y.d] 23; have ys3 := hb3.size; simp only [World.size_alloc] at ys3; have nn1_3 : ¬ w1.heap.size = w3.heap.size := (by omega); have nm1_3 : ¬ w3.heap.size = w1.heap.size := (by omega); have nn2_3 : ¬ w2.heap.size = w3.heap.size := (by omega); have nm2_3 : ¬ w3.heap.size = w2.heap.size := (by omega); have cj := G_3.cell j _ (hcur j _ hk); have Xc0 := X_3.cell 0 _ rfl; have Xc1 := X_3.cell 1 _ rfl; have Yc0 := Y_3.cell 0 _ rfl; have Yc1 := Y_3.cell 1 _ rfl; have Mc0 := M_3.cell 0 _ rfl; have Mf0 := M_3.froz 0 _ rfl; have Mc1 := M_3.cell 1 _ rfl; have Mf1 := M_3.froz 1 _ rfl; have Mc2 := M_3.cell 2 _ rfl; have Mf2 := M_3.froz 2 _ rfl; have Mc3 := M_3.cell 3 _ rfl; have Mf3 := M_3.froz 3 _ rfl; have Mc4 := M_3.cell 4 _ rfl; have Mf4 := M_3.froz 4 _ rfl; have Mc5 := M_3.cell 5 _ rfl; have Mf5 := M_3.froz 5 _ rfl; have Mc6 := M_3.cell 6 _ rfl; have Mf6 := M_3.froz 6 _ rfl; have Mc7 := M_3.cell 7 _ rfl; have Mf7 := M_3.froz 7 _ rfl; have Mc8 := M_3.cell 8 _ rfl; have Mf8 := M_3.froz 8 _ rfl; have Mc9 := M_3.cell 9 _ rfl; have Mf9 := M_3.froz 9 _ rfl; have Mc10 := M_3.cell 10 _ rfl; have Mf10 := M_3.froz 10 _ rfl; have Mc11 := M_3.cell 11 _ rfl; have Mf11 := M_3.froz 11 _ rfl) | (go_at_call_of 46 a; refine (FA1 _).mono ?_; rintro e w2 ⟨rfl, hb2⟩; have M2 := bel0 L_1 hb2; have L_2 := M2.alloc M2.size (.cells #[.int .i64 x.n, .int .i64 x.d] 23); have bw2 := (bel0 bw1 hb2).alloc (bel0 bw1 hb2).size (.cells #[.int .i64 x.n, .int .i64 x.d] 23); have z2 := (bel0 bw1 hb2).size; have R_2 := (R_1.below hb2 (Nat.le_refl _)).alloc (.cells #[.int .i64 x.n, .int .i64 x.d] 23); have G_2 := (G_1.below hb2 (Nat.le_refl _)).alloc (.cells #[.int .i64 x.n, .int .i64 x.d] 23); have M_2 := (M_1.below hb2 (Nat.le_refl _)).alloc (.cells #[.int .i64 x.n, .int .i64 x.d] 23); have X_2 := Blk.new w2 #[.int .i64 x.n, .int .i64 x.d] 23; have ys2 := hb2.size; simp only [World.size_alloc] at ys2; have nn1_2 : ¬ w1.heap.size = w2.heap.size := (by omega); have nm1_2 : ¬ w2.heap.size = w1.heap.size := (by omega); have cj := G_2.cell j _ (hcur j _ hk); have cj2 := G_2.cell (j + 2) _ (hcur (j + 2) _ hb)))
            go_meet
            case rel =>
              exact ⟨((((M_3.set' 0 (.int .i64 x.n) (cs' := #[.int .i64 x.n, .int .i64 1, .int .i64 0, .int .i64 1, .int .i64 0, .int .i64 1, .int .i64 1, .int .i64 1, .int .i64 0, .int .i64 1, .int .i64 0, .int .i64 1]) (by simp)).set' 1 (.int .i64 x.d) (cs' := #[.int .i64 x.n, .int .i64 x.d, .int .i64 0, .int .i64 1, .int .i64 0, .int .i64 1, .int .i64 1, .int .i64 1, .int .i64 0, .int .i64 1, .int .i64 0, .int .i64 1]) (by simp)).set' 6 (.int .i64 y.n) (cs' := #[.int .i64 x.n, .int .i64 x.d, .int .i64 0, .int .i64 1, .int .i64 0, .int .i64 1, .int .i64 y.n, .int .i64 1, .int .i64 0, .int .i64 1, .int .i64 0, .int .i64 1]) (by simp)).set' 7 (.int .i64 y.d) (cs' := #[.int .i64 x.n, .int .i64 x.d, .int .i64 0, .int .i64 1, .int .i64 0, .int .i64 1, .int .i64 y.n, .int .i64 y.d, .int .i64 0, .int .i64 1, .int .i64 0, .int .i64 1]) (by simp)), sets_below (R := w1.heap.size) z1 [(0, .int .i64 x.n), (1, .int .i64 x.d), (6, .int .i64 y.n), (7, .int .i64 y.d)] (bw3)⟩
          case rest =>
            obtain ⟨MB, hbx⟩ := hcut
            have m0 := MB.cell 0 _ rfl
            have m1 := MB.cell 1 _ rfl
            have m2 := MB.cell 2 _ rfl
            have m3 := MB.cell 3 _ rfl
            have m4 := MB.cell 4 _ rfl
            have m5 := MB.cell 5 _ rfl
            have m6 := MB.cell 6 _ rfl
            have m7 := MB.cell 7 _ rfl
            have m8 := MB.cell 8 _ rfl
            have m9 := MB.cell 9 _ rfl
            have m10 := MB.cell 10 _ rfl
            have m11 := MB.cell 11 _ rfl
            have OW : (wc.alloc (.cells #[.int .i64 x.n, .int .i64 x.d, .int .i64 0, .int .i64 1, .int .i64 0, .int .i64 1, .int .i64 y.n, .int .i64 y.d, .int .i64 0, .int .i64 1, .int .i64 0, .int .i64 1] 25)).ownsRow wk.heap.size 25 12 u6 acc.length (cellsM acc) := (ownsRow_below hown hbx).alloc _
            have sx := hbx.size
            have oh := own_hi hown
            have ol := own_lo hown
            go_wp2_with ((at_builtin; refine wpList_append_own_at _ rfl _ _ 88 rfl wk.heap.size 25 i0 (.agg #[.int .i64 0, .int .i64 0, .int .i64 0, .int .i64 0, .int .i64 0, .int .i64 0, .int .i64 0, .int .i64 0, .int .i64 0, .int .i64 0, .int .i64 0, .int .i64 0]) 12 96 Tryz.underlying88 hi hz0 hz1 hz2 rfl (by decide) u6 acc.length (cellsM acc) rfl OW ⟨wc.heap.size, 0, none⟩ 1 1 [.int .i64 x.n, .int .i64 x.d, .int .i64 0, .int .i64 1, .int .i64 0, .int .i64 1, .int .i64 y.n, .int .i64 y.d, .int .i64 0, .int .i64 1, .int .i64 0, .int .i64 1] rfl rfl (cells12 (m := Mv.scale x y) rfl) (one12 (m := Mv.scale x y)) (by unfold maxLen; omega) (by omega) (by simp; omega) ?_; intro v5 V5 hown5 hgrow5 _ hloc5))
            go_roundw
            case rel =>
              refine ⟨j + 2 + 1, f', acc ++ [Mv.scale x y], by omega, by simp; omega, by go_num, by rw [List.length_append, cellsM_snoc]; exact hown5, ?_, ?_, ?_, ?_, ?_, by omega, hRg⟩
              · exact ((BR.below hbx (Nat.le_refl _)).alloc _).grown hgrow5 (fun e => by have := ol _ e; omega)
              · exact ((BO.below hbx (Nat.le_refl _)).alloc _).grown hgrow5 (fun e => by have := ol _ e; omega)
              · exact ((BG.below hbx (Nat.le_refl _)).alloc _).grown hgrow5 (fun e => by have := ol _ e; omega)
              · exact ((bel0 hlow hbx).alloc (bel0 hlow hbx).size _).grown hgrow5 (by have := (bel0 hlow hbx).size; simp; omega) (fun q e => by have := ol q e; omega)
              · have := hgrow5.size; simp at this; omega
            case measure => simp [intOf]; omega




end Go.Proofs.YtlnnpileegoglabGreatDoor

/-
  Small parts: One, whole, the law's asMove; Then and At by what they answer.
-/
import Derived.Test.YtdjeblcmpegmpaaDoorMove11
namespace Go.Proofs.YtdjeblcmpegmpaaDoor
open Go.RowKit

set_option maxHeartbeats 1000000 in
theorem whole_any (n : Int) (W : World) : Calls Tryd.prog 21 #[.int .i64 n] W fun e w' => e = .returned (.agg #[.int .i64 n, .int .i64 1]) ∧ Below W.heap.size W w' := by
  go_enter Tryd.func21, Tryd.ntmps21
  go_wp2
  refine bodyPost_ret (v := .agg #[.int .i64 n, .int .i64 1]) (by simp [results, Tryd.results21, go_sem]) rfl ⟨rfl, ?_⟩
  exact (Below.refl _ W).alloc (Nat.le_refl _) _

set_option maxHeartbeats 2000000 in
theorem One_any (W : World) : Calls Tryd.prog 10 #[] W fun e w' => e = .returned (mv .one) ∧ Below W.heap.size W w' := by
  obtain ⟨K1, K2, K3, K4, K5, K6⟩ := And.intro whole_any (And.intro whole_any (And.intro whole_any (And.intro whole_any (And.intro whole_any whole_any))))
  have B0 := Blk.new W #[.int .i64 0, .int .i64 0, .int .i64 0, .int .i64 0, .int .i64 0, .int .i64 0, .int .i64 0, .int .i64 0, .int .i64 0, .int .i64 0, .int .i64 0, .int .i64 0] 37
  have L0 := (Below.refl W.heap.size W).alloc (Nat.le_refl _) (.cells #[.int .i64 0, .int .i64 0, .int .i64 0, .int .i64 0, .int .i64 0, .int .i64 0, .int .i64 0, .int .i64 0, .int .i64 0, .int .i64 0, .int .i64 0, .int .i64 0] 37)
  go_enter Tryd.func10, Tryd.ntmps10
  go_wp2_with (first | (go_at_call 21; refine (K1 _ _).mono ?_; clear K1; rintro e w1 ⟨rfl, hb1⟩; have B1 := B0.below hb1 (Nat.le_refl _); have L1 := L0.trans (hb1.mono L0.size)) | (go_at_call 21; refine (K2 _ _).mono ?_; clear K2; rintro e w2 ⟨rfl, hb2⟩; have B2 := B1.below hb2 (Nat.le_refl _); have L2 := L1.trans (hb2.mono L1.size)) | (go_at_call 21; refine (K3 _ _).mono ?_; clear K3; rintro e w3 ⟨rfl, hb3⟩; have B3 := B2.below hb3 (Nat.le_refl _); have L3 := L2.trans (hb3.mono L2.size)) | (go_at_call 21; refine (K4 _ _).mono ?_; clear K4; rintro e w4 ⟨rfl, hb4⟩; have B4 := B3.below hb4 (Nat.le_refl _); have L4 := L3.trans (hb4.mono L3.size)) | (go_at_call 21; refine (K5 _ _).mono ?_; clear K5; rintro e w5 ⟨rfl, hb5⟩; have B5 := B4.below hb5 (Nat.le_refl _); have L5 := L4.trans (hb5.mono L4.size)) | (go_at_call 21; refine (K6 _ _).mono ?_; clear K6; rintro e w6 ⟨rfl, hb6⟩; have B6 := B5.below hb6 (Nat.le_refl _); have L6 := L5.trans (hb6.mono L5.size); have zc0 := B6.cell 0 _ rfl; have zf0 := B6.froz 0 _ rfl; have zc1 := B6.cell 1 _ rfl; have zf1 := B6.froz 1 _ rfl; have zc2 := B6.cell 2 _ rfl; have zf2 := B6.froz 2 _ rfl; have zc3 := B6.cell 3 _ rfl; have zf3 := B6.froz 3 _ rfl; have zc4 := B6.cell 4 _ rfl; have zf4 := B6.froz 4 _ rfl; have zc5 := B6.cell 5 _ rfl; have zf5 := B6.froz 5 _ rfl; have zc6 := B6.cell 6 _ rfl; have zf6 := B6.froz 6 _ rfl; have zc7 := B6.cell 7 _ rfl; have zf7 := B6.froz 7 _ rfl; have zc8 := B6.cell 8 _ rfl; have zf8 := B6.froz 8 _ rfl; have zc9 := B6.cell 9 _ rfl; have zf9 := B6.froz 9 _ rfl; have zc10 := B6.cell 10 _ rfl; have zf10 := B6.froz 10 _ rfl; have zc11 := B6.cell 11 _ rfl; have zf11 := B6.froz 11 _ rfl))
  refine bodyPost_ret (v := mv .one) (by simp [results, Tryd.results10, go_sem, Mv.one, Fr.whole, zc0, zc1, zc2, zc3, zc4, zc5, zc6, zc7, zc8, zc9, zc10, zc11]) rfl ⟨rfl, ?_⟩
  exact put_below (R := W.heap.size) (Nat.le_refl _) [.int .i64 1, .int .i64 1, .int .i64 0, .int .i64 1, .int .i64 0, .int .i64 1, .int .i64 1, .int .i64 1, .int .i64 0, .int .i64 1, .int .i64 0, .int .i64 1] 0 L6


theorem At_ok {aB aS aZ : Addr} {m : Mv} {p q : Pt} (hm : m.i64) (hp : p.i64) (h : atR m p = (q, .no)) (W : World) (hE : E3 aB aS aZ W) :
    Calls Tryd.prog 12 #[mv m, pv p] W fun e w' => e = .returned (.tuple #[pv q, .nilIface]) ∧ Below W.heap.size W w' := by
  unfold atR at h
  by_cases h1 : (firstBad 0 m.list).1 = 0
  · rw [if_neg (by simp [h1])] at h
    by_cases h2 : (firstBad 6 p.list).1 = 0
    · rw [if_neg (by simp [h2])] at h
      by_cases h3 : (movedF 0 m p).2 = 0
      · rw [if_pos h3] at h
        obtain rfl : (movedF 0 m p).1 = q := by simpa using congrArg Prod.fst h
        have T := fun b V h => moved_any (aB := aB) (aS := aS) (aZ := aZ) (w0 := W) (b := b) (c := 0) (.inl rfl) (mv_ok h1) (pt_ok h2) V h
        rw [h3] at T
        exact at_go aB aS aZ m p _ W hE (fineC hm h1) (fineP hp h2) T
      · rw [if_neg h3] at h; cases h
    · rw [if_pos h2] at h; cases h
  · rw [if_pos h1] at h; cases h

theorem At_no {aB aS aZ : Addr} {m : Mv} {p : Pt} (hm : m.i64) (hp : p.i64) (h : ∀ q, atR m p ≠ (q, .no)) (W : World) (hE : E3 aB aS aZ W) :
    Calls Tryd.prog 12 #[mv m, pv p] W fun e w' => (∃ v, e = .returned (.tuple #[pv .zero, v]) ∧ (atR m p).2.is aB aS aZ W.heap.size v w') ∧ Below W.heap.size W w' := by
  unfold atR at h ⊢
  by_cases h1 : (firstBad 0 m.list).1 = 0
  · rw [if_neg (by simp [h1])] at h ⊢
    by_cases h2 : (firstBad 6 p.list).1 = 0
    · rw [if_neg (by simp [h2])] at h ⊢
      by_cases h3 : (movedF 0 m p).2 = 0
      · rw [if_pos h3] at h; exact (h _ rfl).elim
      · rw [if_neg h3]
        have h4 : (movedF 0 m p).2 = 2 := (moved_step (c := 0) (.inl rfl) (mv_ok h1) (pt_ok h2)).1.resolve_left h3
        have T := fun b V h => moved_any (aB := aB) (aS := aS) (aZ := aZ) (w0 := W) (b := b) (c := 0) (.inl rfl) (mv_ok h1) (pt_ok h2) V h
        rw [h4] at T
        refine (at_err aB aS aZ m p _ W hE (fineC hm h1) (fineP hp h2) T).mono ?_
        rintro e w' ⟨he, hb⟩
        exact ⟨⟨_, he, rfl, rfl⟩, hb⟩
    · rw [if_pos h2]
      refine (at_badp aB aS aZ m p _ W hE (fineC hm h1) (badP hp h2)).mono ?_
      rintro e w' ⟨⟨pb, q1, he, q2, q3⟩, hb⟩
      exact ⟨⟨_, he, bad_23 h2, pb, q1, rfl, q2, q3⟩, hb⟩
  · rw [if_pos h1]
    refine (at_badm aB aS aZ m p _ W hE (badC hm h1)).mono ?_
    rintro e w' ⟨⟨pb, q1, he, q2, q3⟩, hb⟩
    exact ⟨⟨_, he, bad_23 h1, pb, q1, rfl, q2, q3⟩, hb⟩

end Go.Proofs.YtdjeblcmpegmpaaDoor

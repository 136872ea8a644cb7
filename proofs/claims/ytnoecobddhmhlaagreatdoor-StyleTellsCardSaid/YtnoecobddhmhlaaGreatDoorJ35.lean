/-
  Package style's small functions.
-/
import Derived.Test.YtnoecobddhmhlaaGreatDoorJ34
import Derived.Test.YtnoecobddhmhlaaGreatDoorJ5
import Derived.Test.YtnoecobddhmhlaaGreatDoorShelfY
import Derived.Test.YtnoecobddhmhlaaGreatDoorJ10
import Derived.Deep.CutRange
import Derived.OwnWalk
namespace Go.Proofs.YtnoecobddhmhlaaGreatDoor
open Go.RowKit Go.Shelf
set_option maxHeartbeats 1000000 in
theorem firstOf_any (s : Bs) (w : World) : Calls Tryz.prog 99 #[bV s] w fun e w' => e = .returned (bV (firstM s)) ∧ w' = w := by
  have h0 := ba_toL s [102, 105, 108, 108]
  have h1 := ba_toL s [115, 104, 111, 119]
  have h2 := ba_toL s [114, 117, 108, 101]
  have h3 := ba_toL s [108, 101, 118, 101, 108]
  unfold firstM kFill kShow kRule kLevel
  cases ha : (s == [102, 105, 108, 108]) with
  | true =>
    rw [ha] at h0
    rw [if_pos (by simpa using ha)]
    clear h1 h2 h3
    go_enter Tryz.func99, Tryz.ntmps99
    go_wp2_with fail
    go_ret
    exact ⟨rfl, rfl⟩
  | false =>
    rw [ha] at h0
    rw [if_neg (by simpa using ha)]
    cases hb : (s == [115, 104, 111, 119]) with
    | true =>
      rw [hb] at h1
      rw [if_pos (by simpa using hb)]
      clear h2 h3
      go_enter Tryz.func99, Tryz.ntmps99
      go_wp2_with fail
      go_ret
      exact ⟨rfl, rfl⟩
    | false =>
      rw [hb] at h1
      rw [if_neg (by simpa using hb)]
      cases hc : (s == [114, 117, 108, 101]) with
      | true =>
        rw [hc] at h2
        rw [if_pos (by simpa using hc)]
        clear h3
        go_enter Tryz.func99, Tryz.ntmps99
        go_wp2_with fail
        go_ret
        exact ⟨rfl, rfl⟩
      | false =>
        rw [hc] at h2
        rw [if_neg (by simpa using hc)]
        cases hd : (s == [108, 101, 118, 101, 108]) with
        | true =>
          rw [hd] at h3
          rw [if_pos (by simpa using hd)]
          go_enter Tryz.func99, Tryz.ntmps99
          go_wp2_with fail
          go_ret
          exact ⟨rfl, rfl⟩
        | false =>
          rw [hd] at h3
          rw [if_neg (by simpa using hd)]
          go_enter Tryz.func99, Tryz.ntmps99
          go_wp2_with fail
          go_ret
          exact ⟨rfl, rfl⟩
set_option maxHeartbeats 1000000 in
theorem isNameS_any (s : Bs) (w : World) : Calls Tryz.prog 96 #[bV s] w fun e w' => e = .returned (.bool (isNmS s)) ∧ w' = w := by
  have FO := firstOf_any s w
  unfold isNmS
  obtain ⟨x, hx⟩ : ∃ x, firstM s = x := ⟨_, rfl⟩
  rw [hx] at FO ⊢
  clear hx
  have h0 := ba_toL x []
  unfold bne
  cases ha : (x == []) with
  | true =>
    rw [ha] at h0
    go_enter Tryz.func96, Tryz.ntmps96
    go_wp2_with (go_at_call 99; refine FO.mono ?_; rintro e w1 ⟨rfl, h⟩; rw [h]; clear h)
    go_ret
    exact ⟨rfl, rfl⟩
  | false =>
    rw [ha] at h0
    go_enter Tryz.func96, Tryz.ntmps96
    go_wp2_with (go_at_call 99; refine FO.mono ?_; rintro e w1 ⟨rfl, h⟩; rw [h]; clear h)
    go_ret
    exact ⟨rfl, rfl⟩
set_option maxHeartbeats 1000000 in
theorem isInh_any (s : Bs) (w : World) : Calls Tryz.prog 98 #[bV s] w fun e w' => e = .returned (.bool (isInh s)) ∧ w' = w := by
  have h0 := ba_toL s [102, 105, 108, 108]
  have h2 := ba_toL s [114, 117, 108, 101]
  unfold isInh kFill kRule
  cases ha : (s == [102, 105, 108, 108]) with
  | true =>
    rw [ha] at h0
    clear h2
    go_enter Tryz.func98, Tryz.ntmps98
    go_wp2_with fail
    go_ret
    exact ⟨rfl, rfl⟩
  | false =>
    rw [ha] at h0
    cases hc : (s == [114, 117, 108, 101]) with
    | true =>
      rw [hc] at h2
      go_enter Tryz.func98, Tryz.ntmps98
      go_wp2_with fail
      go_ret
      exact ⟨rfl, rfl⟩
    | false =>
      rw [hc] at h2
      go_enter Tryz.func98, Tryz.ntmps98
      go_wp2_with fail
      go_ret
      exact ⟨rfl, rfl⟩
set_option maxHeartbeats 2000000 in
theorem isVal1_any (x : Nat) (w : World) : FnGives Tryz.prog 153 #[] #[encR x] (.bool (badR x)) w := by
  show Calls Tryz.prog 153 #[.int .i32 (x : Int)] w fun e w' => e = .returned (.bool (badR x)) ∧ ∃ q, w' = w.drewN q
  unfold badR
  by_cases h1 : 97 ≤ x
  · have h1' : (97 : Int) ≤ (x : Int) := by omega
    rw [decide_eq_true h1]
    by_cases h2 : x ≤ 122
    · have h2' : (x : Int) ≤ 122 := by omega
      rw [decide_eq_true h2]
      go_enter Tryz.func153, Tryz.ntmps153
      go_wp2_with fail
      go_ret
      exact ⟨rfl, 0, rfl⟩
    · have h2' : ¬ (x : Int) ≤ 122 := by omega
      have h3' : (48 : Int) ≤ (x : Int) := by omega
      have h4' : ¬ (x : Int) ≤ 57 := by omega
      have h5' : ((x : Int) == 45) = false := by rw [beq_eq_false_iff_ne]; omega
      rw [decide_eq_false h2, decide_eq_true (show 48 ≤ x from by omega), decide_eq_false (show ¬ x ≤ 57 from by omega), beq_eq_false_iff_ne.2 (show x ≠ 45 from by omega)]
      go_enter Tryz.func153, Tryz.ntmps153
      go_wp2_with fail
      go_ret
      exact ⟨rfl, 0, rfl⟩
  · have h1' : ¬ (97 : Int) ≤ (x : Int) := by omega
    rw [decide_eq_false h1]
    by_cases h3 : 48 ≤ x
    · have h3' : (48 : Int) ≤ (x : Int) := by omega
      rw [decide_eq_true h3]
      by_cases h4 : x ≤ 57
      · have h4' : (x : Int) ≤ 57 := by omega
        rw [decide_eq_true h4]
        go_enter Tryz.func153, Tryz.ntmps153
        go_wp2_with fail
        go_ret
        exact ⟨rfl, 0, rfl⟩
      · have h4' : ¬ (x : Int) ≤ 57 := by omega
        have h5' : ((x : Int) == 45) = false := by rw [beq_eq_false_iff_ne]; omega
        rw [decide_eq_false h4, beq_eq_false_iff_ne.2 (show x ≠ 45 from by omega)]
        go_enter Tryz.func153, Tryz.ntmps153
        go_wp2_with fail
        go_ret
        exact ⟨rfl, 0, rfl⟩
    · have h3' : ¬ (48 : Int) ≤ (x : Int) := by omega
      rw [decide_eq_false h3]
      cases h5 : (x == 45) with
      | true =>
        have h5' : ((x : Int) == 45) = true := by
          have : x = 45 := by simpa using h5
          subst this
          rfl
        go_enter Tryz.func153, Tryz.ntmps153
        go_wp2_with fail
        go_ret
        exact ⟨rfl, 0, rfl⟩
      | false =>
        have h5' : ((x : Int) == 45) = false := by
          have : ¬ x = 45 := by simpa using h5
          rw [beq_eq_false_iff_ne]
          omega
        go_enter Tryz.func153, Tryz.ntmps153
        go_wp2_with fail
        go_ret
        exact ⟨rfl, 0, rfl⟩
set_option maxHeartbeats 1000000 in
theorem isValS_any (s : Bs) (w : World) : Calls Tryz.prog 130 #[bV s] w fun e w' => e = .returned (.bool (isValM s)) ∧ Below w.heap.size w w' := by
  have h0 := ba_toL s []
  unfold isValM bne
  cases ha : (s == []) with
  | true =>
    rw [ha] at h0
    go_enter Tryz.func130, Tryz.ntmps130
    go_wp2_with fail
    go_ret
    exact ⟨rfl, Below.refl _ _⟩
  | false =>
    rw [ha] at h0
    have hz := ba_size s
    by_cases h12 : s.length ≤ 12
    · have h12' : ¬ 12 < (s.length : Int) := by omega
      have h12s : ¬ 12 < ((⟨s.toArray⟩ : ByteArray).size : Int) := by omega
      rw [decide_eq_true h12]
      have CF := Tryz.strings_ContainsFunc 153 #[] (enters_of Tryz.func153 (by kernel_rfl) rfl) badR ⟨s.toArray⟩ w (fun W x _ => isVal1_any x W)
      obtain ⟨b, hb⟩ : ∃ b, decide (0 ≤ Lib.idxFunc badR true ⟨s.toArray⟩) = b := ⟨_, rfl⟩
      rw [hb] at CF ⊢
      cases b with
      | true =>
        go_enter Tryz.func130, Tryz.ntmps130
        go_wp2_with (go_at_call 152; refine CF.mono ?_; rintro e w1 ⟨rfl, b1⟩)
        go_ret
        exact ⟨rfl, b1⟩
      | false =>
        go_enter Tryz.func130, Tryz.ntmps130
        go_wp2_with (go_at_call 152; refine CF.mono ?_; rintro e w1 ⟨rfl, b1⟩)
        go_ret
        exact ⟨rfl, b1⟩
    · have h12' : 12 < (s.length : Int) := by omega
      have h12s : 12 < ((⟨s.toArray⟩ : ByteArray).size : Int) := by omega
      rw [decide_eq_false h12]
      go_enter Tryz.func130, Tryz.ntmps130
      go_wp2_with fail
      go_ret
      exact ⟨rfl, Below.refl _ _⟩
end Go.Proofs.YtnoecobddhmhlaaGreatDoor

namespace Go.Proofs.YtnoecobddhmhlaaGreatDoor
open Go.RowKit Go.Shelf

/-- A rule, as a value; what is told of a line. -/
abbrev rlV (r : Rl) : Value := .agg #[bV r.wh, bV r.nm, bV r.vl]
def rlR : Option Rl → Value
  | none => .tuple #[.agg #[.string ⟨#[]⟩, .string ⟨#[]⟩, .string ⟨#[]⟩], .bool false]
  | some r => .tuple #[rlV r, .bool true]
/-- What the library's search reads. -/
def MxL (W : World) : Prop := ∃ m, W.cell? ⟨12, 0, none⟩ = some (.int .i64 m)
theorem MxL.below {W V : World} (h : MxL W) (hb : Below W.heap.size W V) : MxL V := by
  obtain ⟨m, hm⟩ := h
  exact ⟨m, (hb.cell (cell_lt3 hm)).trans hm⟩
theorem Cut_any (s sep : Bs) (hs : s.length ≤ 1000000) (W : World) (hm : MxL W) :
    Calls Tryz.prog 92 #[bV s, .string ⟨sep.toArray⟩] W fun e w' => e = .returned (.tuple #[bV (Lib.cut s sep).1, bV (Lib.cut s sep).2.1, .bool (Lib.cut s sep).2.2]) ∧ Below W.heap.size W w' := by
  obtain ⟨m, hm⟩ := hm
  refine (Tryz.strings_Cut ⟨s.toArray⟩ ⟨sep.toArray⟩ m W (by rw [ba_size]; omega) hm).mono ?_
  rintro e w' ⟨rfl, n, rfl⟩
  exact ⟨rfl, below_drewN' (Below.refl _ _) n⟩
theorem al_oldY {X : World} {k : Nat} {v : Obj} (o : Obj) (h : X.heap[k]? = some v) : (X.alloc o).heap[k]? = some v := ((mal X o).block k (Array.getElem?_eq_some_iff.1 h).1).trans h
theorem set_at {w : World} {R : Nat} {cs : Array Value} {t : TypeId} (h : w.heap[R]? = some (.cells cs t)) (o : Nat) (v : Value) : (w.setCell ⟨R, o, none⟩ v).heap[R]? = some (.cells (cs.setIfInBounds o v) t) := by simp [World.setCell, Array.getElem?_modify, h]
/-- Three cells are stored, one behind another. -/
theorem fin3 {W w : World} {R : Nat} {a b c : Value} {t : TypeId} (h : w.heap[R]? = some (.cells #[a, b, c] t)) (hR : W.heap.size ≤ R) (hb : Below W.heap.size W w) (x y z : Value) :
    ∀ U, ((w.setCell ⟨R, 0, none⟩ x).setCell ⟨R, 1, none⟩ y).setCell ⟨R, 2, none⟩ z = U → U.cell? ⟨R, 0, none⟩ = some x ∧ U.cell? ⟨R, 1, none⟩ = some y ∧ U.cell? ⟨R, 2, none⟩ = some z ∧ Below W.heap.size W U := by
  rintro U rfl
  have h3 := set_at (set_at (set_at h 0 x) 1 y) 2 z
  exact ⟨bcell h3 0 _ rfl, bcell h3 1 _ rfl, bcell h3 2 _ rfl, ((hb.setCell (p := ⟨R, 0, none⟩) hR _).setCell (p := ⟨R, 1, none⟩) hR _).setCell (p := ⟨R, 2, none⟩) hR _⟩
set_option maxRecDepth 20000 in
set_option maxHeartbeats 4000000 in
theorem readRule_any (s : Bs) (hs : s.length ≤ 1000000) (W : World) (ea : Addr) (hE : W.cell? ⟨8, 0, none⟩ = some (.iface 245 (.pointer (some ea)))) (hm : MxL W) :
    Calls Tryz.prog 93 #[bV s] W fun e w' => e = .returned (rlR (ruleM s)) ∧ Below W.heap.size W w' := by
  obtain ⟨res, hres⟩ : ∃ x, ruleM s = x := ⟨_, rfl⟩
  have hR := hres
  unfold ruleM at hR
  rw [hres]
  clear hres
  have C1 := fun V (hm : MxL V) => Cut_any s [32, 123, 32] hs V hm
  have l1 := cut_fst_len s [32, 123, 32]
  have l2 := cut_snd_len s [32, 123, 32]
  obtain ⟨wh, hwh⟩ : ∃ x, (Lib.cut s [32, 123, 32]).1 = x := ⟨_, rfl⟩
  obtain ⟨r0, hr0⟩ : ∃ x, (Lib.cut s [32, 123, 32]).2.1 = x := ⟨_, rfl⟩
  obtain ⟨o1, ho1⟩ : ∃ x, (Lib.cut s [32, 123, 32]).2.2 = x := ⟨_, rfl⟩
  rw [hwh, hr0, ho1] at hR
  simp only [hwh, hr0, ho1] at C1
  rw [hwh] at l1
  rw [hr0] at l2
  clear hwh hr0 ho1
  have CS : ∀ V, Calls Tryz.prog 125 #[bV r0, .string ⟨#[32, 125]⟩] V fun e w' => e = .returned (.tuple #[bV (Lib.trimSuffix r0 [32, 125]), .bool (Lib.hasSuffix r0 [32, 125])]) ∧ w' = V := fun V => Tryz.strings_CutSuffix ⟨r0.toArray⟩ ⟨#[32, 125]⟩ V (by rw [ba_size]; omega)
  have l3 := trimS_len r0 [32, 125]
  obtain ⟨r1, hr1⟩ : ∃ x, Lib.trimSuffix r0 [32, 125] = x := ⟨_, rfl⟩
  obtain ⟨cl, hcl⟩ : ∃ x, Lib.hasSuffix r0 [32, 125] = x := ⟨_, rfl⟩
  rw [hr1, hcl] at hR
  simp only [hr1, hcl] at CS
  rw [hr1] at l3
  clear hr1 hcl
  have C2 := fun V (hm : MxL V) => Cut_any r1 [58, 32] (by omega) V hm
  obtain ⟨nm, hnm⟩ : ∃ x, (Lib.cut r1 [58, 32]).1 = x := ⟨_, rfl⟩
  obtain ⟨vl, hvl⟩ : ∃ x, (Lib.cut r1 [58, 32]).2.1 = x := ⟨_, rfl⟩
  obtain ⟨pt, hpt⟩ : ∃ x, (Lib.cut r1 [58, 32]).2.2 = x := ⟨_, rfl⟩
  rw [hnm, hvl, hpt] at hR
  simp only [hnm, hvl, hpt] at C2
  clear hnm hvl hpt
  have HR : Hid ((if (o1 && cl && pt && isNmS nm && isValM vl && isSelM wh) = true then some (⟨wh, nm, vl⟩ : Rl) else none) = res) := hR
  clear hR
  have n0 := mbox W #[.string ⟨#[]⟩, .string ⟨#[]⟩, .string ⟨#[]⟩] 150
  have b0 := mal W (.cells #[.string ⟨#[]⟩, .string ⟨#[]⟩, .string ⟨#[]⟩] 150)
  go_enter Tryz.func93, Tryz.ntmps93
  go_upto_region 1 with fail
  obtain ⟨V, hV⟩ : ∃ V, W.alloc (.cells #[.string ⟨#[]⟩, .string ⟨#[]⟩, .string ⟨#[]⟩] 150) = V := ⟨_, rfl⟩
  rw [hV] at n0 b0 ⊢
  clear hV
  have HM : Hid (MxL V) := hm.below b0
  have HE : Hid (V.cell? ⟨8, 0, none⟩ = some (.iface 245 (.pointer (some ea)))) := (b0.cell (cell_lt3 hE)).trans hE
  clear hm hE
  have C1 := C1 V HM.out
  go_upto_region 2 with (go_at_call 92; refine C1.mono ?_; rintro e w1 ⟨rfl, b1⟩)
  have CS1 := CS w1
  go_upto_region 3 with (go_at_call 125; refine CS1.mono ?_; rintro e w2 ⟨rfl, h2⟩; rw [h2]; clear h2)
  have C2' := C2 w1 (HM.out.below b1)
  go_upto_region 4 with (go_at_call 92; refine C2'.mono ?_; rintro e w2 ⟨rfl, b2⟩)
  clear C1 CS CS1 C2 C2'
  have q2 := mbel b1 b2
  have n2 := bel_blk q2 n0
  have IN := isNameS_any nm w2
  have IV := isValS_any vl w2
  have BW2 := mbel b0 q2
  have RD := fun V' (hb : Below V.heap.size V V') => Read_any wh (by omega) V' ea ((hb.cell (cell_lt3 HE.out)).trans HE.out)
  have RD2 := fun V' (hb : Below w2.heap.size w2 V') => RD V' (mbel q2 hb)
  clear RD
  cases o1 with
  | false =>
    have c0 := bcell n2 0 _ rfl
    have c1 := bcell n2 1 _ rfl
    have c2 := bcell n2 2 _ rfl
    have f0 := froz_at n2 0
    have f1 := froz_at n2 1
    have f2 := froz_at n2 2
    go_wp2_with fail
    obtain ⟨U, hU⟩ : ∃ U, ((w2.setCell ⟨W.heap.size, 0, none⟩ (.string ⟨#[]⟩)).setCell ⟨W.heap.size, 1, none⟩ (.string ⟨#[]⟩)).setCell ⟨W.heap.size, 2, none⟩ (.string ⟨#[]⟩) = U := ⟨_, rfl⟩
    obtain ⟨u0, u1, u2, bU⟩ := fin3 n2 (Nat.le_refl _) BW2 (.string ⟨#[]⟩) (.string ⟨#[]⟩) (.string ⟨#[]⟩) U hU
    rw [hU]
    refine bodyPost_ret (v := .tuple #[.agg #[(.string ⟨#[]⟩), (.string ⟨#[]⟩), (.string ⟨#[]⟩)], .bool false]) (by simp [results, Tryz.results93, go_sem, u0, u1, u2]) rfl ⟨by rw [← HR.out]; rfl, bU⟩
  | true =>
    cases cl with
    | false =>
      have c0 := bcell n2 0 _ rfl
      have c1 := bcell n2 1 _ rfl
      have c2 := bcell n2 2 _ rfl
      have f0 := froz_at n2 0
      have f1 := froz_at n2 1
      have f2 := froz_at n2 2
      go_wp2_with fail
      obtain ⟨U, hU⟩ : ∃ U, ((w2.setCell ⟨W.heap.size, 0, none⟩ (.string ⟨#[]⟩)).setCell ⟨W.heap.size, 1, none⟩ (.string ⟨#[]⟩)).setCell ⟨W.heap.size, 2, none⟩ (.string ⟨#[]⟩) = U := ⟨_, rfl⟩
      obtain ⟨u0, u1, u2, bU⟩ := fin3 n2 (Nat.le_refl _) BW2 (.string ⟨#[]⟩) (.string ⟨#[]⟩) (.string ⟨#[]⟩) U hU
      rw [hU]
      refine bodyPost_ret (v := .tuple #[.agg #[(.string ⟨#[]⟩), (.string ⟨#[]⟩), (.string ⟨#[]⟩)], .bool false]) (by simp [results, Tryz.results93, go_sem, u0, u1, u2]) rfl ⟨by rw [← HR.out]; rfl, bU⟩
    | true =>
      cases pt with
      | false =>
        have c0 := bcell n2 0 _ rfl
        have c1 := bcell n2 1 _ rfl
        have c2 := bcell n2 2 _ rfl
        have f0 := froz_at n2 0
        have f1 := froz_at n2 1
        have f2 := froz_at n2 2
        go_wp2_with fail
        obtain ⟨U, hU⟩ : ∃ U, ((w2.setCell ⟨W.heap.size, 0, none⟩ (.string ⟨#[]⟩)).setCell ⟨W.heap.size, 1, none⟩ (.string ⟨#[]⟩)).setCell ⟨W.heap.size, 2, none⟩ (.string ⟨#[]⟩) = U := ⟨_, rfl⟩
        obtain ⟨u0, u1, u2, bU⟩ := fin3 n2 (Nat.le_refl _) BW2 (.string ⟨#[]⟩) (.string ⟨#[]⟩) (.string ⟨#[]⟩) U hU
        rw [hU]
        refine bodyPost_ret (v := .tuple #[.agg #[(.string ⟨#[]⟩), (.string ⟨#[]⟩), (.string ⟨#[]⟩)], .bool false]) (by simp [results, Tryz.results93, go_sem, u0, u1, u2]) rfl ⟨by rw [← HR.out]; rfl, bU⟩
      | true =>
        cases hn : isNmS nm with
        | false =>
          rw [hn] at IN
          have c0 := bcell n2 0 _ rfl
          have c1 := bcell n2 1 _ rfl
          have c2 := bcell n2 2 _ rfl
          have f0 := froz_at n2 0
          have f1 := froz_at n2 1
          have f2 := froz_at n2 2
          go_wp2_with (go_at_call 96; refine IN.mono ?_; rintro e w3 ⟨rfl, h⟩; rw [h]; clear h)
          obtain ⟨U, hU⟩ : ∃ U, ((w2.setCell ⟨W.heap.size, 0, none⟩ (.string ⟨#[]⟩)).setCell ⟨W.heap.size, 1, none⟩ (.string ⟨#[]⟩)).setCell ⟨W.heap.size, 2, none⟩ (.string ⟨#[]⟩) = U := ⟨_, rfl⟩
          obtain ⟨u0, u1, u2, bU⟩ := fin3 n2 (Nat.le_refl _) BW2 (.string ⟨#[]⟩) (.string ⟨#[]⟩) (.string ⟨#[]⟩) U hU
          rw [hU]
          refine bodyPost_ret (v := .tuple #[.agg #[(.string ⟨#[]⟩), (.string ⟨#[]⟩), (.string ⟨#[]⟩)], .bool false]) (by simp [results, Tryz.results93, go_sem, u0, u1, u2]) rfl ⟨by rw [← HR.out]; rw [hn]; rfl, bU⟩
        | true =>
          rw [hn] at IN
          cases hv : isValM vl with
          | false =>
            rw [hv] at IV
            go_upto_region 5 with (first | (go_at_call 96; refine IN.mono ?_; rintro e w3 ⟨rfl, h⟩; rw [h]; clear h) | (go_at_call 130; refine IV.mono ?_; rintro e w3 ⟨rfl, b3⟩))
            have n3 := bel_blk b3 n2
            have BW3 := mbel BW2 b3
            have c0 := bcell n3 0 _ rfl
            have c1 := bcell n3 1 _ rfl
            have c2 := bcell n3 2 _ rfl
            have f0 := froz_at n3 0
            have f1 := froz_at n3 1
            have f2 := froz_at n3 2
            go_wp2_with fail
            obtain ⟨U, hU⟩ : ∃ U, ((w3.setCell ⟨W.heap.size, 0, none⟩ (.string ⟨#[]⟩)).setCell ⟨W.heap.size, 1, none⟩ (.string ⟨#[]⟩)).setCell ⟨W.heap.size, 2, none⟩ (.string ⟨#[]⟩) = U := ⟨_, rfl⟩
            obtain ⟨u0, u1, u2, bU⟩ := fin3 n3 (Nat.le_refl _) BW3 (.string ⟨#[]⟩) (.string ⟨#[]⟩) (.string ⟨#[]⟩) U hU
            rw [hU]
            refine bodyPost_ret (v := .tuple #[.agg #[(.string ⟨#[]⟩), (.string ⟨#[]⟩), (.string ⟨#[]⟩)], .bool false]) (by simp [results, Tryz.results93, go_sem, u0, u1, u2]) rfl ⟨by rw [← HR.out]; rw [hn, hv]; rfl, bU⟩
          | true =>
            rw [hv] at IV
            go_upto_region 6 with (first | (go_at_call 96; refine IN.mono ?_; rintro e w3 ⟨rfl, h⟩; rw [h]; clear h) | (go_at_call 130; refine IV.mono ?_; rintro e w3 ⟨rfl, b3⟩))
            have n3 := bel_blk b3 n2
            have BW3 := mbel BW2 b3
            have RD3 := RD2 w3 b3
            clear RD2 IN IV
            cases hs : isSelM wh with
            | false =>
              rw [hs, if_neg (by simp)] at RD3
              go_upto_region 8 with (go_at_call 27; refine RD3.mono ?_; rintro e w4 ⟨rfl, b4⟩)
              have n4 := al_oldY (.cells #[.string ⟨#[]⟩] 69) (bel_blk b4 n3)
              have BW4 := (mbel BW3 b4).alloc (mbel BW3 b4).size (.cells #[.string ⟨#[]⟩] 69)
              have c0 := bcell n4 0 _ rfl
              have c1 := bcell n4 1 _ rfl
              have c2 := bcell n4 2 _ rfl
              have f0 := froz_at n4 0
              have f1 := froz_at n4 1
              have f2 := froz_at n4 2
              go_wp2_with fail
              obtain ⟨U, hU⟩ : ∃ U, (((w4.alloc (.cells #[.string ⟨#[]⟩] 69)).setCell ⟨W.heap.size, 0, none⟩ (.string ⟨#[]⟩)).setCell ⟨W.heap.size, 1, none⟩ (.string ⟨#[]⟩)).setCell ⟨W.heap.size, 2, none⟩ (.string ⟨#[]⟩) = U := ⟨_, rfl⟩
              obtain ⟨u0, u1, u2, bU⟩ := fin3 n4 (Nat.le_refl _) BW4 (.string ⟨#[]⟩) (.string ⟨#[]⟩) (.string ⟨#[]⟩) U hU
              rw [hU]
              refine bodyPost_ret (v := .tuple #[.agg #[(.string ⟨#[]⟩), (.string ⟨#[]⟩), (.string ⟨#[]⟩)], .bool false]) (by simp [results, Tryz.results93, go_sem, u0, u1, u2]) rfl ⟨by rw [← HR.out]; rw [hn, hv, hs]; rfl, bU⟩
            | true =>
              rw [hs, if_pos rfl] at RD3
              go_upto_region 9 with (go_at_call 27; refine RD3.mono ?_; rintro e w4 ⟨rfl, b4⟩)
              have n4 := al_oldY (.cells #[bV wh] 69) (bel_blk b4 n3)
              have m4 := mbox w4 #[bV wh] 69
              have d4 := bcell m4 0 _ rfl
              have BW4 := (mbel BW3 b4).alloc (mbel BW3 b4).size (.cells #[bV wh] 69)
              have c0 := bcell n4 0 _ rfl
              have c1 := bcell n4 1 _ rfl
              have c2 := bcell n4 2 _ rfl
              have f0 := froz_at n4 0
              have f1 := froz_at n4 1
              have f2 := froz_at n4 2
              go_wp2_with fail
              obtain ⟨U, hU⟩ : ∃ U, (((w4.alloc (.cells #[bV wh] 69)).setCell ⟨W.heap.size, 0, none⟩ (bV wh)).setCell ⟨W.heap.size, 1, none⟩ (bV nm)).setCell ⟨W.heap.size, 2, none⟩ (bV vl) = U := ⟨_, rfl⟩
              obtain ⟨u0, u1, u2, bU⟩ := fin3 n4 (Nat.le_refl _) BW4 (bV wh) (bV nm) (bV vl) U hU
              rw [hU]
              refine bodyPost_ret (v := .tuple #[.agg #[(bV wh), (bV nm), (bV vl)], .bool true]) (by simp [results, Tryz.results93, go_sem, u0, u1, u2]) rfl ⟨by rw [← HR.out]; rw [hn, hv, hs]; rfl, bU⟩

end Go.Proofs.YtnoecobddhmhlaaGreatDoor

namespace Go.Proofs.YtnoecobddhmhlaaGreatDoor
open Go.RowKit Go.Shelf

/-- Rules in a row, cell by cell. -/
def cellsR : List Rl → List Value
  | [] => []
  | r :: l => bV r.wh :: bV r.nm :: bV r.vl :: cellsR l
theorem cellsR_snoc : ∀ (l : List Rl) (r : Rl), cellsR (l ++ [r]) = cellsR l ++ [bV r.wh, bV r.nm, bV r.vl]
  | [], _ => rfl
  | x :: l, r => by rw [List.cons_append, cellsR, cellsR, cellsR_snoc l r]; rfl
theorem cellsR_at : ∀ {l : List Rl} {i : Nat} {r : Rl}, l[i]? = some r → (cellsR l)[i * 3]? = some (bV r.wh) ∧ (cellsR l)[i * 3 + 1]? = some (bV r.nm) ∧ (cellsR l)[i * 3 + 2]? = some (bV r.vl)
  | [], _, _, h => by simp at h
  | y :: l, 0, x, h => by
    simp at h
    subst h
    exact ⟨rfl, rfl, rfl⟩
  | y :: l, i + 1, x, h => by
    have h1 := cellsR_at (l := l) (i := i) (r := x) (by simpa using h)
    rw [show (i + 1) * 3 = i * 3 + 1 + 1 + 1 from by omega]
    exact ⟨by simpa [cellsR] using h1.1, by simpa [cellsR] using h1.2.1, by simpa [cellsR] using h1.2.2⟩
theorem infoRl : (Tryz.prog.info? 150).map (fun i => (i.zero, i.size, i.bytes)) = some (some (.agg #[.string ByteArray.empty, .string ByteArray.empty, .string ByteArray.empty]), 3, 48) := by kernel_rfl
theorem own_geY {w : World} {base : Nat} {e : TypeId} {size : Nat} {v : Value} {n : Nat} {xs : List Value} (h : w.ownsRow base e size v n xs) : ∀ k, v.ownBlock = some k → base ≤ k := fun k hk => (h.lt k hk).1
theorem three_cells (w : World) (x y z : Value) (t : TypeId) : ∀ j u, [x, y, z][j]? = some u → (w.alloc (.cells #[x, y, z] t)).cell? ((⟨w.heap.size, 0, none⟩ : Addr).add j) = some u := by
  intro j u h
  match j, h with
  | 0, h => simp at h; subst h; exact mnew w #[x, y, z] t 0 x rfl
  | 1, h => simp at h; subst h; exact mnew w #[x, y, z] t 1 y rfl
  | 2, h => simp at h; subst h; exact mnew w #[x, y, z] t 2 z rfl
/-- What a sheet tells. -/
def ShR (ea ef : Addr) (base : Nat) (r : Except Nat (List Rl)) (e : Ending) (w : World) : Prop := match r with
  | .error k => ∃ pb, e = .returned (.tuple #[.slice none 0 0, .iface 153 (.pointer (some ⟨pb, 0, none⟩))]) ∧ w.heap[pb]? = some (.cells #[.int .i64 k, .iface 245 (.pointer (some ea))] 155)
  | .ok l => (40 < l.length ∧ e = .returned (.tuple #[.slice none 0 0, .iface 245 (.pointer (some ef))])) ∨ (l.length ≤ 40 ∧ ∃ v, e = .returned (.tuple #[v, .nilIface]) ∧ w.ownsRow base 150 3 v l.length (cellsR l))
set_option maxRecDepth 20000 in
set_option maxHeartbeats 4000000 in
theorem ReadS_any (s : Bs) (hs : s.length ≤ 10000) (W : World) (ea ef : Addr) (hE : W.cell? ⟨8, 0, none⟩ = some (.iface 245 (.pointer (some ea)))) (hF : W.cell? ⟨4, 0, none⟩ = some (.iface 245 (.pointer (some ef)))) (hm : MxL W) :
    Calls Tryz.prog 38 #[bV s] W fun e w' => ShR ea ef W.heap.size (sheetM s) e w' ∧ Below W.heap.size W w' := by
  obtain ⟨i0, hi, hz0, hz1, hz2⟩ := info_parts infoRl
  have HM : Hid (MxL W) := hm
  have HE : Hid (W.cell? ⟨8, 0, none⟩ = some (.iface 245 (.pointer (some ea)))) := hE
  have HF : Hid (W.cell? ⟨4, 0, none⟩ = some (.iface 245 (.pointer (some ef)))) := hF
  have hsz := ba_size s
  have h10 : ¬ 10000 < (s.length : Int) := by omega
  have h10s : ¬ 10000 < ((⟨s.toArray⟩ : ByteArray).size : Int) := by omega
  obtain ⟨res, hres⟩ : ∃ x, sheetM s = x := ⟨_, rfl⟩
  have HS : Hid (shA (s.length + 1) [] s = res) := hres
  rw [hres]
  clear hres hm hE hF hsz
  go_enter Tryz.func38, Tryz.ntmps38
  go_wp2_with fail
  go_loopw [0, 4, 5] (fun x v y wr => ∃ (f : Nat) (t : Bs) (acc : List Rl), x = bV t ∧ y = .int .i64 acc.length ∧ t.length < f ∧ acc.length + t.length ≤ 10000 ∧ shA f acc t = res ∧ wr.ownsRow W.heap.size 150 3 v acc.length (cellsR acc) ∧ Below W.heap.size W wr) (fun x _ _ _ => lenV x)
  case atStart => exact ⟨_, s, [], rfl, rfl, Nat.lt_succ_self _, by simpa using hs, HS.out, World.ownsRow_nil _ _ _ _, Below.refl _ _⟩
  case round =>
    obtain ⟨f, t, acc, rfl, rfl, hf, hln, hsh, hown, hb⟩ := hrel
    have HO : Hid (wr.ownsRow W.heap.size 150 3 u4 acc.length (cellsR acc)) := hown
    have HSH : Hid (shA f acc t = res) := hsh
    have h0 := ba_toL t []
    have hwz := hb.size
    clear hown hsh
    obtain ⟨ov, kv, hu4⟩ := own_slice HO.out
    subst hu4
    cases ht : (t == []) with
    | true =>
      have hte : t = [] := by simpa using ht
      subst hte
      have hre : res = .ok acc := by rw [← HSH.out, shA_nil]
      subst hre
      by_cases h40 : 40 < acc.length
      · have h40' : 40 < (acc.length : Int) := by omega
        have cF := (hb.cell (cell_lt3 HF.out)).trans HF.out
        go_upto_region 14 with fail
        go_region
        all_goals go_wp2_with fail
        all_goals go_ret2
        all_goals exact ⟨.inl ⟨h40, rfl⟩, hb.drew⟩
      · have h40' : ¬ 40 < (acc.length : Int) := by omega
        go_wp2_with fail
        go_ret2
        exact ⟨.inr ⟨by omega, _, rfl, HO.out⟩, hb⟩
    | false =>
      have hte : t ≠ [] := by intro e; subst e; simp at ht
      have hts : t.length ≤ 1000000 := by omega
      obtain ⟨g, rfl⟩ : ∃ g, f = g + 1 := ⟨f - 1, by omega⟩
      have C1 := Cut_any t [10] hts wr (HM.out.below hb)
      have l1 := cut_fst_len t [10]
      have l2 := cut_len t [10]
      obtain ⟨ln, hln1⟩ : ∃ x, (Lib.cut t [10]).1 = x := ⟨_, rfl⟩
      obtain ⟨rs, hrs⟩ : ∃ x, (Lib.cut t [10]).2.1 = x := ⟨_, rfl⟩
      obtain ⟨en, hen⟩ : ∃ x, (Lib.cut t [10]).2.2 = x := ⟨_, rfl⟩
      have hbad : ruleM ln = none → res = .error acc.length := fun h => by rw [← HSH.out]; exact shA_bad hte (by rw [hln1]; exact h)
      have hopen : en = false → res = .error acc.length := fun h => by rw [← HSH.out]; exact shA_open hte (by rw [hen]; exact h)
      have hmore : ∀ r, ruleM ln = some r → en = true → shA g (acc ++ [r]) rs = res := fun r h1 h2 => by rw [← HSH.out, shA_more hte (by rw [hln1]; exact h1) (by rw [hen]; exact h2), hrs]
      rw [hln1, hrs, hen] at C1
      rw [hln1] at l1
      rw [hrs, hen] at l2
      clear hln1 hrs hen
      have HB : Hid (ruleM ln = none → res = .error acc.length) := hbad
      have HP : Hid (en = false → res = .error acc.length) := hopen
      have HMo : Hid (∀ r, ruleM ln = some r → en = true → shA g (acc ++ [r]) rs = res) := hmore
      have HL2 : Hid (en = true → [10] ≠ ([] : Bs) → rs.length < t.length) := l2
      clear hbad hopen hmore l2
      have RR := fun V (hv : Below wr.heap.size wr V) => readRule_any ln (by omega) V ea (((mbel hb hv).cell (cell_lt3 HE.out)).trans HE.out) (HM.out.below (mbel hb hv))
      obtain ⟨ro, hro⟩ : ∃ x, ruleM ln = x := ⟨_, rfl⟩
      simp only [hro] at RR
      have HRO : Hid (ruleM ln = ro) := hro
      clear hro
      go_upto_region 8 with (go_at_call 92; refine C1.mono ?_; rintro e w1 ⟨rfl, b1⟩)
      have RR1 := RR w1 b1
      clear RR C1
      cases ro with
      | none =>
        unfold rlR at RR1
        go_upto_region 9 with (go_at_call 93; refine RR1.mono ?_; rintro e w2 ⟨rfl, b2⟩)
        clear RR1
        have n3 := mal w2 (.cells #[.string ⟨#[]⟩, .string ⟨#[]⟩, .string ⟨#[]⟩] 150)
        have BW3 := (mbel (mbel hb b1) b2).alloc (mbel (mbel hb b1) b2).size (.cells #[.string ⟨#[]⟩, .string ⟨#[]⟩, .string ⟨#[]⟩] 150)
        obtain ⟨V3, hV3⟩ : ∃ V, w2.alloc (.cells #[.string ⟨#[]⟩, .string ⟨#[]⟩, .string ⟨#[]⟩] 150) = V := ⟨_, rfl⟩
        rw [hV3] at BW3 ⊢
        clear hV3 n3
        have cE := (BW3.cell (cell_lt3 HE.out)).trans HE.out
        have hre : res = .error acc.length := HB.out HRO.out
        subst hre
        have hnw := mbox V3 #[.int .i64 acc.length, .iface 245 (.pointer (some ea))] 155
        have hnb := BW3.alloc BW3.size (.cells #[.int .i64 acc.length, .iface 245 (.pointer (some ea))] 155)
        cases en with
        | true =>
          go_upto_region 10 with fail
          go_region
          all_goals go_wp2_with fail
          all_goals go_ret2
          all_goals exact ⟨⟨_, rfl, hnw⟩, hnb.drew⟩
        | false =>
          go_upto_region 10 with fail
          go_region
          all_goals go_wp2_with fail
          all_goals go_ret2
          all_goals exact ⟨⟨_, rfl, hnw⟩, hnb.drew⟩
      | some r =>
        unfold rlR at RR1
        cases en with
        | false =>
          go_upto_region 9 with (go_at_call 93; refine RR1.mono ?_; rintro e w2 ⟨rfl, b2⟩)
          clear RR1
          have n3 := mal w2 (.cells #[bV r.wh, bV r.nm, bV r.vl] 150)
          have BW3 := (mbel (mbel hb b1) b2).alloc (mbel (mbel hb b1) b2).size (.cells #[bV r.wh, bV r.nm, bV r.vl] 150)
          obtain ⟨V3, hV3⟩ : ∃ V, w2.alloc (.cells #[bV r.wh, bV r.nm, bV r.vl] 150) = V := ⟨_, rfl⟩
          rw [hV3] at BW3 ⊢
          clear hV3 n3
          have cE := (BW3.cell (cell_lt3 HE.out)).trans HE.out
          have hre : res = .error acc.length := HP.out (by simp)
          subst hre
          have hnw := mbox V3 #[.int .i64 acc.length, .iface 245 (.pointer (some ea))] 155
          have hnb := BW3.alloc BW3.size (.cells #[.int .i64 acc.length, .iface 245 (.pointer (some ea))] 155)
          go_upto_region 10 with fail
          go_region
          all_goals go_wp2_with fail
          all_goals go_ret2
          all_goals exact ⟨⟨_, rfl, hnw⟩, hnb.drew⟩
        | true =>
          go_upto_region 9 with (go_at_call 93; refine RR1.mono ?_; rintro e w2 ⟨rfl, b2⟩)
          clear RR1
          have n3 := mbox w2 #[bV r.wh, bV r.nm, bV r.vl] 150
          have B3 := (mbel b1 b2).alloc (mbel b1 b2).size (.cells #[bV r.wh, bV r.nm, bV r.vl] 150)
          have BW3 := (mbel (mbel hb b1) b2).alloc (mbel (mbel hb b1) b2).size (.cells #[bV r.wh, bV r.nm, bV r.vl] 150)
          obtain ⟨V3, hV3⟩ : ∃ V, w2.alloc (.cells #[bV r.wh, bV r.nm, bV r.vl] 150) = V := ⟨_, rfl⟩
          obtain ⟨P, hP⟩ : ∃ V, w2.heap.size = V := ⟨_, rfl⟩
          rw [hV3] at BW3 B3 n3 ⊢
          rw [hP] at n3 ⊢
          clear hV3 hP b2
          have HO3 : Hid (V3.ownsRow W.heap.size 150 3 (.slice ov acc.length kv) acc.length (cellsR acc)) := own_bel HO.out B3
          have p0 := bcell n3 0 _ rfl
          have p1 := bcell n3 1 _ rfl
          have p2 := bcell n3 2 _ rfl
          have hz3 := BW3.size
          have hcl : (cellsR acc).length = acc.length * 3 := HO3.out.1
          go_wp2_with (at_builtin; refine wpList_append_own _ rfl _ _ 85 rfl W.heap.size 150 i0 (.agg #[.string ByteArray.empty, .string ByteArray.empty, .string ByteArray.empty]) 3 48 Tryz.underlying85 hi hz0 hz1 hz2 rfl (by decide) _ _ _ rfl (World.ownsRow.alloc HO3.out _) ⟨V3.heap.size, 0, none⟩ 1 1 [bV r.wh, bV r.nm, bV r.vl] rfl rfl (three_cells V3 _ _ _ _) (fun x hx => by simp at hx; rcases hx with rfl | rfl | rfl <;> rfl) (by rw [maxLen_eq]; omega) (by omega) (by simp; omega) ?_; intro v' w4 hown' hgrow _)
          have hb4 := (BW3.alloc hz3 _).grown hgrow (by simp; omega) (own_geY HO3.out)
          have hl2 := HL2.out (by simp) (by simp)
          go_roundw
          case rel => exact ⟨g, rs, acc ++ [r], rfl, by simp, by omega, by simp; omega, HMo.out r HRO.out (by simp), by rw [cellsR_snoc, List.length_append]; exact hown', hb4⟩
          case measure => simp only [lenV_b]; simpa [lenV_b] using hl2

end Go.Proofs.YtnoecobddhmhlaaGreatDoor

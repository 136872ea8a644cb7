/-
  The document's FracOf (leadlightref1), walked by cases of the text.
-/
import Derived.Test.YtdeahgbjkogjgaaDoorOf1
namespace Go.Proofs.YtdeahgbjkogjgaaDoor
open Go.RowKit

set_option maxHeartbeats 4000000 in
theorem of_no1 (s a t : ByteArray) (w : World) (hm : s.size ≤ 1000000) (neg : Bool) (hbeg : Begins s a t neg) (hp : pieces 47 s.data.toList = [a.data.toList]) (bt : Bool) (nv : Int) (hd : digs t.data.toList = bt) (hv : (if bt = true then (val t.data.toList : Int) else -1) = nv) (hbad : nv < 0 ∨ neg = true ∧ nv = 0) :
    Calls Tryd.prog 20 #[.string s] w fun e w' => e = .returned (.tuple #[.agg #[.int .i64 (⟨0, 0, 1⟩ : R3).n, .int .i64 (⟨0, 0, 1⟩ : R3).d], .int .i64 (⟨0, 0, 1⟩ : R3).c]) ∧ Below w.heap.size w w' := by
  have HP : Hid (pieces 47 s.data.toList = [a.data.toList]) := hp
  clear hp
  have HD : Hid (digs t.data.toList = bt) := hd
  have HV : Hid ((if bt = true then (val t.data.toList : Int) else -1) = nv) := hv
  clear hd hv
  rcases hbad with hneg | ⟨hneg, rfl⟩
  · cases hbeg with
    | minus h0 h45 ha1 ea =>
      have ha1' : (1 : Int) ≤ (a.size : Int) := by omega
      have h0' : (0 : Int) < (s.size : Int) := by omega
      go_enter Tryd.func20, Tryd.ntmps20
      go_wp2_with (first | (go_at_call 41; refine (CutS1 s a _ hm HP.out).mono ?_; rintro e w1 ⟨g, cap, rfl, hcap, k0, hg, hb⟩; have hw := ((Below.refl w.heap.size w).alloc (Nat.le_refl _) _).trans (hb.mono (by simp)); obtain ⟨r1, r2, r3, r4⟩ := (Two.new w _ _ _).below hb (Nat.le_refl _); have hzz := hb.size; simp only [World.size_alloc] at hzz; clear hb) | (go_at_call 42; refine (NumberOf_at t bt nv _ HD.out HV.out).mono ?_; rintro e w' ⟨rfl, rfl⟩))
      refine bodyPost_ret (v := .tuple #[.agg #[.int .i64 0, .int .i64 0], .int .i64 1]) (by simp [results, Tryd.results20, go_sem, r1, r2]) rfl ⟨rfl, ?_⟩
      exact (hw.setCell (Nat.le_refl _) _).setCell (Nat.le_refl _) _
    | none hh ea =>
      subst ea
      rcases hh with h0 | ⟨h0, h45⟩
      · have h0' : (s.size : Int) = 0 := by omega
        go_enter Tryd.func20, Tryd.ntmps20
        go_wp2_with (first | (go_at_call 41; refine (CutS1 s a _ hm HP.out).mono ?_; rintro e w1 ⟨g, cap, rfl, hcap, k0, hg, hb⟩; have hw := ((Below.refl w.heap.size w).alloc (Nat.le_refl _) _).trans (hb.mono (by simp)); obtain ⟨r1, r2, r3, r4⟩ := (Two.new w _ _ _).below hb (Nat.le_refl _); have hzz := hb.size; simp only [World.size_alloc] at hzz; clear hb) | (go_at_call 42; refine (NumberOf_at a bt nv _ HD.out HV.out).mono ?_; rintro e w' ⟨rfl, rfl⟩))
        refine bodyPost_ret (v := .tuple #[.agg #[.int .i64 0, .int .i64 0], .int .i64 1]) (by simp [results, Tryd.results20, go_sem, r1, r2]) rfl ⟨rfl, ?_⟩
        exact (hw.setCell (Nat.le_refl _) _).setCell (Nat.le_refl _) _
      · have h0' : (0 : Int) < (s.size : Int) := by omega
        go_enter Tryd.func20, Tryd.ntmps20
        go_wp2_with (first | (go_at_call 41; refine (CutS1 s a _ hm HP.out).mono ?_; rintro e w1 ⟨g, cap, rfl, hcap, k0, hg, hb⟩; have hw := ((Below.refl w.heap.size w).alloc (Nat.le_refl _) _).trans (hb.mono (by simp)); obtain ⟨r1, r2, r3, r4⟩ := (Two.new w _ _ _).below hb (Nat.le_refl _); have hzz := hb.size; simp only [World.size_alloc] at hzz; clear hb) | (go_at_call 42; refine (NumberOf_at a bt nv _ HD.out HV.out).mono ?_; rintro e w' ⟨rfl, rfl⟩))
        refine bodyPost_ret (v := .tuple #[.agg #[.int .i64 0, .int .i64 0], .int .i64 1]) (by simp [results, Tryd.results20, go_sem, r1, r2]) rfl ⟨rfl, ?_⟩
        exact (hw.setCell (Nat.le_refl _) _).setCell (Nat.le_refl _) _
  · subst hneg
    cases hbeg with
    | minus h0 h45 ha1 ea =>
      have ha1' : (1 : Int) ≤ (a.size : Int) := by omega
      have h0' : (0 : Int) < (s.size : Int) := by omega
      go_enter Tryd.func20, Tryd.ntmps20
      go_wp2_with (first | (go_at_call 41; refine (CutS1 s a _ hm HP.out).mono ?_; rintro e w1 ⟨g, cap, rfl, hcap, k0, hg, hb⟩; have hw := ((Below.refl w.heap.size w).alloc (Nat.le_refl _) _).trans (hb.mono (by simp)); obtain ⟨r1, r2, r3, r4⟩ := (Two.new w _ _ _).below hb (Nat.le_refl _); have hzz := hb.size; simp only [World.size_alloc] at hzz; clear hb) | (go_at_call 42; refine (NumberOf_at t bt 0 _ HD.out HV.out).mono ?_; rintro e w' ⟨rfl, rfl⟩))
      refine bodyPost_ret (v := .tuple #[.agg #[.int .i64 0, .int .i64 0], .int .i64 1]) (by simp [results, Tryd.results20, go_sem, r1, r2]) rfl ⟨rfl, ?_⟩
      exact (hw.setCell (Nat.le_refl _) _).setCell (Nat.le_refl _) _

set_option maxHeartbeats 4000000 in
theorem of_no2 (s a t b : ByteArray) (w : World) (hm : s.size ≤ 1000000) (neg : Bool) (hbeg : Begins s a t neg) (hp : pieces 47 s.data.toList = [a.data.toList, b.data.toList]) (bt : Bool) (nv : Int) (hd : digs t.data.toList = bt) (hv : (if bt = true then (val t.data.toList : Int) else -1) = nv) (hbad : nv < 0 ∨ neg = true ∧ nv = 0) :
    Calls Tryd.prog 20 #[.string s] w fun e w' => e = .returned (.tuple #[.agg #[.int .i64 (⟨0, 0, 1⟩ : R3).n, .int .i64 (⟨0, 0, 1⟩ : R3).d], .int .i64 (⟨0, 0, 1⟩ : R3).c]) ∧ Below w.heap.size w w' := by
  have HP : Hid (pieces 47 s.data.toList = [a.data.toList, b.data.toList]) := hp
  clear hp
  have HD : Hid (digs t.data.toList = bt) := hd
  have HV : Hid ((if bt = true then (val t.data.toList : Int) else -1) = nv) := hv
  clear hd hv
  rcases hbad with hneg | ⟨hneg, rfl⟩
  · cases hbeg with
    | minus h0 h45 ha1 ea =>
      have ha1' : (1 : Int) ≤ (a.size : Int) := by omega
      have h0' : (0 : Int) < (s.size : Int) := by omega
      go_enter Tryd.func20, Tryd.ntmps20
      go_wp2_with (first | (go_at_call 41; refine (CutS2 s a b _ hm HP.out).mono ?_; rintro e w1 ⟨g, cap, rfl, hcap, k0, k1, hg, hb⟩; have hw := ((Below.refl w.heap.size w).alloc (Nat.le_refl _) _).trans (hb.mono (by simp)); obtain ⟨r1, r2, r3, r4⟩ := (Two.new w _ _ _).below hb (Nat.le_refl _); have hzz := hb.size; simp only [World.size_alloc] at hzz; clear hb; have k1A : ∀ o, (w1.alloc o).cell? ⟨g, 1, none⟩ = some (.string b) := fun o => (World.cell?_alloc_lt _ _ ⟨g, 1, none⟩ (cell_lt k1)).trans k1; obtain ⟨q1, q2, q3, q4⟩ := two_allA (Two.mk r1 r2 r3 r4)) | (go_at_call 42; refine (NumberOf_at t bt nv _ HD.out HV.out).mono ?_; rintro e w' ⟨rfl, rfl⟩))
      refine bodyPost_ret (v := .tuple #[.agg #[.int .i64 0, .int .i64 0], .int .i64 1]) (by simp [results, Tryd.results20, go_sem, r1, r2]) rfl ⟨rfl, ?_⟩
      exact (hw.setCell (Nat.le_refl _) _).setCell (Nat.le_refl _) _
    | none hh ea =>
      subst ea
      rcases hh with h0 | ⟨h0, h45⟩
      · have h0' : (s.size : Int) = 0 := by omega
        go_enter Tryd.func20, Tryd.ntmps20
        go_wp2_with (first | (go_at_call 41; refine (CutS2 s a b _ hm HP.out).mono ?_; rintro e w1 ⟨g, cap, rfl, hcap, k0, k1, hg, hb⟩; have hw := ((Below.refl w.heap.size w).alloc (Nat.le_refl _) _).trans (hb.mono (by simp)); obtain ⟨r1, r2, r3, r4⟩ := (Two.new w _ _ _).below hb (Nat.le_refl _); have hzz := hb.size; simp only [World.size_alloc] at hzz; clear hb; have k1A : ∀ o, (w1.alloc o).cell? ⟨g, 1, none⟩ = some (.string b) := fun o => (World.cell?_alloc_lt _ _ ⟨g, 1, none⟩ (cell_lt k1)).trans k1; obtain ⟨q1, q2, q3, q4⟩ := two_allA (Two.mk r1 r2 r3 r4)) | (go_at_call 42; refine (NumberOf_at a bt nv _ HD.out HV.out).mono ?_; rintro e w' ⟨rfl, rfl⟩))
        refine bodyPost_ret (v := .tuple #[.agg #[.int .i64 0, .int .i64 0], .int .i64 1]) (by simp [results, Tryd.results20, go_sem, r1, r2]) rfl ⟨rfl, ?_⟩
        exact (hw.setCell (Nat.le_refl _) _).setCell (Nat.le_refl _) _
      · have h0' : (0 : Int) < (s.size : Int) := by omega
        go_enter Tryd.func20, Tryd.ntmps20
        go_wp2_with (first | (go_at_call 41; refine (CutS2 s a b _ hm HP.out).mono ?_; rintro e w1 ⟨g, cap, rfl, hcap, k0, k1, hg, hb⟩; have hw := ((Below.refl w.heap.size w).alloc (Nat.le_refl _) _).trans (hb.mono (by simp)); obtain ⟨r1, r2, r3, r4⟩ := (Two.new w _ _ _).below hb (Nat.le_refl _); have hzz := hb.size; simp only [World.size_alloc] at hzz; clear hb; have k1A : ∀ o, (w1.alloc o).cell? ⟨g, 1, none⟩ = some (.string b) := fun o => (World.cell?_alloc_lt _ _ ⟨g, 1, none⟩ (cell_lt k1)).trans k1; obtain ⟨q1, q2, q3, q4⟩ := two_allA (Two.mk r1 r2 r3 r4)) | (go_at_call 42; refine (NumberOf_at a bt nv _ HD.out HV.out).mono ?_; rintro e w' ⟨rfl, rfl⟩))
        refine bodyPost_ret (v := .tuple #[.agg #[.int .i64 0, .int .i64 0], .int .i64 1]) (by simp [results, Tryd.results20, go_sem, r1, r2]) rfl ⟨rfl, ?_⟩
        exact (hw.setCell (Nat.le_refl _) _).setCell (Nat.le_refl _) _
  · subst hneg
    cases hbeg with
    | minus h0 h45 ha1 ea =>
      have ha1' : (1 : Int) ≤ (a.size : Int) := by omega
      have h0' : (0 : Int) < (s.size : Int) := by omega
      go_enter Tryd.func20, Tryd.ntmps20
      go_wp2_with (first | (go_at_call 41; refine (CutS2 s a b _ hm HP.out).mono ?_; rintro e w1 ⟨g, cap, rfl, hcap, k0, k1, hg, hb⟩; have hw := ((Below.refl w.heap.size w).alloc (Nat.le_refl _) _).trans (hb.mono (by simp)); obtain ⟨r1, r2, r3, r4⟩ := (Two.new w _ _ _).below hb (Nat.le_refl _); have hzz := hb.size; simp only [World.size_alloc] at hzz; clear hb; have k1A : ∀ o, (w1.alloc o).cell? ⟨g, 1, none⟩ = some (.string b) := fun o => (World.cell?_alloc_lt _ _ ⟨g, 1, none⟩ (cell_lt k1)).trans k1; obtain ⟨q1, q2, q3, q4⟩ := two_allA (Two.mk r1 r2 r3 r4)) | (go_at_call 42; refine (NumberOf_at t bt 0 _ HD.out HV.out).mono ?_; rintro e w' ⟨rfl, rfl⟩))
      refine bodyPost_ret (v := .tuple #[.agg #[.int .i64 0, .int .i64 0], .int .i64 1]) (by simp [results, Tryd.results20, go_sem, r1, r2]) rfl ⟨rfl, ?_⟩
      exact (hw.setCell (Nat.le_refl _) _).setCell (Nat.le_refl _) _

set_option maxHeartbeats 8000000 in
theorem of_yes1 (s a t : ByteArray) (w : World) (hm : s.size ≤ 1000000) (neg : Bool) (hbeg : Begins s a t neg) (hp : pieces 47 s.data.toList = [a.data.toList]) (bt : Bool) (nv : Int) (hd : digs t.data.toList = bt) (hv : (if bt = true then (val t.data.toList : Int) else -1) = nv) (n0 : 0 ≤ nv) (n2 : nv < 10000000000) (hz : neg = true → (nv == 0) = false) :
    Calls Tryd.prog 20 #[.string s] w fun e w' => e = .returned (.tuple #[.agg #[.int .i64 (ck (if neg = true then -nv else nv) 1).n, .int .i64 (ck (if neg = true then -nv else nv) 1).d], .int .i64 (ck (if neg = true then -nv else nv) 1).c]) ∧ Below w.heap.size w w' := by
  have HP : Hid (pieces 47 s.data.toList = [a.data.toList]) := hp
  clear hp
  have HD : Hid (digs t.data.toList = bt) := hd
  have HV : Hid ((if bt = true then (val t.data.toList : Int) else -1) = nv) := hv
  clear hd hv
  cases hbeg with
  | minus h0 h45 ha1 ea =>
    have ha1' : (1 : Int) ≤ (a.size : Int) := by omega
    have h0' : (0 : Int) < (s.size : Int) := by omega
    have hz' := hz rfl
    clear hz
    rw [if_pos rfl]
    rcases chk_cases (-nv) 1 with hc | hc | hc
    · have HC : Hid (chk (-nv) 1 = 0) := hc
      have e : ck (-nv) 1 = ⟨(-nv), 1, 0⟩ := by unfold ck; rw [if_pos hc]
      rw [e]
      clear e hc
      go_enter Tryd.func20, Tryd.ntmps20
      go_wp2_with (first | (go_at_call 41; refine (CutS1 s a _ hm HP.out).mono ?_; rintro e w1 ⟨g, cap, rfl, hcap, k0, hg, hb⟩; have hw := ((Below.refl w.heap.size w).alloc (Nat.le_refl _) _).trans (hb.mono (by simp)); obtain ⟨r1, r2, r3, r4⟩ := (Two.new w _ _ _).below hb (Nat.le_refl _); have hzz := hb.size; simp only [World.size_alloc] at hzz; clear hb) | (go_at_call 42; refine (NumberOf_at t bt nv _ HD.out HV.out).mono ?_; rintro e w' ⟨rfl, rfl⟩) | (go_at_call 16; refine (FracError_at (-nv) 1 0 _ ⟨by omega, by omega⟩ ⟨by omega, by omega⟩ HC.out).mono ?_; rintro e w2 ⟨rfl, hb2⟩; obtain ⟨u1, u2, u3, u4⟩ := (Two.new w1 _ _ _).below hb2 (Nat.le_refl _); obtain ⟨t1, t2, t3, t4⟩ := ((Two.mk r1 r2 r3 r4).alloc _).below hb2 (Nat.le_refl _); have hw2 := (hw.alloc hw.size _).trans (hb2.mono (by have := hw.size; simp; omega))))
      refine bodyPost_ret (v := .tuple #[.agg #[.int .i64 (-nv), .int .i64 1], .int .i64 0]) (by simp [results, Tryd.results20, go_sem, t1, t2]) rfl ⟨rfl, ?_⟩
      exact (hw2.setCell (Nat.le_refl _) _).setCell (Nat.le_refl _) _
    · have HC : Hid (chk (-nv) 1 = 2) := hc
      have e : ck (-nv) 1 = ⟨0, 0, 2⟩ := by unfold ck; rw [if_neg (by omega), hc]
      rw [e]
      clear e hc
      go_enter Tryd.func20, Tryd.ntmps20
      go_wp2_with (first | (go_at_call 41; refine (CutS1 s a _ hm HP.out).mono ?_; rintro e w1 ⟨g, cap, rfl, hcap, k0, hg, hb⟩; have hw := ((Below.refl w.heap.size w).alloc (Nat.le_refl _) _).trans (hb.mono (by simp)); obtain ⟨r1, r2, r3, r4⟩ := (Two.new w _ _ _).below hb (Nat.le_refl _); have hzz := hb.size; simp only [World.size_alloc] at hzz; clear hb) | (go_at_call 42; refine (NumberOf_at t bt nv _ HD.out HV.out).mono ?_; rintro e w' ⟨rfl, rfl⟩) | (go_at_call 16; refine (FracError_at (-nv) 1 2 _ ⟨by omega, by omega⟩ ⟨by omega, by omega⟩ HC.out).mono ?_; rintro e w2 ⟨rfl, hb2⟩; obtain ⟨u1, u2, u3, u4⟩ := (Two.new w1 _ _ _).below hb2 (Nat.le_refl _); obtain ⟨t1, t2, t3, t4⟩ := ((Two.mk r1 r2 r3 r4).alloc _).below hb2 (Nat.le_refl _); have hw2 := (hw.alloc hw.size _).trans (hb2.mono (by have := hw.size; simp; omega))))
      refine bodyPost_ret (v := .tuple #[.agg #[.int .i64 0, .int .i64 0], .int .i64 2]) (by simp [results, Tryd.results20, go_sem, t1, t2]) rfl ⟨rfl, ?_⟩
      exact (hw2.setCell (Nat.le_refl _) _).setCell (Nat.le_refl _) _
    · have HC : Hid (chk (-nv) 1 = 3) := hc
      have e : ck (-nv) 1 = ⟨0, 0, 3⟩ := by unfold ck; rw [if_neg (by omega), hc]
      rw [e]
      clear e hc
      go_enter Tryd.func20, Tryd.ntmps20
      go_wp2_with (first | (go_at_call 41; refine (CutS1 s a _ hm HP.out).mono ?_; rintro e w1 ⟨g, cap, rfl, hcap, k0, hg, hb⟩; have hw := ((Below.refl w.heap.size w).alloc (Nat.le_refl _) _).trans (hb.mono (by simp)); obtain ⟨r1, r2, r3, r4⟩ := (Two.new w _ _ _).below hb (Nat.le_refl _); have hzz := hb.size; simp only [World.size_alloc] at hzz; clear hb) | (go_at_call 42; refine (NumberOf_at t bt nv _ HD.out HV.out).mono ?_; rintro e w' ⟨rfl, rfl⟩) | (go_at_call 16; refine (FracError_at (-nv) 1 3 _ ⟨by omega, by omega⟩ ⟨by omega, by omega⟩ HC.out).mono ?_; rintro e w2 ⟨rfl, hb2⟩; obtain ⟨u1, u2, u3, u4⟩ := (Two.new w1 _ _ _).below hb2 (Nat.le_refl _); obtain ⟨t1, t2, t3, t4⟩ := ((Two.mk r1 r2 r3 r4).alloc _).below hb2 (Nat.le_refl _); have hw2 := (hw.alloc hw.size _).trans (hb2.mono (by have := hw.size; simp; omega))))
      refine bodyPost_ret (v := .tuple #[.agg #[.int .i64 0, .int .i64 0], .int .i64 3]) (by simp [results, Tryd.results20, go_sem, t1, t2]) rfl ⟨rfl, ?_⟩
      exact (hw2.setCell (Nat.le_refl _) _).setCell (Nat.le_refl _) _
  | none hh ea =>
    subst ea
    clear hz
    rw [if_neg (by simp)]
    rcases hh with h0 | ⟨h0, h45⟩
    · have h0' : (s.size : Int) = 0 := by omega
      rcases chk_cases nv 1 with hc | hc | hc
      · have HC : Hid (chk nv 1 = 0) := hc
        have e : ck nv 1 = ⟨nv, 1, 0⟩ := by unfold ck; rw [if_pos hc]
        rw [e]
        clear e hc
        go_enter Tryd.func20, Tryd.ntmps20
        go_wp2_with (first | (go_at_call 41; refine (CutS1 s a _ hm HP.out).mono ?_; rintro e w1 ⟨g, cap, rfl, hcap, k0, hg, hb⟩; have hw := ((Below.refl w.heap.size w).alloc (Nat.le_refl _) _).trans (hb.mono (by simp)); obtain ⟨r1, r2, r3, r4⟩ := (Two.new w _ _ _).below hb (Nat.le_refl _); have hzz := hb.size; simp only [World.size_alloc] at hzz; clear hb) | (go_at_call 42; refine (NumberOf_at a bt nv _ HD.out HV.out).mono ?_; rintro e w' ⟨rfl, rfl⟩) | (go_at_call 16; refine (FracError_at nv 1 0 _ ⟨by omega, by omega⟩ ⟨by omega, by omega⟩ HC.out).mono ?_; rintro e w2 ⟨rfl, hb2⟩; obtain ⟨u1, u2, u3, u4⟩ := (Two.new w1 _ _ _).below hb2 (Nat.le_refl _); obtain ⟨t1, t2, t3, t4⟩ := ((Two.mk r1 r2 r3 r4).alloc _).below hb2 (Nat.le_refl _); have hw2 := (hw.alloc hw.size _).trans (hb2.mono (by have := hw.size; simp; omega))))
        refine bodyPost_ret (v := .tuple #[.agg #[.int .i64 nv, .int .i64 1], .int .i64 0]) (by simp [results, Tryd.results20, go_sem, t1, t2]) rfl ⟨rfl, ?_⟩
        exact (hw2.setCell (Nat.le_refl _) _).setCell (Nat.le_refl _) _
      · have HC : Hid (chk nv 1 = 2) := hc
        have e : ck nv 1 = ⟨0, 0, 2⟩ := by unfold ck; rw [if_neg (by omega), hc]
        rw [e]
        clear e hc
        go_enter Tryd.func20, Tryd.ntmps20
        go_wp2_with (first | (go_at_call 41; refine (CutS1 s a _ hm HP.out).mono ?_; rintro e w1 ⟨g, cap, rfl, hcap, k0, hg, hb⟩; have hw := ((Below.refl w.heap.size w).alloc (Nat.le_refl _) _).trans (hb.mono (by simp)); obtain ⟨r1, r2, r3, r4⟩ := (Two.new w _ _ _).below hb (Nat.le_refl _); have hzz := hb.size; simp only [World.size_alloc] at hzz; clear hb) | (go_at_call 42; refine (NumberOf_at a bt nv _ HD.out HV.out).mono ?_; rintro e w' ⟨rfl, rfl⟩) | (go_at_call 16; refine (FracError_at nv 1 2 _ ⟨by omega, by omega⟩ ⟨by omega, by omega⟩ HC.out).mono ?_; rintro e w2 ⟨rfl, hb2⟩; obtain ⟨u1, u2, u3, u4⟩ := (Two.new w1 _ _ _).below hb2 (Nat.le_refl _); obtain ⟨t1, t2, t3, t4⟩ := ((Two.mk r1 r2 r3 r4).alloc _).below hb2 (Nat.le_refl _); have hw2 := (hw.alloc hw.size _).trans (hb2.mono (by have := hw.size; simp; omega))))
        refine bodyPost_ret (v := .tuple #[.agg #[.int .i64 0, .int .i64 0], .int .i64 2]) (by simp [results, Tryd.results20, go_sem, t1, t2]) rfl ⟨rfl, ?_⟩
        exact (hw2.setCell (Nat.le_refl _) _).setCell (Nat.le_refl _) _
      · have HC : Hid (chk nv 1 = 3) := hc
        have e : ck nv 1 = ⟨0, 0, 3⟩ := by unfold ck; rw [if_neg (by omega), hc]
        rw [e]
        clear e hc
        go_enter Tryd.func20, Tryd.ntmps20
        go_wp2_with (first | (go_at_call 41; refine (CutS1 s a _ hm HP.out).mono ?_; rintro e w1 ⟨g, cap, rfl, hcap, k0, hg, hb⟩; have hw := ((Below.refl w.heap.size w).alloc (Nat.le_refl _) _).trans (hb.mono (by simp)); obtain ⟨r1, r2, r3, r4⟩ := (Two.new w _ _ _).below hb (Nat.le_refl _); have hzz := hb.size; simp only [World.size_alloc] at hzz; clear hb) | (go_at_call 42; refine (NumberOf_at a bt nv _ HD.out HV.out).mono ?_; rintro e w' ⟨rfl, rfl⟩) | (go_at_call 16; refine (FracError_at nv 1 3 _ ⟨by omega, by omega⟩ ⟨by omega, by omega⟩ HC.out).mono ?_; rintro e w2 ⟨rfl, hb2⟩; obtain ⟨u1, u2, u3, u4⟩ := (Two.new w1 _ _ _).below hb2 (Nat.le_refl _); obtain ⟨t1, t2, t3, t4⟩ := ((Two.mk r1 r2 r3 r4).alloc _).below hb2 (Nat.le_refl _); have hw2 := (hw.alloc hw.size _).trans (hb2.mono (by have := hw.size; simp; omega))))
        refine bodyPost_ret (v := .tuple #[.agg #[.int .i64 0, .int .i64 0], .int .i64 3]) (by simp [results, Tryd.results20, go_sem, t1, t2]) rfl ⟨rfl, ?_⟩
        exact (hw2.setCell (Nat.le_refl _) _).setCell (Nat.le_refl _) _
    · have h0' : (0 : Int) < (s.size : Int) := by omega
      rcases chk_cases nv 1 with hc | hc | hc
      · have HC : Hid (chk nv 1 = 0) := hc
        have e : ck nv 1 = ⟨nv, 1, 0⟩ := by unfold ck; rw [if_pos hc]
        rw [e]
        clear e hc
        go_enter Tryd.func20, Tryd.ntmps20
        go_wp2_with (first | (go_at_call 41; refine (CutS1 s a _ hm HP.out).mono ?_; rintro e w1 ⟨g, cap, rfl, hcap, k0, hg, hb⟩; have hw := ((Below.refl w.heap.size w).alloc (Nat.le_refl _) _).trans (hb.mono (by simp)); obtain ⟨r1, r2, r3, r4⟩ := (Two.new w _ _ _).below hb (Nat.le_refl _); have hzz := hb.size; simp only [World.size_alloc] at hzz; clear hb) | (go_at_call 42; refine (NumberOf_at a bt nv _ HD.out HV.out).mono ?_; rintro e w' ⟨rfl, rfl⟩) | (go_at_call 16; refine (FracError_at nv 1 0 _ ⟨by omega, by omega⟩ ⟨by omega, by omega⟩ HC.out).mono ?_; rintro e w2 ⟨rfl, hb2⟩; obtain ⟨u1, u2, u3, u4⟩ := (Two.new w1 _ _ _).below hb2 (Nat.le_refl _); obtain ⟨t1, t2, t3, t4⟩ := ((Two.mk r1 r2 r3 r4).alloc _).below hb2 (Nat.le_refl _); have hw2 := (hw.alloc hw.size _).trans (hb2.mono (by have := hw.size; simp; omega))))
        refine bodyPost_ret (v := .tuple #[.agg #[.int .i64 nv, .int .i64 1], .int .i64 0]) (by simp [results, Tryd.results20, go_sem, t1, t2]) rfl ⟨rfl, ?_⟩
        exact (hw2.setCell (Nat.le_refl _) _).setCell (Nat.le_refl _) _
      · have HC : Hid (chk nv 1 = 2) := hc
        have e : ck nv 1 = ⟨0, 0, 2⟩ := by unfold ck; rw [if_neg (by omega), hc]
        rw [e]
        clear e hc
        go_enter Tryd.func20, Tryd.ntmps20
        go_wp2_with (first | (go_at_call 41; refine (CutS1 s a _ hm HP.out).mono ?_; rintro e w1 ⟨g, cap, rfl, hcap, k0, hg, hb⟩; have hw := ((Below.refl w.heap.size w).alloc (Nat.le_refl _) _).trans (hb.mono (by simp)); obtain ⟨r1, r2, r3, r4⟩ := (Two.new w _ _ _).below hb (Nat.le_refl _); have hzz := hb.size; simp only [World.size_alloc] at hzz; clear hb) | (go_at_call 42; refine (NumberOf_at a bt nv _ HD.out HV.out).mono ?_; rintro e w' ⟨rfl, rfl⟩) | (go_at_call 16; refine (FracError_at nv 1 2 _ ⟨by omega, by omega⟩ ⟨by omega, by omega⟩ HC.out).mono ?_; rintro e w2 ⟨rfl, hb2⟩; obtain ⟨u1, u2, u3, u4⟩ := (Two.new w1 _ _ _).below hb2 (Nat.le_refl _); obtain ⟨t1, t2, t3, t4⟩ := ((Two.mk r1 r2 r3 r4).alloc _).below hb2 (Nat.le_refl _); have hw2 := (hw.alloc hw.size _).trans (hb2.mono (by have := hw.size; simp; omega))))
        refine bodyPost_ret (v := .tuple #[.agg #[.int .i64 0, .int .i64 0], .int .i64 2]) (by simp [results, Tryd.results20, go_sem, t1, t2]) rfl ⟨rfl, ?_⟩
        exact (hw2.setCell (Nat.le_refl _) _).setCell (Nat.le_refl _) _
      · have HC : Hid (chk nv 1 = 3) := hc
        have e : ck nv 1 = ⟨0, 0, 3⟩ := by unfold ck; rw [if_neg (by omega), hc]
        rw [e]
        clear e hc
        go_enter Tryd.func20, Tryd.ntmps20
        go_wp2_with (first | (go_at_call 41; refine (CutS1 s a _ hm HP.out).mono ?_; rintro e w1 ⟨g, cap, rfl, hcap, k0, hg, hb⟩; have hw := ((Below.refl w.heap.size w).alloc (Nat.le_refl _) _).trans (hb.mono (by simp)); obtain ⟨r1, r2, r3, r4⟩ := (Two.new w _ _ _).below hb (Nat.le_refl _); have hzz := hb.size; simp only [World.size_alloc] at hzz; clear hb) | (go_at_call 42; refine (NumberOf_at a bt nv _ HD.out HV.out).mono ?_; rintro e w' ⟨rfl, rfl⟩) | (go_at_call 16; refine (FracError_at nv 1 3 _ ⟨by omega, by omega⟩ ⟨by omega, by omega⟩ HC.out).mono ?_; rintro e w2 ⟨rfl, hb2⟩; obtain ⟨u1, u2, u3, u4⟩ := (Two.new w1 _ _ _).below hb2 (Nat.le_refl _); obtain ⟨t1, t2, t3, t4⟩ := ((Two.mk r1 r2 r3 r4).alloc _).below hb2 (Nat.le_refl _); have hw2 := (hw.alloc hw.size _).trans (hb2.mono (by have := hw.size; simp; omega))))
        refine bodyPost_ret (v := .tuple #[.agg #[.int .i64 0, .int .i64 0], .int .i64 3]) (by simp [results, Tryd.results20, go_sem, t1, t2]) rfl ⟨rfl, ?_⟩
        exact (hw2.setCell (Nat.le_refl _) _).setCell (Nat.le_refl _) _
end Go.Proofs.YtdeahgbjkogjgaaDoor

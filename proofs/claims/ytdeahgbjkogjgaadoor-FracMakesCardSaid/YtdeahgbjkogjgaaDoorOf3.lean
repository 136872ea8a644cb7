/-
  The document's FracOf (leadlightref1), walked by cases of the text.
-/
import Derived.Test.YtdeahgbjkogjgaaDoorOf2
namespace Go.Proofs.YtdeahgbjkogjgaaDoor
open Go.RowKit

set_option maxHeartbeats 8000000 in
theorem of_yes2 (s a t b : ByteArray) (w : World) (hm : s.size ≤ 1000000) (neg : Bool) (hbeg : Begins s a t neg) (hp : pieces 47 s.data.toList = [a.data.toList, b.data.toList]) (bt : Bool) (nv : Int) (hd : digs t.data.toList = bt) (hv : (if bt = true then (val t.data.toList : Int) else -1) = nv) (n0 : 0 ≤ nv) (n2 : nv < 10000000000) (hz : neg = true → (nv == 0) = false) (bd : Bool) (dv : Int) (hdb : digs b.data.toList = bd) (hvb : (if bd = true then (val b.data.toList : Int) else -1) = dv) (d0 : 0 ≤ dv) (d1 : (dv == 1) = false) (d2 : dv < 10000000000) :
    Calls Tryd.prog 20 #[.string s] w fun e w' => e = .returned (.tuple #[.agg #[.int .i64 (ck (if neg = true then -nv else nv) dv).n, .int .i64 (ck (if neg = true then -nv else nv) dv).d], .int .i64 (ck (if neg = true then -nv else nv) dv).c]) ∧ Below w.heap.size w w' := by
  have HP : Hid (pieces 47 s.data.toList = [a.data.toList, b.data.toList]) := hp
  clear hp
  have HD : Hid (digs t.data.toList = bt) := hd
  have HV : Hid ((if bt = true then (val t.data.toList : Int) else -1) = nv) := hv
  clear hd hv
  have HDB : Hid (digs b.data.toList = bd) := hdb
  have HVB : Hid ((if bd = true then (val b.data.toList : Int) else -1) = dv) := hvb
  clear hdb hvb
  cases hbeg with
  | minus h0 h45 ha1 ea =>
    have ha1' : (1 : Int) ≤ (a.size : Int) := by omega
    have h0' : (0 : Int) < (s.size : Int) := by omega
    have hz' := hz rfl
    clear hz
    rw [if_pos rfl]
    rcases chk_cases (-nv) dv with hc | hc | hc
    · have HC : Hid (chk (-nv) dv = 0) := hc
      have e : ck (-nv) dv = ⟨(-nv), dv, 0⟩ := by unfold ck; rw [if_pos hc]
      rw [e]
      clear e hc
      go_enter Tryd.func20, Tryd.ntmps20
      go_wp2_with (first | (go_at_call 41; refine (CutS2 s a b _ hm HP.out).mono ?_; rintro e w1 ⟨g, cap, rfl, hcap, k0, k1, hg, hb⟩; have hw := ((Below.refl w.heap.size w).alloc (Nat.le_refl _) _).trans (hb.mono (by simp)); obtain ⟨r1, r2, r3, r4⟩ := (Two.new w _ _ _).below hb (Nat.le_refl _); have hzz := hb.size; simp only [World.size_alloc] at hzz; clear hb; have k1A : ∀ o, (w1.alloc o).cell? ⟨g, 1, none⟩ = some (.string b) := fun o => (World.cell?_alloc_lt _ _ ⟨g, 1, none⟩ (cell_lt k1)).trans k1; obtain ⟨q1, q2, q3, q4⟩ := two_allA (Two.mk r1 r2 r3 r4)) | (go_at_call_of 42 (Value.string b); refine (NumberOf_at b bd dv _ HDB.out HVB.out).mono ?_; rintro e w' ⟨rfl, rfl⟩) | (go_at_call 42; refine (NumberOf_at t bt nv _ HD.out HV.out).mono ?_; rintro e w' ⟨rfl, rfl⟩) | (go_at_call 16; refine (FracError_at (-nv) dv 0 _ ⟨by omega, by omega⟩ ⟨by omega, by omega⟩ HC.out).mono ?_; rintro e w2 ⟨rfl, hb2⟩; obtain ⟨u1, u2, u3, u4⟩ := (Two.new w1 _ _ _).below hb2 (Nat.le_refl _); obtain ⟨t1, t2, t3, t4⟩ := ((Two.mk r1 r2 r3 r4).alloc _).below hb2 (Nat.le_refl _); have hw2 := (hw.alloc hw.size _).trans (hb2.mono (by have := hw.size; simp; omega))))
      refine bodyPost_ret (v := .tuple #[.agg #[.int .i64 (-nv), .int .i64 dv], .int .i64 0]) (by simp [results, Tryd.results20, go_sem, t1, t2]) rfl ⟨rfl, ?_⟩
      exact (hw2.setCell (Nat.le_refl _) _).setCell (Nat.le_refl _) _
    · have HC : Hid (chk (-nv) dv = 2) := hc
      have e : ck (-nv) dv = ⟨0, 0, 2⟩ := by unfold ck; rw [if_neg (by omega), hc]
      rw [e]
      clear e hc
      go_enter Tryd.func20, Tryd.ntmps20
      go_wp2_with (first | (go_at_call 41; refine (CutS2 s a b _ hm HP.out).mono ?_; rintro e w1 ⟨g, cap, rfl, hcap, k0, k1, hg, hb⟩; have hw := ((Below.refl w.heap.size w).alloc (Nat.le_refl _) _).trans (hb.mono (by simp)); obtain ⟨r1, r2, r3, r4⟩ := (Two.new w _ _ _).below hb (Nat.le_refl _); have hzz := hb.size; simp only [World.size_alloc] at hzz; clear hb; have k1A : ∀ o, (w1.alloc o).cell? ⟨g, 1, none⟩ = some (.string b) := fun o => (World.cell?_alloc_lt _ _ ⟨g, 1, none⟩ (cell_lt k1)).trans k1; obtain ⟨q1, q2, q3, q4⟩ := two_allA (Two.mk r1 r2 r3 r4)) | (go_at_call_of 42 (Value.string b); refine (NumberOf_at b bd dv _ HDB.out HVB.out).mono ?_; rintro e w' ⟨rfl, rfl⟩) | (go_at_call 42; refine (NumberOf_at t bt nv _ HD.out HV.out).mono ?_; rintro e w' ⟨rfl, rfl⟩) | (go_at_call 16; refine (FracError_at (-nv) dv 2 _ ⟨by omega, by omega⟩ ⟨by omega, by omega⟩ HC.out).mono ?_; rintro e w2 ⟨rfl, hb2⟩; obtain ⟨u1, u2, u3, u4⟩ := (Two.new w1 _ _ _).below hb2 (Nat.le_refl _); obtain ⟨t1, t2, t3, t4⟩ := ((Two.mk r1 r2 r3 r4).alloc _).below hb2 (Nat.le_refl _); have hw2 := (hw.alloc hw.size _).trans (hb2.mono (by have := hw.size; simp; omega))))
      refine bodyPost_ret (v := .tuple #[.agg #[.int .i64 0, .int .i64 0], .int .i64 2]) (by simp [results, Tryd.results20, go_sem, t1, t2]) rfl ⟨rfl, ?_⟩
      exact (hw2.setCell (Nat.le_refl _) _).setCell (Nat.le_refl _) _
    · have HC : Hid (chk (-nv) dv = 3) := hc
      have e : ck (-nv) dv = ⟨0, 0, 3⟩ := by unfold ck; rw [if_neg (by omega), hc]
      rw [e]
      clear e hc
      go_enter Tryd.func20, Tryd.ntmps20
      go_wp2_with (first | (go_at_call 41; refine (CutS2 s a b _ hm HP.out).mono ?_; rintro e w1 ⟨g, cap, rfl, hcap, k0, k1, hg, hb⟩; have hw := ((Below.refl w.heap.size w).alloc (Nat.le_refl _) _).trans (hb.mono (by simp)); obtain ⟨r1, r2, r3, r4⟩ := (Two.new w _ _ _).below hb (Nat.le_refl _); have hzz := hb.size; simp only [World.size_alloc] at hzz; clear hb; have k1A : ∀ o, (w1.alloc o).cell? ⟨g, 1, none⟩ = some (.string b) := fun o => (World.cell?_alloc_lt _ _ ⟨g, 1, none⟩ (cell_lt k1)).trans k1; obtain ⟨q1, q2, q3, q4⟩ := two_allA (Two.mk r1 r2 r3 r4)) | (go_at_call_of 42 (Value.string b); refine (NumberOf_at b bd dv _ HDB.out HVB.out).mono ?_; rintro e w' ⟨rfl, rfl⟩) | (go_at_call 42; refine (NumberOf_at t bt nv _ HD.out HV.out).mono ?_; rintro e w' ⟨rfl, rfl⟩) | (go_at_call 16; refine (FracError_at (-nv) dv 3 _ ⟨by omega, by omega⟩ ⟨by omega, by omega⟩ HC.out).mono ?_; rintro e w2 ⟨rfl, hb2⟩; obtain ⟨u1, u2, u3, u4⟩ := (Two.new w1 _ _ _).below hb2 (Nat.le_refl _); obtain ⟨t1, t2, t3, t4⟩ := ((Two.mk r1 r2 r3 r4).alloc _).below hb2 (Nat.le_refl _); have hw2 := (hw.alloc hw.size _).trans (hb2.mono (by have := hw.size; simp; omega))))
      refine bodyPost_ret (v := .tuple #[.agg #[.int .i64 0, .int .i64 0], .int .i64 3]) (by simp [results, Tryd.results20, go_sem, t1, t2]) rfl ⟨rfl, ?_⟩
      exact (hw2.setCell (Nat.le_refl _) _).setCell (Nat.le_refl _) _
  | none hh ea =>
    subst ea
    clear hz
    rw [if_neg (by simp)]
    rcases hh with h0 | ⟨h0, h45⟩
    · have h0' : (s.size : Int) = 0 := by omega
      rcases chk_cases nv dv with hc | hc | hc
      · have HC : Hid (chk nv dv = 0) := hc
        have e : ck nv dv = ⟨nv, dv, 0⟩ := by unfold ck; rw [if_pos hc]
        rw [e]
        clear e hc
        go_enter Tryd.func20, Tryd.ntmps20
        go_wp2_with (first | (go_at_call 41; refine (CutS2 s a b _ hm HP.out).mono ?_; rintro e w1 ⟨g, cap, rfl, hcap, k0, k1, hg, hb⟩; have hw := ((Below.refl w.heap.size w).alloc (Nat.le_refl _) _).trans (hb.mono (by simp)); obtain ⟨r1, r2, r3, r4⟩ := (Two.new w _ _ _).below hb (Nat.le_refl _); have hzz := hb.size; simp only [World.size_alloc] at hzz; clear hb; have k1A : ∀ o, (w1.alloc o).cell? ⟨g, 1, none⟩ = some (.string b) := fun o => (World.cell?_alloc_lt _ _ ⟨g, 1, none⟩ (cell_lt k1)).trans k1; obtain ⟨q1, q2, q3, q4⟩ := two_allA (Two.mk r1 r2 r3 r4)) | (go_at_call_of 42 (Value.string b); refine (NumberOf_at b bd dv _ HDB.out HVB.out).mono ?_; rintro e w' ⟨rfl, rfl⟩) | (go_at_call 42; refine (NumberOf_at a bt nv _ HD.out HV.out).mono ?_; rintro e w' ⟨rfl, rfl⟩) | (go_at_call 16; refine (FracError_at nv dv 0 _ ⟨by omega, by omega⟩ ⟨by omega, by omega⟩ HC.out).mono ?_; rintro e w2 ⟨rfl, hb2⟩; obtain ⟨u1, u2, u3, u4⟩ := (Two.new w1 _ _ _).below hb2 (Nat.le_refl _); obtain ⟨t1, t2, t3, t4⟩ := ((Two.mk r1 r2 r3 r4).alloc _).below hb2 (Nat.le_refl _); have hw2 := (hw.alloc hw.size _).trans (hb2.mono (by have := hw.size; simp; omega))))
        refine bodyPost_ret (v := .tuple #[.agg #[.int .i64 nv, .int .i64 dv], .int .i64 0]) (by simp [results, Tryd.results20, go_sem, t1, t2]) rfl ⟨rfl, ?_⟩
        exact (hw2.setCell (Nat.le_refl _) _).setCell (Nat.le_refl _) _
      · have HC : Hid (chk nv dv = 2) := hc
        have e : ck nv dv = ⟨0, 0, 2⟩ := by unfold ck; rw [if_neg (by omega), hc]
        rw [e]
        clear e hc
        go_enter Tryd.func20, Tryd.ntmps20
        go_wp2_with (first | (go_at_call 41; refine (CutS2 s a b _ hm HP.out).mono ?_; rintro e w1 ⟨g, cap, rfl, hcap, k0, k1, hg, hb⟩; have hw := ((Below.refl w.heap.size w).alloc (Nat.le_refl _) _).trans (hb.mono (by simp)); obtain ⟨r1, r2, r3, r4⟩ := (Two.new w _ _ _).below hb (Nat.le_refl _); have hzz := hb.size; simp only [World.size_alloc] at hzz; clear hb; have k1A : ∀ o, (w1.alloc o).cell? ⟨g, 1, none⟩ = some (.string b) := fun o => (World.cell?_alloc_lt _ _ ⟨g, 1, none⟩ (cell_lt k1)).trans k1; obtain ⟨q1, q2, q3, q4⟩ := two_allA (Two.mk r1 r2 r3 r4)) | (go_at_call_of 42 (Value.string b); refine (NumberOf_at b bd dv _ HDB.out HVB.out).mono ?_; rintro e w' ⟨rfl, rfl⟩) | (go_at_call 42; refine (NumberOf_at a bt nv _ HD.out HV.out).mono ?_; rintro e w' ⟨rfl, rfl⟩) | (go_at_call 16; refine (FracError_at nv dv 2 _ ⟨by omega, by omega⟩ ⟨by omega, by omega⟩ HC.out).mono ?_; rintro e w2 ⟨rfl, hb2⟩; obtain ⟨u1, u2, u3, u4⟩ := (Two.new w1 _ _ _).below hb2 (Nat.le_refl _); obtain ⟨t1, t2, t3, t4⟩ := ((Two.mk r1 r2 r3 r4).alloc _).below hb2 (Nat.le_refl _); have hw2 := (hw.alloc hw.size _).trans (hb2.mono (by have := hw.size; simp; omega))))
        refine bodyPost_ret (v := .tuple #[.agg #[.int .i64 0, .int .i64 0], .int .i64 2]) (by simp [results, Tryd.results20, go_sem, t1, t2]) rfl ⟨rfl, ?_⟩
        exact (hw2.setCell (Nat.le_refl _) _).setCell (Nat.le_refl _) _
      · have HC : Hid (chk nv dv = 3) := hc
        have e : ck nv dv = ⟨0, 0, 3⟩ := by unfold ck; rw [if_neg (by omega), hc]
        rw [e]
        clear e hc
        go_enter Tryd.func20, Tryd.ntmps20
        go_wp2_with (first | (go_at_call 41; refine (CutS2 s a b _ hm HP.out).mono ?_; rintro e w1 ⟨g, cap, rfl, hcap, k0, k1, hg, hb⟩; have hw := ((Below.refl w.heap.size w).alloc (Nat.le_refl _) _).trans (hb.mono (by simp)); obtain ⟨r1, r2, r3, r4⟩ := (Two.new w _ _ _).below hb (Nat.le_refl _); have hzz := hb.size; simp only [World.size_alloc] at hzz; clear hb; have k1A : ∀ o, (w1.alloc o).cell? ⟨g, 1, none⟩ = some (.string b) := fun o => (World.cell?_alloc_lt _ _ ⟨g, 1, none⟩ (cell_lt k1)).trans k1; obtain ⟨q1, q2, q3, q4⟩ := two_allA (Two.mk r1 r2 r3 r4)) | (go_at_call_of 42 (Value.string b); refine (NumberOf_at b bd dv _ HDB.out HVB.out).mono ?_; rintro e w' ⟨rfl, rfl⟩) | (go_at_call 42; refine (NumberOf_at a bt nv _ HD.out HV.out).mono ?_; rintro e w' ⟨rfl, rfl⟩) | (go_at_call 16; refine (FracError_at nv dv 3 _ ⟨by omega, by omega⟩ ⟨by omega, by omega⟩ HC.out).mono ?_; rintro e w2 ⟨rfl, hb2⟩; obtain ⟨u1, u2, u3, u4⟩ := (Two.new w1 _ _ _).below hb2 (Nat.le_refl _); obtain ⟨t1, t2, t3, t4⟩ := ((Two.mk r1 r2 r3 r4).alloc _).below hb2 (Nat.le_refl _); have hw2 := (hw.alloc hw.size _).trans (hb2.mono (by have := hw.size; simp; omega))))
        refine bodyPost_ret (v := .tuple #[.agg #[.int .i64 0, .int .i64 0], .int .i64 3]) (by simp [results, Tryd.results20, go_sem, t1, t2]) rfl ⟨rfl, ?_⟩
        exact (hw2.setCell (Nat.le_refl _) _).setCell (Nat.le_refl _) _
    · have h0' : (0 : Int) < (s.size : Int) := by omega
      rcases chk_cases nv dv with hc | hc | hc
      · have HC : Hid (chk nv dv = 0) := hc
        have e : ck nv dv = ⟨nv, dv, 0⟩ := by unfold ck; rw [if_pos hc]
        rw [e]
        clear e hc
        go_enter Tryd.func20, Tryd.ntmps20
        go_wp2_with (first | (go_at_call 41; refine (CutS2 s a b _ hm HP.out).mono ?_; rintro e w1 ⟨g, cap, rfl, hcap, k0, k1, hg, hb⟩; have hw := ((Below.refl w.heap.size w).alloc (Nat.le_refl _) _).trans (hb.mono (by simp)); obtain ⟨r1, r2, r3, r4⟩ := (Two.new w _ _ _).below hb (Nat.le_refl _); have hzz := hb.size; simp only [World.size_alloc] at hzz; clear hb; have k1A : ∀ o, (w1.alloc o).cell? ⟨g, 1, none⟩ = some (.string b) := fun o => (World.cell?_alloc_lt _ _ ⟨g, 1, none⟩ (cell_lt k1)).trans k1; obtain ⟨q1, q2, q3, q4⟩ := two_allA (Two.mk r1 r2 r3 r4)) | (go_at_call_of 42 (Value.string b); refine (NumberOf_at b bd dv _ HDB.out HVB.out).mono ?_; rintro e w' ⟨rfl, rfl⟩) | (go_at_call 42; refine (NumberOf_at a bt nv _ HD.out HV.out).mono ?_; rintro e w' ⟨rfl, rfl⟩) | (go_at_call 16; refine (FracError_at nv dv 0 _ ⟨by omega, by omega⟩ ⟨by omega, by omega⟩ HC.out).mono ?_; rintro e w2 ⟨rfl, hb2⟩; obtain ⟨u1, u2, u3, u4⟩ := (Two.new w1 _ _ _).below hb2 (Nat.le_refl _); obtain ⟨t1, t2, t3, t4⟩ := ((Two.mk r1 r2 r3 r4).alloc _).below hb2 (Nat.le_refl _); have hw2 := (hw.alloc hw.size _).trans (hb2.mono (by have := hw.size; simp; omega))))
        refine bodyPost_ret (v := .tuple #[.agg #[.int .i64 nv, .int .i64 dv], .int .i64 0]) (by simp [results, Tryd.results20, go_sem, t1, t2]) rfl ⟨rfl, ?_⟩
        exact (hw2.setCell (Nat.le_refl _) _).setCell (Nat.le_refl _) _
      · have HC : Hid (chk nv dv = 2) := hc
        have e : ck nv dv = ⟨0, 0, 2⟩ := by unfold ck; rw [if_neg (by omega), hc]
        rw [e]
        clear e hc
        go_enter Tryd.func20, Tryd.ntmps20
        go_wp2_with (first | (go_at_call 41; refine (CutS2 s a b _ hm HP.out).mono ?_; rintro e w1 ⟨g, cap, rfl, hcap, k0, k1, hg, hb⟩; have hw := ((Below.refl w.heap.size w).alloc (Nat.le_refl _) _).trans (hb.mono (by simp)); obtain ⟨r1, r2, r3, r4⟩ := (Two.new w _ _ _).below hb (Nat.le_refl _); have hzz := hb.size; simp only [World.size_alloc] at hzz; clear hb; have k1A : ∀ o, (w1.alloc o).cell? ⟨g, 1, none⟩ = some (.string b) := fun o => (World.cell?_alloc_lt _ _ ⟨g, 1, none⟩ (cell_lt k1)).trans k1; obtain ⟨q1, q2, q3, q4⟩ := two_allA (Two.mk r1 r2 r3 r4)) | (go_at_call_of 42 (Value.string b); refine (NumberOf_at b bd dv _ HDB.out HVB.out).mono ?_; rintro e w' ⟨rfl, rfl⟩) | (go_at_call 42; refine (NumberOf_at a bt nv _ HD.out HV.out).mono ?_; rintro e w' ⟨rfl, rfl⟩) | (go_at_call 16; refine (FracError_at nv dv 2 _ ⟨by omega, by omega⟩ ⟨by omega, by omega⟩ HC.out).mono ?_; rintro e w2 ⟨rfl, hb2⟩; obtain ⟨u1, u2, u3, u4⟩ := (Two.new w1 _ _ _).below hb2 (Nat.le_refl _); obtain ⟨t1, t2, t3, t4⟩ := ((Two.mk r1 r2 r3 r4).alloc _).below hb2 (Nat.le_refl _); have hw2 := (hw.alloc hw.size _).trans (hb2.mono (by have := hw.size; simp; omega))))
        refine bodyPost_ret (v := .tuple #[.agg #[.int .i64 0, .int .i64 0], .int .i64 2]) (by simp [results, Tryd.results20, go_sem, t1, t2]) rfl ⟨rfl, ?_⟩
        exact (hw2.setCell (Nat.le_refl _) _).setCell (Nat.le_refl _) _
      · have HC : Hid (chk nv dv = 3) := hc
        have e : ck nv dv = ⟨0, 0, 3⟩ := by unfold ck; rw [if_neg (by omega), hc]
        rw [e]
        clear e hc
        go_enter Tryd.func20, Tryd.ntmps20
        go_wp2_with (first | (go_at_call 41; refine (CutS2 s a b _ hm HP.out).mono ?_; rintro e w1 ⟨g, cap, rfl, hcap, k0, k1, hg, hb⟩; have hw := ((Below.refl w.heap.size w).alloc (Nat.le_refl _) _).trans (hb.mono (by simp)); obtain ⟨r1, r2, r3, r4⟩ := (Two.new w _ _ _).below hb (Nat.le_refl _); have hzz := hb.size; simp only [World.size_alloc] at hzz; clear hb; have k1A : ∀ o, (w1.alloc o).cell? ⟨g, 1, none⟩ = some (.string b) := fun o => (World.cell?_alloc_lt _ _ ⟨g, 1, none⟩ (cell_lt k1)).trans k1; obtain ⟨q1, q2, q3, q4⟩ := two_allA (Two.mk r1 r2 r3 r4)) | (go_at_call_of 42 (Value.string b); refine (NumberOf_at b bd dv _ HDB.out HVB.out).mono ?_; rintro e w' ⟨rfl, rfl⟩) | (go_at_call 42; refine (NumberOf_at a bt nv _ HD.out HV.out).mono ?_; rintro e w' ⟨rfl, rfl⟩) | (go_at_call 16; refine (FracError_at nv dv 3 _ ⟨by omega, by omega⟩ ⟨by omega, by omega⟩ HC.out).mono ?_; rintro e w2 ⟨rfl, hb2⟩; obtain ⟨u1, u2, u3, u4⟩ := (Two.new w1 _ _ _).below hb2 (Nat.le_refl _); obtain ⟨t1, t2, t3, t4⟩ := ((Two.mk r1 r2 r3 r4).alloc _).below hb2 (Nat.le_refl _); have hw2 := (hw.alloc hw.size _).trans (hb2.mono (by have := hw.size; simp; omega))))
        refine bodyPost_ret (v := .tuple #[.agg #[.int .i64 0, .int .i64 0], .int .i64 3]) (by simp [results, Tryd.results20, go_sem, t1, t2]) rfl ⟨rfl, ?_⟩
        exact (hw2.setCell (Nat.le_refl _) _).setCell (Nat.le_refl _) _

set_option maxHeartbeats 8000000 in
theorem of_den (s a t b : ByteArray) (w : World) (hm : s.size ≤ 1000000) (neg : Bool) (hbeg : Begins s a t neg) (hp : pieces 47 s.data.toList = [a.data.toList, b.data.toList]) (bt : Bool) (nv : Int) (hd : digs t.data.toList = bt) (hv : (if bt = true then (val t.data.toList : Int) else -1) = nv) (n0 : 0 ≤ nv) (n2 : nv < 10000000000) (hz : neg = true → (nv == 0) = false) (bd : Bool) (dv : Int) (hdb : digs b.data.toList = bd) (hvb : (if bd = true then (val b.data.toList : Int) else -1) = dv) (hbad : dv < 0 ∨ dv = 1) :
    Calls Tryd.prog 20 #[.string s] w fun e w' => e = .returned (.tuple #[.agg #[.int .i64 (⟨0, 0, 1⟩ : R3).n, .int .i64 (⟨0, 0, 1⟩ : R3).d], .int .i64 (⟨0, 0, 1⟩ : R3).c]) ∧ Below w.heap.size w w' := by
  have HP : Hid (pieces 47 s.data.toList = [a.data.toList, b.data.toList]) := hp
  clear hp
  have HD : Hid (digs t.data.toList = bt) := hd
  have HV : Hid ((if bt = true then (val t.data.toList : Int) else -1) = nv) := hv
  clear hd hv
  have HDB : Hid (digs b.data.toList = bd) := hdb
  have HVB : Hid ((if bd = true then (val b.data.toList : Int) else -1) = dv) := hvb
  clear hdb hvb
  cases hbeg with
  | minus h0 h45 ha1 ea =>
    have ha1' : (1 : Int) ≤ (a.size : Int) := by omega
    have h0' : (0 : Int) < (s.size : Int) := by omega
    have hz' := hz rfl
    clear hz
    rcases hbad with hbad | rfl
    · skip
      go_enter Tryd.func20, Tryd.ntmps20
      go_wp2_with (first | (go_at_call 41; refine (CutS2 s a b _ hm HP.out).mono ?_; rintro e w1 ⟨g, cap, rfl, hcap, k0, k1, hg, hb⟩; have hw := ((Below.refl w.heap.size w).alloc (Nat.le_refl _) _).trans (hb.mono (by simp)); obtain ⟨r1, r2, r3, r4⟩ := (Two.new w _ _ _).below hb (Nat.le_refl _); have hzz := hb.size; simp only [World.size_alloc] at hzz; clear hb; have k1A : ∀ o, (w1.alloc o).cell? ⟨g, 1, none⟩ = some (.string b) := fun o => (World.cell?_alloc_lt _ _ ⟨g, 1, none⟩ (cell_lt k1)).trans k1; obtain ⟨q1, q2, q3, q4⟩ := two_allA (Two.mk r1 r2 r3 r4)) | (go_at_call_of 42 (Value.string b); refine (NumberOf_at b bd dv _ HDB.out HVB.out).mono ?_; rintro e w' ⟨rfl, rfl⟩) | (go_at_call 42; refine (NumberOf_at t bt nv _ HD.out HV.out).mono ?_; rintro e w' ⟨rfl, rfl⟩))
      refine bodyPost_ret (v := .tuple #[.agg #[.int .i64 0, .int .i64 0], .int .i64 1]) (by simp [results, Tryd.results20, go_sem, q1, q2]) rfl ⟨rfl, ?_⟩
      first | exact ((hw.setCell (Nat.le_refl _) _).setCell (Nat.le_refl _) _).alloc (by simp [World.setCell]; have := hw.size; omega) _ | exact ((hw.alloc hw.size _).setCell (Nat.le_refl _) _).setCell (Nat.le_refl _) _
    · skip
      go_enter Tryd.func20, Tryd.ntmps20
      go_wp2_with (first | (go_at_call 41; refine (CutS2 s a b _ hm HP.out).mono ?_; rintro e w1 ⟨g, cap, rfl, hcap, k0, k1, hg, hb⟩; have hw := ((Below.refl w.heap.size w).alloc (Nat.le_refl _) _).trans (hb.mono (by simp)); obtain ⟨r1, r2, r3, r4⟩ := (Two.new w _ _ _).below hb (Nat.le_refl _); have hzz := hb.size; simp only [World.size_alloc] at hzz; clear hb; have k1A : ∀ o, (w1.alloc o).cell? ⟨g, 1, none⟩ = some (.string b) := fun o => (World.cell?_alloc_lt _ _ ⟨g, 1, none⟩ (cell_lt k1)).trans k1; obtain ⟨q1, q2, q3, q4⟩ := two_allA (Two.mk r1 r2 r3 r4)) | (go_at_call_of 42 (Value.string b); refine (NumberOf_at b bd 1 _ HDB.out HVB.out).mono ?_; rintro e w' ⟨rfl, rfl⟩) | (go_at_call 42; refine (NumberOf_at t bt nv _ HD.out HV.out).mono ?_; rintro e w' ⟨rfl, rfl⟩))
      refine bodyPost_ret (v := .tuple #[.agg #[.int .i64 0, .int .i64 0], .int .i64 1]) (by simp [results, Tryd.results20, go_sem, q1, q2]) rfl ⟨rfl, ?_⟩
      first | exact ((hw.setCell (Nat.le_refl _) _).setCell (Nat.le_refl _) _).alloc (by simp [World.setCell]; have := hw.size; omega) _ | exact ((hw.alloc hw.size _).setCell (Nat.le_refl _) _).setCell (Nat.le_refl _) _
  | none hh ea =>
    subst ea
    clear hz
    rcases hh with h0 | ⟨h0, h45⟩
    · have h0' : (s.size : Int) = 0 := by omega
      rcases hbad with hbad | rfl
      · skip
        go_enter Tryd.func20, Tryd.ntmps20
        go_wp2_with (first | (go_at_call 41; refine (CutS2 s a b _ hm HP.out).mono ?_; rintro e w1 ⟨g, cap, rfl, hcap, k0, k1, hg, hb⟩; have hw := ((Below.refl w.heap.size w).alloc (Nat.le_refl _) _).trans (hb.mono (by simp)); obtain ⟨r1, r2, r3, r4⟩ := (Two.new w _ _ _).below hb (Nat.le_refl _); have hzz := hb.size; simp only [World.size_alloc] at hzz; clear hb; have k1A : ∀ o, (w1.alloc o).cell? ⟨g, 1, none⟩ = some (.string b) := fun o => (World.cell?_alloc_lt _ _ ⟨g, 1, none⟩ (cell_lt k1)).trans k1; obtain ⟨q1, q2, q3, q4⟩ := two_allA (Two.mk r1 r2 r3 r4)) | (go_at_call_of 42 (Value.string b); refine (NumberOf_at b bd dv _ HDB.out HVB.out).mono ?_; rintro e w' ⟨rfl, rfl⟩) | (go_at_call 42; refine (NumberOf_at a bt nv _ HD.out HV.out).mono ?_; rintro e w' ⟨rfl, rfl⟩))
        refine bodyPost_ret (v := .tuple #[.agg #[.int .i64 0, .int .i64 0], .int .i64 1]) (by simp [results, Tryd.results20, go_sem, q1, q2]) rfl ⟨rfl, ?_⟩
        first | exact ((hw.setCell (Nat.le_refl _) _).setCell (Nat.le_refl _) _).alloc (by simp [World.setCell]; have := hw.size; omega) _ | exact ((hw.alloc hw.size _).setCell (Nat.le_refl _) _).setCell (Nat.le_refl _) _
      · skip
        go_enter Tryd.func20, Tryd.ntmps20
        go_wp2_with (first | (go_at_call 41; refine (CutS2 s a b _ hm HP.out).mono ?_; rintro e w1 ⟨g, cap, rfl, hcap, k0, k1, hg, hb⟩; have hw := ((Below.refl w.heap.size w).alloc (Nat.le_refl _) _).trans (hb.mono (by simp)); obtain ⟨r1, r2, r3, r4⟩ := (Two.new w _ _ _).below hb (Nat.le_refl _); have hzz := hb.size; simp only [World.size_alloc] at hzz; clear hb; have k1A : ∀ o, (w1.alloc o).cell? ⟨g, 1, none⟩ = some (.string b) := fun o => (World.cell?_alloc_lt _ _ ⟨g, 1, none⟩ (cell_lt k1)).trans k1; obtain ⟨q1, q2, q3, q4⟩ := two_allA (Two.mk r1 r2 r3 r4)) | (go_at_call_of 42 (Value.string b); refine (NumberOf_at b bd 1 _ HDB.out HVB.out).mono ?_; rintro e w' ⟨rfl, rfl⟩) | (go_at_call 42; refine (NumberOf_at a bt nv _ HD.out HV.out).mono ?_; rintro e w' ⟨rfl, rfl⟩))
        refine bodyPost_ret (v := .tuple #[.agg #[.int .i64 0, .int .i64 0], .int .i64 1]) (by simp [results, Tryd.results20, go_sem, q1, q2]) rfl ⟨rfl, ?_⟩
        first | exact ((hw.setCell (Nat.le_refl _) _).setCell (Nat.le_refl _) _).alloc (by simp [World.setCell]; have := hw.size; omega) _ | exact ((hw.alloc hw.size _).setCell (Nat.le_refl _) _).setCell (Nat.le_refl _) _
    · have h0' : (0 : Int) < (s.size : Int) := by omega
      rcases hbad with hbad | rfl
      · skip
        go_enter Tryd.func20, Tryd.ntmps20
        go_wp2_with (first | (go_at_call 41; refine (CutS2 s a b _ hm HP.out).mono ?_; rintro e w1 ⟨g, cap, rfl, hcap, k0, k1, hg, hb⟩; have hw := ((Below.refl w.heap.size w).alloc (Nat.le_refl _) _).trans (hb.mono (by simp)); obtain ⟨r1, r2, r3, r4⟩ := (Two.new w _ _ _).below hb (Nat.le_refl _); have hzz := hb.size; simp only [World.size_alloc] at hzz; clear hb; have k1A : ∀ o, (w1.alloc o).cell? ⟨g, 1, none⟩ = some (.string b) := fun o => (World.cell?_alloc_lt _ _ ⟨g, 1, none⟩ (cell_lt k1)).trans k1; obtain ⟨q1, q2, q3, q4⟩ := two_allA (Two.mk r1 r2 r3 r4)) | (go_at_call_of 42 (Value.string b); refine (NumberOf_at b bd dv _ HDB.out HVB.out).mono ?_; rintro e w' ⟨rfl, rfl⟩) | (go_at_call 42; refine (NumberOf_at a bt nv _ HD.out HV.out).mono ?_; rintro e w' ⟨rfl, rfl⟩))
        refine bodyPost_ret (v := .tuple #[.agg #[.int .i64 0, .int .i64 0], .int .i64 1]) (by simp [results, Tryd.results20, go_sem, q1, q2]) rfl ⟨rfl, ?_⟩
        first | exact ((hw.setCell (Nat.le_refl _) _).setCell (Nat.le_refl _) _).alloc (by simp [World.setCell]; have := hw.size; omega) _ | exact ((hw.alloc hw.size _).setCell (Nat.le_refl _) _).setCell (Nat.le_refl _) _
      · skip
        go_enter Tryd.func20, Tryd.ntmps20
        go_wp2_with (first | (go_at_call 41; refine (CutS2 s a b _ hm HP.out).mono ?_; rintro e w1 ⟨g, cap, rfl, hcap, k0, k1, hg, hb⟩; have hw := ((Below.refl w.heap.size w).alloc (Nat.le_refl _) _).trans (hb.mono (by simp)); obtain ⟨r1, r2, r3, r4⟩ := (Two.new w _ _ _).below hb (Nat.le_refl _); have hzz := hb.size; simp only [World.size_alloc] at hzz; clear hb; have k1A : ∀ o, (w1.alloc o).cell? ⟨g, 1, none⟩ = some (.string b) := fun o => (World.cell?_alloc_lt _ _ ⟨g, 1, none⟩ (cell_lt k1)).trans k1; obtain ⟨q1, q2, q3, q4⟩ := two_allA (Two.mk r1 r2 r3 r4)) | (go_at_call_of 42 (Value.string b); refine (NumberOf_at b bd 1 _ HDB.out HVB.out).mono ?_; rintro e w' ⟨rfl, rfl⟩) | (go_at_call 42; refine (NumberOf_at a bt nv _ HD.out HV.out).mono ?_; rintro e w' ⟨rfl, rfl⟩))
        refine bodyPost_ret (v := .tuple #[.agg #[.int .i64 0, .int .i64 0], .int .i64 1]) (by simp [results, Tryd.results20, go_sem, q1, q2]) rfl ⟨rfl, ?_⟩
        first | exact ((hw.setCell (Nat.le_refl _) _).setCell (Nat.le_refl _) _).alloc (by simp [World.setCell]; have := hw.size; omega) _ | exact ((hw.alloc hw.size _).setCell (Nat.le_refl _) _).setCell (Nat.le_refl _) _

set_option maxHeartbeats 400000 in
theorem of_three (s : ByteArray) (w : World) (hm : s.size ≤ 1000000) (hp : 3 ≤ (pieces 47 s.data.toList).length) :
    Calls Tryd.prog 20 #[.string s] w fun e w' => e = .returned (.tuple #[.agg #[.int .i64 (⟨0, 0, 1⟩ : R3).n, .int .i64 (⟨0, 0, 1⟩ : R3).d], .int .i64 (⟨0, 0, 1⟩ : R3).c]) ∧ Below w.heap.size w w' := by
  have HP : Hid (3 ≤ (pieces 47 s.data.toList).length) := hp
  clear hp
  go_enter Tryd.func20, Tryd.ntmps20
  go_wp2_with (go_at_call 41; refine (CutS3 s _ hm HP.out).mono ?_; rintro e w1 ⟨g, n, cap, rfl, hn, hb⟩; have hn' : (2 : Int) < (n : Int) := (by omega); have hw := ((Below.refl w.heap.size w).alloc (Nat.le_refl _) _).trans (hb.mono (by simp)); obtain ⟨r1, r2, r3, r4⟩ := (Two.new w _ _ _).below hb (Nat.le_refl _); clear hb)
  refine bodyPost_ret (v := .tuple #[.agg #[.int .i64 0, .int .i64 0], .int .i64 1]) (by simp [results, Tryd.results20, go_sem, r1, r2]) rfl ⟨rfl, ?_⟩
  exact (hw.setCell (Nat.le_refl _) _).setCell (Nat.le_refl _) _

theorem FracOf_any (s : ByteArray) (w : World) (hm : s.size ≤ 1000000) :
    Calls Tryd.prog 20 #[.string s] w fun e w' => e = .returned (.tuple #[.agg #[.int .i64 (rd s.data.toList).n, .int .i64 (rd s.data.toList).d], .int .i64 (rd s.data.toList).c]) ∧ Below w.heap.size w w' := by
  obtain ⟨a, ha⟩ : ∃ a : ByteArray, ahead 47 s.data.toList = a.data.toList := ⟨⟨(ahead 47 s.data.toList).toArray⟩, by simp⟩
  obtain ⟨t, ht⟩ : ∃ t : ByteArray, Lib.trimPrefix a.data.toList [45] = t.data.toList := ⟨⟨(Lib.trimPrefix a.data.toList [45]).toArray⟩, by simp⟩
  have hbeg := begins s a t ha ht
  obtain ⟨neg, hn⟩ : ∃ neg, Lib.hasPrefix a.data.toList [45] = neg := ⟨_, rfl⟩
  rw [hn] at hbeg
  obtain ⟨bt, hd⟩ : ∃ bt, digs t.data.toList = bt := ⟨_, rfl⟩
  obtain ⟨nv, hv⟩ : ∃ nv : Int, (if bt = true then (val t.data.toList : Int) else -1) = nv := ⟨_, rfl⟩
  have hnum : (numTxt a.data.toList = none ∧ (nv < 0 ∨ neg = true ∧ nv = 0)) ∨ (numTxt a.data.toList = some (if neg = true then -nv else nv) ∧ 0 ≤ nv ∧ nv < 10000000000 ∧ (neg = true → (nv == 0) = false)) := by
    unfold numTxt
    rw [ht, hn, hd]
    cases bt with
    | false =>
      rw [if_neg (by simp)] at hv ⊢
      exact Or.inl ⟨rfl, Or.inl (by omega)⟩
    | true =>
      rw [if_pos rfl] at hv
      have hb := digs_bound hd
      by_cases hz : neg = true ∧ val t.data.toList = 0
      · rw [if_neg (by rintro ⟨_, h⟩; exact h hz)]
        exact Or.inl ⟨rfl, Or.inr ⟨hz.1, by omega⟩⟩
      · rw [if_pos ⟨rfl, hz⟩, hv]
        refine Or.inr ⟨rfl, by omega, by omega, fun h => ?_⟩
        rw [beq_eq_false_iff_ne]
        exact fun e => hz ⟨h, by omega⟩
  cases hb : behind 47 s.data.toList with
  | none =>
    have hp := pieces_of_none hb
    rw [show s.data.toList = a.data.toList from (index_none 47 _ hb).2.symm.trans ha] at hp
    have hp' : pieces 47 s.data.toList = [a.data.toList] := by rw [show s.data.toList = a.data.toList from (index_none 47 _ hb).2.symm.trans ha]; exact hp
    rcases hnum with ⟨h1, h2⟩ | ⟨h1, h2, h3, h4⟩
    · have e : rd s.data.toList = ⟨0, 0, 1⟩ := by unfold rd; rw [ha, h1]
      rw [e]; exact of_no1 s a t w hm neg hbeg hp' bt nv hd hv h2
    · have e : rd s.data.toList = ck (if neg = true then -nv else nv) 1 := by unfold rd; rw [ha, h1, hb]
      rw [e]; exact of_yes1 s a t w hm neg hbeg hp' bt nv hd hv h2 h3 h4
  | some r =>
    obtain ⟨b, hbr⟩ : ∃ b : ByteArray, r = b.data.toList := ⟨⟨r.toArray⟩, by simp⟩
    subst hbr
    have hp := pieces_of_some hb
    rw [ha] at hp
    cases hb2 : behind 47 b.data.toList with
    | some r2 =>
      have hdb := digs_slash (l := b.data.toList) (by rw [hb2]; simp)
      have e : rd s.data.toList = ⟨0, 0, 1⟩ := by
        unfold rd
        rw [ha, hb]
        cases numTxt a.data.toList with
        | none => rfl
        | some n => simp only; rw [if_neg (by rw [hdb]; simp)]
      rw [e]
      refine of_three s w hm ?_
      rw [hp, pieces_of_some hb2]
      have := pieces_pos 47 r2
      simp
      omega
    | none =>
      rw [pieces_of_none hb2] at hp
      rcases hnum with ⟨h1, h2⟩ | ⟨h1, h2, h3, h4⟩
      · have e : rd s.data.toList = ⟨0, 0, 1⟩ := by unfold rd; rw [ha, h1]
        rw [e]; exact of_no2 s a t b w hm neg hbeg hp bt nv hd hv h2
      · have e : rd s.data.toList = if digs b.data.toList = true ∧ val b.data.toList ≠ 1 then ck (if neg = true then -nv else nv) (val b.data.toList) else ⟨0, 0, 1⟩ := by unfold rd; rw [ha, h1, hb]
        rw [e]
        cases hdb : digs b.data.toList with
        | false =>
          rw [if_neg (by simp)]
          exact of_den s a t b w hm neg hbeg hp bt nv hd hv h2 h3 h4 false (-1) hdb (by simp) (Or.inl (by decide))
        | true =>
          have hbb := digs_bound hdb
          by_cases h5 : val b.data.toList = 1
          · rw [if_neg (by simp [h5])]
            exact of_den s a t b w hm neg hbeg hp bt nv hd hv h2 h3 h4 true 1 hdb (by rw [if_pos rfl, h5]; rfl) (Or.inr rfl)
          · rw [if_pos ⟨rfl, h5⟩]
            exact of_yes2 s a t b w hm neg hbeg hp bt nv hd hv h2 h3 h4 true (val b.data.toList) hdb (by rw [if_pos rfl]) (by omega) (by rw [beq_eq_false_iff_ne]; omega) hbb
end Go.Proofs.YtdeahgbjkogjgaaDoor

/-
  slices.Backward over a list of moves that are all the same one.
-/
import Derived.Test.YtdilieoobkldhabDoorMove16
namespace Go.Proofs.YtdilieoobkldhabDoor
open Go.RowKit Go.Shelf

attribute [local go_sem] Oper.semAt_some

/-- j, j - 1, .., 0. -/
def downTo : Nat → List Nat
  | 0 => [0]
  | j + 1 => (j + 1) :: downTo j
/-- What has come when the numbers from j on downwards are still to come: n - 1, .., j + 1. -/
def camePre (n j : Nat) : List Nat := (List.range (n - 1 - j)).map (fun k => n - 1 - k)
theorem camePre_succ {n j : Nat} (h : j < n) : camePre n j ++ [j] = (List.range (n - j)).map (fun k => n - 1 - k) := by
  unfold camePre
  rw [show n - j = n - 1 - j + 1 by omega, List.range_succ, List.map_append]
  simp; omega
theorem camePre_len (n j : Nat) : (camePre n j).length = n - 1 - j := by simp [camePre]
def cameAll (n : Nat) : List Nat := (List.range n).map (fun k => n - 1 - k)
theorem camePre_next {n j : Nat} (h : j + 1 < n) : camePre n (j + 1) ++ [j + 1] = camePre n j := by
  rw [camePre_succ h, camePre, show n - (j + 1) = n - 1 - j by omega]
theorem camePre_last {n : Nat} (h : 0 < n) : camePre n 0 ++ [0] = cameAll n := by rw [camePre_succ h, cameAll]; rfl
theorem camePre_prefix {n j : Nat} (h : j < n) : camePre n j ++ [j] <+: cameAll n := by
  rw [camePre_succ h, cameAll]
  refine List.IsPrefix.map _ ?_
  refine ⟨(List.range j).map (fun k => (n - j) + k), ?_⟩
  rw [show List.range n = List.range ((n - j) + j) by congr 1; omega, List.range_add]

abbrev itemM (m : Mv) (j : Nat) : Array Value := #[.int .i64 j, .agg #[.int .i64 m.a.n, .int .i64 m.a.d, .int .i64 m.b.n, .int .i64 m.b.d, .int .i64 m.c.n, .int .i64 m.c.d, .int .i64 m.d.n, .int .i64 m.d.d, .int .i64 m.e.n, .int .i64 m.e.d, .int .i64 m.f.n, .int .i64 m.f.d]]

set_option maxRecDepth 100000 in
set_option maxHeartbeats 4000000 in
theorem back1_in (F : Fence) (n : Nat) (hf : F.fn 48) (hro : F.round = none) (hn : 1 ≤ n) (l Bl g len cap : Nat) (m : Mv) (hlen : 0 < len) (hlen' : len ≤ 1000) (Kp : World → World → Prop) (hKr : ∀ A, Kp A A) (hKt : ∀ A B C, Kp A B → Kp B C → Kp A C) (hKl : ∀ A B, Kp A B → B.cell? ⟨Bl, 0, none⟩ = A.cell? ⟨Bl, 0, none⟩) (hKg : ∀ A B, Kp A B → ∀ o, B.cell? ⟨g, o, none⟩ = A.cell? ⟨g, o, none⟩) (J Jx : List Nat → World → Prop)
    (hY : ∀ pre x W, J pre W → pre.length < len → YieldAt F (n - 1) Tryd.prog l #[.int .i64 (x : Nat), .agg #[.int .i64 m.a.n, .int .i64 m.a.d, .int .i64 m.b.n, .int .i64 m.b.d, .int .i64 m.c.n, .int .i64 m.c.d, .int .i64 m.d.n, .int .i64 m.d.d, .int .i64 m.e.n, .int .i64 m.e.d, .int .i64 m.f.n, .int .i64 m.f.d]] W fun e W' =>
      (e = .returned (.bool true) ∧ J (pre ++ [x]) W' ∧ Kp W W') ∨ (e = .returned (.bool false) ∧ Jx (pre ++ [x]) W'))
    (W : World) (hBl : W.cell? ⟨Bl, 0, none⟩ = some (.slice (some ⟨g, 0, none⟩) len cap))
    (hc : ∀ j, j < len → ∀ i u, [.int .i64 m.a.n, .int .i64 m.a.d, .int .i64 m.b.n, .int .i64 m.b.d, .int .i64 m.c.n, .int .i64 m.c.d, .int .i64 m.d.n, .int .i64 m.d.d, .int .i64 m.e.n, .int .i64 m.e.d, .int .i64 m.f.n, .int .i64 m.f.d][i]? = some u → W.cell? ⟨g, j * 12 + i, none⟩ = some u) (h0 : J [] W) :
    CallsIn F n Tryd.prog 48 #[.func (.yield l) #[] #[], .pointer (some ⟨Bl, 0, none⟩)] W fun e W' => (∃ v, e = .returned v) ∧
      ((∃ ys, ys = cameAll len ∧ J ys W') ∨ (∃ pre, pre <+: cameAll len ∧ Jx pre W')) := by
  refine callsIn_of_wp Tryd.func48 rfl hf ?_ hro
  simp only [Tryd.ntmps48, List.size_toArray, List.length_cons, List.length_nil, Nat.reduceAdd, Nat.reduceSub, Array.replicate_succ, Array.replicate_zero, List.push_toArray, List.append_toArray, List.nil_append, List.cons_append]
  have hl1 : IntKind.i64.wrap ((len : Int) - 1) = ((len - 1 : Nat) : Int) := by rw [i64_in (by omega) (by omega)]; omega
  gi_wp2
  gi_loopw [3] (fun i wr => ((∃ j : Nat, j < len ∧ i = .int .i64 j ∧ J (camePre len j) wr) ∨ (i = .int .i64 (-1) ∧ J (cameAll len) wr)) ∧ Kp W wr)
    (fun i _ => (intOf i + 1).toNat)
  case atStart =>
    refine ⟨.inl ⟨len - 1, by omega, ?_, ?_⟩, hKr _⟩
    · congr 1
    · rw [show camePre len (len - 1) = [] by simp [camePre]]; exact h0
  case round =>
    obtain ⟨hcase, hnx⟩ := hrel
    rcases hcase with ⟨j, hj, rfl, hJs⟩ | ⟨rfl, hJs⟩
    · have cl := (hKl _ _ hnx).trans hBl
      have hcj := fun i u h => (hKg _ _ hnx (j * 12 + i)).trans (hc j hj i u h)
      obtain ⟨m0, m1, m2, m3, m4, m5, m6, m7, m8, m9, m10, m11⟩ := And.intro (hcj 0 _ rfl) (And.intro (hcj 1 _ rfl) (And.intro (hcj 2 _ rfl) (And.intro (hcj 3 _ rfl) (And.intro (hcj 4 _ rfl) (And.intro (hcj 5 _ rfl) (And.intro (hcj 6 _ rfl) (And.intro (hcj 7 _ rfl) (And.intro (hcj 8 _ rfl) (And.intro (hcj 9 _ rfl) (And.intro (hcj 10 _ rfl) (hcj 11 _ rfl)))))))))))
      clear hcj
      simp only [Nat.add_zero] at m0
      obtain ⟨fn, tmps, assign, body, hy, hR⟩ := hY _ j wr hJs (by rw [camePre_len]; omega)
      gi_wp2
      refine hR.mono ?_
      rintro e W3 (⟨rfl, hJ3, hk3⟩ | ⟨rfl, hJx3⟩)
      · gi_wp2
        go_roundw
        case rel =>
          refine ⟨?_, hKt _ _ _ hnx hk3⟩
          cases j with
          | zero => exact .inr ⟨by simp, by rw [← camePre_last hlen]; exact hJ3⟩
          | succ j => exact .inl ⟨j, by omega, by simp, by rw [← camePre_next hj]; exact hJ3⟩
        case measure => simp [intOf]
      · gi_wp2
        refine bodyPost_ret (results_none rfl _ _ _) rfl ?_
        exact ⟨⟨_, rfl⟩, .inr ⟨_, camePre_prefix hj, hJx3⟩⟩
    · gi_wp2
      go_end0
      exact ⟨⟨_, rfl⟩, .inl ⟨_, rfl, hJs⟩⟩

theorem backward_any (v : Value) (a : Option Addr) (n c : Nat) (hv : v = .slice a n c) (W : World) : Calls Tryd.prog 23 #[v] W fun e w' => e = .returned (.func (.func 48) #[] #[.pointer (some ⟨W.heap.size, 0, none⟩)]) ∧ w' = W.alloc (.cells #[v] 60) := by
  subst hv
  have hmf : ∀ (fn : Fn) (first cap : Array Value) (w : World), (Instr.makeFunc fn first cap).run Tryd.prog w = .ok (.func fn first cap) w := fun _ _ _ _ => rfl
  go_enter Tryd.func23, Tryd.ntmps23
  go_wp2
  go_ret
  exact ⟨rfl, rfl⟩

end Go.Proofs.YtdilieoobkldhabDoor


/-
  mark.Check of any node.
-/
import Derived.Test.YtdebekonggnckacDoorMark9
namespace Go.Proofs.YtdebekonggnckacDoor
open Go.RowKit

theorem run_store_func' (P : Program) (w : World) (a : Addr) (m : Mode) (f : Fn) (x y : Array Value) : (store a (.func f x y) m).run P w = stored P w a (.func f x y) m := run_store P w a _ m rfl
attribute [local go_sem] run_store_func'
theorem mnew_froz (W : World) (cs : Array Value) (t : TypeId) (i : Nat) : (W.alloc (.cells cs t)).frozen? ⟨W.heap.size, i, none⟩ = false := by
  have e : (W.alloc (.cells cs t)).heap[W.heap.size]? = some (.cells cs t) := by show (W.heap.push (.cells cs t))[W.heap.size]? = _; simp
  unfold World.frozen?
  simp only [e]
  simp

set_option maxRecDepth 20000 in
set_option maxHeartbeats 4000000 in
theorem Check_nd (E : Nat → Addr) (n : Nd) (c0 c1 c2 : Value) (W : World) (hE : ME E W) (hn : NdC W c0 c1 c2 n) :
    Calls Tryd.prog 27 #[.agg #[c0, c1, c2]] W fun e w' => Below W.heap.size W w' ∧ (((ckN n 1 0).1 = 0 ∧ e = .returned .nilIface) ∨ ((ckN n 1 0).1 ≠ 0 ∧ Flt E W.heap.size (ckN n 1 0) e w')) := by
  have HC := chk_any E W (W.heap.size + 1) (W.heap.size + 1 + 1) hE (by omega) (by omega) n
  unfold Chk at HC
  have hn' := hn
  obtain ⟨nm, ats, ks⟩ := n
  unfold NdC at hn'
  obtain ⟨rfl, -, ⟨o1, cap1, rfl, -⟩, ok, capk, rfl, -⟩ := hn'
  have HC' := fun V h1 => HC (strV nm) (.slice o1 ats.length cap1) (.slice ok ks.length capk) 1 0 V hn (by decide) (by decide) h1
  clear HC
  generalize Nd.mk nm ats ks = n at HC' hn ⊢
  unfold strV at *
  have b1 := mal W (.cells #[.string ⟨nm.toArray⟩, .slice o1 ats.length cap1, .slice ok ks.length capk] 25)
  have n0 := mnew W #[.string ⟨nm.toArray⟩, .slice o1 ats.length cap1, .slice ok ks.length capk] 25 0 (.string ⟨nm.toArray⟩) rfl
  have n1 := mnew W #[.string ⟨nm.toArray⟩, .slice o1 ats.length cap1, .slice ok ks.length capk] 25 1 (.slice o1 ats.length cap1) rfl
  have n2 := mnew W #[.string ⟨nm.toArray⟩, .slice o1 ats.length cap1, .slice ok ks.length capk] 25 2 (.slice ok ks.length capk) rfl
  have a0 := mnew (W.alloc (.cells #[.string ⟨nm.toArray⟩, .slice o1 ats.length cap1, .slice ok ks.length capk] 25)) #[.int .i64 0] 3 0 (.int .i64 0) rfl
  have af := mnew_froz (W.alloc (.cells #[.string ⟨nm.toArray⟩, .slice o1 ats.length cap1, .slice ok ks.length capk] 25)) #[.int .i64 0] 3 0
  have b2 := mal (W.alloc (.cells #[.string ⟨nm.toArray⟩, .slice o1 ats.length cap1, .slice ok ks.length capk] 25)) (.cells #[.int .i64 0] 3)
  have p0 := mnew ((W.alloc (.cells #[.string ⟨nm.toArray⟩, .slice o1 ats.length cap1, .slice ok ks.length capk] 25)).alloc (.cells #[.int .i64 0] 3)) #[.func (.func 53) #[] #[.pointer (some ⟨W.heap.size + 1, 0, none⟩), .pointer (some ⟨W.heap.size + 1 + 1, 0, none⟩)]] 100 0 (.func (.func 53) #[] #[.pointer (some ⟨W.heap.size + 1, 0, none⟩), .pointer (some ⟨W.heap.size + 1 + 1, 0, none⟩)]) rfl
  have b3 := mal ((W.alloc (.cells #[.string ⟨nm.toArray⟩, .slice o1 ats.length cap1, .slice ok ks.length capk] 25)).alloc (.cells #[.int .i64 0] 3)) (.cells #[.func (.func 53) #[] #[.pointer (some ⟨W.heap.size + 1, 0, none⟩), .pointer (some ⟨W.heap.size + 1 + 1, 0, none⟩)]] 100)
  simp only [World.size_alloc] at a0 af p0
  have a3 := (b3.cell (cell_lt3 a0)).trans a0
  have af3 := (mfroz b3 (p := ⟨W.heap.size + 1, 0, none⟩) (cell_lt3 a0)).trans af
  have m0 := (b3.cell (cell_lt3 ((b2.cell (cell_lt3 n0)).trans n0))).trans ((b2.cell (cell_lt3 n0)).trans n0)
  have m1 := (b3.cell (cell_lt3 ((b2.cell (cell_lt3 n1)).trans n1))).trans ((b2.cell (cell_lt3 n1)).trans n1)
  have m2 := (b3.cell (cell_lt3 ((b2.cell (cell_lt3 n2)).trans n2))).trans ((b2.cell (cell_lt3 n2)).trans n2)
  have bb := mbel (mbel b1 b2) b3
  have HV := HC' _ bb a3 af3 p0
  have sz := bb.size
  clear a0 af n0 n1 n2 b1 b2 b3 HC'
  go_enter Tryd.func27, Tryd.ntmps27
  go_upto_region 4 with fail
  obtain ⟨V, hV⟩ : ∃ V, ((W.alloc (.cells #[.string ⟨nm.toArray⟩, .slice o1 ats.length cap1, .slice ok ks.length capk] 25)).alloc (.cells #[.int .i64 0] 3)).alloc (.cells #[.func (.func 53) #[] #[.pointer (some ⟨W.heap.size + 1, 0, none⟩), .pointer (some ⟨W.heap.size + 1 + 1, 0, none⟩)]] 100) = V := ⟨_, rfl⟩
  rw [hV] at a3 af3 m0 m1 m2 bb HV p0 sz ⊢
  clear hV
  have HV' := HV.mono (R' := fun e w' => ∃ v, e = .returned v ∧ Keep (W.heap.size + 1) V w' ∧ (((ckN n 1 0).1 = 0 ∧ v = .nilIface) ∨ ((ckN n 1 0).1 ≠ 0 ∧ Flt E V.heap.size (ckN n 1 0) (.returned v) w'))) (fun e w' h => by
    rcases h.2 with h2 | h2
    · exact ⟨_, h2.2.1, h.1, .inl ⟨h2.1, rfl⟩⟩
    · obtain ⟨h3, pb, h4, rfl, h5⟩ := h2
      exact ⟨_, rfl, h.1, .inr ⟨h3, pb, h4, rfl, h5⟩⟩)
  clear HV
  go_wp2_with (go_at_call 53; refine HV'.mono ?_; rintro e w1 ⟨v, rfl, K1, hr⟩)
  go_ret
  refine ⟨bb.trans (K1.below (by omega) sz), ?_⟩
  rcases hr with ⟨h1, rfl⟩ | ⟨h1, pb, h2, h3, h4⟩
  · exact .inl ⟨h1, rfl⟩
  · exact .inr ⟨h1, pb, Nat.le_trans sz h2, h3, h4⟩

end Go.Proofs.YtdebekonggnckacDoor

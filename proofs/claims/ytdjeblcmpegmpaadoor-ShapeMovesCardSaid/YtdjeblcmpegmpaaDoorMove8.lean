/-
  Package move's turned and moved at right moves and points: as plain mathematics reckons them; its answer.
-/
import Derived.Test.YtdjeblcmpegmpaaDoorMove6
import Derived.Test.YtdjeblcmpegmpaaDoorMove7
namespace Go.Proofs.YtdjeblcmpegmpaaDoor
open Go.RowKit

theorem ok_i64 {x : Fr} (h : x.ok) : x.i64 := i64_of_chk h
theorem zero_i64 : Fr.zero.i64 := ⟨⟨by decide, by decide⟩, ⟨by decide, by decide⟩⟩
theorem Good.i64 {op : Op4} {F : Rat → Rat → Rat} (g : Good op F) {c : Nat} {x y : Fr} (hx : c = 0 → x.ok) (hy : c = 0 → y.ok) : (doF op c x y).1.i64 := by
  by_cases hc : c = 0
  · subst hc
    rcases g.two x y (hx rfl) (hy rfl) with h | h
    · have := g.val x y (op x.n x.d y.n y.d).n (op x.n x.d y.n y.d).d (by rw [← h])
      simp only [doF, if_pos]
      exact ok_i64 this.2.2.1
    · simp only [doF, if_pos, h]; exact zero_i64
  · simp only [doF, if_neg hc]; exact zero_i64
theorem Good.code {op : Op4} {F : Rat → Rat → Rat} (g : Good op F) {x y : Fr} (hx : x.ok) (hy : y.ok) : (op x.n x.d y.n y.d).c = 0 ∨ (op x.n x.d y.n y.d).c = 2 := by
  rcases g.two x y hx hy with h | h
  · exact .inl h
  · exact .inr (by rw [h])

/-- A sum of two products, step by step. -/
theorem dot_steps {aB aS aZ : Addr} {w0 : World} {b c : Nat} {a x d y : Fr} (hc : c = 0 ∨ c = 2) (ha : a.ok) (hx : x.ok) (hd : d.ok) (hy : y.ok) :
    ∃ x1 c1 x2 c2, DoC aB aS aZ w0 b 33 c a x x1 c1 ∧ DoC aB aS aZ w0 b 33 c1 d y x2 c2 ∧ DoC aB aS aZ w0 b 39 c2 x1 x2 (dotF c a x d y).1 (dotF c a x d y).2 := by
  obtain ⟨h1, k1⟩ := good_mul.step hc (fun _ => ha) (fun _ => hx)
  obtain ⟨h2, k2⟩ := good_mul.step h1 (fun _ => hd) (fun _ => hy)
  refine ⟨_, _, _, _, doC_mul hc (ok_i64 ha) (ok_i64 hx) (fun _ => good_mul.code ha hx), doC_mul h1 (ok_i64 hd) (ok_i64 hy) (fun _ => good_mul.code hd hy), ?_⟩
  exact doC_add h2 (good_mul.i64 (fun _ => ha) (fun _ => hx)) (good_mul.i64 (fun _ => hd) (fun _ => hy)) (fun e => good_add.code (k1 (k2 e).1).2.1 (k2 e).2.1)

theorem turned_any {aB aS aZ : Addr} {w0 : World} {b c : Nat} {m : Mv} {p : Pt} (hc : c = 0 ∨ c = 2) (hm : m.ok) (hp : p.ok) (W : World) (h : Wk aB aS aZ w0 b c W) :
    Calls Tryd.prog 36 #[.pointer (some ⟨b, 0, none⟩), mv m, pv p] W fun e w' => e = .returned (pv (turnedF c m p).1) ∧ Wk aB aS aZ w0 b (turnedF c m p).2 w' ∧ Upto b W w' := by
  obtain ⟨x1, c1, x2, c2, D1, D2, D3⟩ := dot_steps (aB := aB) (aS := aS) (aZ := aZ) (w0 := w0) (b := b) hc hm.1 hp.1 hm.2.2.1 hp.2
  obtain ⟨y1, c4, y2, c5, D4, D5, D6⟩ := dot_steps (aB := aB) (aS := aS) (aZ := aZ) (w0 := w0) (b := b) (dot_step hc hm.1 hp.1 hm.2.2.1 hp.2).1 hm.2.1 hp.1 hm.2.2.2.1 hp.2
  exact turned_abs aB aS aZ w0 b m p x1 x2 _ y1 y2 _ c c1 c2 _ c4 c5 _ W h D1 D2 D3 D4 D5 D6

theorem moved_any {aB aS aZ : Addr} {w0 : World} {b c : Nat} {m : Mv} {p : Pt} (hc : c = 0 ∨ c = 2) (hm : m.ok) (hp : p.ok) (W : World) (h : Wk aB aS aZ w0 b c W) :
    Calls Tryd.prog 27 #[.pointer (some ⟨b, 0, none⟩), mv m, pv p] W fun e w' => e = .returned (pv (movedF c m p).1) ∧ Wk aB aS aZ w0 b (movedF c m p).2 w' ∧ Upto b W w' := by
  obtain ⟨h1, k1⟩ := turned_step hc hm hp
  have HT := fun W h => turned_any (aB := aB) (aS := aS) (aZ := aZ) (w0 := w0) (b := b) hc hm hp W h
  have hi : (turnedF c m p).1.x.i64 ∧ (turnedF c m p).1.y.i64 := by
    obtain ⟨g1, g2⟩ := good_mul.step hc (fun _ => hm.1) (fun _ => hp.1)
    obtain ⟨g3, g4⟩ := good_mul.step g1 (fun _ => hm.2.2.1) (fun _ => hp.2)
    obtain ⟨g5, _⟩ := dot_step hc hm.1 hp.1 hm.2.2.1 hp.2
    obtain ⟨g7, g8⟩ := good_mul.step g5 (fun _ => hm.2.1) (fun _ => hp.1)
    obtain ⟨_, g9⟩ := good_mul.step g7 (fun _ => hm.2.2.2.1) (fun _ => hp.2)
    exact ⟨good_add.i64 (fun e => (g2 (g4 e).1).2.1) (fun e => (g4 e).2.1), good_add.i64 (fun e => (g8 (g9 e).1).2.1) (fun e => (g9 e).2.1)⟩
  unfold movedF
  generalize turnedF c m p = t at h1 k1 HT hi ⊢
  obtain ⟨h2, k2⟩ := good_add.step h1 (x := t.1.x) (y := m.e) (fun e => (k1 e).2.1.1) (fun _ => hm.2.2.2.2.1)
  exact moved_abs aB aS aZ w0 b m p t.1 _ _ c t.2 _ _ W h HT (doC_add h1 hi.1 (ok_i64 hm.2.2.2.2.1) (fun e => good_add.code (k1 e).2.1.1 hm.2.2.2.2.1)) (doC_add h2 hi.2 (ok_i64 hm.2.2.2.2.2) (fun e => good_add.code (k1 (k2 e).1).2.1.2 hm.2.2.2.2.2))

set_option maxHeartbeats 2000000 in
theorem answer_ok {aB aS aZ : Addr} {w0 : World} {b : Nat} (m : Mv) (W : World) (h : Wk aB aS aZ w0 b 0 W) :
    Calls Tryd.prog 37 #[.pointer (some ⟨b, 0, none⟩), mv m] W fun e w' => e = .returned (.tuple #[mv m, .nilIface]) ∧ Below W.heap.size W w' := by
  have k1 := (h.alloc (.cells #[.int .i64 m.a.n, .int .i64 m.a.d, .int .i64 m.b.n, .int .i64 m.b.d, .int .i64 m.c.n, .int .i64 m.c.d, .int .i64 m.d.n, .int .i64 m.d.d, .int .i64 m.e.n, .int .i64 m.e.d, .int .i64 m.f.n, .int .i64 m.f.d] 37)).alloc (.cells #[.int .i64 0, .int .i64 0, .int .i64 0, .int .i64 0, .int .i64 0, .int .i64 0, .int .i64 0, .int .i64 0, .int .i64 0, .int .i64 0, .int .i64 0, .int .i64 0] 37)
  have k2 := k1.cell
  rw [er_0] at k2
  clear k1
  go_enter Tryd.func37, Tryd.ntmps37
  go_wp2
  refine bodyPost_ret (v := .tuple #[mv m, .nilIface]) (by simp [results, Tryd.results37, go_sem]) rfl ⟨rfl, ?_⟩
  exact ((Below.refl _ W).alloc (Nat.le_refl _) _).alloc (by simp) _

set_option maxHeartbeats 2000000 in
theorem answer_err {aB aS aZ : Addr} {w0 : World} {b : Nat} (m : Mv) (W : World) (h : Wk aB aS aZ w0 b 2 W) :
    Calls Tryd.prog 37 #[.pointer (some ⟨b, 0, none⟩), mv m] W fun e w' => e = .returned (.tuple #[mv .zero, er aB aS aZ 2]) ∧ Below W.heap.size W w' := by
  have k1 := (h.alloc (.cells #[.int .i64 m.a.n, .int .i64 m.a.d, .int .i64 m.b.n, .int .i64 m.b.d, .int .i64 m.c.n, .int .i64 m.c.d, .int .i64 m.d.n, .int .i64 m.d.d, .int .i64 m.e.n, .int .i64 m.e.d, .int .i64 m.f.n, .int .i64 m.f.d] 37)).alloc (.cells #[.int .i64 0, .int .i64 0, .int .i64 0, .int .i64 0, .int .i64 0, .int .i64 0, .int .i64 0, .int .i64 0, .int .i64 0, .int .i64 0, .int .i64 0, .int .i64 0] 37)
  have k2 := k1.cell
  rw [er_2] at k2
  have hlt := cell_lt h.cell
  simp only at hlt
  have n1 : ¬ b = W.heap.size + 1 := by omega
  have n2 : ¬ W.heap.size + 1 = b := by omega
  clear k1
  go_enter Tryd.func37, Tryd.ntmps37
  go_wp2
  go_region
  go_wp2
  refine bodyPost_ret (v := .tuple #[mv .zero, .iface 108 (.pointer (some aB))]) (by simp [results, Tryd.results37, go_sem, Mv.zero, Fr.zero]) rfl ⟨rfl, ?_⟩
  exact below_drewN (((Below.refl _ W).alloc (Nat.le_refl _) _).alloc (by simp) _) 1

end Go.Proofs.YtdjeblcmpegmpaaDoor

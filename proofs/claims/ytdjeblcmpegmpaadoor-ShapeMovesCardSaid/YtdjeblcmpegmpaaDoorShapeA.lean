/-
  A point and a row of points as arguments of a law: read, and read again behind the call; the errors out of a row's list of variables.
-/
import Derived.Test.YtdjeblcmpegmpaaDoorFracArg
import Derived.Test.YtdjeblcmpegmpaaDoorShTurns1
import Derived.ReadAgain
import Derived.ChangeBook
namespace Go.Proofs.YtdjeblcmpegmpaaDoor
open Go.ChangeShapes Go.WideShapes Go.ChangeAt Go.RowKit Go.Joins

theorem cellsIntQ : Tryd.prog.cellsOf 3 = 1 := by kernel_rfl
theorem cellsPointQ : Tryd.prog.cellsOf 26 = 4 := by kernel_rfl
def qfD {H : Type} (n d : Int) : DataW H := .agg [.lit (.int .i64 n), .lit (.int .i64 d)]
def qtD {H : Type} (a : Qt) : DataW H := .agg [qfD a.xn a.xd, qfD a.yn a.yd]
section
variable {H : Type} {enc : TypeId × Value → H} {w : World} {base : Nat} {spare : Nat → Bool} {held : Bool}
set_option maxRecDepth 100000 in
theorem trod_fracQ {k : Nat} {c0 c1 : Value} {y : DataW H × List MemPlace}
    (h : DataW.trod enc Tryd.prog w base spare held k 24 [c0, c1] = some y) : ∃ n d : Int, c0 = .int .i64 n ∧ c1 = .int .i64 d ∧ y = (qfD n d, []) ∧ I64 n ∧ I64 d := by
  obtain ⟨y0, y1, n, hx, _, h0, h1⟩ := trod_struct2 Tryd.underlying24 h
  obtain ⟨a, e0, rfl, w0⟩ := DataW.trod_int Tryd.underlying3 h0
  obtain ⟨b, e1, rfl, w1⟩ := DataW.trod_int Tryd.underlying3 h1
  simp [cellsIntQ] at e0 e1
  exact ⟨a, b, by simpa using e0, by simpa using e1, by simpa [qfD] using hx, wf_i64.1 w0, wf_i64.1 w1⟩
theorem trod_qt {k : Nat} {c0 c1 c2 c3 : Value} {y : DataW H × List MemPlace}
    (h : DataW.trod enc Tryd.prog w base spare held k 26 [c0, c1, c2, c3] = some y) : ∃ a : Qt, c0 = .int .i64 a.xn ∧ c1 = .int .i64 a.xd ∧ c2 = .int .i64 a.yn ∧ c3 = .int .i64 a.yd ∧ y = (qtD a, []) ∧ PI a := by
  obtain ⟨y0, y1, n, hx, _, h0, h1⟩ := trod_struct2 Tryd.underlying26 h
  simp only [cellsFrac] at h0 h1
  obtain ⟨n0, d0, e0, e1, rfl, i0, j0⟩ := trod_fracQ h0
  obtain ⟨n1, d1, e2, e3, rfl, i1, j1⟩ := trod_fracQ h1
  refine ⟨⟨n0, d0, n1, d1⟩, e0, e1, e2, e3, ?_, i0, j0, i1, j1⟩
  rw [hx]
  simp [qtD]
end
theorem list4Q {cs : List Value} (h : cs.length = 4) : ∃ c0 c1 c2 c3, cs = [c0, c1, c2, c3] := by
  match cs, h with
  | [c0, c1, c2, c3], _ => exact ⟨c0, c1, c2, c3, rfl⟩
set_option maxRecDepth 100000 in
theorem open_qt {H : Type} {enc : TypeId × Value → H} {w : World} {r : Reach} {b0 base : Nat} {spare : Nat → Bool} {held : Bool} {v : Value} {d : DataW H} {p : List MemPlace}
    (hv : Value.okWide Tryd.prog w r b0 26 v) (h : DataW.Trod enc Tryd.prog w base spare held 26 v d p) :
    ∃ q : Qt, v = qtV q ∧ d = qtD q ∧ p = [] ∧ PI q := by
  obtain ⟨cs, rfl, hsz⟩ := okWide_struct Tryd.underlying26 hv
  rw [cellsPointQ] at hsz
  obtain ⟨c0, c1, c2, c3, hcs⟩ := list4Q (cs := cs.toList) (by simpa using hsz)
  obtain rfl : cs = #[c0, c1, c2, c3] := by cases cs; simp at hcs; simp [hcs]
  obtain ⟨fuel, hf⟩ := h
  obtain ⟨a, rfl, rfl, rfl, rfl, hx, ha⟩ := trod_qt hf
  simp only [Prod.mk.injEq] at hx
  exact ⟨a, rfl, hx.1, hx.2, ha⟩
set_option maxRecDepth 100000 in
set_option maxHeartbeats 2000000 in
theorem shut_qt {H : Type} {enc : TypeId × Value → H} {w : World} {base : Nat} {spare : Nat → Bool} {held : Bool} {q : Qt} (h : PI q) :
    DataW.Trod enc Tryd.prog w base spare held 26 (qtV q) (qtD q) [] := by
  obtain ⟨a1, a2, b1, b2⟩ := h
  exact ⟨3, by simp [DataW.trod, Tryd.underlying26, Tryd.underlying24, Tryd.underlying3, cellsPointQ, cellsFrac, cellsIntQ, Value.cells, qtD, qfD, wf_i64.2 a1, wf_i64.2 a2, wf_i64.2 b1, wf_i64.2 b2]⟩

theorem cells_fourQ {w : World} {base : Nat} {a : Addr} {cs : List Value} (h : w.cells? base a 4 = some cs) : ∃ b off c0 c1 c2 c3, a = ⟨b, off, none⟩ ∧ cs = [c0, c1, c2, c3] ∧ w.cell? ⟨b, off, none⟩ = some c0 ∧ w.cell? ⟨b, off + 1, none⟩ = some c1 ∧ w.cell? ⟨b, off + 2, none⟩ = some c2 ∧ w.cell? ⟨b, off + 3, none⟩ = some c3 := by
  unfold World.cells? at h
  split at h
  · simp only [List.range_succ, List.range_zero, List.nil_append, List.cons_append, List.mapM_cons, List.mapM_nil] at h
    cases h0 : w.cell? (a.add 0) with
    | none => simp [h0] at h
    | some c0 =>
    cases h1 : w.cell? (a.add 1) with
    | none => simp [h0, h1] at h
    | some c1 =>
    cases h2 : w.cell? (a.add 2) with
    | none => simp [h0, h1, h2] at h
    | some c2 =>
    cases h3 : w.cell? (a.add 3) with
    | none => simp [h0, h1, h2, h3] at h
    | some c3 =>
      simp [h0, h1, h2, h3] at h
      obtain ⟨b, off, sp⟩ := a
      cases sp with
      | some s =>
        simp [Addr.add, World.cell?] at h0
        split at h0 <;> cases h0
      | none => exact ⟨b, off, c0, c1, c2, c3, rfl, h.symm, by simpa [Addr.add] using h0, by simpa [Addr.add] using h1, by simpa [Addr.add] using h2, by simpa [Addr.add] using h3⟩
  · cases h
theorem list_ofQ {α : Type} {P : Nat → α → Prop} : ∀ n : Nat, (∀ i, i < n → ∃ x, P i x) → ∃ l : List α, l.length = n ∧ ∀ i x, l[i]? = some x → P i x
  | 0, _ => ⟨[], rfl, fun i x h => by simp at h⟩
  | n + 1, h => by
    obtain ⟨l, hl, hP⟩ := list_ofQ n (fun i hi => h i (by omega))
    obtain ⟨x, hx⟩ := h n (by omega)
    refine ⟨l ++ [x], by simp [hl], fun i y hy => ?_⟩
    by_cases hi : i < n
    · rw [List.getElem?_append_left (by omega)] at hy
      exact hP i y hy
    · rw [List.getElem?_append_right (by omega)] at hy
      have h0 : i - l.length = 0 := by
        rcases Nat.eq_zero_or_pos (i - l.length) with h0 | h0
        · exact h0
        · rw [List.getElem?_eq_none (by simp; omega)] at hy
          cases hy
      rw [h0] at hy
      simp at hy
      obtain rfl : i = n := by omega
      rw [← hy]
      exact hx
theorem open_ptsF {H : Type} {enc : TypeId × Value → H} {w : World} {base : Nat} {spare : Nat → Bool} {held : Bool} {fuel : Nat} {cs : List Value} {x : DataW H × List MemPlace} (h : DataW.trod enc Tryd.prog w base spare held fuel 22 cs = some x) : ∃ o cap l, cs = [.slice o l.length cap] ∧ RowP w o cap l := by
  rcases DataW.trod_slice Tryd.underlying22 h with ⟨rfl, _⟩ | ⟨a, len, cap, elems, rest, n, _, rfl, _, _, hl, hc, hlen, hel, _⟩
  · exact ⟨none, 0, [], rfl, fun i x hx => by simp at hx, Nat.le_refl _, fun _ => rfl⟩
  · simp only [cellsPointQ] at hel
    have sp : 0 < len → a.spot = none := fun h0 => by
      have h00 := hel 0 h0
      obtain ⟨y0, hy0⟩ : ∃ y, elems[0]? = some y := ⟨elems[0], List.getElem?_eq_getElem (by omega)⟩
      rw [hy0] at h00
      simp only [Option.bind_eq_some_iff] at h00
      obtain ⟨_, hd1, _⟩ := h00
      obtain ⟨_, _, _, _, _, _, hb, _⟩ := cells_fourQ hd1
      simp [Addr.add] at hb
      rw [hb]
    obtain ⟨l, hll, hP⟩ := list_ofQ (α := Qt) (P := fun i x => ∃ b off, some a = some ⟨b, off, none⟩ ∧ PtC w b (off + i * 4) x) len (fun i hi => by
      have hE := hel i hi
      obtain ⟨y, hy⟩ : ∃ y, elems[i]? = some y := ⟨elems[i], List.getElem?_eq_getElem (by omega)⟩
      rw [hy] at hE
      simp only [Option.bind_eq_some_iff] at hE
      obtain ⟨c, hc1, hc2⟩ := hE
      obtain ⟨b, off, d0, d1, d2, d3, hb, rfl, h0, h1, h2, h3⟩ := cells_fourQ hc1
      obtain ⟨y, rfl, rfl, rfl, rfl, -, hpi⟩ := trod_qt hc2
      have hs := sp (by omega)
      obtain ⟨ab, ao, asp⟩ := a
      simp at hs
      subst hs
      have e : b = ab ∧ off = ao + i * 4 := by
        unfold Addr.add at hb
        split at hb <;> simp at hb <;> exact ⟨hb.1.symm, by omega⟩
      obtain ⟨rfl, rfl⟩ := e
      exact ⟨y, _, ao, rfl, h0, h1, h2, h3, hpi⟩)
    exact ⟨some a, cap, l, by rw [hll], hP, by omega, fun h => by cases h⟩
theorem ptsRec : Tryd.prog.readableRec 22 = true := by kernel_rfl
theorem ptsKids : Kids Tryd.prog (InBook Tryd.prog 22) := kids_book (by kernel_rfl) ptsRec
theorem ptsIn : InBook Tryd.prog 22 22 := ⟨of_decide_eq_true (by kernel_rfl), book_self _⟩
set_option maxRecDepth 100000 in
theorem open_pts {H : Type} {enc : TypeId × Value → H} {w : World} {r : Reach} {b0 base : Nat} {spare : Nat → Bool} {held : Bool} {v : Value} {d : DataW H} {p : List MemPlace}
    (hv : Value.okWide Tryd.prog w r b0 22 v) (h : DataW.Trod enc Tryd.prog w base spare held 22 v d p) :
    ∃ o l cap, v = .slice o l.length cap ∧ RowP w o cap l := by
  obtain ⟨a, len, cap, rfl⟩ := okWide_slice Tryd.underlying22 hv
  obtain ⟨fuel, hf⟩ := h
  obtain ⟨o, cap', l, hc, hl⟩ := open_ptsF hf
  exact ⟨o, l, cap', by simpa [Value.cells] using hc, hl⟩
theorem again_pts {H : Type} {enc : TypeId × Value → H} {W W' : World} {sp : Nat → Bool} {v : Value} {d : DataW H} {p : List MemPlace} (hb : Below W.heap.size W W')
    (h : DataW.Trod enc Tryd.prog W 0 (fun _ => true) true 22 v d p) (hs : ∀ x ∈ p, sp x.block = true) (hl : ∀ x ∈ p, x.block < W.heap.size) : DataW.Trod enc Tryd.prog W' 0 sp true 22 v d p := by
  obtain ⟨n, hn⟩ := DataW.Trod.respare ptsKids (fun t e ht hu => book_sized ptsRec ht hu) ptsIn h hs
  exact ⟨n, DataW.trod_carry n _ _ _ hn (fun x hx => hb.same (hl x hx))⟩
end Go.Proofs.YtdjeblcmpegmpaaDoor

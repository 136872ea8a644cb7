/-
  A row of acts that came in: how it lies in memory.
-/
import Derived.Test.YtmlajdhkkcmjnacDoorJ1
import Derived.Test.YtmlajdhkkcmjnacDoorJ4
namespace Go.Proofs.YtmlajdhkkcmjnacDoor
open Go.RowKit

/-- An act. -/
structure Ac where
  kind : Bs
  n : Int
  m : Int
  a : Int
  name : Bs
  value : Bs
/-- One act's cells. -/
structure AcC (w : World) (b i : Nat) (x : Ac) : Prop where
  c0 : w.cell? ⟨b, i, none⟩ = some (strV x.kind)
  c1 : w.cell? ⟨b, i + 1, none⟩ = some (.int .i64 x.n)
  c2 : w.cell? ⟨b, i + 2, none⟩ = some (.int .i64 x.m)
  c3 : w.cell? ⟨b, i + 3, none⟩ = some (.int .i64 x.a)
  c4 : w.cell? ⟨b, i + 4, none⟩ = some (strV x.name)
  c5 : w.cell? ⟨b, i + 5, none⟩ = some (strV x.value)
  wn : Wf64 x.n
  wm : Wf64 x.m
  wa : Wf64 x.a
  lk : x.kind.length ≤ maxLen
  ln : x.name.length ≤ maxLen
  lv : x.value.length ≤ maxLen
theorem AcC.below {w w' : World} {b i : Nat} {x : Ac} (h : AcC w b i x) (hb : Below w.heap.size w w') : AcC w' b i x :=
  ⟨(hb.cell (cell_lt3 h.c0)).trans h.c0, (hb.cell (cell_lt3 h.c1)).trans h.c1, (hb.cell (cell_lt3 h.c2)).trans h.c2, (hb.cell (cell_lt3 h.c3)).trans h.c3, (hb.cell (cell_lt3 h.c4)).trans h.c4, (hb.cell (cell_lt3 h.c5)).trans h.c5, h.wn, h.wm, h.wa, h.lk, h.ln, h.lv⟩
def AcsAt (w : World) (o : Option Addr) (l : List Ac) : Prop := ∀ i x, l[i]? = some x → ∃ b off, o = some ⟨b, off, none⟩ ∧ AcC w b (off + i * 6) x
def AcsIn (w : World) (v : Value) (l : List Ac) : Prop := ∃ o cap, v = .slice o l.length cap ∧ AcsAt w o l
theorem AcsAt.below {w w' : World} {o : Option Addr} {l : List Ac} (h : AcsAt w o l) (hb : Below w.heap.size w w') : AcsAt w' o l := fun i x hx => by
  obtain ⟨b, off, h1, h2⟩ := h i x hx
  exact ⟨b, off, h1, h2.below hb⟩
theorem cellsAct : Tryd.prog.cellsOf 36 = 6 := by kernel_rfl
theorem cells_six {w : World} {base : Nat} {a : Addr} {cs : List Value} (h : w.cells? base a 6 = some cs) : ∃ b off c0 c1 c2 c3 c4 c5, a = ⟨b, off, none⟩ ∧ cs = [c0, c1, c2, c3, c4, c5] ∧ w.cell? ⟨b, off, none⟩ = some c0 ∧ w.cell? ⟨b, off + 1, none⟩ = some c1 ∧ w.cell? ⟨b, off + 2, none⟩ = some c2 ∧ w.cell? ⟨b, off + 3, none⟩ = some c3 ∧ w.cell? ⟨b, off + 4, none⟩ = some c4 ∧ w.cell? ⟨b, off + 5, none⟩ = some c5 := by
  unfold World.cells? at h
  split at h
  · simp only [List.range_succ, List.range_zero, List.nil_append, List.cons_append, List.mapM_cons, List.mapM_nil] at h
    cases h0 : w.cell? (a.add 0) with
    | none => simp [h0] at h
    | some c0 =>
    cases h1 : w.cell? (a.add 1) with
    | none => simp [h0, h1] at h
    | some c1 =>
    cases h2 : w.cell? (a.add 2) with
    | none => simp [h0, h1, h2] at h
    | some c2 =>
    cases h3 : w.cell? (a.add 3) with
    | none => simp [h0, h1, h2, h3] at h
    | some c3 =>
    cases h4 : w.cell? (a.add 4) with
    | none => simp [h0, h1, h2, h3, h4] at h
    | some c4 =>
    cases h5 : w.cell? (a.add 5) with
    | none => simp [h0, h1, h2, h3, h4, h5] at h
    | some c5 =>
      simp [h0, h1, h2, h3, h4, h5] at h
      obtain ⟨b, off, sp⟩ := a
      cases sp with
      | some s =>
        simp [Addr.add, World.cell?] at h0
        split at h0 <;> cases h0
      | none => exact ⟨b, off, c0, c1, c2, c3, c4, c5, rfl, h.symm, by simpa [Addr.add] using h0, by simpa [Addr.add] using h1, by simpa [Addr.add] using h2, by simpa [Addr.add] using h3, by simpa [Addr.add] using h4, by simpa [Addr.add] using h5⟩
  · cases h
theorem cellsI : Tryd.prog.cellsOf 3 = 1 := by kernel_rfl
section
variable {H : Type} {enc : TypeId × Value → H} {w : World} {base : Nat} {spare : Nat → Bool} {held : Bool}
theorem trod_i64 {fuel : Nat} {c : Value} {x : DataW H × List MemPlace} (h : DataW.trod enc Tryd.prog w base spare held fuel 3 [c] = some x) : ∃ k : Int, c = .int .i64 k ∧ Wf64 k := by
  obtain ⟨k, h1, _, hk⟩ := DataW.trod_int Tryd.underlying3 h
  simp at h1
  exact ⟨k, h1, hk⟩
theorem trod_six {t : TypeId} {f0 f1 f2 f3 f4 f5 : Field} {fuel : Nat} {cs : List Value} {x : DataW H × List MemPlace} {P : Program} (ht : P.underlying t = some (.struct #[f0, f1, f2, f3, f4, f5])) (h : DataW.trod enc P w base spare held fuel t cs = some x) :
    ∃ y0 y1 y2 y3 y4 y5 n, DataW.trod enc P w base spare held n f0.type ((cs.drop f0.offset).take (P.cellsOf f0.type)) = some y0 ∧ DataW.trod enc P w base spare held n f1.type ((cs.drop f1.offset).take (P.cellsOf f1.type)) = some y1 ∧ DataW.trod enc P w base spare held n f2.type ((cs.drop f2.offset).take (P.cellsOf f2.type)) = some y2 ∧
      DataW.trod enc P w base spare held n f3.type ((cs.drop f3.offset).take (P.cellsOf f3.type)) = some y3 ∧ DataW.trod enc P w base spare held n f4.type ((cs.drop f4.offset).take (P.cellsOf f4.type)) = some y4 ∧ DataW.trod enc P w base spare held n f5.type ((cs.drop f5.offset).take (P.cellsOf f5.type)) = some y5 := by
  obtain ⟨xs, n, hn, rfl, hl, hlen, hf⟩ := DataW.trod_struct ht h
  match xs, hlen with
  | [y0, y1, y2, y3, y4, y5], _ => exact ⟨y0, y1, y2, y3, y4, y5, n, by simpa using hf 0 f0 rfl, by simpa using hf 1 f1 rfl, by simpa using hf 2 f2 rfl, by simpa using hf 3 f3 rfl, by simpa using hf 4 f4 rfl, by simpa using hf 5 f5 rfl⟩
theorem open_act {fuel : Nat} {c0 c1 c2 c3 c4 c5 : Value} {x : DataW H × List MemPlace} (h : DataW.trod enc Tryd.prog w base spare held fuel 36 [c0, c1, c2, c3, c4, c5] = some x) {b i : Nat}
    (h0 : w.cell? ⟨b, i, none⟩ = some c0) (h1 : w.cell? ⟨b, i + 1, none⟩ = some c1) (h2 : w.cell? ⟨b, i + 2, none⟩ = some c2) (h3 : w.cell? ⟨b, i + 3, none⟩ = some c3) (h4 : w.cell? ⟨b, i + 4, none⟩ = some c4) (h5 : w.cell? ⟨b, i + 5, none⟩ = some c5) : ∃ y, AcC w b i y := by
  obtain ⟨_, _, _, _, _, _, n, f0, f1, f2, f3, f4, f5⟩ := trod_six Tryd.underlying36 h
  simp only [cellsStr, cellsI] at f0 f1 f2 f3 f4 f5
  obtain ⟨s0, rfl, l0⟩ := trod_str f0
  obtain ⟨k1, rfl, w1⟩ := trod_i64 f1
  obtain ⟨k2, rfl, w2⟩ := trod_i64 f2
  obtain ⟨k3, rfl, w3⟩ := trod_i64 f3
  obtain ⟨s4, rfl, l4⟩ := trod_str f4
  obtain ⟨s5, rfl, l5⟩ := trod_str f5
  exact ⟨⟨s0, k1, k2, k3, s4, s5⟩, h0, h1, h2, h3, h4, h5, w1, w2, w3, l0, l4, l5⟩
theorem open_acts {fuel : Nat} {cs : List Value} {x : DataW H × List MemPlace} (h : DataW.trod enc Tryd.prog w base spare held fuel 26 cs = some x) : ∃ v l, cs = [v] ∧ AcsIn w v l := by
  rcases DataW.trod_slice Tryd.underlying26 h with ⟨rfl, _⟩ | ⟨a, len, cap, elems, rest, n, _, rfl, _, _, hl, hc, hlen, hel, _⟩
  · exact ⟨_, [], rfl, none, 0, rfl, fun i x hx => by simp at hx⟩
  · simp only [cellsAct] at hel
    have sp : 0 < len → a.spot = none := fun h0 => by
      have h00 := hel 0 h0
      obtain ⟨y0, hy0⟩ : ∃ y, elems[0]? = some y := ⟨elems[0], List.getElem?_eq_getElem (by omega)⟩
      rw [hy0] at h00
      simp only [Option.bind_eq_some_iff] at h00
      obtain ⟨_, hd1, _⟩ := h00
      obtain ⟨_, _, _, _, _, _, _, _, hb, _⟩ := cells_six hd1
      simp [Addr.add] at hb
      rw [hb]
    obtain ⟨l, hll, hP⟩ := list_of (α := Ac) (P := fun i x => ∃ b off, some a = some ⟨b, off, none⟩ ∧ AcC w b (off + i * 6) x) len (fun i hi => by
      have hE := hel i hi
      obtain ⟨y, hy⟩ : ∃ y, elems[i]? = some y := ⟨elems[i], List.getElem?_eq_getElem (by omega)⟩
      rw [hy] at hE
      simp only [Option.bind_eq_some_iff] at hE
      obtain ⟨c, hc1, hc2⟩ := hE
      obtain ⟨b, off, d0, d1, d2, d3, d4, d5, hb, rfl, h0, h1, h2, h3, h4, h5⟩ := cells_six hc1
      obtain ⟨y, hyc⟩ := open_act hc2 h0 h1 h2 h3 h4 h5
      have hs := sp (by omega)
      obtain ⟨ab, ao, asp⟩ := a
      simp at hs
      subst hs
      have e : b = ab ∧ off = ao + i * 6 := by
        unfold Addr.add at hb
        split at hb <;> simp at hb <;> exact ⟨hb.1.symm, by omega⟩
      obtain ⟨rfl, rfl⟩ := e
      exact ⟨y, _, ao, rfl, hyc⟩)
    exact ⟨_, l, rfl, some a, cap, by rw [hll], hP⟩
end

end Go.Proofs.YtmlajdhkkcmjnacDoor

/-
  A row of pieces as an argument of a law: read, and read again behind the call; what a row's list of variables gives.
-/
import Derived.Test.YtmbdojcljgicaaaGreatDoorCards
import Derived.Test.YtmbdojcljgicaaaGreatDoorTie
import Derived.Test.YtmbdojcljgicaaaGreatDoorLaid
import Derived.Test.YtmbdojcljgicaaaGreatDoorPaint10
import Derived.ProofKit
import Derived.OpenShut
import Derived.Lib.SmallJoins
import Derived.LaidMore
import Derived.Deep.DeepHandedRow
import Derived.Deep.DeepWitnessRowRef
import Derived.ReadAgain
import Derived.ChangeBook
namespace Go.Proofs.YtmbdojcljgicaaaGreatDoor
open Go.ChangeShapes Go.WideShapes Go.ChangeAt Go.RowKit Go.Joins

theorem ownK : ownKnob Tryz.prog.godebug = none := by kernel_rfl
theorem wf_i64K {n : Int} : (Lit.int .i64 n).wf = true ↔ I64 n := by
  unfold I64
  constructor
  · intro h; exact bounds_i64 h
  · intro h; simp [Lit.wf, IntKind.min, IntKind.max, IntKind.signed, IntKind.bits]; omega
theorem starK : "*" ++ "errors.errorString" = "*errors.errorString" := by decide
theorem sentOkK : ∃ ms f, SentOk Tryz.prog 29 165 184 9 ms f :=
  ⟨_, _, { hi := Tryz.underlying29
           hrow := fun u h => typeName_ptr_named (nm := "errors.errorString") (by rw [starK]; kernel_rfl) (by kernel_rfl) (by decide) u (by rw [starK]; exact h)
           hp := Tryz.underlying165
           he := Tryz.underlying184
           hft := rfl
           hfo := rfl
           hs := Tryz.underlying9
           hc := by kernel_rfl
           hcs := by kernel_rfl }⟩
theorem rtNameK : (Tryz.prog.cutTypes.find? (·.1 == "internal/reflectlite.rtype")).map (·.2) = some 136 := by kernel_rfl
theorem oneRowK : ((List.range 196).filter fun t => Tryz.prog.rowNamed t [101, 114, 114, 111, 114]) = [29] := by kernel_rfl
theorem typesSizeK : Tryz.prog.types.size = 196 := by kernel_rfl
theorem gErrorTypeK : Tryz.prog.globalNamed "errors.errorType" = some 2 := by kernel_rfl
theorem handle_ofK {W : World} (h : handlesMet Tryz.prog [("errors.errorType", Rows.laid_errors_errorType)] W) : W.cell? ⟨2, 0, none⟩ = some (.iface 136 (.agg #[hE])) := by
  obtain ⟨name, u, ty, e1, e2, e3, e4, e5⟩ := h _ (List.mem_singleton.2 rfl)
  have en : name = [101, 114, 114, 111, 114] := (Option.some.inj e1).symm
  subst en
  obtain rfl := Option.some.inj (rtNameK.symm.trans e2)
  have hm : ty ∈ (List.range 196).filter fun t => Tryz.prog.rowNamed t [101, 114, 114, 111, 114] := List.mem_filter.2 ⟨List.mem_range.2 (by rw [← typesSizeK]; exact e3), e4⟩
  rw [oneRowK] at hm
  obtain rfl := List.mem_singleton.1 hm
  have hh : typeHandle Tryz.prog 29 = .pointer (some ⟨4, 29, none⟩) := by kernel_rfl
  rw [hh] at e5
  simpa using World.var?_cell gErrorTypeK e5 0
/-- The three errors and the handle. -/
theorem ep_of {W : World} (h : laidMet Tryz.prog [("leadlight/api.ErrBound", Rows.laid_leadlight_api_ErrBound), ("leadlight/api.ErrShape", Rows.laid_leadlight_api_ErrShape), ("leadlight/api.ErrValue", Rows.laid_leadlight_api_ErrValue)] W)
    (hh : handlesMet Tryz.prog [("errors.errorType", Rows.laid_errors_errorType)] W) : ∃ aB aS aZ aV, EP aB aS aZ aV W := by
  obtain ⟨ps, hl, hn, hk⟩ := h
  obtain ⟨ms, f, S⟩ := sentOkK
  obtain ⟨a, ha, _⟩ := sents S hl hn hk
  exact ⟨a 0, a 1, a 0, a 2, ⟨(ha 0 _ _ 0 rfl (by kernel_rfl) (by kernel_rfl)).1, (ha 1 _ _ 3 rfl (by kernel_rfl) (by kernel_rfl)).1, rfl⟩, (ha 2 _ _ 1 rfl (by kernel_rfl) (by kernel_rfl)).1, handle_ofK hh⟩

theorem cellsFracK : Tryz.prog.cellsOf 59 = 2 := by kernel_rfl
theorem cellsIntK : Tryz.prog.cellsOf 3 = 1 := by kernel_rfl
theorem cellsStrK : Tryz.prog.cellsOf 9 = 1 := by kernel_rfl
theorem cellsPtsK : Tryz.prog.cellsOf 38 = 1 := by kernel_rfl
theorem cellsPointK : Tryz.prog.cellsOf 61 = 4 := by kernel_rfl
theorem cellsPieceK : Tryz.prog.cellsOf 48 = 5 := by kernel_rfl
section
variable {H : Type} {enc : TypeId × Value → H} {w : World} {base : Nat} {spare : Nat → Bool} {held : Bool}
set_option maxRecDepth 100000 in
theorem trod_fracK {k : Nat} {c0 c1 : Value} {y : DataW H × List MemPlace}
    (h : DataW.trod enc Tryz.prog w base spare held k 59 [c0, c1] = some y) : ∃ n d : Int, c0 = .int .i64 n ∧ c1 = .int .i64 d ∧ I64 n ∧ I64 d := by
  obtain ⟨y0, y1, n, hx, _, h0, h1⟩ := trod_struct2 Tryz.underlying59 h
  obtain ⟨a, e0, rfl, w0⟩ := DataW.trod_int Tryz.underlying3 h0
  obtain ⟨b, e1, rfl, w1⟩ := DataW.trod_int Tryz.underlying3 h1
  simp [cellsIntK] at e0 e1
  exact ⟨a, b, e0, e1, wf_i64K.1 w0, wf_i64K.1 w1⟩
set_option maxRecDepth 100000 in
theorem trod_qtK {k : Nat} {c0 c1 c2 c3 : Value} {y : DataW H × List MemPlace}
    (h : DataW.trod enc Tryz.prog w base spare held k 61 [c0, c1, c2, c3] = some y) : ∃ a : Qt, c0 = .int .i64 a.xn ∧ c1 = .int .i64 a.xd ∧ c2 = .int .i64 a.yn ∧ c3 = .int .i64 a.yd ∧ PI a := by
  obtain ⟨y0, y1, n, hx, _, h0, h1⟩ := trod_struct2 Tryz.underlying61 h
  simp only [cellsFracK] at h0 h1
  obtain ⟨n0, d0, e0, e1, i0, j0⟩ := trod_fracK h0
  obtain ⟨n1, d1, e2, e3, i1, j1⟩ := trod_fracK h1
  exact ⟨⟨n0, d0, n1, d1⟩, e0, e1, e2, e3, i0, j0, i1, j1⟩
theorem cells_fourK {a : Addr} {cs : List Value} (h : w.cells? base a 4 = some cs) : ∃ b off c0 c1 c2 c3, a = ⟨b, off, none⟩ ∧ cs = [c0, c1, c2, c3] ∧ w.cell? ⟨b, off, none⟩ = some c0 ∧ w.cell? ⟨b, off + 1, none⟩ = some c1 ∧ w.cell? ⟨b, off + 2, none⟩ = some c2 ∧ w.cell? ⟨b, off + 3, none⟩ = some c3 := by
  unfold World.cells? at h
  split at h
  · simp only [List.range_succ, List.range_zero, List.nil_append, List.cons_append, List.mapM_cons, List.mapM_nil] at h
    cases h0 : w.cell? (a.add 0) with
    | none => simp [h0] at h
    | some c0 =>
    cases h1 : w.cell? (a.add 1) with
    | none => simp [h0, h1] at h
    | some c1 =>
    cases h2 : w.cell? (a.add 2) with
    | none => simp [h0, h1, h2] at h
    | some c2 =>
    cases h3 : w.cell? (a.add 3) with
    | none => simp [h0, h1, h2, h3] at h
    | some c3 =>
      simp [h0, h1, h2, h3] at h
      obtain ⟨b, off, sp⟩ := a
      cases sp with
      | some s =>
        simp [Addr.add, World.cell?] at h0
        split at h0 <;> cases h0
      | none => exact ⟨b, off, c0, c1, c2, c3, rfl, h.symm, by simpa [Addr.add] using h0, by simpa [Addr.add] using h1, by simpa [Addr.add] using h2, by simpa [Addr.add] using h3⟩
  · cases h
theorem cells_fiveK {a : Addr} {cs : List Value} (h : w.cells? base a 5 = some cs) : ∃ b off c0 c1 c2 c3 c4, a = ⟨b, off, none⟩ ∧ cs = [c0, c1, c2, c3, c4] ∧ w.cell? ⟨b, off, none⟩ = some c0 ∧ w.cell? ⟨b, off + 1, none⟩ = some c1 ∧ w.cell? ⟨b, off + 2, none⟩ = some c2 ∧ w.cell? ⟨b, off + 3, none⟩ = some c3 ∧ w.cell? ⟨b, off + 4, none⟩ = some c4 := by
  unfold World.cells? at h
  split at h
  · simp only [List.range_succ, List.range_zero, List.nil_append, List.cons_append, List.mapM_cons, List.mapM_nil] at h
    cases h0 : w.cell? (a.add 0) with
    | none => simp [h0] at h
    | some c0 =>
    cases h1 : w.cell? (a.add 1) with
    | none => simp [h0, h1] at h
    | some c1 =>
    cases h2 : w.cell? (a.add 2) with
    | none => simp [h0, h1, h2] at h
    | some c2 =>
    cases h3 : w.cell? (a.add 3) with
    | none => simp [h0, h1, h2, h3] at h
    | some c3 =>
    cases h4 : w.cell? (a.add 4) with
    | none => simp [h0, h1, h2, h3, h4] at h
    | some c4 =>
      simp [h0, h1, h2, h3, h4] at h
      obtain ⟨b, off, sp⟩ := a
      cases sp with
      | some s =>
        simp [Addr.add, World.cell?] at h0
        split at h0 <;> cases h0
      | none => exact ⟨b, off, c0, c1, c2, c3, c4, rfl, h.symm, by simpa [Addr.add] using h0, by simpa [Addr.add] using h1, by simpa [Addr.add] using h2, by simpa [Addr.add] using h3, by simpa [Addr.add] using h4⟩
  · cases h
theorem list_ofK {α : Type} {P : Nat → α → Prop} : ∀ n : Nat, (∀ i, i < n → ∃ x, P i x) → ∃ l : List α, l.length = n ∧ ∀ i x, l[i]? = some x → P i x
  | 0, _ => ⟨[], rfl, fun i x h => by simp at h⟩
  | n + 1, h => by
    obtain ⟨l, hl, hP⟩ := list_ofK n (fun i hi => h i (by omega))
    obtain ⟨x, hx⟩ := h n (by omega)
    refine ⟨l ++ [x], by simp [hl], fun i y hy => ?_⟩
    by_cases hi : i < n
    · rw [List.getElem?_append_left (by omega)] at hy
      exact hP i y hy
    · rw [List.getElem?_append_right (by omega)] at hy
      have h0 : i - l.length = 0 := by
        rcases Nat.eq_zero_or_pos (i - l.length) with h0 | h0
        · exact h0
        · rw [List.getElem?_eq_none (by simp; omega)] at hy
          cases hy
      rw [h0] at hy
      simp at hy
      obtain rfl : i = n := by omega
      rw [← hy]
      exact hx
theorem open_ptsK {fuel : Nat} {cs : List Value} {x : DataW H × List MemPlace} (h : DataW.trod enc Tryz.prog w base spare held fuel 38 cs = some x) : ∃ o cap l, cs = [.slice o l.length cap] ∧ PtsAt w o l := by
  rcases DataW.trod_slice Tryz.underlying38 h with ⟨rfl, _⟩ | ⟨a, len, cap, elems, rest, n, _, rfl, _, _, hl, hc, hlen, hel, _⟩
  · exact ⟨none, 0, [], rfl, fun i x hx => by simp at hx⟩
  · simp only [cellsPointK] at hel
    have sp : 0 < len → a.spot = none := fun h0 => by
      have h00 := hel 0 h0
      obtain ⟨y0, hy0⟩ : ∃ y, elems[0]? = some y := ⟨elems[0], List.getElem?_eq_getElem (by omega)⟩
      rw [hy0] at h00
      simp only [Option.bind_eq_some_iff] at h00
      obtain ⟨_, hd1, _⟩ := h00
      obtain ⟨_, _, _, _, _, _, hb, _⟩ := cells_fourK hd1
      simp [Addr.add] at hb
      rw [hb]
    obtain ⟨l, hll, hP⟩ := list_ofK (α := Qt) (P := fun i x => ∃ b off, some a = some ⟨b, off, none⟩ ∧ PtC w b (off + i * 4) x) len (fun i hi => by
      have hE := hel i hi
      obtain ⟨y, hy⟩ : ∃ y, elems[i]? = some y := ⟨elems[i], List.getElem?_eq_getElem (by omega)⟩
      rw [hy] at hE
      simp only [Option.bind_eq_some_iff] at hE
      obtain ⟨c, hc1, hc2⟩ := hE
      obtain ⟨b, off, d0, d1, d2, d3, hb, rfl, h0, h1, h2, h3⟩ := cells_fourK hc1
      obtain ⟨y, rfl, rfl, rfl, rfl, hpi⟩ := trod_qtK hc2
      have hs := sp (by omega)
      obtain ⟨ab, ao, asp⟩ := a
      simp at hs
      subst hs
      have e : b = ab ∧ off = ao + i * 4 := by
        unfold Addr.add at hb
        split at hb <;> simp at hb <;> exact ⟨hb.1.symm, by omega⟩
      obtain ⟨rfl, rfl⟩ := e
      exact ⟨y, _, ao, rfl, h0, h1, h2, h3, hpi⟩)
    exact ⟨some a, cap, l, by rw [hll], hP⟩
theorem trod_fiveK {t : TypeId} {f0 f1 f2 f3 f4 : Field} {fuel : Nat} {cs : List Value} {x : DataW H × List MemPlace} {P : Program} (ht : P.underlying t = some (.struct #[f0, f1, f2, f3, f4])) (h : DataW.trod enc P w base spare held fuel t cs = some x) :
    ∃ y0 y1 y2 y3 y4 n, DataW.trod enc P w base spare held n f0.type ((cs.drop f0.offset).take (P.cellsOf f0.type)) = some y0 ∧ DataW.trod enc P w base spare held n f1.type ((cs.drop f1.offset).take (P.cellsOf f1.type)) = some y1 ∧ DataW.trod enc P w base spare held n f2.type ((cs.drop f2.offset).take (P.cellsOf f2.type)) = some y2 ∧
      DataW.trod enc P w base spare held n f3.type ((cs.drop f3.offset).take (P.cellsOf f3.type)) = some y3 ∧ DataW.trod enc P w base spare held n f4.type ((cs.drop f4.offset).take (P.cellsOf f4.type)) = some y4 := by
  obtain ⟨xs, n, hn, rfl, hl, hlen, hf⟩ := DataW.trod_struct ht h
  match xs, hlen with
  | [y0, y1, y2, y3, y4], _ => exact ⟨y0, y1, y2, y3, y4, n, by simpa using hf 0 f0 rfl, by simpa using hf 1 f1 rfl, by simpa using hf 2 f2 rfl, by simpa using hf 3 f3 rfl, by simpa using hf 4 f4 rfl⟩
theorem trod_i64K {fuel : Nat} {c : Value} {x : DataW H × List MemPlace} (h : DataW.trod enc Tryz.prog w base spare held fuel 3 [c] = some x) : ∃ k : Int, c = .int .i64 k := by
  obtain ⟨k, h1, _, _⟩ := DataW.trod_int Tryz.underlying3 h
  simp at h1
  exact ⟨k, h1⟩
theorem trod_strK {fuel : Nat} {c : Value} {x : DataW H × List MemPlace} (h : DataW.trod enc Tryz.prog w base spare held fuel 9 [c] = some x) : ∃ s : ByteArray, c = .string s := by
  obtain ⟨s', h1, _, _⟩ := DataW.trod_string Tryz.underlying9 h
  simp at h1
  exact ⟨s', h1⟩
set_option maxRecDepth 100000 in
theorem open_pieceK {fuel : Nat} {c0 c1 c2 c3 c4 : Value} {x : DataW H × List MemPlace} (h : DataW.trod enc Tryz.prog w base spare held fuel 48 [c0, c1, c2, c3, c4] = some x) {b i : Nat}
    (h0 : w.cell? ⟨b, i, none⟩ = some c0) (h1 : w.cell? ⟨b, i + 1, none⟩ = some c1) (h2 : w.cell? ⟨b, i + 2, none⟩ = some c2) (h3 : w.cell? ⟨b, i + 3, none⟩ = some c3) (h4 : w.cell? ⟨b, i + 4, none⟩ = some c4) : ∃ y : P5, P5C w b i y ∧ PtsAt w y.o y.s.pts := by
  obtain ⟨_, _, _, _, _, n, f0, f1, f2, f3, f4⟩ := trod_fiveK Tryz.underlying48 h
  simp only [cellsStrK, cellsIntK, cellsPtsK] at f0 f1 f2 f3 f4
  obtain ⟨k0, rfl⟩ := trod_i64K f0
  obtain ⟨o, cap, l, hc, hP⟩ := open_ptsK f1
  obtain rfl : c1 = .slice o l.length cap := by simpa using hc
  obtain ⟨s2, rfl⟩ := trod_strK f2
  obtain ⟨s3, rfl⟩ := trod_strK f3
  obtain ⟨k4, rfl⟩ := trod_i64K f4
  exact ⟨⟨k0, o, cap, ⟨l, s2, s3⟩, k4⟩, ⟨h0, h1, h2, h3, h4⟩, hP⟩
theorem open_piecesF {fuel : Nat} {cs : List Value} {x : DataW H × List MemPlace} (h : DataW.trod enc Tryz.prog w base spare held fuel 22 cs = some x) : ∃ o cap l, cs = [.slice o l.length cap] ∧ P5sAt w o l ∧ PtsOf w l := by
  rcases DataW.trod_slice Tryz.underlying22 h with ⟨rfl, _⟩ | ⟨a, len, cap, elems, rest, n, _, rfl, _, _, hl, hc, hlen, hel, _⟩
  · exact ⟨none, 0, [], rfl, fun i x hx => by simp at hx, fun x hx => by cases hx⟩
  · simp only [cellsPieceK] at hel
    have sp : 0 < len → a.spot = none := fun h0 => by
      have h00 := hel 0 h0
      obtain ⟨y0, hy0⟩ : ∃ y, elems[0]? = some y := ⟨elems[0], List.getElem?_eq_getElem (by omega)⟩
      rw [hy0] at h00
      simp only [Option.bind_eq_some_iff] at h00
      obtain ⟨_, hd1, _⟩ := h00
      obtain ⟨_, _, _, _, _, _, _, hb, _⟩ := cells_fiveK hd1
      simp [Addr.add] at hb
      rw [hb]
    obtain ⟨l, hll, hP⟩ := list_ofK (α := P5) (P := fun i x => (∃ b off, some a = some ⟨b, off, none⟩ ∧ P5C w b (off + i * 5) x) ∧ PtsAt w x.o x.s.pts) len (fun i hi => by
      have hE := hel i hi
      obtain ⟨y, hy⟩ : ∃ y, elems[i]? = some y := ⟨elems[i], List.getElem?_eq_getElem (by omega)⟩
      rw [hy] at hE
      simp only [Option.bind_eq_some_iff] at hE
      obtain ⟨c, hc1, hc2⟩ := hE
      obtain ⟨b, off, d0, d1, d2, d3, d4, hb, rfl, h0, h1, h2, h3, h4⟩ := cells_fiveK hc1
      obtain ⟨y, hyc, hyp⟩ := open_pieceK hc2 h0 h1 h2 h3 h4
      have hs := sp (by omega)
      obtain ⟨ab, ao, asp⟩ := a
      simp at hs
      subst hs
      have e : b = ab ∧ off = ao + i * 5 := by
        unfold Addr.add at hb
        split at hb <;> simp at hb <;> exact ⟨hb.1.symm, by omega⟩
      obtain ⟨rfl, rfl⟩ := e
      exact ⟨y, ⟨_, ao, rfl, hyc⟩, hyp⟩)
    refine ⟨some a, cap, l, by rw [hll], fun i x hx => (hP i x hx).1, fun x hx => ?_⟩
    obtain ⟨i, hi⟩ := List.getElem?_of_mem hx
    exact (hP i x hi).2
end
theorem pcsRec : Tryz.prog.readableRec 22 = true := by kernel_rfl
theorem pcsKids : Kids Tryz.prog (InBook Tryz.prog 22) := kids_book (by kernel_rfl) pcsRec
theorem pcsIn : InBook Tryz.prog 22 22 := ⟨of_decide_eq_true (by kernel_rfl), book_self _⟩
set_option maxRecDepth 100000 in
theorem open_pcs {H : Type} {enc : TypeId × Value → H} {w : World} {r : Reach} {b0 base : Nat} {spare : Nat → Bool} {held : Bool} {v : Value} {d : DataW H} {p : List MemPlace}
    (hv : Value.okWide Tryz.prog w r b0 22 v) (h : DataW.Trod enc Tryz.prog w base spare held 22 v d p) :
    ∃ o l cap, v = .slice o l.length cap ∧ P5sAt w o l ∧ PtsOf w l := by
  obtain ⟨a, len, cap, rfl⟩ := okWide_slice Tryz.underlying22 hv
  obtain ⟨fuel, hf⟩ := h
  obtain ⟨o, cap', l, hc, h1, h2⟩ := open_piecesF hf
  have e : Value.slice a len cap = .slice o l.length cap' := by simpa [Value.cells] using hc
  exact ⟨o, l, cap', e, h1, h2⟩
theorem again_pcs {H : Type} {enc : TypeId × Value → H} {W W' : World} {sp : Nat → Bool} {v : Value} {d : DataW H} {p : List MemPlace} (hb : Below W.heap.size W W')
    (h : DataW.Trod enc Tryz.prog W 0 (fun _ => true) true 22 v d p) (hs : ∀ x ∈ p, sp x.block = true) (hl : ∀ x ∈ p, x.block < W.heap.size) : DataW.Trod enc Tryz.prog W' 0 sp true 22 v d p := by
  obtain ⟨n, hn⟩ := DataW.Trod.respare pcsKids (fun t e ht hu => book_sized pcsRec ht hu) pcsIn h hs
  exact ⟨n, DataW.trod_carry n _ _ _ hn (fun x hx => hb.same (hl x hx))⟩
end Go.Proofs.YtmbdojcljgicaaaGreatDoor

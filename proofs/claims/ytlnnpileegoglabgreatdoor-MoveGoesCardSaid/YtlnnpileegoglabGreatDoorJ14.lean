/-
  What a row's list of package-level variables gives: one entry at a time, and for the sentinels their addresses, two of them never one. Over any program.
-/
import Derived.LaidLaws
import Derived.LaidHandle
import Derived.Lib.LaidTab
import Derived.RowKit
import Derived.Test.YtlnnpileegoglabGreatDoorCards
import Derived.Test.YtlnnpileegoglabGreatDoorTie
import Derived.Test.YtlnnpileegoglabGreatDoorJ2
import Derived.ProofKit
import Derived.OpenShut
import Derived.Lib.SmallJoins
import Derived.LaidMore
import Derived.Deep.DeepHandedRow
import Derived.Deep.DeepWitnessRowRef
import Derived.Test.YtlnnpileegoglabGreatDoorJ3
import Derived.Test.YtlnnpileegoglabGreatDoorJ12
namespace Go.Proofs.YtlnnpileegoglabGreatDoor
open Go.ChangeShapes Go.RowKit

/-- one entry of a list -/
theorem laidMet_one {P : Program} {w : World} : ∀ {l : List (String × DataW Unit)} {x : String × DataW Unit}, laidMet P l w → x ∈ l → laidMet P [x] w := by
  intro l
  induction l with
  | nil => intro x _ hx; cases hx
  | cons y r ih =>
    intro x h hx
    obtain ⟨ps, ⟨g, t, cs, fuel, p, q, hg, ht, hv, hd, hr, rfl⟩, hn, hk⟩ := h
    rcases List.mem_cons.1 hx with rfl | hx
    · exact ⟨_, ⟨g, t, cs, fuel, p, [], hg, ht, hv, hd, rfl, rfl⟩, by simpa using (List.nodup_append.1 hn).1, fun b off hb => hk b off (by simp at hb ⊢; rcases hb with hb | hb <;> simp [hb])⟩
    · exact ih ⟨q, hr, (List.nodup_append.1 hn).2.1, fun b off hb => hk b off (by simp [hb])⟩ hx

/-- an entry of errors.New's make -/
def sent (text : List UInt8) : DataW Unit := .iface "*errors.errorString" (.ptr (.agg [.lit (.string text)]))
/-- the checks on a program: the type of such a variable (ti), of a pointer (tp), of what it points to -/
structure SentOk (P : Program) (ti tp te ts : TypeId) (ms : Array (String × TypeId)) (f : Field) : Prop where
  hi : P.underlying ti = some (.interface ms)
  hrow : ∀ u, P.typeName? 3 u = some "*errors.errorString" → u = tp
  hp : P.underlying tp = some (.pointer te)
  he : P.underlying te = some (.struct #[f])
  hft : f.type = ts
  hfo : f.offset = 0
  hs : P.underlying ts = some .string
  hc : P.cellsOf te = 1
  hcs : P.cellsOf ts = 1

/-- one sentinel -/
theorem sent_one {P : Program} {w : World} {ti tp te ts : TypeId} {ms : Array (String × TypeId)} {fd : Field} (S : SentOk P ti tp te ts ms fd) {fuel g : Nat} {n : String} {cs : Array Value} {text : List UInt8} {p : List MemPlace}
    (hg : P.globalNamed n = some g) (hv : w.var? P n = some cs) (hd : DataW.trod (fun _ => ()) P w 0 (fun _ => true) false fuel ti cs.toList = some (sent text, p))
    (hk : ∀ b off, MemPlace.cell b off ∈ MemPlace.row ⟨g, 0, none⟩ cs.size ++ p → (∃ c t, w.heap[b]? = some (.cells c t (0, 0))) ∧ ∀ u v, w.cell? ⟨b, off, none⟩ = some (.iface u v) → Value.okWide P w .any 0 u v) :
    ∃ a, w.cell? ⟨g, 0, none⟩ = some (.iface tp (.pointer (some a))) ∧ (∃ c t, w.heap[a.block]? = some (.cells c t (0, 0))) ∧ MemPlace.cell a.block a.off ∈ p := by
  obtain ⟨l⟩ := cs
  have ok : ∀ u v, l = [.iface u v] → Value.okWide P w .any 0 u v := fun u v e => by
    subst e
    exact (hk g 0 (by simp [MemPlace.row])).2 u v (by simpa using World.var?_cell hg hv 0)
  obtain ⟨a, s, rfl, hc0, hs0, hz0, rfl⟩ := errorString_of_trod S.hi S.hrow S.hp S.he S.hft S.hfo S.hs S.hc S.hcs hd ok
  have hm : MemPlace.cell a.block a.off ∈ MemPlace.row a 1 := by simp [MemPlace.row]
  refine ⟨a, by simpa using World.var?_cell hg hv 0, (hk a.block a.off (by simp [hm])).1, hm⟩

/-- ALL SENTINELS OF A LIST: where each one lies, and that no two are one -/
theorem sents {P : Program} {w : World} {ti tp te ts : TypeId} {ms : Array (String × TypeId)} {fd : Field} (S : SentOk P ti tp te ts ms fd) :
    ∀ {l : List (String × DataW Unit)} {ps : List MemPlace}, DataW.LaidVars P w l ps → ps.Nodup → (∀ b off, MemPlace.cell b off ∈ ps → (∃ c t, w.heap[b]? = some (.cells c t (0, 0))) ∧ ∀ u v, w.cell? ⟨b, off, none⟩ = some (.iface u v) → Value.okWide P w .any 0 u v) →
      ∃ f : Nat → Addr, (∀ i n text g, l[i]? = some (n, sent text) → P.globalNamed n = some g → (P.globals[g]?).map (·.type) = some ti → w.cell? ⟨g, 0, none⟩ = some (.iface tp (.pointer (some (f i)))) ∧ (∃ c t, w.heap[(f i).block]? = some (.cells c t (0, 0))) ∧ MemPlace.cell (f i).block (f i).off ∈ ps) ∧
        (∀ i j n n' text text' g g', i ≠ j → l[i]? = some (n, sent text) → l[j]? = some (n', sent text') → P.globalNamed n = some g → P.globalNamed n' = some g' → (P.globals[g]?).map (·.type) = some ti → (P.globals[g']?).map (·.type) = some ti → f i ≠ f j) := by
  intro l
  induction l with
  | nil => intro ps _ _ _; exact ⟨fun _ => ⟨0, 0, none⟩, by simp, by simp⟩
  | cons y r ih =>
    intro ps h hn hk
    obtain ⟨g, t, cs, fuel, p, q, hg, ht, hv, hd, hr, rfl⟩ := h
    obtain ⟨f', hf1, hf2⟩ := ih hr (List.nodup_append.1 hn).2.1 (fun b off hb => hk b off (by simp [hb]))
    by_cases hy : ∃ text, y.2 = sent text ∧ t = ti
    · obtain ⟨text, hy, rfl⟩ := hy
      rw [hy] at hd
      obtain ⟨a, a1, a2, a3⟩ := sent_one S hg hv hd (fun b off hb => hk b off (by simp only [List.mem_append] at hb ⊢; exact Or.inl hb))
      have key : ∀ j n' text' g', r[j]? = some (n', sent text') → P.globalNamed n' = some g' → (P.globals[g']?).map (·.type) = some t → a ≠ f' j := by
        intro j n' text' g' hj hg' ht' e
        have := (hf1 j n' text' g' hj hg' ht').2.2
        rw [← e] at this
        exact (List.nodup_append.1 hn).2.2 _ (by simp [a3]) _ this rfl
      refine ⟨fun | 0 => a | i + 1 => f' i, ?_, ?_⟩
      · intro i n text g' hi hg' ht'
        cases i with
        | zero =>
          simp only [List.getElem?_cons_zero, Option.some.injEq] at hi
          subst hi
          obtain rfl := Option.some.inj (hg.symm.trans hg')
          exact ⟨a1, a2, by simp [a3]⟩
        | succ i =>
          obtain ⟨b1, b2, b3⟩ := hf1 i n text g' (by simpa using hi) hg' ht'
          exact ⟨b1, b2, by simp [b3]⟩
      · intro i j n n' text text' g1 g2 hij hi hj hg1 hg2 ht1 ht2
        cases i with
        | zero =>
          cases j with
          | zero => exact absurd rfl hij
          | succ j => exact key j n' text' g2 (by simpa using hj) hg2 ht2
        | succ i =>
          cases j with
          | zero => exact fun e => key i n text g1 (by simpa using hi) hg1 ht1 e.symm
          | succ j => exact hf2 i j n n' text text' g1 g2 (by omega) (by simpa using hi) (by simpa using hj) hg1 hg2 ht1 ht2
    · refine ⟨fun | 0 => ⟨0, 0, none⟩ | i + 1 => f' i, ?_, ?_⟩
      · intro i n text g' hi hg' ht'
        cases i with
        | zero =>
          simp only [List.getElem?_cons_zero, Option.some.injEq] at hi
          subst hi
          obtain rfl := Option.some.inj (hg.symm.trans hg')
          exact absurd ⟨text, rfl, Option.some.inj (ht.symm.trans ht')⟩ hy
        | succ i =>
          obtain ⟨b1, b2, b3⟩ := hf1 i n text g' (by simpa using hi) hg' ht'
          exact ⟨b1, b2, by simp [b3]⟩
      · intro i j n n' text text' g1 g2 hij hi hj hg1 hg2 ht1 ht2
        cases i with
        | zero =>
          simp only [List.getElem?_cons_zero, Option.some.injEq] at hi
          subst hi
          obtain rfl := Option.some.inj (hg.symm.trans hg1)
          exact absurd ⟨text, rfl, Option.some.inj (ht.symm.trans ht1)⟩ hy
        | succ i =>
          cases j with
          | zero =>
            simp only [List.getElem?_cons_zero, Option.some.injEq] at hj
            subst hj
            obtain rfl := Option.some.inj (hg.symm.trans hg2)
            exact absurd ⟨text', rfl, Option.some.inj (ht.symm.trans ht2)⟩ hy
          | succ j => exact hf2 i j n n' text text' g1 g2 (by omega) (by simpa using hi) (by simpa using hj) hg1 hg2 ht1 ht2
end Go.Proofs.YtlnnpileegoglabGreatDoor

namespace Go.Proofs.YtlnnpileegoglabGreatDoor
open Go.ChangeShapes Go.WideShapes Go.ChangeAt Go.RowKit Go.Joins

theorem own : ownKnob Tryz.prog.godebug = none := by kernel_rfl
theorem cellsFrac : Tryz.prog.cellsOf 23 = 2 := by kernel_rfl

theorem wf_i64 {n : Int} : (Lit.int .i64 n).wf = true ↔ I64 n := by
  unfold I64
  constructor
  · intro h; exact bounds_i64 h
  · intro h; simp [Lit.wf, IntKind.min, IntKind.max, IntKind.signed, IntKind.bits]; omega

set_option maxRecDepth 100000 in
theorem open_frac {H : Type} {enc : TypeId × Value → H} {w : World} {r : Reach} {b0 base : Nat} {spare : Nat → Bool} {held : Bool} {v : Value} {d : DataW H} {p : List MemPlace}
    (hv : Value.okWide Tryz.prog w r b0 23 v) (h : DataW.Trod enc Tryz.prog w base spare held 23 v d p) :
    ∃ n m, v = .agg #[.int .i64 n, .int .i64 m] ∧ d = .agg [.lit (.int .i64 n), .lit (.int .i64 m)] ∧ p = [] ∧ I64 n ∧ I64 m := by
  obtain ⟨c0, c1, y0, y1, k, rfl, rfl, rfl, h0, h1⟩ := open_agg2 Tryz.underlying23 (by kernel_rfl) cellsFrac hv h
  obtain ⟨n, e0, rfl, w0⟩ := DataW.trod_int Tryz.underlying3 h0
  obtain ⟨m, e1, rfl, w1⟩ := DataW.trod_int Tryz.underlying3 h1
  simp at e0 e1
  subst e0 e1
  exact ⟨n, m, rfl, rfl, rfl, wf_i64.1 w0, wf_i64.1 w1⟩
set_option maxRecDepth 100000 in
theorem shut_frac {H : Type} {enc : TypeId × Value → H} {w : World} {base : Nat} {spare : Nat → Bool} {held : Bool} {n m : Int} (hn : I64 n) (hm : I64 m) :
    DataW.Trod enc Tryz.prog w base spare held 23 (.agg #[.int .i64 n, .int .i64 m]) (.agg [.lit (.int .i64 n), .lit (.int .i64 m)]) [] :=
  shut_agg2 (y0 := (.lit (.int .i64 n), [])) (y1 := (.lit (.int .i64 m), [])) Tryz.underlying23 (by kernel_rfl) cellsFrac ⟨1, by simp [DataW.trod, Tryz.underlying3, wf_i64.2 hn]⟩ ⟨1, by simp [DataW.trod, Tryz.underlying3, wf_i64.2 hm]⟩

theorem star : "*" ++ "errors.errorString" = "*errors.errorString" := by decide
theorem sentOk : ∃ ms f, SentOk Tryz.prog 33 180 201 9 ms f :=
  ⟨_, _, { hi := Tryz.underlying33
           hrow := fun u h => typeName_ptr_named (nm := "errors.errorString") (by rw [star]; kernel_rfl) (by kernel_rfl) (by decide) u (by rw [star]; exact h)
           hp := Tryz.underlying180
           he := Tryz.underlying201
           hft := rfl
           hfo := rfl
           hs := Tryz.underlying9
           hc := by kernel_rfl
           hcs := by kernel_rfl }⟩

end Go.Proofs.YtlnnpileegoglabGreatDoor

namespace Go.Proofs.YtlnnpileegoglabGreatDoor
open Go.ChangeShapes Go.WideShapes Go.ChangeAt Go.RowKit Go.Joins

theorem cellsSix : Tryz.prog.cellsOf 25 = 12 := by kernel_rfl
theorem cellsInt : Tryz.prog.cellsOf 3 = 1 := by kernel_rfl
theorem cellsPoint : Tryz.prog.cellsOf 27 = 4 := by kernel_rfl

def frD {H : Type} (x : Fr) : DataW H := .agg [.lit (.int .i64 x.n), .lit (.int .i64 x.d)]
def mvD {H : Type} (m : Mv) : DataW H := .agg [frD m.a, frD m.b, frD m.c, frD m.d, frD m.e, frD m.f]
def ptD {H : Type} (p : Pt) : DataW H := .agg [frD p.x, frD p.y]

set_option maxRecDepth 100000 in
/-- Two cells that are read as a fraction. -/
theorem trod_frac {H : Type} {enc : TypeId × Value → H} {w : World} {base : Nat} {spare : Nat → Bool} {held : Bool} {k : Nat} {c0 c1 : Value} {y : DataW H × List MemPlace}
    (h : DataW.trod enc Tryz.prog w base spare held k 23 [c0, c1] = some y) : ∃ x : Fr, c0 = .int .i64 x.n ∧ c1 = .int .i64 x.d ∧ y = (frD x, []) ∧ x.i64 := by
  obtain ⟨y0, y1, n, hx, _, h0, h1⟩ := trod_struct2 Tryz.underlying23 h
  obtain ⟨a, e0, rfl, w0⟩ := DataW.trod_int Tryz.underlying3 h0
  obtain ⟨b, e1, rfl, w1⟩ := DataW.trod_int Tryz.underlying3 h1
  simp [cellsInt] at e0 e1
  exact ⟨⟨a, b⟩, by simpa using e0, by simpa using e1, by simpa [frD] using hx, wf_i64.1 w0, wf_i64.1 w1⟩

theorem list12 {cs : List Value} (h : cs.length = 12) : ∃ c0 c1 c2 c3 c4 c5 c6 c7 c8 c9 c10 c11, cs = [c0, c1, c2, c3, c4, c5, c6, c7, c8, c9, c10, c11] := by
  match cs, h with
  | [c0, c1, c2, c3, c4, c5, c6, c7, c8, c9, c10, c11], _ => exact ⟨c0, c1, c2, c3, c4, c5, c6, c7, c8, c9, c10, c11, rfl⟩
theorem list4 {cs : List Value} (h : cs.length = 4) : ∃ c0 c1 c2 c3, cs = [c0, c1, c2, c3] := by
  match cs, h with
  | [c0, c1, c2, c3], _ => exact ⟨c0, c1, c2, c3, rfl⟩
theorem list6 {α : Type} {cs : List α} (h : cs.length = 6) : ∃ c0 c1 c2 c3 c4 c5, cs = [c0, c1, c2, c3, c4, c5] := by
  match cs, h with
  | [c0, c1, c2, c3, c4, c5], _ => exact ⟨c0, c1, c2, c3, c4, c5, rfl⟩

set_option maxRecDepth 100000 in
theorem open_six {H : Type} {enc : TypeId × Value → H} {w : World} {r : Reach} {b0 base : Nat} {spare : Nat → Bool} {held : Bool} {v : Value} {d : DataW H} {p : List MemPlace}
    (hv : Value.okWide Tryz.prog w r b0 25 v) (h : DataW.Trod enc Tryz.prog w base spare held 25 v d p) :
    ∃ m : Mv, v = mv m ∧ d = mvD m ∧ p = [] ∧ m.i64 := by
  have hu := Tryz.underlying25
  simp only [Value.okWide, hu] at hv
  obtain ⟨cs, rfl, hsz, _⟩ := hv
  rw [cellsSix] at hsz
  obtain ⟨c0, c1, c2, c3, c4, c5, c6, c7, c8, c9, c10, c11, hcs⟩ := list12 (cs := cs.toList) (by simpa using hsz)
  obtain rfl : cs = #[c0, c1, c2, c3, c4, c5, c6, c7, c8, c9, c10, c11] := by cases cs; simp at hcs; simp [hcs]
  obtain ⟨fuel, hf⟩ := h
  obtain ⟨xs, k, _, hx, _, hl, hall⟩ := DataW.trod_array hu hf
  obtain ⟨x0, x1, x2, x3, x4, x5, rfl⟩ := list6 hl
  have g0 := hall 0 (by omega)
  have g1 := hall 1 (by omega)
  have g2 := hall 2 (by omega)
  have g3 := hall 3 (by omega)
  have g4 := hall 4 (by omega)
  have g5 := hall 5 (by omega)
  simp only [cellsFrac, Value.cells] at g0 g1 g2 g3 g4 g5
  obtain ⟨a, e0, e1, rfl, ia⟩ := trod_frac g0
  obtain ⟨b, e2, e3, rfl, ib⟩ := trod_frac g1
  obtain ⟨c, e4, e5, rfl, ic⟩ := trod_frac g2
  obtain ⟨d', e6, e7, rfl, id'⟩ := trod_frac g3
  obtain ⟨e, e8, e9, rfl, ie⟩ := trod_frac g4
  obtain ⟨f, e10, e11, rfl, iff'⟩ := trod_frac g5
  subst e0 e1 e2 e3 e4 e5 e6 e7 e8 e9 e10 e11
  simp only [Prod.mk.injEq] at hx
  exact ⟨⟨a, b, c, d', e, f⟩, rfl, hx.1, hx.2, ia, ib, ic, id', ie, iff'⟩

set_option maxRecDepth 100000 in
theorem open_pt {H : Type} {enc : TypeId × Value → H} {w : World} {r : Reach} {b0 base : Nat} {spare : Nat → Bool} {held : Bool} {v : Value} {d : DataW H} {p : List MemPlace}
    (hv : Value.okWide Tryz.prog w r b0 27 v) (h : DataW.Trod enc Tryz.prog w base spare held 27 v d p) :
    ∃ q : Pt, v = pv q ∧ d = ptD q ∧ p = [] ∧ q.i64 := by
  obtain ⟨cs, rfl, hsz⟩ := okWide_struct Tryz.underlying27 hv
  rw [cellsPoint] at hsz
  obtain ⟨c0, c1, c2, c3, hcs⟩ := list4 (cs := cs.toList) (by simpa using hsz)
  obtain rfl : cs = #[c0, c1, c2, c3] := by cases cs; simp at hcs; simp [hcs]
  obtain ⟨fuel, hf⟩ := h
  obtain ⟨y0, y1, n, hx, _, h0, h1⟩ := trod_struct2 Tryz.underlying27 hf
  simp only [cellsFrac, Value.cells] at h0 h1
  obtain ⟨a, e0, e1, rfl, ia⟩ := trod_frac h0
  obtain ⟨b, e2, e3, rfl, ib⟩ := trod_frac h1
  subst e0 e1 e2 e3
  simp only [Prod.mk.injEq] at hx
  exact ⟨⟨a, b⟩, rfl, hx.1, hx.2, ia, ib⟩

set_option maxRecDepth 100000 in
set_option maxHeartbeats 2000000 in
theorem shut_six {H : Type} {enc : TypeId × Value → H} {w : World} {base : Nat} {spare : Nat → Bool} {held : Bool} {m : Mv} (h : m.i64) :
    DataW.Trod enc Tryz.prog w base spare held 25 (mv m) (mvD m) [] := by
  obtain ⟨⟨a1, a2⟩, ⟨b1, b2⟩, ⟨c1, c2⟩, ⟨d1, d2⟩, ⟨e1, e2⟩, f1, f2⟩ := h
  exact ⟨3, by simp [DataW.trod, Tryz.underlying25, Tryz.underlying23, Tryz.underlying3, cellsSix, cellsFrac, cellsInt, Value.cells, List.range, List.range.loop, mvD, frD, wf_i64.2 a1, wf_i64.2 a2, wf_i64.2 b1, wf_i64.2 b2, wf_i64.2 c1, wf_i64.2 c2, wf_i64.2 d1, wf_i64.2 d2, wf_i64.2 e1, wf_i64.2 e2, wf_i64.2 f1, wf_i64.2 f2]⟩

set_option maxRecDepth 100000 in
set_option maxHeartbeats 2000000 in
theorem shut_pt {H : Type} {enc : TypeId × Value → H} {w : World} {base : Nat} {spare : Nat → Bool} {held : Bool} {p : Pt} (h : p.i64) :
    DataW.Trod enc Tryz.prog w base spare held 27 (pv p) (ptD p) [] := by
  obtain ⟨⟨a1, a2⟩, b1, b2⟩ := h
  exact ⟨3, by simp [DataW.trod, Tryz.underlying27, Tryz.underlying23, Tryz.underlying3, cellsPoint, cellsFrac, cellsInt, Value.cells, ptD, frD, wf_i64.2 a1, wf_i64.2 a2, wf_i64.2 b1, wf_i64.2 b2]⟩

end Go.Proofs.YtlnnpileegoglabGreatDoor

namespace Go.Proofs.YtlnnpileegoglabGreatDoor
open Go.ChangeShapes Go.WideShapes Go.RowKit

theorem star2 : "*" ++ "errors.errorString" = "*errors.errorString" := by decide
theorem sentOk2 : ∃ ms f, SentOk Tryz.prog 33 180 201 9 ms f :=
  ⟨_, _, { hi := Tryz.underlying33
           hrow := fun u h => typeName_ptr_named (nm := "errors.errorString") (by rw [star2]; kernel_rfl) (by kernel_rfl) (by decide) u (by rw [star2]; exact h)
           hp := Tryz.underlying180
           he := Tryz.underlying201
           hft := rfl
           hfo := rfl
           hs := Tryz.underlying9
           hc := by kernel_rfl
           hcs := by kernel_rfl }⟩

theorem rtName : (Tryz.prog.cutTypes.find? (·.1 == "internal/reflectlite.rtype")).map (·.2) = some 145 := by kernel_rfl
theorem oneRow : ((List.range 213).filter fun t => Tryz.prog.rowNamed t [101, 114, 114, 111, 114]) = [33] := by kernel_rfl
theorem typesSize : Tryz.prog.types.size = 213 := by kernel_rfl
theorem gErrorType : Tryz.prog.globalNamed "errors.errorType" = some 11 := by kernel_rfl
theorem handle_of {W : World} (h : handlesMet Tryz.prog [("errors.errorType", Rows.laid_errors_errorType)] W) : W.cell? ⟨11, 0, none⟩ = some (.iface 145 (.agg #[hE])) := by
  obtain ⟨name, u, ty, e1, e2, e3, e4, e5⟩ := h _ (List.mem_singleton.2 rfl)
  have en : name = [101, 114, 114, 111, 114] := (Option.some.inj e1).symm
  subst en
  obtain rfl := Option.some.inj (rtName.symm.trans e2)
  have hm : ty ∈ (List.range 213).filter fun t => Tryz.prog.rowNamed t [101, 114, 114, 111, 114] := List.mem_filter.2 ⟨List.mem_range.2 (by rw [← typesSize]; exact e3), e4⟩
  rw [oneRow] at hm
  obtain rfl := List.mem_singleton.1 hm
  have hh : typeHandle Tryz.prog 33 = .pointer (some ⟨15, 33, none⟩) := by kernel_rfl
  rw [hh] at e5
  simpa using World.var?_cell gErrorType e5 0

/-- the eleven names -/
def errEntry (k : Nat) : String × DataW Unit := match k with
  | 1 => ("leadlight/api.ErrText", Rows.laid_leadlight_api_ErrText)
  | 2 => ("leadlight/api.ErrBound", Rows.laid_leadlight_api_ErrBound)
  | 3 => ("leadlight/api.ErrShape", Rows.laid_leadlight_api_ErrShape)
  | 4 => ("leadlight/api.ErrName", Rows.laid_leadlight_api_ErrName)
  | 5 => ("leadlight/api.ErrNone", Rows.laid_leadlight_api_ErrNone)
  | 6 => ("leadlight/api.ErrExist", Rows.laid_leadlight_api_ErrExist)
  | 7 => ("leadlight/api.ErrFull", Rows.laid_leadlight_api_ErrFull)
  | 8 => ("leadlight/api.ErrDeep", Rows.laid_leadlight_api_ErrDeep)
  | 9 => ("leadlight/api.ErrCycle", Rows.laid_leadlight_api_ErrCycle)
  | 10 => ("leadlight/api.ErrValue", Rows.laid_leadlight_api_ErrValue)
  | _ => ("leadlight/api.ErrZero", Rows.laid_leadlight_api_ErrZero)
def errGlobal (k : Nat) : Nat := match k with
  | 1 => 1 | 2 => 2 | 3 => 3 | 4 => 4 | 5 => 5 | 6 => 6 | 7 => 7 | 8 => 8 | 9 => 9 | 10 => 10 | _ => 0
theorem errEntry_ok : ∀ k, 1 ≤ k → k ≤ 11 → (∃ text, (errEntry k).2 = sent text) ∧ Tryz.prog.globalNamed (errEntry k).1 = some (errGlobal k) ∧ (Tryz.prog.globals[errGlobal k]?).map (·.type) = some 33 := by
  intro k h1 h2
  rcases k with _ | _ | _ | _ | _ | _ | _ | _ | _ | _ | _ | _ | k
  all_goals first | omega | exact ⟨⟨_, rfl⟩, by kernel_rfl, by kernel_rfl⟩

theorem ee_of {W : World} {l : List (String × DataW Unit)} (idx : Nat → Nat) (hi : ∀ j k, j ≠ k → 1 ≤ j → 1 ≤ k → idx j ≠ idx k) (hl : ∀ k, 1 ≤ k → k ≤ 11 → l[idx k]? = some (errEntry k)) (h : laidMet Tryz.prog l W)
    (hh : handlesMet Tryz.prog [("errors.errorType", Rows.laid_errors_errorType)] W) : ∃ E, EE E W := by
  obtain ⟨ps, hv, hn, hk⟩ := h
  obtain ⟨ms, f, S⟩ := sentOk2
  obtain ⟨a, ha, hne⟩ := sents S hv hn hk
  have key : ∀ k, 1 ≤ k → k ≤ 11 → W.cell? ⟨errGlobal k, 0, none⟩ = some (.iface 180 (.pointer (some (a (idx k))))) ∧ ∃ c t, W.heap[(a (idx k)).block]? = some (.cells c t (0, 0)) := by
    intro k h1 h2
    obtain ⟨⟨text, ht⟩, hg, hty⟩ := errEntry_ok k h1 h2
    have := ha (idx k) (errEntry k).1 text (errGlobal k) (by rw [hl k h1 h2, ← ht]) hg hty
    exact ⟨this.1, this.2.1⟩
  refine ⟨fun k => a (idx k), (key 1 (by decide) (by decide)).1, (key 2 (by decide) (by decide)).1, (key 3 (by decide) (by decide)).1, (key 4 (by decide) (by decide)).1, (key 5 (by decide) (by decide)).1, (key 6 (by decide) (by decide)).1, (key 7 (by decide) (by decide)).1, (key 8 (by decide) (by decide)).1, (key 9 (by decide) (by decide)).1, (key 10 (by decide) (by decide)).1, (key 11 (by decide) (by decide)).1, handle_of hh, fun k h1 h2 => (key k h1 h2).2, ?_⟩
  intro j k j1 j2 k1 k2 hjk
  obtain ⟨⟨t1, ht1⟩, hg1, hty1⟩ := errEntry_ok j j1 j2
  obtain ⟨⟨t2, ht2⟩, hg2, hty2⟩ := errEntry_ok k k1 k2
  exact hne (idx j) (idx k) _ _ t1 t2 _ _ (hi j k hjk j1 k1) (by rw [hl j j1 j2, ← ht1]) (by rw [hl k k1 k2, ← ht2]) hg1 hg2 hty1 hty2
end Go.Proofs.YtlnnpileegoglabGreatDoor

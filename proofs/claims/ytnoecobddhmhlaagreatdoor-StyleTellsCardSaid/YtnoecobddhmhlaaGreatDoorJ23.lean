/-
  What a row's list of package-level variables gives: one entry at a time, and for the sentinels their addresses, two of them never one. Over any program.
-/
import Derived.LaidLaws
import Derived.LaidHandle
import Derived.Lib.LaidTab
import Derived.RowKit
import Derived.Test.YtnoecobddhmhlaaGreatDoorCards
import Derived.Test.YtnoecobddhmhlaaGreatDoorTie
import Derived.Test.YtnoecobddhmhlaaGreatDoorJ7
import Derived.ProofKit
import Derived.OpenShut
import Derived.ReadAgain
import Derived.ChangeBook
import Derived.Lib.SmallJoins
import Derived.LaidMore
import Derived.Deep.DeepHandedRow
import Derived.Deep.DeepWitnessRowRef
import Derived.Test.YtnoecobddhmhlaaGreatDoorJ14
namespace Go.Proofs.YtnoecobddhmhlaaGreatDoor
open Go.ChangeShapes Go.RowKit

/-- one entry of a list -/
theorem laidMet_one {P : Program} {w : World} : ∀ {l : List (String × DataW Unit)} {x : String × DataW Unit}, laidMet P l w → x ∈ l → laidMet P [x] w := by
  intro l
  induction l with
  | nil => intro x _ hx; cases hx
  | cons y r ih =>
    intro x h hx
    obtain ⟨ps, ⟨g, t, cs, fuel, p, q, hg, ht, hv, hd, hr, rfl⟩, hn, hk⟩ := h
    rcases List.mem_cons.1 hx with rfl | hx
    · exact ⟨_, ⟨g, t, cs, fuel, p, [], hg, ht, hv, hd, rfl, rfl⟩, by simpa using (List.nodup_append.1 hn).1, fun b off hb => hk b off (by simp at hb ⊢; rcases hb with hb | hb <;> simp [hb])⟩
    · exact ih ⟨q, hr, (List.nodup_append.1 hn).2.1, fun b off hb => hk b off (by simp [hb])⟩ hx

/-- an entry of errors.New's make -/
def sent (text : List UInt8) : DataW Unit := .iface "*errors.errorString" (.ptr (.agg [.lit (.string text)]))
/-- the checks on a program: the type of such a variable (ti), of a pointer (tp), of what it points to -/
structure SentOk (P : Program) (ti tp te ts : TypeId) (ms : Array (String × TypeId)) (f : Field) : Prop where
  hi : P.underlying ti = some (.interface ms)
  hrow : ∀ u, P.typeName? 3 u = some "*errors.errorString" → u = tp
  hp : P.underlying tp = some (.pointer te)
  he : P.underlying te = some (.struct #[f])
  hft : f.type = ts
  hfo : f.offset = 0
  hs : P.underlying ts = some .string
  hc : P.cellsOf te = 1
  hcs : P.cellsOf ts = 1

/-- one sentinel -/
theorem sent_one {P : Program} {w : World} {ti tp te ts : TypeId} {ms : Array (String × TypeId)} {fd : Field} (S : SentOk P ti tp te ts ms fd) {fuel g : Nat} {n : String} {cs : Array Value} {text : List UInt8} {p : List MemPlace}
    (hg : P.globalNamed n = some g) (hv : w.var? P n = some cs) (hd : DataW.trod (fun _ => ()) P w 0 (fun _ => true) false fuel ti cs.toList = some (sent text, p))
    (hk : ∀ b off, MemPlace.cell b off ∈ MemPlace.row ⟨g, 0, none⟩ cs.size ++ p → (∃ c t, w.heap[b]? = some (.cells c t (0, 0))) ∧ ∀ u v, w.cell? ⟨b, off, none⟩ = some (.iface u v) → Value.okWide P w .any 0 u v) :
    ∃ a, w.cell? ⟨g, 0, none⟩ = some (.iface tp (.pointer (some a))) ∧ (∃ c t, w.heap[a.block]? = some (.cells c t (0, 0))) ∧ MemPlace.cell a.block a.off ∈ p := by
  obtain ⟨l⟩ := cs
  have ok : ∀ u v, l = [.iface u v] → Value.okWide P w .any 0 u v := fun u v e => by
    subst e
    exact (hk g 0 (by simp [MemPlace.row])).2 u v (by simpa using World.var?_cell hg hv 0)
  obtain ⟨a, s, rfl, hc0, hs0, hz0, rfl⟩ := errorString_of_trod S.hi S.hrow S.hp S.he S.hft S.hfo S.hs S.hc S.hcs hd ok
  have hm : MemPlace.cell a.block a.off ∈ MemPlace.row a 1 := by simp [MemPlace.row]
  refine ⟨a, by simpa using World.var?_cell hg hv 0, (hk a.block a.off (by simp [hm])).1, hm⟩

/-- ALL SENTINELS OF A LIST: where each one lies, and that no two are one -/
theorem sents {P : Program} {w : World} {ti tp te ts : TypeId} {ms : Array (String × TypeId)} {fd : Field} (S : SentOk P ti tp te ts ms fd) :
    ∀ {l : List (String × DataW Unit)} {ps : List MemPlace}, DataW.LaidVars P w l ps → ps.Nodup → (∀ b off, MemPlace.cell b off ∈ ps → (∃ c t, w.heap[b]? = some (.cells c t (0, 0))) ∧ ∀ u v, w.cell? ⟨b, off, none⟩ = some (.iface u v) → Value.okWide P w .any 0 u v) →
      ∃ f : Nat → Addr, (∀ i n text g, l[i]? = some (n, sent text) → P.globalNamed n = some g → (P.globals[g]?).map (·.type) = some ti → w.cell? ⟨g, 0, none⟩ = some (.iface tp (.pointer (some (f i)))) ∧ (∃ c t, w.heap[(f i).block]? = some (.cells c t (0, 0))) ∧ MemPlace.cell (f i).block (f i).off ∈ ps) ∧
        (∀ i j n n' text text' g g', i ≠ j → l[i]? = some (n, sent text) → l[j]? = some (n', sent text') → P.globalNamed n = some g → P.globalNamed n' = some g' → (P.globals[g]?).map (·.type) = some ti → (P.globals[g']?).map (·.type) = some ti → f i ≠ f j) := by
  intro l
  induction l with
  | nil => intro ps _ _ _; exact ⟨fun _ => ⟨0, 0, none⟩, by simp, by simp⟩
  | cons y r ih =>
    intro ps h hn hk
    obtain ⟨g, t, cs, fuel, p, q, hg, ht, hv, hd, hr, rfl⟩ := h
    obtain ⟨f', hf1, hf2⟩ := ih hr (List.nodup_append.1 hn).2.1 (fun b off hb => hk b off (by simp [hb]))
    by_cases hy : ∃ text, y.2 = sent text ∧ t = ti
    · obtain ⟨text, hy, rfl⟩ := hy
      rw [hy] at hd
      obtain ⟨a, a1, a2, a3⟩ := sent_one S hg hv hd (fun b off hb => hk b off (by simp only [List.mem_append] at hb ⊢; exact Or.inl hb))
      have key : ∀ j n' text' g', r[j]? = some (n', sent text') → P.globalNamed n' = some g' → (P.globals[g']?).map (·.type) = some t → a ≠ f' j := by
        intro j n' text' g' hj hg' ht' e
        have := (hf1 j n' text' g' hj hg' ht').2.2
        rw [← e] at this
        exact (List.nodup_append.1 hn).2.2 _ (by simp [a3]) _ this rfl
      refine ⟨fun | 0 => a | i + 1 => f' i, ?_, ?_⟩
      · intro i n text g' hi hg' ht'
        cases i with
        | zero =>
          simp only [List.getElem?_cons_zero, Option.some.injEq] at hi
          subst hi
          obtain rfl := Option.some.inj (hg.symm.trans hg')
          exact ⟨a1, a2, by simp [a3]⟩
        | succ i =>
          obtain ⟨b1, b2, b3⟩ := hf1 i n text g' (by simpa using hi) hg' ht'
          exact ⟨b1, b2, by simp [b3]⟩
      · intro i j n n' text text' g1 g2 hij hi hj hg1 hg2 ht1 ht2
        cases i with
        | zero =>
          cases j with
          | zero => exact absurd rfl hij
          | succ j => exact key j n' text' g2 (by simpa using hj) hg2 ht2
        | succ i =>
          cases j with
          | zero => exact fun e => key i n text g1 (by simpa using hi) hg1 ht1 e.symm
          | succ j => exact hf2 i j n n' text text' g1 g2 (by omega) (by simpa using hi) (by simpa using hj) hg1 hg2 ht1 ht2
    · refine ⟨fun | 0 => ⟨0, 0, none⟩ | i + 1 => f' i, ?_, ?_⟩
      · intro i n text g' hi hg' ht'
        cases i with
        | zero =>
          simp only [List.getElem?_cons_zero, Option.some.injEq] at hi
          subst hi
          obtain rfl := Option.some.inj (hg.symm.trans hg')
          exact absurd ⟨text, rfl, Option.some.inj (ht.symm.trans ht')⟩ hy
        | succ i =>
          obtain ⟨b1, b2, b3⟩ := hf1 i n text g' (by simpa using hi) hg' ht'
          exact ⟨b1, b2, by simp [b3]⟩
      · intro i j n n' text text' g1 g2 hij hi hj hg1 hg2 ht1 ht2
        cases i with
        | zero =>
          simp only [List.getElem?_cons_zero, Option.some.injEq] at hi
          subst hi
          obtain rfl := Option.some.inj (hg.symm.trans hg1)
          exact absurd ⟨text, rfl, Option.some.inj (ht.symm.trans ht1)⟩ hy
        | succ i =>
          cases j with
          | zero =>
            simp only [List.getElem?_cons_zero, Option.some.injEq] at hj
            subst hj
            obtain rfl := Option.some.inj (hg.symm.trans hg2)
            exact absurd ⟨text', rfl, Option.some.inj (ht.symm.trans ht2)⟩ hy
          | succ j => exact hf2 i j n n' text text' g1 g2 (by omega) (by simpa using hi) (by simpa using hj) hg1 hg2 ht1 ht2
end Go.Proofs.YtnoecobddhmhlaaGreatDoor

namespace Go.Proofs.YtnoecobddhmhlaaGreatDoor
open Go.ChangeShapes Go.WideShapes Go.ChangeAt Go.RowKit Go.Joins

theorem ownN : ownKnob Tryz.prog.godebug = none := by kernel_rfl
theorem nodeRec : Tryz.prog.readableRec 25 = true := by kernel_rfl
theorem nodeKids : Kids Tryz.prog (InBook Tryz.prog 25) := kids_book (by kernel_rfl) nodeRec
theorem nodeIn : InBook Tryz.prog 25 25 := ⟨of_decide_eq_true (by kernel_rfl), book_self _⟩

set_option maxRecDepth 100000 in
/-- A node's argument: its three cells, and the node. -/
theorem open_node {H : Type} {enc : TypeId × Value → H} {w : World} {r : Reach} {b0 base : Nat} {spare : Nat → Bool} {held : Bool} {v : Value} {d : DataW H} {p : List MemPlace}
    (hv : Value.okWide Tryz.prog w r b0 25 v) (h : DataW.Trod enc Tryz.prog w base spare held 25 v d p) :
    ∃ c0 c1 c2 n, v = .agg #[c0, c1, c2] ∧ NdC w c0 c1 c2 n := by
  obtain ⟨cs, rfl, -⟩ := okWide_struct Tryz.underlying25 hv
  obtain ⟨fuel, hf⟩ := h
  obtain ⟨c0, c1, c2, n, hc, hn⟩ := open_nd fuel hf
  obtain rfl : cs = #[c0, c1, c2] := by
    cases cs
    simp [Value.cells] at hc
    simp [hc]
  exact ⟨c0, c1, c2, n, rfl, hn⟩
/-- Behind the call it reads as it did. -/
theorem again_node {H : Type} {enc : TypeId × Value → H} {W W' : World} {sp : Nat → Bool} {v : Value} {d : DataW H} {p : List MemPlace} (hb : Below W.heap.size W W')
    (h : DataW.Trod enc Tryz.prog W 0 (fun _ => true) true 25 v d p) (hs : ∀ x ∈ p, sp x.block = true) (hl : ∀ x ∈ p, x.block < W.heap.size) : DataW.Trod enc Tryz.prog W' 0 sp true 25 v d p := by
  obtain ⟨n, hn⟩ := DataW.Trod.respare nodeKids (fun t e ht hu => book_sized nodeRec ht hu) nodeIn h hs
  exact ⟨n, DataW.trod_carry n _ _ _ hn (fun x hx => hb.same (hl x hx))⟩

theorem starN : "*" ++ "errors.errorString" = "*errors.errorString" := by decide
theorem sentOkN : ∃ ms f, SentOk Tryz.prog 32 245 264 9 ms f :=
  ⟨_, _, { hi := Tryz.underlying32
           hrow := fun u h => typeName_ptr_named (nm := "errors.errorString") (by rw [starN]; kernel_rfl) (by kernel_rfl) (by decide) u (by rw [starN]; exact h)
           hp := Tryz.underlying245
           he := Tryz.underlying264
           hft := rfl
           hfo := rfl
           hs := Tryz.underlying9
           hc := by kernel_rfl
           hcs := by kernel_rfl }⟩
def errEntryN (k : Nat) : String × DataW Unit := match k with
  | 1 => ("leadlight/api.ErrText", Rows.laid_leadlight_api_ErrText)
  | 2 => ("leadlight/api.ErrBound", Rows.laid_leadlight_api_ErrBound)
  | 4 => ("leadlight/api.ErrName", Rows.laid_leadlight_api_ErrName)
  | 6 => ("leadlight/api.ErrExist", Rows.laid_leadlight_api_ErrExist)
  | 7 => ("leadlight/api.ErrFull", Rows.laid_leadlight_api_ErrFull)
  | 8 => ("leadlight/api.ErrDeep", Rows.laid_leadlight_api_ErrDeep)
  | _ => ("leadlight/api.ErrValue", Rows.laid_leadlight_api_ErrValue)
def errGlobalN (k : Nat) : Nat := match k with
  | 1 => 8 | 2 => 1 | 4 => 2 | 6 => 9 | 7 => 4 | 8 => 3 | _ => 7
theorem errEntryN_ok : ∀ k ∈ [1, 2, 4, 6, 7, 8, 10], (∃ text, (errEntryN k).2 = sent text) ∧ Tryz.prog.globalNamed (errEntryN k).1 = some (errGlobalN k) ∧ (Tryz.prog.globals[errGlobalN k]?).map (·.type) = some 32 := by
  intro k hk
  simp at hk
  rcases hk with rfl | rfl | rfl | rfl | rfl | rfl | rfl
  all_goals exact ⟨⟨_, rfl⟩, by kernel_rfl, by kernel_rfl⟩
/-- The seven errors out of a list that names them at these places. -/
theorem me_of {W : World} {l : List (String × DataW Unit)} (idx : Nat → Nat) (hl : ∀ k ∈ [1, 2, 4, 6, 7, 8, 10], l[idx k]? = some (errEntryN k)) (h : laidMet Tryz.prog l W) :
    ∃ E, ME E W ∧ W.cell? ⟨8, 0, none⟩ = some (.iface 245 (.pointer (some (E 1)))) := by
  obtain ⟨ps, hv, hn, hk⟩ := h
  obtain ⟨ms, f, S⟩ := sentOkN
  obtain ⟨a, ha, -⟩ := sents S hv hn hk
  have key : ∀ k ∈ [1, 2, 4, 6, 7, 8, 10], W.cell? ⟨errGlobalN k, 0, none⟩ = some (.iface 245 (.pointer (some (a (idx k))))) := by
    intro k h1
    obtain ⟨⟨text, ht⟩, hg, hty⟩ := errEntryN_ok k h1
    exact (ha (idx k) (errEntryN k).1 text (errGlobalN k) (by rw [hl k h1, ← ht]) hg hty).1
  exact ⟨fun k => a (idx k), ⟨key 2 (by decide), key 4 (by decide), key 6 (by decide), key 7 (by decide), key 8 (by decide), key 10 (by decide)⟩, key 1 (by decide)⟩

end Go.Proofs.YtnoecobddhmhlaaGreatDoor

namespace Go.Proofs.YtnoecobddhmhlaaGreatDoor
open Go.ChangeShapes Go.WideShapes Go.RowKit

theorem star2 : "*" ++ "errors.errorString" = "*errors.errorString" := by decide
theorem sentOk2 : ∃ ms f, SentOk Tryz.prog 32 245 264 9 ms f :=
  ⟨_, _, { hi := Tryz.underlying32
           hrow := fun u h => typeName_ptr_named (nm := "errors.errorString") (by rw [star2]; kernel_rfl) (by kernel_rfl) (by decide) u (by rw [star2]; exact h)
           hp := Tryz.underlying245
           he := Tryz.underlying264
           hft := rfl
           hfo := rfl
           hs := Tryz.underlying9
           hc := by kernel_rfl
           hcs := by kernel_rfl }⟩

theorem rtName : (Tryz.prog.cutTypes.find? (·.1 == "internal/reflectlite.rtype")).map (·.2) = some 214 := by kernel_rfl
theorem oneRow : ((List.range 276).filter fun t => Tryz.prog.rowNamed t [101, 114, 114, 111, 114]) = [32] := by kernel_rfl
theorem typesSize : Tryz.prog.types.size = 276 := by kernel_rfl
theorem gErrorType : Tryz.prog.globalNamed "errors.errorType" = some 11 := by kernel_rfl
theorem handle_of {W : World} (h : handlesMet Tryz.prog [("errors.errorType", Rows.laid_errors_errorType)] W) : W.cell? ⟨11, 0, none⟩ = some (.iface 214 (.agg #[hE])) := by
  obtain ⟨name, u, ty, e1, e2, e3, e4, e5⟩ := h _ (List.mem_singleton.2 rfl)
  have en : name = [101, 114, 114, 111, 114] := (Option.some.inj e1).symm
  subst en
  obtain rfl := Option.some.inj (rtName.symm.trans e2)
  have hm : ty ∈ (List.range 276).filter fun t => Tryz.prog.rowNamed t [101, 114, 114, 111, 114] := List.mem_filter.2 ⟨List.mem_range.2 (by rw [← typesSize]; exact e3), e4⟩
  rw [oneRow] at hm
  obtain rfl := List.mem_singleton.1 hm
  have hh : typeHandle Tryz.prog 32 = .pointer (some ⟨15, 32, none⟩) := by kernel_rfl
  rw [hh] at e5
  simpa using World.var?_cell gErrorType e5 0

/-- the eleven names -/
def errEntry (k : Nat) : String × DataW Unit := match k with
  | 1 => ("leadlight/api.ErrText", Rows.laid_leadlight_api_ErrText)
  | 2 => ("leadlight/api.ErrBound", Rows.laid_leadlight_api_ErrBound)
  | 3 => ("leadlight/api.ErrShape", Rows.laid_leadlight_api_ErrShape)
  | 4 => ("leadlight/api.ErrName", Rows.laid_leadlight_api_ErrName)
  | 5 => ("leadlight/api.ErrNone", Rows.laid_leadlight_api_ErrNone)
  | 6 => ("leadlight/api.ErrExist", Rows.laid_leadlight_api_ErrExist)
  | 7 => ("leadlight/api.ErrFull", Rows.laid_leadlight_api_ErrFull)
  | 8 => ("leadlight/api.ErrDeep", Rows.laid_leadlight_api_ErrDeep)
  | 9 => ("leadlight/api.ErrCycle", Rows.laid_leadlight_api_ErrCycle)
  | 10 => ("leadlight/api.ErrValue", Rows.laid_leadlight_api_ErrValue)
  | _ => ("leadlight/api.ErrZero", Rows.laid_leadlight_api_ErrZero)
def errGlobal (k : Nat) : Nat := match k with
  | 1 => 8 | 2 => 1 | 3 => 5 | 4 => 2 | 5 => 0 | 6 => 9 | 7 => 4 | 8 => 3 | 9 => 6 | 10 => 7 | _ => 10
theorem errEntry_ok : ∀ k, 1 ≤ k → k ≤ 11 → (∃ text, (errEntry k).2 = sent text) ∧ Tryz.prog.globalNamed (errEntry k).1 = some (errGlobal k) ∧ (Tryz.prog.globals[errGlobal k]?).map (·.type) = some 32 := by
  intro k h1 h2
  rcases k with _ | _ | _ | _ | _ | _ | _ | _ | _ | _ | _ | _ | k
  all_goals first | omega | exact ⟨⟨_, rfl⟩, by kernel_rfl, by kernel_rfl⟩

theorem ee_of {W : World} {l : List (String × DataW Unit)} (idx : Nat → Nat) (hi : ∀ j k, j ≠ k → 1 ≤ j → 1 ≤ k → idx j ≠ idx k) (hl : ∀ k, 1 ≤ k → k ≤ 11 → l[idx k]? = some (errEntry k)) (h : laidMet Tryz.prog l W)
    (hh : handlesMet Tryz.prog [("errors.errorType", Rows.laid_errors_errorType)] W) : ∃ E, EE E W := by
  obtain ⟨ps, hv, hn, hk⟩ := h
  obtain ⟨ms, f, S⟩ := sentOk2
  obtain ⟨a, ha, hne⟩ := sents S hv hn hk
  have key : ∀ k, 1 ≤ k → k ≤ 11 → W.cell? ⟨errGlobal k, 0, none⟩ = some (.iface 245 (.pointer (some (a (idx k))))) ∧ ∃ c t, W.heap[(a (idx k)).block]? = some (.cells c t (0, 0)) := by
    intro k h1 h2
    obtain ⟨⟨text, ht⟩, hg, hty⟩ := errEntry_ok k h1 h2
    have := ha (idx k) (errEntry k).1 text (errGlobal k) (by rw [hl k h1 h2, ← ht]) hg hty
    exact ⟨this.1, this.2.1⟩
  refine ⟨fun k => a (idx k), (key 1 (by decide) (by decide)).1, (key 2 (by decide) (by decide)).1, (key 3 (by decide) (by decide)).1, (key 4 (by decide) (by decide)).1, (key 5 (by decide) (by decide)).1, (key 6 (by decide) (by decide)).1, (key 7 (by decide) (by decide)).1, (key 8 (by decide) (by decide)).1, (key 9 (by decide) (by decide)).1, (key 10 (by decide) (by decide)).1, (key 11 (by decide) (by decide)).1, handle_of hh, fun k h1 h2 => (key k h1 h2).2, ?_⟩
  intro j k j1 j2 k1 k2 hjk
  obtain ⟨⟨t1, ht1⟩, hg1, hty1⟩ := errEntry_ok j j1 j2
  obtain ⟨⟨t2, ht2⟩, hg2, hty2⟩ := errEntry_ok k k1 k2
  exact hne (idx j) (idx k) _ _ t1 t2 _ _ (hi j k hjk j1 k1) (by rw [hl j j1 j2, ← ht1]) (by rw [hl k k1 k2, ← ht2]) hg1 hg2 hty1 hty2
end Go.Proofs.YtnoecobddhmhlaaGreatDoor

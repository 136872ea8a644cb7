/-
  The law MoveThens is true for every input: one move and then another one go where both go, three in a row may be put together in any way, One makes no difference; conditions: the row's own (the variables that it lists hold what the program's text lays).
-/
import Derived.Test.YtnfkoamaojicmaaDoorThensNa
import Derived.Test.YtnfkoamaojicmaaDoorThensNb
import Derived.Test.YtnfkoamaojicmaaDoorThensYa
import Derived.Test.YtnfkoamaojicmaaDoorThensYb
import Derived.Test.YtnfkoamaojicmaaDoorMoveArg
import Derived.Lay
namespace Go.Proofs.YtnfkoamaojicmaaDoor
open Go.ChangeShapes Go.WideShapes Go.ChangeAt Go.RowKit Go.Joins
open Go.ChangeMaps (open_string)

theorem fr_i64 {x : Fr} (h : x.ok) : x.i64 := ok_i64 h
theorem pt_all {p : Pt} (h : p.ok) : p.i64 := ⟨ok_i64 h.1, ok_i64 h.2⟩
theorem thens_any (aT aB aS : Addr) (m n o : Mv) (p : Pt) (hm : m.i64) (hn : n.i64) (ho : o.i64) (hp : p.i64) (W : World) (hE : E4 aT aB aS W) :
    Calls Tryd.prog 8 #[mv m, mv n, mv o, pv p] W fun e w' => e = .returned (.bool true) ∧ Below W.heap.size W w' := by
  rcases thenR_cases m n with ⟨x, hx⟩ | hN
  · obtain ⟨om, on, ex⟩ := thenR_no hx
    have ox : x.ok := by have := ((then_step om on).2 (by rw [ex])).1; rwa [ex] at this
    have ix := ok_all ox
    have HC : ((ThenN aT aB aS x o ∧ ThenN aT aB aS n o) ∨ (ThenN aT aB aS x o ∧ ∃ z, ThenY aT aB aS n o z) ∨ (∃ y, ThenY aT aB aS x o y ∧ ThenN aT aB aS n o)) ∨ ((∃ y z, ThenY aT aB aS x o y ∧ ThenY aT aB aS n o z ∧ ThenN aT aB aS m z) ∨ (∃ y z, ThenY aT aB aS x o y ∧ ThenY aT aB aS n o z ∧ ThenY aT aB aS m z y)) := by
      rcases thenR_cases x o with ⟨y, hy⟩ | hy
      · rcases thenR_cases n o with ⟨z, hz⟩ | hz
        · obtain ⟨_, oo, ez⟩ := thenR_no hz
          have oz : z.ok := by have := ((then_step on oo).2 (by rw [ez])).1; rwa [ez] at this
          rcases thenR_cases m z with ⟨u, hu⟩ | hu
          · obtain rfl := then_assoc hx hy hz hu
            exact .inr (.inr ⟨u, z, thenY ix ho hy, thenY hn ho hz, thenY hm (ok_all oz) hu⟩)
          · exact .inr (.inl ⟨y, z, thenY ix ho hy, thenY hn ho hz, thenN hm (ok_all oz) hu⟩)
        · exact .inl (.inr (.inr ⟨y, thenY ix ho hy, thenN hn ho hz⟩))
      · rcases thenR_cases n o with ⟨z, hz⟩ | hz
        · exact .inl (.inr (.inl ⟨thenN ix ho hy, z, thenY hn ho hz⟩))
        · exact .inl (.inl ⟨thenN ix ho hy, thenN hn ho hz⟩)
    have TX := thenY (aT := aT) (aB := aB) (aS := aS) hm hn hx
    have T1 := thenY (aT := aT) (aB := aB) (aS := aS) hm (ok_all one_ok) (thenR_one om)
    have T2 := thenY (aT := aT) (aB := aB) (aS := aS) (ok_all one_ok) hm (one_thenR om)
    · rcases atR_cases m p with ⟨q, hq⟩ | hq
      · obtain ⟨_, op, eq⟩ := atR_no hq
        have oq : q.ok := by have := ((moved_step (c := 0) (.inl rfl) om op).2 (by rw [eq])).2.1; rwa [eq] at this
        have HB : (AtN aT aB aS n q ∧ AtN aT aB aS x p) ∨ (∃ s, AtN aT aB aS n q ∧ AtY aT aB aS x p s) ∨ (∃ r, AtY aT aB aS n q r ∧ AtN aT aB aS x p) ∨ (∃ r, AtY aT aB aS n q r ∧ AtY aT aB aS x p r) := by
          rcases atR_cases n q with ⟨r, hr⟩ | hr
          · rcases atR_cases x p with ⟨s, hs⟩ | hs
            · obtain rfl := then_goes hx hq hr hs
              exact .inr (.inr (.inr ⟨r, atY hn (pt_all oq) hr, atY ix hp hs⟩))
            · exact .inr (.inr (.inl ⟨r, atY hn (pt_all oq) hr, atN ix hp hs⟩))
          · rcases atR_cases x p with ⟨s, hs⟩ | hs
            · exact .inr (.inl ⟨s, atN hn (pt_all oq) hr, atY ix hp hs⟩)
            · exact .inl ⟨atN hn (pt_all oq) hr, atN ix hp hs⟩
        rcases HC with HC | HC
        · exact thens_Ya aT aB aS m n o x p W hE TX T1 T2 q (atY hm hp hq) HB HC
        · exact thens_Yb aT aB aS m n o x p W hE TX T1 T2 q (atY hm hp hq) HB HC
      · rcases HC with HC | HC
        · exact thens_Na aT aB aS m n o x p W hE TX T1 T2 (atN hm hp hq) HC
        · exact thens_Nb aT aB aS m n o x p W hE TX T1 T2 (atN hm hp hq) HC
  · exact thens_err aT aB aS m n o p W hE (thenN hm hn hN)

namespace moveThens
theorem of_laid {W : World} (h : laidMetH Tryd.prog Rows.moveThensRow.laid W) : ∃ aT aB aS, E4 aT aB aS W := by
  have h' : laidMet Tryd.prog Rows.moveThensRow.laid W := h
  obtain ⟨ps, hl, hn, hk⟩ := h'
  obtain ⟨ms, f, S⟩ := sentOk
  obtain ⟨a, ha, _⟩ := sents S hl hn hk
  exact ⟨a 1, a 2, a 3, ⟨(ha 2 _ _ 1 rfl (by kernel_rfl) (by kernel_rfl)).1, (ha 3 _ _ 2 rfl (by kernel_rfl) (by kernel_rfl)).1, rfl⟩, (ha 1 _ _ 0 rfl (by kernel_rfl) (by kernel_rfl)).1⟩

set_option maxRecDepth 100000 in
theorem contract (H : Type) (enc : TypeId × Value → H) (W : World) (base : Nat) (args : Array Value) (ds gs : List (DataW H)) (before : List MemPlace)
    (hval : ∀ (j : Nat) t v, Tryd.f8.params[j]? = some t → args[j]? = some v → Value.okWide Tryd.prog W .any base t v)
    (hW : DataW.Whole enc Tryd.prog Tryd.f8.params.toList Rows.moveThensSpec.vars false W args.toList ds gs before) (hL : laidMetH Tryd.prog Rows.moveThensRow.laid W) :
    Calls Tryd.prog 8 args W fun e W' => ∃ v, e = .returned v ∧ Rows.moveThensSpec.post enc Tryd.prog Tryd.f8 false true false false W args v W' := by
  have hW' := hW
  obtain ⟨p, q, hA0, hV, rfl, hfz, hnd⟩ := hW
  have hA : DataW.TrodAll enc Tryd.prog W 0 (fun _ => true) true Tryd.f8.params.toList args.toList ds p := hA0
  rw [Tryd.params8] at hA hval
  obtain ⟨v0, vs0, d0, ds0, p0, q0, hargs, rfl, rfl, h0, r0⟩ := trodAll_cons hA
  obtain ⟨v1, vs1, d1, ds1, p1, q1, rfl, rfl, rfl, h1, r1⟩ := trodAll_cons r0
  obtain ⟨v2, vs2, d2, ds2, p2, q2, rfl, rfl, rfl, h2, r2⟩ := trodAll_cons r1
  obtain ⟨v3, vs3, d3, ds3, p3, q3, rfl, rfl, rfl, h3, r3⟩ := trodAll_cons r2
  obtain ⟨rfl, rfl, rfl⟩ := trodAll_nil r3
  obtain rfl : args = #[v0, v1, v2, v3] := by cases args; simp_all
  obtain ⟨rfl, rfl⟩ := trodVars_none hV
  obtain ⟨m0, rfl, rfl, rfl, i0⟩ := open_six (hval 0 55 v0 rfl rfl) h0
  obtain ⟨m1, rfl, rfl, rfl, i1⟩ := open_six (hval 1 55 v1 rfl rfl) h1
  obtain ⟨m2, rfl, rfl, rfl, i2⟩ := open_six (hval 2 55 v2 rfl rfl) h2
  obtain ⟨q3, rfl, rfl, rfl, i3⟩ := open_pt (hval 3 57 v3 rfl rfl) h3
  clear hA0
  simp only [List.append_nil] at hW'
  obtain ⟨aT, aB, aS, hG⟩ := of_laid hL
  refine (thens_any aT aB aS m0 m1 m2 q3 i0 i1 i2 i3 W hG).mono fun e W' ⟨he, hb⟩ => ?_
  subst he
  refine ⟨_, rfl, _, _, _, [], [], [], hW', ?_, ?_, ?_, hb.frame _, fun h => by cases h⟩
  · exact trodAll_mk1 (shut_bool Tryd.underlying4 true)
  · exact trodAll_cons_mk (shut_six i0) (trodAll_cons_mk (shut_six i1) (trodAll_cons_mk (shut_six i2) (trodAll_cons_mk (shut_pt i3) (trodAll_mk0))))
  · rfl

abbrev zero : Value := .agg #[.int .i64 0, .int .i64 0]
abbrev zeroD {H : Type} : DataW H := .agg [.lit (.int .i64 0), .lit (.int .i64 0)]
theorem met (os : Os) (args : Array Value) : laidMetH Tryd.prog Rows.moveThensRow.laid ((World.laidAll Tryd.prog os Rows.moveThensRow.laid).forCall (fun _ _ => 0) ⟨#[], args, []⟩).memory :=
  by rw [MakeChecks.laidMetH_plain _ _ _ (by kernel_rfl)]; exact laidMet_laidAll _ (by kernel_rfl) (by kernel_rfl)
theorem reads (os : Os) {H : Type} (enc : TypeId × Value → H) : DataW.whole enc Tryd.prog ((World.laidAll Tryd.prog os Rows.moveThensRow.laid).forCall (fun _ _ => 0) ⟨#[], #[.agg #[.int .i64 0, .int .i64 0, .int .i64 0, .int .i64 0, .int .i64 0, .int .i64 0, .int .i64 0, .int .i64 0, .int .i64 0, .int .i64 0, .int .i64 0, .int .i64 0], .agg #[.int .i64 0, .int .i64 0, .int .i64 0, .int .i64 0, .int .i64 0, .int .i64 0, .int .i64 0, .int .i64 0, .int .i64 0, .int .i64 0, .int .i64 0, .int .i64 0], .agg #[.int .i64 0, .int .i64 0, .int .i64 0, .int .i64 0, .int .i64 0, .int .i64 0, .int .i64 0, .int .i64 0, .int .i64 0, .int .i64 0, .int .i64 0, .int .i64 0], .agg #[.int .i64 0, .int .i64 0, .int .i64 0, .int .i64 0]], []⟩).memory Tryd.f8.params.toList Rows.moveThensSpec.vars false (#[.agg #[.int .i64 0, .int .i64 0, .int .i64 0, .int .i64 0, .int .i64 0, .int .i64 0, .int .i64 0, .int .i64 0, .int .i64 0, .int .i64 0, .int .i64 0, .int .i64 0], .agg #[.int .i64 0, .int .i64 0, .int .i64 0, .int .i64 0, .int .i64 0, .int .i64 0, .int .i64 0, .int .i64 0, .int .i64 0, .int .i64 0, .int .i64 0, .int .i64 0], .agg #[.int .i64 0, .int .i64 0, .int .i64 0, .int .i64 0, .int .i64 0, .int .i64 0, .int .i64 0, .int .i64 0, .int .i64 0, .int .i64 0, .int .i64 0, .int .i64 0], .agg #[.int .i64 0, .int .i64 0, .int .i64 0, .int .i64 0]] : Array Value).toList 8 = some ([.agg [zeroD, zeroD, zeroD, zeroD, zeroD, zeroD], .agg [zeroD, zeroD, zeroD, zeroD, zeroD, zeroD], .agg [zeroD, zeroD, zeroD, zeroD, zeroD, zeroD], .agg [zeroD, zeroD]], [], []) := by kernel_rfl

set_option maxRecDepth 100000 in
theorem lifted (os : Os) (started : os.Started) (H : Type) (enc : TypeId × Value → H) (F : Stop.Interp) :
    ReturnsInHanded {} Tryd.checked os 8 .any ((OpenSpec.ofChange Rows.moveThensSpec).preRow enc Tryd.prog Tryd.f8 Rows.moveThensRow.domain false Rows.moveThensRow.laid) (((OpenSpec.ofChange Rows.moveThensSpec).at F).post enc Tryd.prog Tryd.f8 false true false false) := by
  have hx := reads os enc
  refine returnsInHanded_of_row (C := Tryd.checked) (s := OpenSpec.ofChange Rows.moveThensSpec) own started (by kernel_rfl) Tryd.func8
    (witness_row_atRef (enc := enc) (C := Tryd.checked) false (World.laidAll Tryd.prog os Rows.moveThensRow.laid) #[.agg #[.int .i64 0, .int .i64 0, .int .i64 0, .int .i64 0, .int .i64 0, .int .i64 0, .int .i64 0, .int .i64 0, .int .i64 0, .int .i64 0, .int .i64 0, .int .i64 0], .agg #[.int .i64 0, .int .i64 0, .int .i64 0, .int .i64 0, .int .i64 0, .int .i64 0, .int .i64 0, .int .i64 0, .int .i64 0, .int .i64 0, .int .i64 0, .int .i64 0], .agg #[.int .i64 0, .int .i64 0, .int .i64 0, .int .i64 0, .int .i64 0, .int .i64 0, .int .i64 0, .int .i64 0, .int .i64 0, .int .i64 0, .int .i64 0, .int .i64 0], .agg #[.int .i64 0, .int .i64 0, .int .i64 0, .int .i64 0]] rfl (by kernel_rfl) (by kernel_rfl) (by kernel_rfl)
      (OpenSpec.preRow_of_cond 8 hx (by kernel_rfl) (fun k hk => by cases hk) (by kernel_rfl) (met os _))) ?_
  intro W base args ds gs before hval hW _ _ _ hL hsh _
  exact contract H enc W base args ds gs before hval hW hL

theorem said : Rows.MoveThensSaid :=
  OpenClaim.holds_of_cond 8 Tryd.f8 rfl rfl rfl rfl rfl rfl rfl ⟨rfl, rfl, rfl, rfl, rfl⟩ rfl rfl rfl rfl rfl (by kernel_rfl) Tryd.func8 (by kernel_rfl)
    (of_decide_eq_true (by kernel_rfl)) (by unfold Func.isWrapper; first | (rw [if_pos (by decide +kernel)]; kernel_rfl) | (rw [if_neg (by decide +kernel)]; exact ⟨rfl, rfl⟩))
    (fun os started H enc _ F => by rw [OpenClaim.pre_eq_preRow]; exact lifted os started H enc F)

theorem plain (f : FuncId) (fn : Func) (hf : Tryd.pinned.checked.prog.funcNamed "leadlight/leadlightlaw1.MoveThens" = some f) (hfn : Tryd.pinned.checked.prog.funcs[f]? = some fn) :
    true = Tryd.pinned.checked.prog.looks [] ∧ ∀ (j : Nat) t, fn.params[j]? = some t → Tryd.pinned.checked.prog.wantsStandIn t = false := by
  obtain rfl : f = 8 := Option.some.inj ((show Tryd.prog.funcNamed "leadlight/leadlightlaw1.MoveThens" = some 8 by kernel_rfl).symm.trans hf) |>.symm
  obtain rfl : fn = Tryd.f8 := (Option.some.inj (Tryd.func8.symm.trans hfn)).symm
  refine ⟨by kernel_rfl, fun j t ht => ?_⟩
  rw [Tryd.params8] at ht
  have hm := Array.mem_of_getElem? ht
  simp at hm
  rcases hm with rfl | rfl
  · exact (show Tryd.prog.wantsStandIn 55 = false by kernel_rfl)
  · exact (show Tryd.prog.wantsStandIn 57 = false by kernel_rfl)

theorem card : Rows.MoveThensCardSaid :=
  Claim7.holds_tied_plain_at .later [] _ _ _ _ said (fun _ h => by cases h) (by kernel_rfl) (fun _ h => by cases h) moveThens_row_tie rfl ⟨rfl, rfl⟩ (by kernel_rfl) rfl plain (by kernel_rfl)
end moveThens
theorem moveThens_card : Rows.MoveThensCardSaid := moveThens.card
end Go.Proofs.YtnfkoamaojicmaaDoor

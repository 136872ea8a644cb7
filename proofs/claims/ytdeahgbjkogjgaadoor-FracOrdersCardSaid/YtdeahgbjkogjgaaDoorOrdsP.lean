/-
  FracOrders answers true for every three fractions, and leaves them as they were: of two right fractions one is less or they are one, what is added to both makes no difference, and a sum of three may be put together in any way; its condition: the listed package variables hold what the program's text lays in them.
-/
import Derived.Test.YtdeahgbjkogjgaaDoorOrds2
import Derived.Test.YtdeahgbjkogjgaaDoorFracArg
namespace Go.Proofs.YtdeahgbjkogjgaaDoor
open Go.ChangeShapes Go.WideShapes Go.ChangeAt Go.RowKit Go.Joins

theorem ords_any (aB aS aZ : Addr) (an ad bn bd cn cd : Int) (w : World) (i1 : I64 an) (i2 : I64 ad) (i3 : I64 bn) (i4 : I64 bd) (i5 : I64 cn) (i6 : I64 cd) (h : G aB aS aZ w) :
    Calls Tryd.prog 7 #[.agg #[.int .i64 an, .int .i64 ad], .agg #[.int .i64 bn, .int .i64 bd], .agg #[.int .i64 cn, .int .i64 cd]] w fun e w' => e = .returned (.bool true) ∧ Below w.heap.size w w' := by
  rcases chk2_cases an ad bn bd with ⟨ha, hb⟩ | hbad
  · rcases add_cases an ad cn cd with ⟨xn, xd, hx⟩ | hx
    · rcases add_cases bn bd cn cd with ⟨yn, yd, hy⟩ | hy
      · rcases add_cases xn xd bn bd with ⟨pn, pd, hp⟩ | hp
        · rcases add_cases an ad yn yd with ⟨qn, qd, hq⟩ | hq
          · obtain ⟨rfl, rfl⟩ := add_assoc' hx hy hp hq
            exact ords_ok aB aS aZ an ad bn bd cn cd xn xd yn yd pn pd w i5 i6 h ha hb hx hy hp hq
          · exact ords_q aB aS aZ an ad bn bd cn cd xn xd yn yd pn pd w i5 i6 h ha hb hx hy hp hq
        · exact ords_p aB aS aZ an ad bn bd cn cd xn xd yn yd w i5 i6 h ha hb hx hy hp
      · exact ords_y aB aS aZ an ad bn bd cn cd xn xd w i5 i6 h ha hb hx hy
    · exact ords_x aB aS aZ an ad bn bd cn cd w i5 i6 h ha hb hx
  · have hbad' : chk2 bn bd an ad = 2 ∨ chk2 bn bd an ad = 3 := by
      rcases chk2_cases bn bd an ad with ⟨h1, h2⟩ | h'
      · unfold chk2 at hbad; simp [h1, h2] at hbad
      · exact h'
    exact ords_bad aB aS aZ an ad bn bd cn cd w i1 i2 i3 i4 h hbad hbad'

namespace fracOrders
theorem of_laid {W : World} (h : laidMetH Tryd.prog Rows.fracOrdersRow.laid W) : ∃ aB aS aZ, G aB aS aZ W := by
  have h' : laidMet Tryd.prog Rows.fracOrdersRow.laid W := h
  have ht := pow_of_laid h' (by simp [Rows.fracOrdersRow])
  obtain ⟨ps, hl, hn, hk⟩ := h'
  obtain ⟨ms, f, S⟩ := sentOk
  obtain ⟨a, ha, _⟩ := sents S hl hn hk
  refine ⟨a 3, a 4, a 5, ⟨(ha 3 _ _ 1 rfl (by kernel_rfl) (by kernel_rfl)).1, (ha 4 _ _ 2 rfl (by kernel_rfl) (by kernel_rfl)).1, (ha 5 _ _ 10 rfl (by kernel_rfl) (by kernel_rfl)).1⟩, ht⟩

set_option maxRecDepth 100000 in
theorem contract (H : Type) (enc : TypeId × Value → H) (W : World) (base : Nat) (args : Array Value) (ds gs : List (DataW H)) (before : List MemPlace)
    (hval : ∀ (j : Nat) t v, Tryd.f7.params[j]? = some t → args[j]? = some v → Value.okWide Tryd.prog W .any base t v)
    (hW : DataW.Whole enc Tryd.prog Tryd.f7.params.toList Rows.fracOrdersSpec.vars false W args.toList ds gs before) (hL : laidMetH Tryd.prog Rows.fracOrdersRow.laid W) :
    Calls Tryd.prog 7 args W fun e W' => ∃ v, e = .returned v ∧ Rows.fracOrdersSpec.post enc Tryd.prog Tryd.f7 false true false false W args v W' := by
  have hW' := hW
  obtain ⟨p, q, hA0, hV, rfl, hfz, hnd⟩ := hW
  have hA : DataW.TrodAll enc Tryd.prog W 0 (fun _ => true) true Tryd.f7.params.toList args.toList ds p := hA0
  rw [Tryd.params7] at hA hval
  obtain ⟨v0, v1, v2, d0, d1, d2, p0, p1, p2, rfl, rfl, rfl, h0, h1, h2⟩ := trodAll_three hA
  obtain ⟨rfl, rfl⟩ := trodVars_none hV
  obtain ⟨an, ad, rfl, rfl, rfl, i1, i2⟩ := open_frac (hval 0 36 v0 rfl rfl) h0
  obtain ⟨bn, bd, rfl, rfl, rfl, i3, i4⟩ := open_frac (hval 1 36 v1 rfl rfl) h1
  obtain ⟨cn, cd, rfl, rfl, rfl, i5, i6⟩ := open_frac (hval 2 36 v2 rfl rfl) h2
  clear hA0
  simp only [List.append_nil] at hW'
  obtain ⟨aB, aS, aZ, hG⟩ := of_laid hL
  refine (ords_any aB aS aZ an ad bn bd cn cd W i1 i2 i3 i4 i5 i6 hG).mono fun e W' ⟨he, hb⟩ => ?_
  subst he
  refine ⟨_, rfl, _, _, _, [], [], [], hW', ?_, ?_, ?_, hb.frame _, fun h => by cases h⟩
  · exact trodAll_mk1 (shut_bool Tryd.underlying4 true)
  · exact trodAll_mk3 (shut_frac i1 i2) (shut_frac i3 i4) (shut_frac i5 i6)
  · rfl

abbrev zero : Value := .agg #[.int .i64 0, .int .i64 0]
theorem met (os : Os) (args : Array Value) : laidMetH Tryd.prog Rows.fracOrdersRow.laid ((World.doorLaid Tryd.prog 240 os).forCall (fun _ _ => 0) ⟨#[], args, []⟩).memory :=
  laidMetH_of_parts3 (fuel := 8) (laidMet_of_run' 8 (by kernel_rfl) (by kernel_rfl)) (by kernel_rfl) (by kernel_rfl)
abbrev zeroD {H : Type} : DataW H := .agg [.lit (.int .i64 0), .lit (.int .i64 0)]
theorem reads (os : Os) {H : Type} (enc : TypeId × Value → H) : DataW.whole enc Tryd.prog ((World.doorLaid Tryd.prog 240 os).forCall (fun _ _ => 0) ⟨#[], #[zero, zero, zero], []⟩).memory Tryd.f7.params.toList Rows.fracOrdersSpec.vars false #[zero, zero, zero].toList 8 = some ([zeroD, zeroD, zeroD], [], []) := by kernel_rfl

set_option maxRecDepth 100000 in
theorem lifted (os : Os) (started : os.Started) (H : Type) (enc : TypeId × Value → H) (F : Stop.Interp) :
    ReturnsInHanded {} Tryd.checked os 7 .any ((OpenSpec.ofChange Rows.fracOrdersSpec).preRow enc Tryd.prog Tryd.f7 Rows.fracOrdersRow.domain false Rows.fracOrdersRow.laid) (((OpenSpec.ofChange Rows.fracOrdersSpec).at F).post enc Tryd.prog Tryd.f7 false true false false) := by
  have hx := reads os enc
  refine returnsInHanded_of_row (C := Tryd.checked) (s := OpenSpec.ofChange Rows.fracOrdersSpec) own started (by kernel_rfl) Tryd.func7
    (witness_row_atRef (enc := enc) (C := Tryd.checked) false (World.doorLaid Tryd.prog 240 os) #[zero, zero, zero] rfl (by kernel_rfl) (by kernel_rfl) (by kernel_rfl)
      (OpenSpec.preRow_of_cond 8 hx (by kernel_rfl) (fun k hk => by cases hk) (by kernel_rfl) (met os _))) ?_
  intro W base args ds gs before hval hW _ _ _ hL _ _
  exact contract H enc W base args ds gs before hval hW hL

theorem said : Rows.FracOrdersSaid :=
  OpenClaim.holds_of_cond 7 Tryd.f7 rfl rfl rfl rfl rfl rfl rfl ⟨rfl, rfl, rfl, rfl, rfl⟩ rfl rfl rfl rfl rfl (by kernel_rfl) Tryd.func7 (by kernel_rfl)
    (of_decide_eq_true (by kernel_rfl)) (by unfold Func.isWrapper; first | (rw [if_pos (by decide +kernel)]; kernel_rfl) | (rw [if_neg (by decide +kernel)]; exact ⟨rfl, rfl⟩))
    (fun os started H enc _ F => by rw [OpenClaim.pre_eq_preRow]; exact lifted os started H enc F)

theorem plain (f : FuncId) (fn : Func) (hf : Tryd.pinned.checked.prog.funcNamed "leadlight/leadlightlaw1.FracOrders" = some f) (hfn : Tryd.pinned.checked.prog.funcs[f]? = some fn) :
    true = Tryd.pinned.checked.prog.looks [] ∧ ∀ (j : Nat) t, fn.params[j]? = some t → Tryd.pinned.checked.prog.wantsStandIn t = false := by
  obtain rfl : f = 7 := Option.some.inj ((show Tryd.prog.funcNamed "leadlight/leadlightlaw1.FracOrders" = some 7 by kernel_rfl).symm.trans hf) |>.symm
  obtain rfl : fn = Tryd.f7 := (Option.some.inj (Tryd.func7.symm.trans hfn)).symm
  refine ⟨by kernel_rfl, fun j t ht => ?_⟩
  rw [Tryd.params7] at ht
  obtain rfl : t = 36 := by simpa using Array.mem_of_getElem? ht
  exact (show Tryd.prog.wantsStandIn 36 = false by kernel_rfl)

theorem card : Rows.FracOrdersCardSaid :=
  Claim7.holds_tied_plain_at .later [] _ _ _ _ said (fun _ h => by cases h) (by kernel_rfl) (fun _ h => by cases h) fracOrders_row_tie rfl ⟨rfl, rfl⟩ (by kernel_rfl) rfl plain (by kernel_rfl)
end fracOrders
theorem fracOrders_card : Rows.FracOrdersCardSaid := fracOrders.card
end Go.Proofs.YtdeahgbjkogjgaaDoor

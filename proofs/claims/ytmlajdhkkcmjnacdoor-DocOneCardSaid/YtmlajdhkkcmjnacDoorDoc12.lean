/-
  A document: how deep an element lies; Add.
-/
import Derived.Test.YtmlajdhkkcmjnacDoorDoc11
namespace Go.Proofs.YtmlajdhkkcmjnacDoor
open Go.RowKit

/-- So many elements lie from one up to the root. -/
def Up (M : Dm) : Int → Nat → Prop
  | i, 0 => M i = none
  | i, d + 1 => ∃ e, M i = some e ∧ Up M e.parent d
def ptrO (o : Option Nat) : Value := .pointer (o.map fun b => ⟨b, 0, none⟩)
set_option maxRecDepth 20000 in
set_option maxHeartbeats 4000000 in
theorem deep_doc {B : Nat} {tg : Tags} {W : World} {DB MB : Nat} {p : Int → Option Nat} {M : Dm} {nx c : Nat} (hd : DocW B tg W DB MB p M nx c) (n : Int) (d : Nat) (hn : Wf64 n) (hu : Up M n d) (hdl : d ≤ 1000000) :
    Calls Tryd.prog 32 #[.pointer (some ⟨DB, 0, none⟩), .int .i64 n] W fun r w' => r = .returned (.int .i64 d) ∧ Below W.heap.size W w' := by
  have d0 := hd.d0
  have hdl' : (d : Int) ≤ 1000000 := by omega
  have HD : Hid (DocW B tg W DB MB p M nx c) := hd
  go_enter Tryd.func32, Tryd.ntmps32
  go_wp2_with (at_lookup; refine look_one _ rfl _ _ 67 rfl Tryd.underlying3 Tryd.underlying67 (zeroEl _) rfl hd.map n rfl hn ?_)
  go_loopw [5, 6] (fun y z wr => ∃ (j r : Nat) (i : Int), j + r = d ∧ y = .int .i64 j ∧ z = .pointer ((p i).map fun b => ⟨b, 0, none⟩) ∧ Up M i r ∧ Below W.heap.size W wr) (fun y _ _ => d - (intOf y).toNat)
  case atStart => exact ⟨0, d, n, by omega, rfl, rfl, hu, Below.refl _ _⟩
  case round =>
    obtain ⟨j, r, i, hjr, rfl, rfl, hup, hb⟩ := hrel
    have hdw := HD.out.below hb
    cases r with
    | zero =>
      have hpi := HD.out.non i hup
      rw [hpi]
      obtain rfl : j = d := by omega
      go_wp2_with fail
      go_ret
      exact ⟨rfl, hb⟩
    | succ r =>
      obtain ⟨e, hm, hup'⟩ := hup
      obtain ⟨b, va, vk, hpi, he⟩ := hdw.els i e hm
      have hwp := (hdw.wf i e hm).1
      rw [hpi]
      have x0 := hdw.d0
      have x2 := he.c2
      have g1 : (Instr.lookup 67 (.map (some MB)) (.int .i64 e.parent) false).run Tryd.prog wr.drew = .ok (.pointer ((p e.parent).map fun b => ⟨b, 0, none⟩)) wr.drew := by
        cases hpp : p e.parent with
        | none => exact PMap.run_non (w := wr.drew) (hdw.map.same rfl) Tryd.underlying3 Tryd.underlying67 (zeroEl _) hwp hpp
        | some b' => exact PMap.run_get (w := wr.drew) (hdw.map.same rfl) Tryd.underlying3 Tryd.underlying67 (zeroEl _) hwp hpp
      have hj : (j : Int) < 1000000 := by omega
      have HUP : Hid (Up M e.parent r) := hup'
      clear hup' hm he
      go_wp2_with fail
      go_region
      go_wp2_with fail
      go_roundw
      case rel => exact ⟨j + 1, r, e.parent, by omega, by go_num, rfl, HUP.out, mdrew 1 hb⟩
      case measure => simp [intOf]; omega

set_option maxRecDepth 20000 in
set_option maxHeartbeats 4000000 in
/-- An element is added. -/
theorem Add_doc {B : Nat} {tg : Tags} {W : World} {DB MB : Nat} {p : Int → Option Nat} {M : Dm} {nx c : Nat} (hd : DocW B tg W DB MB p M nx c) (par : Int) (a : Nat) (name : Bs) (q : Elm) (hq : M par = some q) (ha : a ≤ q.kids.length) (hnm : isNm name = true) (d : Nat) (hu : Up M par d) (hdl : d < 10) (hc : c < 100) (hnx : nx < 1000000) (hkl : q.kids.length ≤ 1000000) (hB : B ≤ W.heap.size) :
    Calls Tryd.prog 10 #[.pointer (some ⟨DB, 0, none⟩), .int .i64 par, .int .i64 a, .string ⟨name.toArray⟩] W fun r w' => r = .returned (.tuple #[.int .i64 nx, .nilIface]) ∧ KT tg W w' ∧ ∃ tg' p', (∀ x, x < W.heap.size → tg' x = tg x) ∧ DocW B tg' w' DB MB p' (putE (putE M nx ⟨name, [], par, []⟩) par ⟨q.name, q.ats, q.parent, insAt q.kids a nx⟩) (nx + 1) (c + 1) := by
  obtain ⟨QB, qa, qk, hpq, hq1⟩ := hd.els par q hq
  obtain ⟨oq, kq, rfl⟩ := own_slice hq1.kids
  have hwp := hd.i64 hq
  have d0 := hd.d0
  have y3 := hq1.c3
  have hnl := isNm_len hnm
  have ha0 : ¬ (a : Int) < 0 := by omega
  have hak : ¬ (q.kids.length : Int) < (a : Int) := by omega
  have hkl' : (q.kids.length : Int) ≤ 1000000 := by omega
  have IN := fun w => IsName_any ⟨name.toArray⟩ (by rw [strV_size]; omega) w
  have hin : isNm (⟨name.toArray⟩ : ByteArray).data.toList = true := by simpa using hnm
  rw [hin] at IN
  have DD := deep_doc hd par d hwp hu (by omega)
  have hd10 : ¬ (10 : Int) ≤ (d : Int) := by omega
  have hc100 : ¬ (100 : Int) ≤ (c : Int) := by omega
  have hpn : par ≠ (nx : Int) := by have := hd.dom par q hq; omega
  have HD : Hid (DocW B tg W DB MB p M nx c) := hd
  have HQ1 : Hid (ElW B tg W par QB q qa (.slice oq q.kids.length kq)) := hq1
  go_enter Tryd.func10, Tryd.ntmps10
  go_upto_region 12 with (first | (at_lookup; refine look_yes _ rfl _ _ 67 rfl Tryd.underlying3 Tryd.underlying67 (zeroEl _) rfl hd.map par rfl hwp QB hpq ?_) | (go_at_call 31; refine (IN _).mono ?_; rintro r w0 ⟨rfl, rfl⟩) | (go_at_call 32; refine DD.mono ?_; rintro r w1 ⟨rfl, b1⟩; have CT := Count_doc (HD.out.below b1)) | (go_at_call 17; refine CT.mono ?_; rintro r w2 ⟨rfl, rfl⟩))
  have hd2 := HD.out.below b1
  have E0 := mbox w2 #[.string ⟨name.toArray⟩, .slice none 0 0, .int .i64 par, .slice none 0 0] 74
  have bE := mal w2 (.cells #[.string ⟨name.toArray⟩, .slice none 0 0, .int .i64 par, .slice none 0 0] 74)
  have NE : NewE B tg (w2.alloc (.cells #[.string ⟨name.toArray⟩, .slice none 0 0, .int .i64 par, .slice none 0 0] 74)) w2.heap.size ⟨name, [], par, []⟩ (.slice none 0 0) (.slice none 0 0) := ⟨E0, Nat.le_trans hB b1.size, hd2.new (Nat.le_refl _), World.ownsRow_nil _ _ _ _, fun g hg => absurd hg (by simp [Value.ownBlock]), World.ownsRow_nil _ _ _ _, fun g hg => absurd hg (by simp [Value.ownBlock])⟩
  have KE := keep_doc B tg _ DB MB p M nx c w2.heap.size ⟨name, [], par, []⟩ (.slice none 0 0) (.slice none 0 0) (hd2.below bE) NE ⟨hwp, by simp⟩ hnx
  go_upto_region 13 with (go_at_call 30; refine KE.mono ?_; rintro r w3 ⟨rfl, k3, d3⟩)
  have hU := mbel b1 bE
  have tgo : ∀ x t, tg x = some t → tagE tg nx w2.heap.size (.slice none 0 0) (.slice none 0 0) x = some t := fun x t ht => tagE_old ht (hd2.new (Nat.le_refl _)) (fun g hg => by cases hg) (fun g hg => by cases hg)
  have tgn : ∀ x, x < w0.heap.size → tagE tg nx w2.heap.size (.slice none 0 0) (.slice none 0 0) x = tg x := fun x hx => tagE_none (by have := b1.size; omega) (by simp [Value.ownBlock]) (by simp [Value.ownBlock])
  have hq3 : ElW B (tagE tg nx w2.heap.size (.slice none 0 0) (.slice none 0 0)) w3 par QB q qa (.slice oq q.kids.length kq) := HQ1.out.turn fun g t ht hk => by
    have hne : g ≠ DB ∧ g ≠ MB := ⟨fun e1 => (by have h1 := HD.out.dtag; rw [← e1, ht] at h1; cases h1; rcases hk with hk | hk | hk <;> cases hk), fun e1 => (by have h1 := HD.out.mtag; rw [← e1, ht] at h1; cases h1; rcases hk with hk | hk | hk <;> cases hk)⟩
    have hgl := (HD.out.low g t ht).2
    exact ⟨tgo g t ht, (k3.block g (by have := hU.size; omega) hne.1 hne.2).trans (hU.block g hgl)⟩
  obtain ⟨T3, hT3⟩ : ∃ T, tagE tg nx w2.heap.size (.slice none 0 0) (.slice none 0 0) = T := ⟨_, rfl⟩
  rw [hT3] at d3 tgo tgn hq3
  have HT3 : Hid (∀ x, x < w0.heap.size → T3 x = tg x) := tgn
  have b4 := mal w3 (.cells #[.int .i64 nx] 3)
  have H4 := mbox w3 #[.int .i64 nx] 3
  have d4 := d3.below b4
  have hq4 := hq3.turn (tg' := T3) (w' := w3.alloc (.cells #[.int .i64 nx] 3)) fun g t ht _ => ⟨ht, b4.block g (d3.low g t ht).2⟩
  have y4 := hq4.c3
  have z3 := hq3.c3
  have IE := InsE (k := nx) (i := a) hq4.kids ha hkl H4 (fun e1 => by have h1 := hq3.ktag _ e1; rw [d3.new (Nat.le_refl _)] at h1; cases h1) (by have h1 := hU.size; have h2 := k3.size; have h3 := b4.size; omega)
  have neQ : some QB ≠ (Value.slice oq q.kids.length kq).ownBlock := fun e1 => by have h1 := hq3.ktag QB e1.symm; rw [hq3.tag] at h1; cases h1
  have lQ := heap_lt hq4.cells
  have cQ := hq4.cells
  have HF : Hid (K2 DB MB (w2.alloc (.cells #[.string ⟨name.toArray⟩, .slice none 0 0, .int .i64 par, .slice none 0 0] 74)) w3) := k3
  clear KE NE E0 hd2 hT3 k3 tgo tgn
  go_wp2_with (go_at_call 33; refine IE.mono ?_; rintro r w5 ⟨o5, k5, rfl, ow5, gr5, lc5⟩; have e5 := (gr5.block QB lQ neQ).trans cQ; have c5 := bcell e5 3 _ rfl; have f5 := froz_at e5)
  have hL : (insAt q.kids a (nx : Int)).length = q.kids.length + 1 := insAt_len _ _ _ ha
  rw [← hL] at ow5
  have hMp : putE M nx ⟨name, [], par, []⟩ par = some q := by unfold putE; rw [if_neg hpn]; exact hq
  obtain ⟨r1, r2, r3⟩ := d4.kids hMp (by simp only [if_neg hpn]; exact hpq) hq4 (fun k hk => by
    unfold insAt at hk
    rcases List.mem_append.1 hk with hk | hk
    · exact (HD.out.wf par q hq).2 k (List.mem_of_mem_take hk)
    · rcases List.mem_cons.1 hk with rfl | hk
      · exact WalkArith.wf_i64 (by omega)
      · exact (HD.out.wf par q hq).2 k (List.mem_of_mem_drop hk)) ow5 gr5 (by rw [hL]; exact lc5)
  rw [hL] at r1 r2 r3
  go_ret2
  refine ⟨rfl, ?_, _, _, fun x hx => ?_, r1⟩
  · have hk := HF.out
    have ktu : KT tg w0 w3 := KT.trans (KT.of_below hU) (tg' := tg) (KT.of_K2 (HD.out.below hU) hk) (fun _ _ => rfl)
    exact ktu.trans (tg' := T3) (KT.trans (KT.of_below b4) r3 (fun _ _ => rfl)) HT3.out
  · have h1 := hU.size
    have h2 := HF.out.size
    have h3 := b4.size
    rw [r2 x (by omega)]
    exact HT3.out x hx

end Go.Proofs.YtmlajdhkkcmjnacDoor

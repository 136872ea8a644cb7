/-
  A document: Remove.
-/
import Derived.Test.YtmlajdhkkcmjnacDoorDoc9
import Derived.Test.YtmlajdhkkcmjnacDoorCode1
import Derived.Test.YtmlajdhkkcmjnacDoorDocE
namespace Go.Proofs.YtmlajdhkkcmjnacDoor
open Go.RowKit

theorem cutE_nil (M : Dm) : cutE M [] = M := by funext i; simp [cutE]
set_option maxHeartbeats 2000000 in
/-- The root is not removed. -/
theorem Remove_root {E : Nat → Addr} {B : Nat} {tg : Tags} {W : World} {DB MB : Nat} {p : Int → Option Nat} {M : Dm} {nx c : Nat} (hE : DE E W) (hd : DocW B tg W DB MB p M nx c) (e : Elm) (hn : M 0 = some e) :
    Calls Tryd.prog 11 #[.pointer (some ⟨DB, 0, none⟩), .int .i64 0] W fun r w' => r = .returned (eV (E 3)) ∧ w' = W := by
  obtain ⟨EB, va, vk, hpn, he⟩ := hd.els 0 e hn
  have d0 := hd.d0
  have c3 := hE.c3
  unfold eV
  go_enter Tryd.func11, Tryd.ntmps11
  go_wp2_with (at_lookup; refine look_yes _ rfl _ _ 67 rfl Tryd.underlying3 Tryd.underlying67 (zeroEl _) rfl hd.map 0 rfl (by decide) EB hpn ?_)
  go_ret
  exact ⟨rfl, rfl⟩

set_option maxRecDepth 20000 in
set_option maxHeartbeats 4000000 in
theorem Remove_doc {B : Nat} {tg : Tags} {W : World} {DB MB : Nat} {p : Int → Option Nat} {M : Dm} {nx c : Nat} (hd : DocW B tg W DB MB p M nx c) (n : Int) (e q : Elm) (hn : M n = some e) (hn0 : n ≠ 0) (hq : M e.parent = some q) (hk : q.kids ≠ []) (f : Nat) (hf : f ≤ 900000) (L : List Int)
    (hp : Dp (putE M e.parent ⟨q.name, q.ats, q.parent, woL q.kids n⟩) f n) (hL : fromL (putE M e.parent ⟨q.name, q.ats, q.parent, woL q.kids n⟩) f n = L) (hin : ∀ k ∈ L, putE M e.parent ⟨q.name, q.ats, q.parent, woL q.kids n⟩ k ≠ none) (hnd : L.Nodup) (hll : L.length ≤ 1000000) :
    Calls Tryd.prog 11 #[.pointer (some ⟨DB, 0, none⟩), .int .i64 n] W fun r w' => r = .returned .nilIface ∧ KT tg W w' ∧ ∃ tg' p', (∀ x, x < W.heap.size → tg' x = tg x) ∧ DocW B tg' w' DB MB p' (cutE (putE M e.parent ⟨q.name, q.ats, q.parent, woL q.kids n⟩) L) nx (c - L.length) := by
  obtain ⟨EB, va, vk, hpn, he⟩ := hd.els n e hn
  have hwn := hd.i64 hn
  have d0 := hd.d0
  have TO := takeOut_doc hd n e q hn hq hk
  have hn0' : (n == 0) = false := by rw [beq_eq_false_iff_ne]; exact hn0
  obtain ⟨M1, hM1⟩ : ∃ M1, putE M e.parent ⟨q.name, q.ats, q.parent, woL q.kids n⟩ = M1 := ⟨_, rfl⟩
  rw [hM1] at TO hp hL hin ⊢
  clear hM1
  go_enter Tryd.func11, Tryd.ntmps11
  go_upto_region 7 with (first | (at_lookup; refine look_yes _ rfl _ _ 67 rfl Tryd.underlying3 Tryd.underlying67 (zeroEl _) rfl hd.map n rfl hwn EB hpn ?_) | (go_at_call 34; refine TO.mono ?_; rintro r w1 ⟨rfl, kt1, tg1, tk1, d1⟩))
  have FR := from_doc d1 f n hf hp hwn (by rw [hL]; exact hll)
  rw [hL] at FR
  have HIN : Hid (∀ k ∈ L, M1 k ≠ none) := hin
  have HND : Hid L.Nodup := hnd
  have HKT : Hid (KT tg W w1 ∧ ∀ x, x < W.heap.size → tg1 x = tg x) := ⟨kt1, tk1⟩
  have hll' : (L.length : Int) ≤ 1000000 := by omega
  clear hin hnd TO hp hL
  go_wp2_with (go_at_call 35; refine FR.mono ?_; rintro r w2 ⟨o2, k2, rfl, b2, ow2⟩)
  have d2 := d1.below b2
  have HD2 : Hid (DocW B tg1 w2 DB MB p M1 nx c) := d2
  have lM : MB < w1.heap.size := d1.map.lt
  have HB2 : Hid (Below w1.heap.size w1 w2) := b2
  clear d1 d2 b2 FR d0 kt1 tk1
  go_loopw [33] (fun y wr => ∃ (i : Nat) (p' : Int → Option Nat), i ≤ L.length ∧ y = .int .i64 i ∧ w2.grownBy wr (some MB) ∧ DocW B tg1 wr DB MB p' (cutE M1 (L.take i)) nx (c - i)) (fun y _ => L.length - (intOf y).toNat)
  case atStart => exact ⟨0, p, Nat.zero_le _, rfl, ⟨rfl, rfl, rfl, Nat.le_refl _, fun _ _ _ => rfl⟩, by rw [List.take_zero, cutE_nil]; exact HD2.out⟩
  case round =>
    obtain ⟨i, p', hi, rfl, hg, hdi⟩ := hrel
    by_cases hlt : i < L.length
    · have hlt' : (i : Int) < (L.length : Int) := by omega
      obtain ⟨k, hx, -⟩ := drop_at hlt
      obtain ⟨g, hgb, hc⟩ := row_get ow2 i _ (intsV_get hx)
      have hov : o2 = some ⟨g, 0, none⟩ := by
        obtain ⟨o', cap', h1, -, -, -, h2⟩ := row_slice ow2
        cases h1
        exact h2 g hgb
      subst hov
      have hgM : g ≠ MB := by have := (ow2.lt g hgb).1; omega
      have hcw := (World.cell?_of_block (a := ⟨g, i, none⟩) (hg.block g (ow2.lt g hgb).2 (fun e1 => hgM (Option.some.inj e1)))).trans hc
      have hkm : k ∈ L := List.mem_of_getElem? hx
      have hnk : k ∉ L.take i := fun hm => by
        have := HND.out
        rw [← List.take_append_drop i L] at this
        exact (List.nodup_append.1 this).2.2 k hm k (by
          obtain ⟨y, hy, hdr⟩ := drop_at hlt
          rw [hx] at hy
          cases hy
          rw [hdr]
          simp) rfl
      obtain ⟨fk, hfk⟩ : ∃ fk, cutE M1 (L.take i) k = some fk := by
        unfold cutE
        rw [if_neg hnk]
        cases hm : M1 k with
        | none => exact absurd hm (HIN.out k hkm)
        | some fk => exact ⟨fk, rfl⟩
      obtain ⟨kb, ka, kk, hpk, -⟩ := hdi.els k fk hfk
      have hwk := hdi.i64 hfk
      have d0 := hdi.d0
      have htk : cutE M1 (L.take (i + 1)) = delE (cutE M1 (L.take i)) k := by
        rw [List.take_add_one, hx]
        exact cutE_snoc _ _ _
      have HTK : Hid (cutE M1 (L.take (i + 1)) = delE (cutE M1 (L.take i)) k) := htk
      clear htk hx hkm hnk hc hgb
      go_wp2_with (at_delete; refine strike_it _ rfl _ _ 67 3 rfl Tryd.underlying3 Tryd.underlying67 rfl hdi.map k rfl hwk kb hpk ?_; intro w3 pm3 ht3)
      have HD3 : Hid (DocW B tg1 w3 DB MB (fun j => if j = k then none else p' j) (cutE M1 (L.take (i + 1))) nx (c - (i + 1))) := (by rw [HTK.out, Nat.sub_add_eq]; exact hdi.cut pm3 ht3 : DocW B tg1 w3 DB MB (fun j => if j = k then none else p' j) (cutE M1 (L.take (i + 1))) nx (c - (i + 1)))
      have hg3 : w2.grownBy w3 (some MB) := hg.trans ht3.grown
      go_roundw
      case rel => exact ⟨i + 1, _, by omega, by go_num, hg3, HD3.out⟩
      case measure => simp [intOf]; omega
    · obtain rfl : i = L.length := by omega
      have hge : ¬ (L.length : Int) < (L.length : Int) := by omega
      rw [List.take_length] at hdi
      go_wp2_with fail
      go_ret
      refine ⟨rfl, ?_, tg1, HKT.out.2, p', hdi⟩
      have kt := HKT.out.1
      have bb := HB2.out
      refine kt.trans (tg' := tg1) ⟨hg.os.trans bb.os, hg.tape.trans bb.tape, hg.output.trans bb.output, Nat.le_trans bb.size hg.size, fun b hb ht => ?_⟩ HKT.out.2
      exact (hg.block b (Nat.lt_of_lt_of_le hb bb.size) (fun e1 => by have e2 := Option.some.inj e1; rw [e2, hdi.mtag] at ht; cases ht)).trans (bb.block b hb)

end Go.Proofs.YtmlajdhkkcmjnacDoor

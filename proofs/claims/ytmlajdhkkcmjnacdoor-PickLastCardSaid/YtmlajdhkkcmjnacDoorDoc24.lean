/-
  What the last look at a document finds.
-/
import Derived.Test.YtmlajdhkkcmjnacDoorDoc23
namespace Go.Proofs.YtmlajdhkkcmjnacDoor
open Go.RowKit

section
variable {E : Nat → Addr} {B : Nat} {tg : Tags} {W : World} {DB MB : Nat} {p : Int → Option Nat} {M : Dm} {nx c : Nat} {r : Int → Nat}
theorem Wd.dp0 (h : Wd M r) : Dp M 11 0 := by
  obtain ⟨e, he, _⟩ := h.root
  exact h.dp 11 0 e he (by omega)
theorem DocS.all (h : DocS B tg W DB MB p M nx c r) : ∃ L, fromL M 11 0 = 0 :: L ∧ (0 :: L : List Int).length = c ∧ ∀ x ∈ L, 0 < x ∧ ∃ e, M x = some e := by
  obtain ⟨e, he, _⟩ := h.d.root
  have hl := h.d.count (d := 1) h.n h.d.dp0
  have hn := h.d.pre_nodup 11 0 1
  have hm : ∀ x, x ∈ fromL M 11 0 → ∃ e, M x = some e := fun x hx => ((h.d.mem h.d.dp0).1 hx).in_
  unfold fromL at hm ⊢
  rw [pre, he] at hl hn hm ⊢
  rw [List.map_cons] at hl hn hm ⊢
  refine ⟨_, rfl, hl, fun x hx => ?_⟩
  obtain ⟨q, hq⟩ := hm x (List.mem_cons_of_mem _ hx)
  refine ⟨?_, q, hq⟩
  have h1 := (h.w.dom x q hq).1
  have h2 : x ≠ 0 := fun e1 => (List.nodup_cons.1 hn).1 (by rw [← e1]; exact hx)
  omega
theorem Parent_par (h : DocW B tg W DB MB p M nx c) (n : Int) (hn : Wf64 n) : Calls Tryd.prog 12 #[.pointer (some ⟨DB, 0, none⟩), .int .i64 n] W fun e w' => e = .returned (.int .i64 (parD M n)) ∧ w' = W := by
  have h1 := Parent_doc h n hn
  unfold parD
  cases hm : M n with
  | none => rw [hm] at h1; exact h1
  | some e => rw [hm] at h1; exact h1
theorem DocS.wfpar (h : DocS B tg W DB MB p M nx c r) (n : Int) : Wf64 (parD M n) := by
  unfold parD
  cases hm : M n with
  | none => exact WalkArith.wf_i64 (by decide)
  | some e => exact (h.w.wf n e hm).1
theorem DocS.fewk (h : DocS B tg W DB MB p M nx c r) (n : Int) : (kidsD M n).length ≤ 100 := by
  unfold kidsD
  cases hm : M n with
  | none => exact Nat.zero_le _
  | some e => exact h.few hm
theorem DocS.alll (h : DocS B tg W DB MB p M nx c r) : (fromL M 11 0).length ≤ 100 := by
  obtain ⟨L, h1, h2, _⟩ := h.all
  have := h.le
  rw [h1, h2]
  exact this
/-- Move: an error, or it succeeds. -/
theorem Move_two (hE : DE E W) (h : DocS B tg W DB MB p M nx c r) (n par a : Int) (hwn : Wf64 n) (hwp : Wf64 par) :
    (Calls Tryd.prog 15 #[.pointer (some ⟨DB, 0, none⟩), .int .i64 n, .int .i64 par, .int .i64 a] W (fun e w' => ∃ k, 1 ≤ k ∧ k ≤ 11 ∧ e = .returned (eV (E k)) ∧ Below W.heap.size W w')) ∨ (Calls Tryd.prog 15 #[.pointer (some ⟨DB, 0, none⟩), .int .i64 n, .int .i64 par, .int .i64 a] W (fun e w' => e = .returned .nilIface ∧ ∃ k x o q0 q, a = ((k : Nat) : Int) ∧ MovR B tg W DB MB p M nx c n par k x o q0 q w')) := by
  cases hn : M n with
  | none =>
    cases hq : M par with
    | none => exact .inl ((Move_no hE h.w n par a hwn hwp hn hq).mono fun e w' hr => ⟨5, by decide, by decide, hr.1, hr.2⟩)
    | some q => exact .inl ((Move_noN hE h.w n par a hwn hwp q hn hq).mono fun e w' hr => ⟨5, by decide, by decide, hr.1, hr.2⟩)
  | some x =>
    cases hq0 : M par with
    | none => exact .inl ((Move_noP hE h.w n par a hwn hwp x hn hq0).mono fun e w' hr => ⟨5, by decide, by decide, hr.1, hr.2⟩)
    | some q0 =>
      by_cases h0 : n = 0
      · exact .inl ((Move_root hE h.w n par a hwn hwp x q0 hn hq0 h0).mono fun e w' hr => ⟨3, by decide, by decide, hr.1, hr.2⟩)
      obtain ⟨o, ho, hno, _⟩ := h.d.up n x hn h0
      have hdp := h.d.dp 11 n x hn (by omega)
      have hl := h.count (d := 1) hdp
      have hL : ∀ y, y ∈ fromL M 11 n ↔ Bl M n y := fun y => h.d.mem hdp
      by_cases hin : par ∈ fromL M 11 n
      · exact .inl ((Move_cycle hE h.w n par a x q0 hn hq0 h0 hwn hwp 11 (by omega) hdp (by omega) hin).mono fun e w' hr => ⟨9, by decide, by decide, hr.1, hr.2⟩)
      by_cases ha : a < 0
      · exact .inl ((Move_neg hE h.w n par a x q0 hn hq0 h0 hwn hwp 11 (by omega) hdp (by omega) hin ha).mono fun e w' hr => ⟨2, by decide, by decide, hr.1, hr.2⟩)
      have hql := h.few hq0
      by_cases hal : (if x.parent = par then (q0.kids.length : Int) - 1 else q0.kids.length) < a
      · exact .inl ((Move_bound hE h.w n par a x q0 hn hq0 h0 hwn hwp 11 (by omega) hdp (by omega) hin ha (by omega) hal).mono fun e w' hr => ⟨2, by decide, by decide, hr.1, hr.2⟩)
      have hu := h.d.deep _ par q0 rfl hq0
      have hb := h.d.rb par q0 hq0
      have hm := h.d.most (n := n) (f := 11)
      by_cases hdd : 10 < (r par : Int) + mostD (pre M 11 n 1)
      · exact .inl ((Move_deep hE h.w n par a x q0 hn hq0 h0 hwn hwp 11 (by omega) hdp (by omega) hin ha (by omega) hal (r par) hu hb.2 hdd (by omega)).mono fun e w' hr => ⟨8, by decide, by decide, hr.1, hr.2⟩)
      obtain ⟨k, rfl⟩ : ∃ k : Nat, a = k := ⟨a.toNat, by omega⟩
      have hpn : par ≠ n := fun e1 => hin ((hL par).2 (by rw [e1]; exact .self hn))
      have hself := h.d.not_self hn h0
      obtain ⟨q, hq, hqk⟩ : ∃ q, outE M n x o par = some q ∧ (q.kids.length : Int) = if x.parent = par then (q0.kids.length : Int) - 1 else q0.kids.length := by
        unfold outE putE
        by_cases he : par = x.parent
        · rw [if_pos he, if_pos he.symm]
          refine ⟨_, rfl, ?_⟩
          have h1 := woL_len hno (h.d.nodup _ o ho)
          have hoq : o = q0 := by rw [he, ho] at hq0; exact Option.some.inj hq0
          rw [← hoq]
          show ((woL o.kids n).length : Int) = _
          omega
        · rw [if_neg he, if_neg (fun e1 => he e1.symm)]
          exact ⟨q0, hq0, rfl⟩
      have hkq : k ≤ q.kids.length := by omega
      have hqb : q.kids.length ≤ 1000000 := by
        split at hqk <;> omega
      refine .inr ((Move_doc h.w n par k x o q0 q hn h0 ho (List.ne_nil_of_mem hno) hself hq0 hq hpn 11 (by omega) hdp (by omega) hin (by omega) (by omega) hkq hqb (r par) hu (by omega) hm.1 h.low).mono ?_)
      rintro e w' ⟨rfl, hk, tg', ht, hd⟩
      have hv := h.d.movV hn h0 ho hq0 hq hpn k
      exact ⟨rfl, k, x, o, q0, q, rfl, ⟨hn, h0, ho, hno, hq0, hq, hpn, hk, tg', _, ht, hd, h.d.move hv hn h0 hq0 (fun hb => hin ((hL par).2 hb)) hL (h.d.fits (by omega)), hv.count h.n, h.le, Nat.le_trans h.low hk.size⟩⟩
theorem count_take {K : List Int} {k : Nat} {x y : Int} (h : K[k]? = some y) : (K.take (k + 1)).count x = (K.take k).count x + if y = x then 1 else 0 := by
  rw [List.take_add_one, h, List.count_append]
  by_cases hy : y = x <;> simp [hy]
/-- The first place of a number in a row, as far as looked. -/
def NotYet (K : List Int) (n : Int) (a : Nat) : Prop := ∀ j y, j < a → K[j]? = some y → y ≠ n
theorem NotYet.zero (K : List Int) (n : Int) : NotYet K n 0 := fun j y hj => by omega
theorem NotYet.succ {K : List Int} {n y : Int} {a : Nat} (h : NotYet K n a) (hy : K[a]? = some y) (hn : y ≠ n) : NotYet K n (a + 1) := fun j z hj hz => by
  by_cases hja : j = a
  · subst hja
    rw [hy] at hz
    cases hz
    exact hn
  · exact h j z (by omega) hz
theorem NotYet.none {K : List Int} {n : Int} (h : NotYet K n K.length) : n ∉ K := fun hm => by
  obtain ⟨j, hj⟩ := List.getElem?_of_mem hm
  exact h j n (List.getElem?_eq_some_iff.1 hj).1 hj rfl
end

end Go.Proofs.YtmlajdhkkcmjnacDoor

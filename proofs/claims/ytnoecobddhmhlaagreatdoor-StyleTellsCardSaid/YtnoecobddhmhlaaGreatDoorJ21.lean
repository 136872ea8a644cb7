/-
  A new document is well-formed. What the last look at a document finds: each is a child once, its parents lead to the root.
-/
import Derived.Test.YtnoecobddhmhlaaGreatDoorJ19
import Derived.Test.YtnoecobddhmhlaaGreatDoorJ20
import Derived.Test.YtnoecobddhmhlaaGreatDoorJ18
namespace Go.Proofs.YtnoecobddhmhlaaGreatDoor
open Go.RowKit

mutual
theorem ckN_sz : ∀ (n : Nd) (deep ahead : Nat), (ckN n deep ahead).1 = 0 → (ckN n deep ahead).2 = ahead + szN n
  | .mk nm ats ks, deep, ahead, h => by
    by_cases h1 : ck1 nm ats deep ahead = 0
    · rw [ckN_zero h1] at h ⊢
      rw [ckK_sz ks _ _ h, szN]
      omega
    · rw [ckN, if_neg h1] at h
      exact absurd h h1
theorem ckK_sz : ∀ (l : List Nd) (deep ahead : Nat), (ckK l deep ahead).1 = 0 → (ckK l deep ahead).2 = ahead + szL l
  | [], _, ahead, _ => by rw [ckK, szL]; rfl
  | k :: l, deep, ahead, h => by
    by_cases h1 : (ckN k deep ahead).1 = 0
    · rw [ckK_zero h1] at h ⊢
      rw [ckK_sz l _ _ h, ckN_sz k _ _ h1, szL]
      omega
    · rw [ckK_pos h1] at h
      exact absurd h h1
end
theorem New_S (E : Nat → Addr) (n : Nd) (c0 c1 c2 : Value) (W : World) (hE : CE E W) (hn : NdC W c0 c1 c2 n) (hs : szN n ≤ 1000000) (hc : (ckN n 1 0).1 = 0) :
    Calls Tryz.prog 8 #[.agg #[c0, c1, c2]] W fun e w' => Below W.heap.size W w' ∧ ∃ DB MB tg p, e = .returned (.tuple #[.pointer (some ⟨DB, 0, none⟩), .nilIface]) ∧ DocS W.heap.size tg w' DB MB p (newD n) (szN n) (szN n) (rkD n) := by
  refine (New_yes E n c0 c1 c2 W hE hn hs hc).mono ?_
  rintro e w' ⟨hb, DB, MB, tg, p, rfl, hd⟩
  have h1 := ckN_sz n 1 0 hc
  have h2 := ckN_le n 1 0 hc
  exact ⟨hb, DB, MB, tg, p, rfl, hd, Wd.new n (rkN_of n 1 0 hc), Cd.new n, by omega, hb.size⟩
section
variable {M : Dm} {r : Int → Nat}
/-- Each but the root is a child of its parent, once. -/
theorem Wd.once (h : Wd M r) {x : Int} {e : Elm} (hx : M x = some e) (h0 : x ≠ 0) : (kidsD M e.parent).count x = 1 := by
  obtain ⟨q, hq, hm, _⟩ := h.up x e hx h0
  unfold kidsD
  rw [hq]
  exact (h.nodup _ q hq).count.trans (if_pos hm)
/-- So many steps up from an element. -/
def parD (M : Dm) (x : Int) : Int := match M x with | none => -1 | some e => e.parent
theorem Wd.up_one (h : Wd M r) {x : Int} {e : Elm} (hx : M x = some e) (h0 : 0 < x) : ∃ q, M (parD M x) = some q ∧ 0 ≤ parD M x ∧ r x = r (parD M x) + 1 := by
  obtain ⟨q, hq, _, hr⟩ := h.up x e hx (by omega)
  unfold parD
  rw [hx]
  refine ⟨q, hq, ?_, hr⟩
  refine Classical.byContradiction fun hn => ?_
  have h1 : e.parent < 0 := by
    have h2 : ¬ 0 ≤ e.parent := hn
    omega
  rw [h.neg _ h1] at hq
  exact absurd hq (by simp)
end

end Go.Proofs.YtnoecobddhmhlaaGreatDoor

namespace Go.Proofs.YtnoecobddhmhlaaGreatDoor

section
variable {M M' : Dm} {r r' : Int → Nat} {n par : Int}
theorem MovV.back (hv : MovV M M' n par) {y : Int} {e' : Elm} (h : M' y = some e') (hy : y ≠ n) : ∃ e, M y = some e ∧ e'.parent = e.parent := by
  cases hm : M y with
  | none => rw [hv.non y hm] at h; exact absurd h (by simp)
  | some e =>
    obtain ⟨x', h1, h2, _⟩ := hv.old y e hm
    rw [h] at h1
    cases h1
    rw [if_neg hy] at h2
    exact ⟨e, rfl, h2⟩
theorem MovV.below (hv : MovV M M' n par) {x : Elm} (hn : M n = some x) {y : Int} (h : Bl M' n y) : Bl M n y := by
  induction h with
  | self _ => exact .self hn
  | @kid y e' he h0 _ ih =>
    by_cases hy : y = n
    · rw [hy]; exact .self hn
    · obtain ⟨e, h1, h2⟩ := hv.back he hy
      rw [h2] at ih
      exact .kid h1 h0 ih
/-- How much deeper than the moved one: as before. -/
theorem MovV.rank (hv : MovV M M' n par) (h : Wd M r) (h' : Wd M' r') {y : Int} (hb : Bl M' n y) : r' y + r n = r y + r' n := by
  induction hb with
  | self _ => omega
  | @kid y e' he h0 _ ih =>
    by_cases hy : y = n
    · rw [hy]; omega
    · obtain ⟨e, h1, h2⟩ := hv.back he hy
      obtain ⟨_, _, _, h3⟩ := h'.up y e' he h0
      obtain ⟨_, _, _, h4⟩ := h.up y e h1 h0
      rw [h2] at ih h3
      omega
theorem MovV.deep (hv : MovV M M' n par) (h : Wd M r) (h' : Wd M' r') {f : Nat} {y dy : Int} (hm : (y, dy) ∈ pre M' f n 1) {x : Elm} (hn : M n = some x) : dy + r n ≤ 11 := by
  obtain ⟨h1, h2⟩ := h'.pre_in f n 1 y dy hm
  have h3 := hv.rank h h' h1
  obtain ⟨e, he⟩ := (hv.below hn h1).in_
  have := (h.rb y e he).2
  omega
end

end Go.Proofs.YtnoecobddhmhlaaGreatDoor

namespace Go.Proofs.YtnoecobddhmhlaaGreatDoor
open Go.RowKit

section
variable {M M' : Dm} {r r' : Int → Nat} {n par : Int}
theorem MovV.up (hv : MovV M M' n par) (h : Wd M r) {x : Elm} (hn : M n = some x) : ∀ (d : Nat) (y : Int), Up M y d → ¬ Bl M n y → Up M' y d
  | 0, y, hu, _ => hv.non y hu
  | d + 1, y, ⟨e, he, hu⟩, hb => by
    obtain ⟨e', h1, h2, _⟩ := hv.old y e he
    have hy : y ≠ n := fun e1 => hb (by rw [e1]; exact .self hn)
    rw [if_neg hy] at h2
    refine ⟨e', h1, ?_⟩
    rw [h2]
    refine hv.up h hn d _ hu fun hb' => ?_
    by_cases h0 : y = 0
    · subst h0
      obtain ⟨e0, h3, h4⟩ := h.root
      rw [he] at h3
      cases h3
      obtain ⟨z, hz⟩ := hb'.in_
      rw [h4, h.neg _ (by decide)] at hz
      exact absurd hz (by simp)
    · exact hb (.kid he h0 hb')
end
section
variable {B : Nat} {tg tg' : Tags} {W w1 : World} {DB MB : Nat} {p : Int → Option Nat} {M : Dm} {nx c : Nat} {r r' : Int → Nat} {n par : Int} {k : Nat} {x o q0 q : Elm}
theorem Move_back (h : DocS B tg W DB MB p M nx c r) (hn : M n = some x) (h0 : n ≠ 0) (ho : M x.parent = some o) (hq0 : M par = some q0) (hq : outE M n x o par = some q) (hpn : par ≠ n) (hd : DocS B tg' w1 DB MB p (movE M n par k x o q) nx c r') (a0 : Nat) (ha : o.kids[a0]? = some n) :
    Calls Tryz.prog 17 #[.pointer (some ⟨DB, 0, none⟩), .int .i64 n, .int .i64 x.parent, .int .i64 a0] w1 fun e w' => e = .returned .nilIface ∧ KT tg' w1 w' ∧ ∃ tg'', (∀ y, y < w1.heap.size → tg'' y = tg' y) ∧ DocS B tg'' w' DB MB p M nx c r := by
  have hv := h.d.movV hn h0 ho hq0 hq hpn k
  obtain ⟨e', o', q', h1, h2, h3, h4, h5, h6, h7⟩ := h.d.back hn h0 ho hq0 hq hpn k a0 ha
  obtain ⟨M', hM'⟩ : ∃ M', movE M n par k x o q = M' := ⟨_, rfl⟩
  rw [hM'] at hv hd h1 h3 h5 h7
  clear hM'
  have hself := h.d.not_self hn h0
  obtain ⟨o1, hq1, hk1⟩ : ∃ o1, M' x.parent = some o1 ∧ (q'.kids.length : Int) = if e'.parent = x.parent then (o1.kids.length : Int) - 1 else o1.kids.length := by
    obtain ⟨o1, hq1, _⟩ := hv.old _ o ho
    refine ⟨o1, hq1, ?_⟩
    unfold outE putE at h5
    by_cases he : x.parent = e'.parent
    · rw [if_pos he] at h5
      rw [if_pos he.symm]
      have ho1 : o' = o1 := by rw [he, h2, h3] at hq1; exact Option.some.inj hq1
      rw [← ho1]
      have hno : n ∈ o'.kids := by
        obtain ⟨z, hz, hzm, _⟩ := hd.d.up n e' h1 h0
        rw [h2, h3] at hz
        cases hz
        exact hzm
      have hl := woL_len hno (hd.d.nodup _ o' h3)
      have h8 := Option.some.inj h5
      rw [← h8]
      show ((woL o'.kids n).length : Int) = _
      omega
    · rw [if_neg he] at h5
      rw [if_neg (fun e1 => he e1.symm)]
      rw [hq1] at h5
      rw [Option.some.inj h5]
  have hal := (List.getElem?_eq_some_iff.1 ha).1
  have hdp := hd.d.dp 11 n e' h1 (by omega)
  have hl := hd.count (d := 1) hdp
  have hnot : x.parent ∉ fromL M' 11 n := fun hm => h.d.not_up hn h0 (hv.below hn ((hd.d.mem hdp).1 hm))
  have hfew := hd.few hq1
  have hof := h.few ho
  have hu := hv.up h.d hn (r x.parent) x.parent (h.d.deep _ _ o rfl ho) (h.d.not_up hn h0)
  obtain ⟨_, _, _, hrn⟩ := h.d.up n x hn h0
  have hrb := (h.d.rb _ o ho).2
  have hmo : mostD (pre M' 11 n 1) ≤ 10 - (r x.parent : Int) := mostD_le _ _ _ (by omega) fun z hz => by
    have := hv.deep h.d hd.d (y := z.1) (dy := z.2) hz hn
    omega
  have hM := Move_doc hd.w n x.parent a0 e' o' o1 q' h1 h0 (by rw [h2]; exact h3) h4 (by rw [h2]; exact hpn) hq1 h5 hself 11 (by omega) hdp (by omega) hnot (by omega) (by omega) (by omega) (by omega) (r x.parent) hu (by omega) hd.d.most.1 hd.low
  rw [h7] at hM
  refine hM.mono ?_
  rintro e w' ⟨rfl, hk, tg'', ht, hdw⟩
  exact ⟨rfl, hk, tg'', ht, hdw, h.d, h.n, h.le, Nat.le_trans hd.low hk.size⟩
end

end Go.Proofs.YtnoecobddhmhlaaGreatDoor

namespace Go.Proofs.YtnoecobddhmhlaaGreatDoor
open Go.RowKit

section
variable {E : Nat → Addr} {B : Nat} {tg : Tags} {W : World} {DB MB : Nat} {p : Int → Option Nat} {M : Dm} {nx c : Nat} {r : Int → Nat}
theorem Wd.dp0 (h : Wd M r) : Dp M 11 0 := by
  obtain ⟨e, he, _⟩ := h.root
  exact h.dp 11 0 e he (by omega)
theorem DocS.all (h : DocS B tg W DB MB p M nx c r) : ∃ L, fromL M 11 0 = 0 :: L ∧ (0 :: L : List Int).length = c ∧ ∀ x ∈ L, 0 < x ∧ ∃ e, M x = some e := by
  obtain ⟨e, he, _⟩ := h.d.root
  have hl := h.d.count (d := 1) h.n h.d.dp0
  have hn := h.d.pre_nodup 11 0 1
  have hm : ∀ x, x ∈ fromL M 11 0 → ∃ e, M x = some e := fun x hx => ((h.d.mem h.d.dp0).1 hx).in_
  unfold fromL at hm ⊢
  rw [pre, he] at hl hn hm ⊢
  rw [List.map_cons] at hl hn hm ⊢
  refine ⟨_, rfl, hl, fun x hx => ?_⟩
  obtain ⟨q, hq⟩ := hm x (List.mem_cons_of_mem _ hx)
  refine ⟨?_, q, hq⟩
  have h1 := (h.w.dom x q hq).1
  have h2 : x ≠ 0 := fun e1 => (List.nodup_cons.1 hn).1 (by rw [← e1]; exact hx)
  omega
theorem Parent_par (h : DocW B tg W DB MB p M nx c) (n : Int) (hn : Wf64 n) : Calls Tryz.prog 45 #[.pointer (some ⟨DB, 0, none⟩), .int .i64 n] W fun e w' => e = .returned (.int .i64 (parD M n)) ∧ w' = W := by
  have h1 := Parent_doc h n hn
  unfold parD
  cases hm : M n with
  | none => rw [hm] at h1; exact h1
  | some e => rw [hm] at h1; exact h1
theorem DocS.wfpar (h : DocS B tg W DB MB p M nx c r) (n : Int) : Wf64 (parD M n) := by
  unfold parD
  cases hm : M n with
  | none => exact WalkArith.wf_i64 (by decide)
  | some e => exact (h.w.wf n e hm).1
theorem DocS.fewk (h : DocS B tg W DB MB p M nx c r) (n : Int) : (kidsD M n).length ≤ 100 := by
  unfold kidsD
  cases hm : M n with
  | none => exact Nat.zero_le _
  | some e => exact h.few hm
theorem DocS.alll (h : DocS B tg W DB MB p M nx c r) : (fromL M 11 0).length ≤ 100 := by
  obtain ⟨L, h1, h2, _⟩ := h.all
  have := h.le
  rw [h1, h2]
  exact this
/-- Move: an error, or it succeeds. -/
theorem Move_two (hE : DE E W) (h : DocS B tg W DB MB p M nx c r) (n par a : Int) (hwn : Wf64 n) (hwp : Wf64 par) :
    (Calls Tryz.prog 17 #[.pointer (some ⟨DB, 0, none⟩), .int .i64 n, .int .i64 par, .int .i64 a] W (fun e w' => ∃ k, 1 ≤ k ∧ k ≤ 11 ∧ e = .returned (eV (E k)) ∧ Below W.heap.size W w')) ∨ (Calls Tryz.prog 17 #[.pointer (some ⟨DB, 0, none⟩), .int .i64 n, .int .i64 par, .int .i64 a] W (fun e w' => e = .returned .nilIface ∧ ∃ k x o q0 q, a = ((k : Nat) : Int) ∧ MovR B tg W DB MB p M nx c n par k x o q0 q w')) := by
  cases hn : M n with
  | none =>
    cases hq : M par with
    | none => exact .inl ((Move_no hE h.w n par a hwn hwp hn hq).mono fun e w' hr => ⟨5, by decide, by decide, hr.1, hr.2⟩)
    | some q => exact .inl ((Move_noN hE h.w n par a hwn hwp q hn hq).mono fun e w' hr => ⟨5, by decide, by decide, hr.1, hr.2⟩)
  | some x =>
    cases hq0 : M par with
    | none => exact .inl ((Move_noP hE h.w n par a hwn hwp x hn hq0).mono fun e w' hr => ⟨5, by decide, by decide, hr.1, hr.2⟩)
    | some q0 =>
      by_cases h0 : n = 0
      · exact .inl ((Move_root hE h.w n par a hwn hwp x q0 hn hq0 h0).mono fun e w' hr => ⟨3, by decide, by decide, hr.1, hr.2⟩)
      obtain ⟨o, ho, hno, _⟩ := h.d.up n x hn h0
      have hdp := h.d.dp 11 n x hn (by omega)
      have hl := h.count (d := 1) hdp
      have hL : ∀ y, y ∈ fromL M 11 n ↔ Bl M n y := fun y => h.d.mem hdp
      by_cases hin : par ∈ fromL M 11 n
      · exact .inl ((Move_cycle hE h.w n par a x q0 hn hq0 h0 hwn hwp 11 (by omega) hdp (by omega) hin).mono fun e w' hr => ⟨9, by decide, by decide, hr.1, hr.2⟩)
      by_cases ha : a < 0
      · exact .inl ((Move_neg hE h.w n par a x q0 hn hq0 h0 hwn hwp 11 (by omega) hdp (by omega) hin ha).mono fun e w' hr => ⟨2, by decide, by decide, hr.1, hr.2⟩)
      have hql := h.few hq0
      by_cases hal : (if x.parent = par then (q0.kids.length : Int) - 1 else q0.kids.length) < a
      · exact .inl ((Move_bound hE h.w n par a x q0 hn hq0 h0 hwn hwp 11 (by omega) hdp (by omega) hin ha (by omega) hal).mono fun e w' hr => ⟨2, by decide, by decide, hr.1, hr.2⟩)
      have hu := h.d.deep _ par q0 rfl hq0
      have hb := h.d.rb par q0 hq0
      have hm := h.d.most (n := n) (f := 11)
      by_cases hdd : 10 < (r par : Int) + mostD (pre M 11 n 1)
      · exact .inl ((Move_deep hE h.w n par a x q0 hn hq0 h0 hwn hwp 11 (by omega) hdp (by omega) hin ha (by omega) hal (r par) hu hb.2 hdd (by omega)).mono fun e w' hr => ⟨8, by decide, by decide, hr.1, hr.2⟩)
      obtain ⟨k, rfl⟩ : ∃ k : Nat, a = k := ⟨a.toNat, by omega⟩
      have hpn : par ≠ n := fun e1 => hin ((hL par).2 (by rw [e1]; exact .self hn))
      have hself := h.d.not_self hn h0
      obtain ⟨q, hq, hqk⟩ : ∃ q, outE M n x o par = some q ∧ (q.kids.length : Int) = if x.parent = par then (q0.kids.length : Int) - 1 else q0.kids.length := by
        unfold outE putE
        by_cases he : par = x.parent
        · rw [if_pos he, if_pos he.symm]
          refine ⟨_, rfl, ?_⟩
          have h1 := woL_len hno (h.d.nodup _ o ho)
          have hoq : o = q0 := by rw [he, ho] at hq0; exact Option.some.inj hq0
          rw [← hoq]
          show ((woL o.kids n).length : Int) = _
          omega
        · rw [if_neg he, if_neg (fun e1 => he e1.symm)]
          exact ⟨q0, hq0, rfl⟩
      have hkq : k ≤ q.kids.length := by omega
      have hqb : q.kids.length ≤ 1000000 := by
        split at hqk <;> omega
      refine .inr ((Move_doc h.w n par k x o q0 q hn h0 ho (List.ne_nil_of_mem hno) hself hq0 hq hpn 11 (by omega) hdp (by omega) hin (by omega) (by omega) hkq hqb (r par) hu (by omega) hm.1 h.low).mono ?_)
      rintro e w' ⟨rfl, hk, tg', ht, hd⟩
      have hv := h.d.movV hn h0 ho hq0 hq hpn k
      exact ⟨rfl, k, x, o, q0, q, rfl, ⟨hn, h0, ho, hno, hq0, hq, hpn, hk, tg', _, ht, hd, h.d.move hv hn h0 hq0 (fun hb => hin ((hL par).2 hb)) hL (h.d.fits (by omega)), hv.count h.n, h.le, Nat.le_trans h.low hk.size⟩⟩
theorem count_take {K : List Int} {k : Nat} {x y : Int} (h : K[k]? = some y) : (K.take (k + 1)).count x = (K.take k).count x + if y = x then 1 else 0 := by
  rw [List.take_add_one, h, List.count_append]
  by_cases hy : y = x <;> simp [hy]
/-- The first place of a number in a row, as far as looked. -/
def NotYet (K : List Int) (n : Int) (a : Nat) : Prop := ∀ j y, j < a → K[j]? = some y → y ≠ n
theorem NotYet.zero (K : List Int) (n : Int) : NotYet K n 0 := fun j y hj => by omega
theorem NotYet.succ {K : List Int} {n y : Int} {a : Nat} (h : NotYet K n a) (hy : K[a]? = some y) (hn : y ≠ n) : NotYet K n (a + 1) := fun j z hj hz => by
  by_cases hja : j = a
  · subst hja
    rw [hy] at hz
    cases hz
    exact hn
  · exact h j z (by omega) hz
theorem NotYet.none {K : List Int} {n : Int} (h : NotYet K n K.length) : n ∉ K := fun hm => by
  obtain ⟨j, hj⟩ := List.getElem?_of_mem hm
  exact h j n (List.getElem?_eq_some_iff.1 hj).1 hj rfl
end

end Go.Proofs.YtnoecobddhmhlaaGreatDoor

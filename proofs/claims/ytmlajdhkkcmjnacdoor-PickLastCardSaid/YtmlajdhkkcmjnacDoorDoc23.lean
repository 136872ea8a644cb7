/-
  What was moved is moved back: it succeeds, and the document is as it was.
-/
import Derived.Test.YtmlajdhkkcmjnacDoorDoc22
import Derived.Test.YtmlajdhkkcmjnacDoorDocV6
namespace Go.Proofs.YtmlajdhkkcmjnacDoor
open Go.RowKit

section
variable {M M' : Dm} {r r' : Int → Nat} {n par : Int}
theorem MovV.up (hv : MovV M M' n par) (h : Wd M r) {x : Elm} (hn : M n = some x) : ∀ (d : Nat) (y : Int), Up M y d → ¬ Bl M n y → Up M' y d
  | 0, y, hu, _ => hv.non y hu
  | d + 1, y, ⟨e, he, hu⟩, hb => by
    obtain ⟨e', h1, h2, _⟩ := hv.old y e he
    have hy : y ≠ n := fun e1 => hb (by rw [e1]; exact .self hn)
    rw [if_neg hy] at h2
    refine ⟨e', h1, ?_⟩
    rw [h2]
    refine hv.up h hn d _ hu fun hb' => ?_
    by_cases h0 : y = 0
    · subst h0
      obtain ⟨e0, h3, h4⟩ := h.root
      rw [he] at h3
      cases h3
      obtain ⟨z, hz⟩ := hb'.in_
      rw [h4, h.neg _ (by decide)] at hz
      exact absurd hz (by simp)
    · exact hb (.kid he h0 hb')
end
section
variable {B : Nat} {tg tg' : Tags} {W w1 : World} {DB MB : Nat} {p : Int → Option Nat} {M : Dm} {nx c : Nat} {r r' : Int → Nat} {n par : Int} {k : Nat} {x o q0 q : Elm}
theorem Move_back (h : DocS B tg W DB MB p M nx c r) (hn : M n = some x) (h0 : n ≠ 0) (ho : M x.parent = some o) (hq0 : M par = some q0) (hq : outE M n x o par = some q) (hpn : par ≠ n) (hd : DocS B tg' w1 DB MB p (movE M n par k x o q) nx c r') (a0 : Nat) (ha : o.kids[a0]? = some n) :
    Calls Tryd.prog 15 #[.pointer (some ⟨DB, 0, none⟩), .int .i64 n, .int .i64 x.parent, .int .i64 a0] w1 fun e w' => e = .returned .nilIface ∧ KT tg' w1 w' ∧ ∃ tg'', (∀ y, y < w1.heap.size → tg'' y = tg' y) ∧ DocS B tg'' w' DB MB p M nx c r := by
  have hv := h.d.movV hn h0 ho hq0 hq hpn k
  obtain ⟨e', o', q', h1, h2, h3, h4, h5, h6, h7⟩ := h.d.back hn h0 ho hq0 hq hpn k a0 ha
  obtain ⟨M', hM'⟩ : ∃ M', movE M n par k x o q = M' := ⟨_, rfl⟩
  rw [hM'] at hv hd h1 h3 h5 h7
  clear hM'
  have hself := h.d.not_self hn h0
  obtain ⟨o1, hq1, hk1⟩ : ∃ o1, M' x.parent = some o1 ∧ (q'.kids.length : Int) = if e'.parent = x.parent then (o1.kids.length : Int) - 1 else o1.kids.length := by
    obtain ⟨o1, hq1, _⟩ := hv.old _ o ho
    refine ⟨o1, hq1, ?_⟩
    unfold outE putE at h5
    by_cases he : x.parent = e'.parent
    · rw [if_pos he] at h5
      rw [if_pos he.symm]
      have ho1 : o' = o1 := by rw [he, h2, h3] at hq1; exact Option.some.inj hq1
      rw [← ho1]
      have hno : n ∈ o'.kids := by
        obtain ⟨z, hz, hzm, _⟩ := hd.d.up n e' h1 h0
        rw [h2, h3] at hz
        cases hz
        exact hzm
      have hl := woL_len hno (hd.d.nodup _ o' h3)
      have h8 := Option.some.inj h5
      rw [← h8]
      show ((woL o'.kids n).length : Int) = _
      omega
    · rw [if_neg he] at h5
      rw [if_neg (fun e1 => he e1.symm)]
      rw [hq1] at h5
      rw [Option.some.inj h5]
  have hal := (List.getElem?_eq_some_iff.1 ha).1
  have hdp := hd.d.dp 11 n e' h1 (by omega)
  have hl := hd.count (d := 1) hdp
  have hnot : x.parent ∉ fromL M' 11 n := fun hm => h.d.not_up hn h0 (hv.below hn ((hd.d.mem hdp).1 hm))
  have hfew := hd.few hq1
  have hof := h.few ho
  have hu := hv.up h.d hn (r x.parent) x.parent (h.d.deep _ _ o rfl ho) (h.d.not_up hn h0)
  obtain ⟨_, _, _, hrn⟩ := h.d.up n x hn h0
  have hrb := (h.d.rb _ o ho).2
  have hmo : mostD (pre M' 11 n 1) ≤ 10 - (r x.parent : Int) := mostD_le _ _ _ (by omega) fun z hz => by
    have := hv.deep h.d hd.d (y := z.1) (dy := z.2) hz hn
    omega
  have hM := Move_doc hd.w n x.parent a0 e' o' o1 q' h1 h0 (by rw [h2]; exact h3) h4 (by rw [h2]; exact hpn) hq1 h5 hself 11 (by omega) hdp (by omega) hnot (by omega) (by omega) (by omega) (by omega) (r x.parent) hu (by omega) hd.d.most.1 hd.low
  rw [h7] at hM
  refine hM.mono ?_
  rintro e w' ⟨rfl, hk, tg'', ht, hdw⟩
  exact ⟨rfl, hk, tg'', ht, hdw, h.d, h.n, h.le, Nat.le_trans hd.low hk.size⟩
end

end Go.Proofs.YtmlajdhkkcmjnacDoor

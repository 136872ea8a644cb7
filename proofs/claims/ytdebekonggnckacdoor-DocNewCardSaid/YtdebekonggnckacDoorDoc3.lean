/-
  A document's small functions: keep, Name, Parent, Count.
-/
import Derived.Test.YtdebekonggnckacDoorDoc2
namespace Go.Proofs.YtdebekonggnckacDoor
open Go.RowKit

theorem zeroEl (w : World) : (zeroValue 71).run Tryd.prog w = .ok (.pointer none) w := by kernel_rfl
/-- A new element, none of the document's yet. -/
structure NewE (B : Nat) (tg : Tags) (w : World) (b : Nat) (e : Elm) (va vk : Value) : Prop where
  cells : w.heap[b]? = some (.cells #[.string ⟨e.name.toArray⟩, va, .int .i64 e.parent, vk] 74)
  low : B ≤ b
  tag : tg b = none
  ats : w.ownsRow B 65 2 va e.ats.length (cellsA e.ats)
  atag : ∀ g, va.ownBlock = some g → tg g = none ∧ g ≠ b
  kids : w.ownsRow B 3 1 vk e.kids.length (intsV e.kids)
  ktag : ∀ g, vk.ownBlock = some g → tg g = none ∧ g ≠ b ∧ va.ownBlock ≠ some g
/-- Its blocks are the document's now. -/
def tagE (tg : Tags) (i : Int) (b : Nat) (va vk : Value) : Tags := fun x => if x = b then some (.el i) else if va.ownBlock = some x then some (.ats i) else if vk.ownBlock = some x then some (.kids i) else tg x
theorem tagE_old {tg : Tags} {i : Int} {b : Nat} {va vk : Value} {x : Nat} {t : Tg} (h : tg x = some t) (hb : tg b = none) (ha : ∀ g, va.ownBlock = some g → tg g = none) (hk : ∀ g, vk.ownBlock = some g → tg g = none) : tagE tg i b va vk x = some t := by
  unfold tagE
  rw [if_neg (fun e => by rw [e, hb] at h; cases h), if_neg (fun e => by rw [ha x e] at h; cases h), if_neg (fun e => by rw [hk x e] at h; cases h)]
  exact h
theorem tagE_none {tg : Tags} {i : Int} {b : Nat} {va vk : Value} {x : Nat} (h1 : x ≠ b) (h2 : va.ownBlock ≠ some x) (h3 : vk.ownBlock ≠ some x) : tagE tg i b va vk x = tg x := by
  unfold tagE
  rw [if_neg h1, if_neg h2, if_neg h3]
section
variable {B : Nat} {tg : Tags} {w w' : World} {DB MB : Nat} {p : Int → Option Nat} {M : Dm} {nx c : Nat}
theorem DocW.add (h : DocW B tg w DB MB p M nx c) {b : Nat} {e : Elm} {va vk : Value} (hn : NewE B tg w b e va vk) (hw : Wf64 e.parent ∧ ∀ k ∈ e.kids, Wf64 k) (hnx : nx < 1000000)
    (hm : PMap Tryd.prog 3 w' MB (fun i => if i = (nx : Int) then some b else p i) (nx + 1) (c + 1)) (hd : w'.heap[DB]? = some (.cells #[.map (some MB), .int .i64 ((nx + 1 : Nat) : Int)] 69))
    (hs : ∀ x, x ≠ DB → x ≠ MB → w'.heap[x]? = w.heap[x]?) (hz : w.heap.size ≤ w'.heap.size) : DocW B (tagE tg nx b va vk) w' DB MB (fun i => if i = (nx : Int) then some b else p i) (putE M nx e) (nx + 1) (c + 1) := by
  have old : ∀ x t, tg x = some t → tagE tg nx b va vk x = some t := fun x t ht => tagE_old ht hn.tag (fun g hg => (hn.atag g hg).1) (fun g hg => (hn.ktag g hg).1)
  have ne : ∀ x t, tg x = some t → t ≠ .doc → t ≠ .map → x ≠ DB ∧ x ≠ MB := fun x t ht h1 h2 => ⟨fun e => h1 (Option.some.inj (ht.symm.trans (e ▸ h.dtag))), fun e => h2 (Option.some.inj (ht.symm.trans (e ▸ h.mtag)))⟩
  have nne : ∀ x, tg x = none → x ≠ DB ∧ x ≠ MB := fun x hx => ⟨fun e => (by rw [e, h.dtag] at hx; exact absurd hx (by simp)), fun e => (by rw [e, h.mtag] at hx; exact absurd hx (by simp))⟩
  have hbn := nne b hn.tag
  refine ⟨hd, old _ _ h.dtag, hm, old _ _ h.mtag, fun i f hf => ?_, fun i hi => ?_, fun x t ht => ?_, fun i f hf => ?_, fun i f hf => ?_, by omega, fun x j hj => ?_⟩
  · unfold putE at hf
    by_cases hi : i = nx
    · rw [if_pos hi] at hf
      cases hf
      subst hi
      refine ⟨b, va, vk, by simp, ⟨(hs b hbn.1 hbn.2).trans hn.cells, by unfold tagE; rw [if_pos rfl], own_same hn.ats fun g hg => ?_, fun g hg => ?_, own_same hn.kids fun g hg => ?_, fun g hg => ?_⟩⟩
      · have := nne g (hn.atag g hg).1; exact hs g this.1 this.2
      · unfold tagE; rw [if_neg (hn.atag g hg).2, if_pos hg]
      · have := nne g (hn.ktag g hg).1; exact hs g this.1 this.2
      · unfold tagE; rw [if_neg (hn.ktag g hg).2.1, if_neg (hn.ktag g hg).2.2, if_pos hg]
    · rw [if_neg hi] at hf
      obtain ⟨b', va', vk', h1, h2⟩ := h.els i f hf
      refine ⟨b', va', vk', by simp only [if_neg hi]; exact h1, h2.turn fun g t ht hk => ⟨old g t ht, ?_⟩⟩
      have := ne g t ht (by rcases hk with rfl | rfl | rfl <;> simp) (by rcases hk with rfl | rfl | rfl <;> simp)
      exact hs g this.1 this.2
  · unfold putE at hi
    by_cases hj : i = nx
    · rw [if_pos hj] at hi; cases hi
    · rw [if_neg hj] at hi
      simp only [if_neg hj]
      exact h.non i hi
  · unfold tagE at ht
    split at ht
    · rename_i e; subst e; exact ⟨hn.low, Nat.lt_of_lt_of_le (heap_lt hn.cells) hz⟩
    · split at ht
      · rename_i e; have := hn.ats.lt x e; omega
      · split at ht
        · rename_i e; have := hn.kids.lt x e; omega
        · have := h.low x t ht; omega
  · unfold putE at hf
    by_cases hi : i = nx
    · omega
    · rw [if_neg hi] at hf
      have := h.dom i f hf
      omega
  · unfold putE at hf
    by_cases hi : i = nx
    · rw [if_pos hi] at hf; cases hf; exact hw
    · rw [if_neg hi] at hf; exact h.wf i f hf
  · unfold tagE at hj
    split at hj
    · have : (nx : Int) = j := by simpa using hj
      omega
    · split at hj
      · have : (nx : Int) = j := by simpa using hj
        omega
      · split at hj
        · have : (nx : Int) = j := by simpa using hj
          omega
        · have := h.tnx x j hj
          omega
theorem DocW.fresh (h : DocW B tg w DB MB p M nx c) : M nx = none ∧ p nx = none := by
  have : M nx = none := by
    cases hm : M nx with
    | none => rfl
    | some e => have := h.dom nx e hm; omega
  exact ⟨this, h.non nx this⟩
theorem DocW.ne (h : DocW B tg w DB MB p M nx c) : MB ≠ DB := fun e => by have h1 := h.dtag; rw [← e, h.mtag] at h1; cases h1
end

set_option maxHeartbeats 2000000 in
theorem keep_doc (B : Nat) (tg : Tags) (w : World) (DB MB : Nat) (p : Int → Option Nat) (M : Dm) (nx c b : Nat) (e : Elm) (va vk : Value) (h : DocW B tg w DB MB p M nx c) (hn : NewE B tg w b e va vk) (hw : Wf64 e.parent ∧ ∀ k ∈ e.kids, Wf64 k) (hnx : nx < 1000000) :
    Calls Tryd.prog 30 #[.pointer (some ⟨DB, 0, none⟩), .pointer (some ⟨b, 0, none⟩)] w fun r w' => r = .returned (.int .i64 nx) ∧ K2 DB MB w w' ∧ DocW B (tagE tg nx b va vk) w' DB MB (fun i => if i = (nx : Int) then some b else p i) (putE M nx e) (nx + 1) (c + 1) := by
  have d0 := h.d0
  have d1 := h.d1
  have hfr := h.fresh
  have hnx' : (nx : Int) ≤ 1000000 := by omega
  have hmx : nx < maxLen := by rw [maxLen_eq]; omega
  have hne := h.ne
  go_enter Tryd.func30, Tryd.ntmps30
  go_wp2_with (at_mapUpdate; refine store_new _ rfl _ _ _ 67 rfl Tryd.underlying3 Tryd.underlying67 rfl h.map hmx (nx : Int) rfl (WalkArith.wf_i64 (by omega)) b rfl hfr.2 ?_; intro w1 pm1 ht1; have e0 := (ht1.grown.block DB (heap_lt h.doc) (fun e => hne (Option.some.inj e).symm)).trans h.doc; have c0 := bcell e0 0 _ rfl; have c1 := bcell e0 1 _ rfl; have cf := froz_at e0)
  go_ret
  have hs1 := heap_setCell_same w1 DB 1 _ _ (.int .i64 ((nx : Int) + 1)) e0
  have hb : ∀ x, x ≠ DB → x ≠ MB → (w1.setCell ⟨DB, 1, none⟩ (.int .i64 ((nx : Int) + 1))).heap[x]? = w.heap[x]? := fun x h1 h2 => by
    rw [Below.heap_setCell _ _ _ x h1]
    by_cases hx : x < w.heap.size
    · exact ht1.grown.block x hx (fun e => h2 (Option.some.inj e))
    · have : w1.heap.size = w.heap.size := by obtain ⟨es, cl, es', cl', -, rfl⟩ := ht1; simp [Go.ChangeMaps.setBlock]
      rw [Array.getElem?_eq_none (by omega), Array.getElem?_eq_none (by omega)]
  have hz : w.heap.size ≤ (w1.setCell ⟨DB, 1, none⟩ (.int .i64 ((nx : Int) + 1))).heap.size := by
    have := ht1.grown.size
    have := ((Below.refl DB w1).setCell (p := ⟨DB, 1, none⟩) (Nat.le_refl _) (.int .i64 ((nx : Int) + 1))).size
    omega
  have hset := (Below.refl DB w1).setCell (p := ⟨DB, 1, none⟩) (Nat.le_refl _) (.int .i64 ((nx : Int) + 1))
  refine ⟨rfl, ⟨hset.os.trans ht1.grown.os, hset.tape.trans ht1.grown.tape, hset.output.trans ht1.grown.output, hz, fun x _ h1 h2 => hb x h1 h2⟩, h.add hn hw hnx (pm1.same (Below.heap_setCell _ _ _ MB hne)) ?_ hb hz⟩
  rw [hs1]
  rfl

set_option maxHeartbeats 2000000 in
theorem Name_doc {B : Nat} {tg : Tags} {w : World} {DB MB : Nat} {p : Int → Option Nat} {M : Dm} {nx c : Nat} (h : DocW B tg w DB MB p M nx c) (n : Int) (hn : Wf64 n) :
    Calls Tryd.prog 19 #[.pointer (some ⟨DB, 0, none⟩), .int .i64 n] w fun r w' => r = .returned (.string ⟨(match M n with | none => [] | some e => e.name).toArray⟩) ∧ w' = w := by
  have d0 := h.d0
  cases hm : M n with
  | none =>
    have hp := h.non n hm
    go_enter Tryd.func19, Tryd.ntmps19
    go_wp2_with (at_lookup; refine look_no _ rfl _ _ 67 rfl Tryd.underlying3 Tryd.underlying67 (zeroEl _) rfl h.map n rfl hn hp ?_)
    go_ret
    exact ⟨rfl, rfl⟩
  | some e =>
    obtain ⟨b, va, vk, hp, he⟩ := h.els n e hm
    have x0 := he.c0
    go_enter Tryd.func19, Tryd.ntmps19
    go_wp2_with (at_lookup; refine look_yes _ rfl _ _ 67 rfl Tryd.underlying3 Tryd.underlying67 (zeroEl _) rfl h.map n rfl hn b hp ?_)
    go_ret
    exact ⟨rfl, rfl⟩
set_option maxHeartbeats 2000000 in
theorem Parent_doc {B : Nat} {tg : Tags} {w : World} {DB MB : Nat} {p : Int → Option Nat} {M : Dm} {nx c : Nat} (h : DocW B tg w DB MB p M nx c) (n : Int) (hn : Wf64 n) :
    Calls Tryd.prog 12 #[.pointer (some ⟨DB, 0, none⟩), .int .i64 n] w fun r w' => r = .returned (.int .i64 (match M n with | none => -1 | some e => e.parent)) ∧ w' = w := by
  have d0 := h.d0
  cases hm : M n with
  | none =>
    have hp := h.non n hm
    go_enter Tryd.func12, Tryd.ntmps12
    go_wp2_with (at_lookup; refine look_no _ rfl _ _ 67 rfl Tryd.underlying3 Tryd.underlying67 (zeroEl _) rfl h.map n rfl hn hp ?_)
    go_ret
    exact ⟨rfl, rfl⟩
  | some e =>
    obtain ⟨b, va, vk, hp, he⟩ := h.els n e hm
    have x0 := he.c2
    go_enter Tryd.func12, Tryd.ntmps12
    go_wp2_with (at_lookup; refine look_yes _ rfl _ _ 67 rfl Tryd.underlying3 Tryd.underlying67 (zeroEl _) rfl h.map n rfl hn b hp ?_)
    go_ret
    exact ⟨rfl, rfl⟩
theorem Count_doc {B : Nat} {tg : Tags} {w : World} {DB MB : Nat} {p : Int → Option Nat} {M : Dm} {nx c : Nat} (h : DocW B tg w DB MB p M nx c) :
    Calls Tryd.prog 17 #[.pointer (some ⟨DB, 0, none⟩)] w fun r w' => r = .returned (.int .i64 c) ∧ w' = w := by
  have d0 := h.d0
  go_enter Tryd.func17, Tryd.ntmps17
  go_wp2_with (at_len; refine count_it _ rfl _ 67 rfl Tryd.underlying67 rfl h.map ?_)
  go_ret
  exact ⟨rfl, rfl⟩

end Go.Proofs.YtdebekonggnckacDoor

/-
  A document: the numbers of all below an element; an element taken out of its parent's children.
-/
import Derived.Test.YtmlajdhkkcmjnacDoorDoc7
import Derived.Test.YtmlajdhkkcmjnacDoorShelfD
namespace Go.Proofs.YtmlajdhkkcmjnacDoor
open Go.RowKit

/-- While the numbers are gathered. -/
def FromI (W : World) (done : List (Int × Int)) (Wc : World) : Prop := Below W.heap.size W Wc ∧ ∃ o k, Wc.heap[W.heap.size]? = some (.cells #[.slice o done.length k] 41) ∧ Wc.ownsRow (W.heap.size + 1) 3 1 (.slice o done.length k) done.length (intsV (done.map Prod.fst))
set_option maxHeartbeats 2000000 in
theorem gather (W : World) (done : List (Int × Int)) (Wc : World) (i d : Int) (h : FromI W done Wc) (hl : done.length < 1000000) :
    Calls Tryd.prog 61 (#[.int .i64 i, .int .i64 d] ++ #[.pointer (some ⟨W.heap.size, 0, none⟩)]) Wc fun e w' => e = .returned (.tuple #[]) ∧ FromI W (done ++ [(i, d)]) w' := by
  obtain ⟨hb, o, k, hc, ho⟩ := h
  obtain ⟨i0, hi0, hz0, hz1, hz2⟩ := info_parts intInfo
  have c0 := bcell hc 0 _ rfl
  have hlt := heap_lt hc
  have b1 := mal Wc (.cells #[.int .i64 i] 3)
  have H0 := mbox Wc #[.int .i64 i] 3
  have HB : Hid (Below W.heap.size W Wc) := hb
  clear hb
  obtain ⟨PL, hPL⟩ : ∃ PL, W.heap.size = PL := ⟨_, rfl⟩
  rw [hPL] at hc ho c0 hlt ⊢
  show Calls Tryd.prog 61 #[.int .i64 i, .int .i64 d, .pointer (some ⟨PL, 0, none⟩)] Wc _
  go_enter Tryd.func61, Tryd.ntmps61
  go_wp2_with (at_builtin; refine wpList_append_own_at _ rfl _ _ 41 rfl (PL + 1) 3 i0 (.int .i64 0) 1 8 Tryd.underlying41 hi0 hz0 hz1 hz2 rfl (by decide) _ _ _ rfl (World.ownsRow.alloc ho _) ⟨Wc.heap.size, 0, none⟩ 1 1 [.int .i64 i] rfl rfl (World.news_of_block H0) (fun u hu => by simp at hu; rcases hu with rfl; rfl) (by rw [maxLen_eq]; omega) (by omega) (by simp; omega) ?_; intro v7 w7 ow7 gr7 _ loc7; obtain ⟨o7, k7, rfl⟩ := own_slice ow7; have e7 := (gr7.block PL (Nat.lt_of_lt_of_le hlt b1.size) (own_ne ho (Nat.lt_succ_self PL))).trans ((b1.block PL hlt).trans hc); have c7 := bcell e7 0 _ rfl; have f7 := froz_at e7)
  refine bodyPost_end (results_none rfl _ _ _) rfl ⟨rfl, ?_, o7, k7, ?_, ?_⟩
  · have h7 : Below PL W w7 := by
      have hb := HB.out
      rw [hPL] at hb
      refine ⟨gr7.os.trans (b1.os.trans hb.os), gr7.tape.trans (b1.tape.trans hb.tape), gr7.output.trans (b1.output.trans hb.output), Nat.le_trans hb.size (Nat.le_trans b1.size gr7.size), fun j hj => ?_⟩
      exact (gr7.block j (by have := b1.size; omega) (own_ne ho (by omega))).trans ((b1.block j (by omega)).trans (hb.block j hj))
    rw [hPL]
    exact h7.setCell (Nat.le_refl _) _
  · rw [hPL, heap_setCell_same w7 PL 0 _ _ _ e7]
    simp
  · rw [hPL]
    have := own_same (w' := w7.setCell ⟨PL, 0, none⟩ (.slice o7 (done.length + 1) k7)) ow7 fun g hg => Below.heap_setCell _ _ _ g (fun e1 => by have := (ow7.lt g hg).1; simp only at e1; omega)
    rw [List.map_append, intsV_app, List.length_append]
    exact this
/-- The numbers of an element and all below. -/
def fromL (M : Dm) (f : Nat) (n : Int) : List Int := (pre M f n 1).map Prod.fst
set_option maxHeartbeats 2000000 in
theorem from_doc {B : Nat} {tg : Tags} {W : World} {DB MB : Nat} {p : Int → Option Nat} {M : Dm} {nx c : Nat} (hd : DocW B tg W DB MB p M nx c) (f : Nat) (n : Int) (hf : f ≤ 900000) (hp : Dp M f n) (hn : Wf64 n) (hl : (fromL M f n).length ≤ 1000000) :
    Calls Tryd.prog 35 #[.pointer (some ⟨DB, 0, none⟩), .int .i64 n] W fun e w' => ∃ o k, e = .returned (.slice o (fromL M f n).length k) ∧ Below W.heap.size W w' ∧ w'.ownsRow (W.heap.size + 1) 3 1 (.slice o (fromL M f n).length k) (fromL M f n).length (intsV (fromL M f n)) := by
  have HW := walk_from hd #[.pointer (some ⟨W.heap.size, 0, none⟩)] (FromI W) (fun done Wc h => ⟨fun b t ht => h.1.block b (hd.low b t ht).2, h.1.size⟩) (fun done Wc i d h hl => gather W done Wc i d h hl) f n 1 [] (W.alloc (.cells #[.slice none 0 0] 41)) hp hn (by decide) (by omega) (by rw [List.length_nil]; unfold fromL at hl; rw [List.length_map] at hl; omega) ⟨mal W _, none, 0, mbox W _ _, World.ownsRow_nil _ _ _ _⟩
  rw [List.nil_append] at HW
  have hlm : (fromL M f n).length = (pre M f n 1).length := List.length_map ..
  go_enter Tryd.func35, Tryd.ntmps35
  go_wp2_with (go_at_call 60; refine HW.mono ?_; rintro e w1 ⟨rfl, h1⟩; obtain ⟨hb1, o, k, hc1, ho1⟩ := h1; have c1 := bcell hc1 0 _ rfl)
  go_ret
  exact ⟨o, k, by rw [hlm]; rfl, hb1, by rw [hlm]; exact ho1⟩

theorem takeOut_gives (n x : Int) (PN : Nat) (W : World) (hc : W.cell? ⟨PN, 0, none⟩ = some (.int .i64 n)) : FnGives Tryd.prog 59 #[.pointer (some ⟨PN, 0, none⟩)] #[.int .i64 x] (.bool (decide (x = n))) W := by
  show Calls Tryd.prog 59 #[.int .i64 x, .pointer (some ⟨PN, 0, none⟩)] W _
  go_enter Tryd.func59, Tryd.ntmps59
  go_wp2
  all_goals (go_ret; exact ⟨by first | (simp_all; done) | (simp_all; rfl), 0, rfl⟩)
theorem putRow_at {w : World} {blk : Nat} {cur : Array Value} {t : TypeId} (enc : Int → Value) (d : Array Int) (h : w.heap[blk]? = some (.cells cur t)) : (Sort.putRow enc w blk 0 d).heap[blk]? = some (.cells (Sort.putCells enc 0 d cur) t) := by
  simp [Sort.putRow, Sort.mapBlock, Array.getElem?_modify, h, Sort.onCells]
theorem putRow_far {w : World} {blk x : Nat} (enc : Int → Value) (d : Array Int) (h : x ≠ blk) : (Sort.putRow enc w blk 0 d).heap[x]? = w.heap[x]? := by
  simp [Sort.putRow, Sort.mapBlock, Array.getElem?_modify, Ne.symm h]
theorem putCells_take (F R : List Int) (cur : Array Value) (h : F.length ≤ cur.size) : (Sort.putCells (Value.int .i64) 0 (F ++ R).toArray cur).toList.take F.length = intsV F := by
  apply List.ext_getElem?
  intro k
  rw [List.getElem?_take]
  unfold intsV
  rw [List.getElem?_map]
  split
  · rename_i hk
    have hkc : k < cur.size := by omega
    rw [Array.getElem?_toList]
    unfold Sort.putCells
    rw [Array.getElem?_mapIdx, Array.getElem?_eq_getElem hkc, Option.map_some, if_pos ⟨Nat.zero_le _, by simp; omega⟩]
    rw [List.getElem?_eq_getElem hk, Option.map_some, Nat.sub_zero]
    congr 2
    rw [getElem!_pos _ k (by simp; omega)]
    simp [List.getElem_append_left hk]
  · rename_i hk
    rw [List.getElem?_eq_none (by omega)]
    rfl
theorem DelF {B : Nat} {W : World} {v : Value} {L : List Int} {n : Int} {PN : Nat} (ho : W.ownsRow B 3 1 v L.length (intsV L)) (hL : L ≠ []) (hc : W.cell? ⟨PN, 0, none⟩ = some (.int .i64 n)) (hne : v.ownBlock ≠ some PN) :
    Calls Tryd.prog 44 #[v, .func (.func 59) #[] #[.pointer (some ⟨PN, 0, none⟩)]] W fun e w' => ∃ o k, e = .returned (.slice o (L.filter (fun x => !decide (x = n))).length k) ∧ w'.ownsRow B 3 1 (.slice o (L.filter (fun x => !decide (x = n))).length k) (L.filter (fun x => !decide (x = n))).length (intsV (L.filter (fun x => !decide (x = n)))) ∧ (Value.slice o (L.filter (fun x => !decide (x = n))).length k).ownBlock = v.ownBlock ∧ W.grownBy w' v.ownBlock := by
  have hl := own_len ho
  obtain ⟨h1, h2⟩ := ho
  rcases h2 with ⟨-, h2⟩ | ⟨g, cap, cur, rfl, h3, h4, h5, h6, h7, h8⟩
  · exact absurd (List.length_eq_zero_iff.1 h2) hL
  have hgn : g ≠ PN := fun e => hne (by rw [e]; rfl)
  have hH : Sort.Holds (Value.int .i64) W g 0 L.toArray := fun j hj => by
    have hj' : j < L.length := by simpa using hj
    refine ⟨?_, froz_at h4 _⟩
    rw [Nat.zero_add]
    refine bcell h4 j _ ?_
    have hx : (intsV L)[j]? = some (.int .i64 L[j]) := intsV_get (List.getElem?_eq_getElem hj')
    rw [← h8, Nat.mul_one, List.getElem?_take, if_pos hj', Array.getElem?_toList] at hx
    rw [hx, getElem!_pos _ j hj]
    simp
  have hD := AnyE.slices_DeleteFunc Tryd.laysH10 (Value.int .i64) (fun _ => rfl) (fun x => decide (x = n)) 59 #[.pointer (some ⟨PN, 0, none⟩)] (fun args w => by kernel_rfl) 0 (fun w => Tryd.zeroValue3 w) g 0 cap L.toArray W
    (fun W' x hb => takeOut_gives n x PN W' ((hb.cell (cell_lt3 hc)).trans hc))
    (fun m os dk x _ => takeOut_gives n x PN _ (by
      unfold sortWorld
      rw [Sort.cell?_grow _ _ _ (by show PN < (Sort.putRow _ _ _ _ _).heap.size; rw [Sort.size_putRow]; exact cell_lt3 hc), Sort.cell?_putRow_other _ _ g 0 _ _ (Or.inl (fun e => hgn e.symm))]
      exact hc)) hH (by simpa using hl) (by simpa using h5)
  have hs : L.toArray.size = L.length := by simp
  rw [hs] at hD
  refine hD.mono fun e w' ⟨he, q, hw⟩ => ?_
  have hF : (L.filter (fun x => !decide (x = n))).length ≤ L.length := List.length_filter_le _ _
  have hcs : cur.size = cap := by rw [h7, Nat.mul_one]
  refine ⟨some ⟨g, 0, none⟩, cap, he, ?_, rfl, ?_⟩
  · rw [hw]
    refine ⟨by rw [intsV_len, Nat.mul_one], .inr ⟨g, cap, _, rfl, h3, putRow_at (w := Sort.ahead W q) _ _ h4, by omega, h6, ?_, ?_⟩⟩
    · unfold Sort.putCells
      rw [Array.size_mapIdx]
      exact h7
    · rw [Nat.mul_one]
      exact putCells_take _ _ cur (by omega)
  · rw [hw]
    exact ⟨rfl, rfl, rfl, by rw [Sort.size_putRow]; exact Nat.le_refl _, fun x _ hx => putRow_far _ _ (fun e1 => hx (by rw [e1]; rfl))⟩

end Go.Proofs.YtmlajdhkkcmjnacDoor

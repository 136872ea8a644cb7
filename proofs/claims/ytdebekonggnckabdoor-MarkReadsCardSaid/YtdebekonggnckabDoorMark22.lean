/-
  Children as the reader reads them, by what reads one of them.
-/
import Derived.Test.YtdebekonggnckabDoorMark21
import Derived.Deep.RegionLaw
import Derived.Deep.AppendLies
namespace Go.Proofs.YtdebekonggnckabDoor
open Go.RowKit

/-- What the reader of an element tells. -/
def ElR (R B : Nat) (o : Option (Nd × Bs)) (e : Ending) (w : World) : Prop := ∃ (s0 : ByteArray) (o1 : Option Addr) (n1 k1 : Nat) (o2 : Option Addr) (n2 k2 : Nat), (o = none ∧ e = .returned (.tuple #[.agg #[.string s0, .slice o1 n1 k1, .slice o2 n2 k2], .bool false])) ∨ ∃ (n : Nd) (r : Bs), o = some (n, r) ∧ e = .returned (.tuple #[.agg #[.string s0, .slice o1 n1 k1, .slice o2 n2 k2], .bool true]) ∧ RD R r w ∧ NdQ (fun b => B ≤ b) w (.string s0) (.slice o1 n1 k1) (.slice o2 n2 k2) n
/-- Elements of less than so many bytes are read. -/
def El (R f : Nat) : Prop := ∀ (s : Bs) (W : World), s.length < f → s.length ≤ 10000 → RD R s W →
  Calls Tryd.prog 41 #[.pointer (some ⟨R, 0, none⟩)] W fun e w' => Keep R W w' ∧ ElR R W.heap.size (rdN f s) e w'

theorem HasPrefix_bs (s p : Bs) (w : World) : Calls Tryd.prog 95 #[.string ⟨s.toArray⟩, .string ⟨p.toArray⟩] w fun e w' => e = .returned (.bool (p.isPrefixOf s)) ∧ w' = w := by
  have := Tryd.strings_HasPrefix ⟨s.toArray⟩ ⟨p.toArray⟩ w
  exact this
theorem HasPrefix_is (s p : Bs) (b : Bool) (w : World) (h : p.isPrefixOf s = b) : Calls Tryd.prog 95 #[.string ⟨s.toArray⟩, .string ⟨p.toArray⟩] w fun e w' => e = .returned (.bool b) ∧ w' = w := by
  rw [← h]
  exact HasPrefix_bs s p w
theorem rdK_end {el : Bs → Option (Nd × Bs)} {f : Nat} {s : Bs} (h : ¬ ([60].isPrefixOf s = true ∧ [60, 47].isPrefixOf s = false)) : rdK el (f + 1) s = some ([], s) := by rw [rdK, if_neg h]
theorem rdK_bad {el : Bs → Option (Nd × Bs)} {f : Nat} {s : Bs} (h : [60].isPrefixOf s = true ∧ [60, 47].isPrefixOf s = false) (h1 : el s = none) : rdK el (f + 1) s = none := by rw [rdK, if_pos h, h1]
theorem rdK_on {el : Bs → Option (Nd × Bs)} {f : Nat} {s r : Bs} {k : Nd} (h : [60].isPrefixOf s = true ∧ [60, 47].isPrefixOf s = false) (h1 : el s = some (k, r)) : rdK el (f + 1) s = preK [k] (rdK el f r) := by rw [rdK, if_pos h, h1]
theorem nodeInfo : (Tryd.prog.info? 40).map (fun i => (i.zero, i.size, i.bytes)) = some (some (.agg #[.string ⟨#[]⟩, .slice none 0 0, .slice none 0 0]), 3, 64) := by kernel_rfl
theorem own_set {w : World} {B k n g cap : Nat} {e : TypeId} {xs : List Value} (h : w.ownsRow B e k (.slice (some ⟨g, 0, none⟩) n cap) n xs) (j : Nat) (v : Value) : (w.setCell ⟨g, j, none⟩ v).ownsRow B e k (.slice (some ⟨g, 0, none⟩) n cap) n (xs.set j v) := by
  obtain ⟨h1, h2⟩ := h
  refine ⟨by rw [List.length_set]; exact h1, ?_⟩
  rcases h2 with ⟨h2, _⟩ | ⟨g', cap', cur, h3, h4, h5, h6, h7, h8, h9⟩
  · cases h2
  · cases h3
    refine .inr ⟨g, cap, cur.setIfInBounds j v, rfl, h4, heap_setCell_same w g j cur e v h5, h6, h7, by simpa using h8, ?_⟩
    rw [← h9, Array.toList_setIfInBounds, List.take_set]
theorem own_froz {w : World} {B k n g cap : Nat} {e : TypeId} {xs : List Value} (h : w.ownsRow B e k (.slice (some ⟨g, 0, none⟩) n cap) n xs) (j : Nat) : w.frozen? ⟨g, j, none⟩ = false := by
  rcases h.2 with ⟨h2, _⟩ | ⟨g', cap', cur, h3, h4, h5, -⟩
  · cases h2
  · cases h3
    exact frozen_of_row w g j cur e h5
theorem own_cell {w : World} {B k n g cap : Nat} {e : TypeId} {xs : List Value} (h : w.ownsRow B e k (.slice (some ⟨g, 0, none⟩) n cap) n xs) {j : Nat} {u : Value} (hj : xs[j]? = some u) : w.cell? ⟨g, j, none⟩ = some u := by
  obtain ⟨g', h1, h2⟩ := row_get h j u hj
  cases h1
  exact h2
theorem new3 (K : List V3) (a b c : Value) : (cellsK K ++ [a, b, c])[K.length * 3]? = some a ∧ (cellsK K ++ [a, b, c])[K.length * 3 + 1]? = some b ∧ (cellsK K ++ [a, b, c])[K.length * 3 + 2]? = some c := by
  have h : (cellsK K).length = K.length * 3 := by
    induction K with
    | nil => rfl
    | cons x r ih => simp [cellsK, ih]; omega
  refine ⟨?_, ?_, ?_⟩
  · rw [List.getElem?_append_right (by omega), h, Nat.sub_self]; rfl
  · rw [List.getElem?_append_right (by omega), h, Nat.add_sub_cancel_left]; rfl
  · rw [List.getElem?_append_right (by omega), h, Nat.add_sub_cancel_left]; rfl
theorem cellsK_len : ∀ K : List V3, (cellsK K).length = K.length * 3
  | [] => rfl
  | x :: r => by simp [cellsK, cellsK_len r]; omega
/-- What the reader of children tells. -/
def KdR (R N B : Nat) (c0 c1 : Value) (o : Option (List Nd × Bs)) (e : Ending) (w : World) : Prop := ∃ (oK : Option Addr) (nK cK : Nat), NB N c0 c1 (.slice oK nK cK) w ∧ ((o = none ∧ e = .returned (.bool false)) ∨ ∃ (ks : List Nd) (r : Bs) (K : List V3), o = some (ks, r) ∧ e = .returned (.bool true) ∧ RD R r w ∧ w.ownsRow B 40 3 (.slice oK nK cK) K.length (cellsK K) ∧ KR (fun b => B ≤ b) w K ks)

theorem set3 (K : List V3) (x y z a b c : Value) : (((cellsK K ++ [x, y, z]).set (K.length * 3) a).set (K.length * 3 + 1) b).set (K.length * 3 + 2) c = cellsK K ++ [a, b, c] := by
  have h := cellsK_len K
  rw [List.set_append_right _ _ (by omega), List.set_append_right _ _ (by omega), List.set_append_right _ _ (by omega), h, Nat.sub_self, Nat.add_sub_cancel_left, Nat.add_sub_cancel_left]
  rfl
theorem Keep2.setG {r n g : Nat} {A B : World} (h : Keep2 r n A B) (i : Nat) (v : Value) (hg : A.heap.size ≤ g) : Keep2 r n A (B.setCell ⟨g, i, none⟩ v) :=
  h.grown (Keep.set g i B v).grown (fun b hb => by cases hb; exact hg)
/-- The four stores behind the append, in either order. -/
def Fin4 (N g q cap n : Nat) (a b c : Value) (w V : World) : Prop := V = (((w.setCell ⟨g, q, none⟩ a).setCell ⟨g, q + 1, none⟩ b).setCell ⟨g, q + 2, none⟩ c).setCell ⟨N, 2, none⟩ (.slice (some ⟨g, 0, none⟩) n cap) ∨ V = (((w.setCell ⟨N, 2, none⟩ (.slice (some ⟨g, 0, none⟩) n cap)).setCell ⟨g, q, none⟩ a).setCell ⟨g, q + 1, none⟩ b).setCell ⟨g, q + 2, none⟩ c
theorem fin_rd {R N g q cap n : Nat} {a b c : Value} {w V : World} {s : Bs} (h : Fin4 N g q cap n a b c w V) (hr : RD R s w) (h1 : R ≠ N) (h2 : R ≠ g) : RD R s V := by
  rcases h with rfl | rfl
  · exact (((hr.setN _ _ h2).setN _ _ h2).setN _ _ h2).setN _ _ h1
  · exact (((hr.setN _ _ h1).setN _ _ h2).setN _ _ h2).setN _ _ h2
theorem fin_nb {N g q cap n : Nat} {a b c c0 c1 c2 : Value} {w V : World} (h : Fin4 N g q cap n a b c w V) (hr : NB N c0 c1 c2 w) (h2 : g ≠ N) : NB N c0 c1 (.slice (some ⟨g, 0, none⟩) n cap) V := by
  rcases h with rfl | rfl
  · exact (((hr.keep (Keep.set g _ _ _) h2).keep (Keep.set g _ _ _) h2).keep (Keep.set g _ _ _) h2).set2 _
  · exact (((hr.set2 _).keep (Keep.set g _ _ _) h2).keep (Keep.set g _ _ _) h2).keep (Keep.set g _ _ _) h2
theorem fin_own {N g cap B : Nat} {K : List V3} {a b c x y z : Value} {w V : World} (h : Fin4 N g (K.length * 3) cap (K.length + 1) a b c w V) (ho : w.ownsRow B 40 3 (.slice (some ⟨g, 0, none⟩) (K.length + 1) cap) (K.length + 1) (cellsK K ++ [x, y, z])) (hN : N < B) :
    V.ownsRow B 40 3 (.slice (some ⟨g, 0, none⟩) (K.length + 1) cap) (K ++ [(a, b, c)]).length (cellsK (K ++ [(a, b, c)])) := by
  rw [cellsK_snoc, List.length_append]
  show V.ownsRow B _ 3 _ (K.length + 1) (cellsK K ++ [a, b, c])
  rw [← set3 K x y z a b c]
  rcases h with rfl | rfl
  · exact own_keep (own_set (own_set (own_set ho _ _) _ _) _ _) (Keep.set N _ _ _) hN
  · exact own_set (own_set (own_set (own_keep ho (Keep.set N _ _ _) hN) _ _) _ _) _ _
theorem fin_keep {R N g q cap n : Nat} {a b c : Value} {A w V : World} (h : Fin4 N g q cap n a b c w V) (hk : Keep2 R N A w) (hg : A.heap.size ≤ g) : Keep2 R N A V := by
  rcases h with rfl | rfl
  · exact (((hk.setG _ _ hg).setG _ _ hg).setG _ _ hg).trans (Keep2.setN _ _ _)
  · exact (((hk.trans (Keep2.setN _ _ _)).setG _ _ hg).setG _ _ hg).setG _ _ hg
theorem fin_blk {N g q cap n : Nat} {a b c : Value} {w V : World} (h : Fin4 N g q cap n a b c w V) (k : Nat) (h1 : k ≠ N) (h2 : k ≠ g) : V.heap[k]? = w.heap[k]? := by
  rcases h with rfl | rfl
  · rw [Below.heap_setCell _ _ _ k h1, Below.heap_setCell _ _ _ k h2, Below.heap_setCell _ _ _ k h2, Below.heap_setCell _ _ _ k h2]
  · rw [Below.heap_setCell _ _ _ k h2, Below.heap_setCell _ _ _ k h2, Below.heap_setCell _ _ _ k h2, Below.heap_setCell _ _ _ k h1]
/-- One child more. -/
theorem kids_fin {R N f m cap g cK : Nat} {oK : Option Addr} {W w1 w2 w5 V : World} {K : List V3} {acc : List Nd} {kid : Nd} {s r : Bs} {c0 c1 a b c : Value} {ob : Obj} {x y z : Value} {cs : Array Value} {tb : TypeId}
    (hne : R ≠ N) (hR : R < W.heap.size) (hNl : N < W.heap.size) (hlr : r.length < m) (hal : r.length + (acc.length + 1) ≤ s.length)
    (HZ : rdK (rdN f) (s.length + 1) s = preK (acc ++ [kid]) (rdK (rdN f) m r))
    (hown : w1.ownsRow W.heap.size 40 3 (.slice oK K.length cK) K.length (cellsK K))
    (HKR : KR (fun b => W.heap.size ≤ b ∧ (Value.slice oK K.length cK).ownBlock ≠ some b) w1 K acc)
    (hkp : Keep2 R N W w1) (hnb : NB N c0 c1 (.slice oK K.length cK) w1) (kp2 : Keep R w1 w2) (rd2 : RD R r w2) (hk2 : NdQ (fun b => w1.heap.size ≤ b) w2 a b c kid)
    (gr5 : ((w2.alloc ob).alloc (.cells cs tb)).drew.grownBy w5 (Value.slice oK K.length cK).ownBlock)
    (ow5 : w5.ownsRow W.heap.size 40 3 (.slice (some ⟨g, 0, none⟩) (K.length + 1) cap) (K.length + 1) (cellsK K ++ [x, y, z]))
    (hat : (Value.slice oK K.length cK).ownBlock = some g ∨ g = ((w2.alloc ob).alloc (.cells cs tb)).drew.heap.size)
    (hV : Fin4 N g (K.length * 3) cap (K.length + 1) a b c w5 V) :
    RD R r V ∧ ∃ (acc' : List Nd) (K' : List V3) (rest' : Bs) (m' : Nat) (vK' : Value), rest'.length < m' ∧ rest'.length + acc'.length ≤ s.length ∧ rdK (rdN f) (s.length + 1) s = preK acc' (rdK (rdN f) m' rest') ∧ RD R rest' V ∧ NB N c0 c1 vK' V ∧ V.ownsRow W.heap.size 40 3 vK' K'.length (cellsK K') ∧ KR (fun b => W.heap.size ≤ b ∧ vK'.ownBlock ≠ some b) V K' acc' ∧ Keep2 R N W V := by
  have q0 := (ow5.lt g rfl).1
  have sz1 := hkp.size
  have sz2 := kp2.size
  have own1 : ∀ q, (Value.slice oK K.length cK).ownBlock = some q → q < w1.heap.size := fun q hq => (hown.lt q hq).2
  have eU : ∀ q, q < w2.heap.size → ((w2.alloc ob).alloc (.cells cs tb)).drew.heap[q]? = w2.heap[q]? := fun q hq => ((mal (w2.alloc ob) (.cells cs tb)).block q (by have := (mal w2 ob).size; omega)).trans ((mal w2 ob).block q hq)
  have sU : w2.heap.size + 2 = ((w2.alloc ob).alloc (.cells cs tb)).drew.heap.size := by
    show _ = ((w2.alloc ob).alloc (.cells cs tb)).heap.size
    simp
  have e5 : ∀ q, q < w2.heap.size → (Value.slice oK K.length cK).ownBlock ≠ some q → w5.heap[q]? = w2.heap[q]? := fun q hq hn => (gr5.block q (by omega) (fun e => hn e.symm)).trans (eU q hq)
  have eV : ∀ q, q < w2.heap.size → (Value.slice oK K.length cK).ownBlock ≠ some q → q ≠ N → V.heap[q]? = w2.heap[q]? ∧ q ≠ g := fun q hq hn hN => by
    have hg : q ≠ g := by
      rintro rfl
      rcases hat with hat | hat
      · exact hn hat
      · omega
    exact ⟨(fin_blk hV q hN hg).trans (e5 q hq hn), hg⟩
  have rd5 : RD R r w5 := by
    unfold RD at rd2 ⊢
    rw [e5 R (heap_lt rd2) (fun e => own_ne hown hR e.symm)]
    exact rd2
  have nb5 : NB N c0 c1 (.slice oK K.length cK) w5 := by
    have h2 := hnb.keep kp2 hne
    unfold NB at h2 ⊢
    rw [e5 N (heap_lt h2) (fun e => own_ne hown hNl e.symm)]
    exact h2
  have k5 : Keep2 R N W w5 := by
    have h2 : Keep2 R N W ((w2.alloc ob).alloc (.cells cs tb)).drew := (((hkp.trans (Keep2.of_keep kp2)).trans (Keep2.of_below (mal w2 ob))).trans (Keep2.of_below (mal _ (.cells cs tb)))).trans (Keep2.of_below ⟨rfl, rfl, rfl, Nat.le_refl _, fun _ _ => rfl⟩)
    exact h2.grown gr5 (fun b hb => (hown.lt b hb).1)
  refine ⟨fin_rd hV rd5 hne (by omega), acc ++ [kid], K ++ [(a, b, c)], r, m, .slice (some ⟨g, 0, none⟩) (K.length + 1) cap, hlr, by simpa using hal, HZ, fin_rd hV rd5 hne (by omega), fin_nb hV nb5 (by omega), fin_own hV ow5 hNl, ?_, fin_keep hV k5 q0⟩
  refine KR.snoc (KR.turn (w := w1) (fun q hq hlt => ?_) HKR) (NdQ.turn (w := w2) (fun q hq hlt => ?_) kid hk2)
  · obtain ⟨h1, h2⟩ := eV q (by omega) hq.2 (by omega)
    refine ⟨⟨hq.1, fun e => h2 (by cases e; rfl)⟩, h1.trans (kp2.block q hlt (by omega))⟩
  · obtain ⟨h1, h2⟩ := eV q hlt (fun e => by have := own1 q e; omega) (by omega)
    exact ⟨⟨by omega, fun e => h2 (by cases e; rfl)⟩, h1⟩

end Go.Proofs.YtdebekonggnckabDoor

/-
  A node's elements in a document: those below one are those of a row of numbers.
-/
import Derived.Test.YtnoecobddhmhlaaGreatDoorDocM
import Derived.Maps.OwnSet
import Derived.WalkKit
namespace Go.Proofs.YtnoecobddhmhlaaGreatDoor

/-- The elements of a node lie in a document, from a number on. -/
def InN (M : Dm) (k : Nat) (p : Int) (n : Nd) : Prop := ∀ (j : Nat) (e : Elm), (elN k p n)[j]? = some e → M ((k : Int) + j) = some e
def InL (M : Dm) (k : Nat) (p : Int) (l : List Nd) : Prop := ∀ (j : Nat) (e : Elm), (elL k p l)[j]? = some e → M ((k : Int) + j) = some e
theorem InN.parts {M : Dm} {k : Nat} {p : Int} {nm : Bs} {as : List (Bs × Bs)} {ks : List Nd} (h : InN M k p (.mk nm as ks)) : M k = some ⟨nm, as, p, kdN (k + 1) ks⟩ ∧ InL M (k + 1) k ks := by
  constructor
  · have := h 0 ⟨nm, as, p, kdN (k + 1) ks⟩ (by rw [elN]; rfl)
    simpa using this
  · intro j e he
    have := h (j + 1) e (by rw [elN]; simpa using he)
    rw [show ((k : Int) + (j + 1 : Nat)) = ((k + 1 : Nat) : Int) + j from by omega] at this
    exact this
theorem InL.parts {M : Dm} {k : Nat} {p : Int} {n : Nd} {l : List Nd} (h : InL M k p (n :: l)) : InN M k p n ∧ InL M (k + szN n) p l := by
  constructor
  · intro j e he
    exact h j e (by rw [elL, List.getElem?_append_left (List.getElem?_eq_some_iff.1 he).1]; exact he)
  · intro j e he
    have := h (szN n + j) e (by rw [elL, List.getElem?_append_right (by rw [elN_len]; omega), elN_len]; rw [show szN n + j - szN n = j from by omega]; exact he)
    rw [show ((k : Int) + (szN n + j : Nat)) = ((k + szN n : Nat) : Int) + j from by omega] at this
    exact this
theorem InN.ext (M : Dm) (k : Nat) (p : Int) (n : Nd) : InN (extE M k (elN k p n)) k p n := fun j e he => by
  rw [extE_new (List.getElem?_eq_some_iff.1 he).1]
  exact he
def nums (k n : Nat) : List Int := (List.range' k n).map (fun (j : Nat) => (j : Int))
theorem nums_zero (k : Nat) : nums k 0 = [] := rfl
theorem nums_add (k a b : Nat) : nums k (a + b) = nums k a ++ nums (k + a) b := by
  unfold nums
  rw [← List.range'_append_1, List.map_append]
theorem nums_succ (k a : Nat) : nums k (a + 1) = (k : Int) :: nums (k + 1) a := by
  rw [Nat.add_comm, nums_add]
  rfl
theorem mem_nums {k n : Nat} {i : Int} : i ∈ nums k n ↔ (k : Int) ≤ i ∧ i < k + n := by
  unfold nums
  simp only [List.mem_map, List.mem_range'_1]
  constructor
  · rintro ⟨j, hj, rfl⟩
    omega
  · intro h
    exact ⟨i.toNat, by omega, by omega⟩
mutual
theorem InN.dp {M : Dm} : ∀ {n : Nd} {k : Nat} {p : Int} {f : Nat}, InN M k p n → szN n ≤ f → Dp M f k
  | .mk nm as ks, k, p, 0, _, hf => by simp [szN] at hf
  | .mk nm as ks, k, p, f + 1, h, hf => by
    obtain ⟨h1, h2⟩ := h.parts
    intro e he i hi
    rw [h1] at he
    cases he
    exact InL.dp h2 (by simp [szN] at hf; omega) i hi
theorem InL.dp {M : Dm} : ∀ {l : List Nd} {k : Nat} {p : Int} {f : Nat}, InL M k p l → szL l ≤ f → ∀ i ∈ kdN k l, Dp M f i
  | [], _, _, _, _, _, i, hi => by simp [kdN] at hi
  | n :: l, k, p, f, h, hf, i, hi => by
    obtain ⟨h1, h2⟩ := h.parts
    rw [szL] at hf
    rw [kdN] at hi
    rcases List.mem_cons.1 hi with rfl | hi
    · exact InN.dp h1 (by omega)
    · exact InL.dp h2 (by omega) i hi
end
mutual
theorem InN.pre {M : Dm} : ∀ {n : Nd} {k : Nat} {p d : Int} {f : Nat}, InN M k p n → szN n ≤ f → (pre M f k d).map Prod.fst = nums k (szN n)
  | .mk nm as ks, k, p, d, 0, _, hf => by simp [szN] at hf
  | .mk nm as ks, k, p, d, f + 1, h, hf => by
    obtain ⟨h1, h2⟩ := h.parts
    rw [Go.Proofs.YtnoecobddhmhlaaGreatDoor.pre, h1, szN, nums_succ]
    simp only [List.map_cons]
    rw [InL.pre h2 (by simp [szN] at hf; omega)]
theorem InL.pre {M : Dm} : ∀ {l : List Nd} {k : Nat} {p d : Int} {f : Nat}, InL M k p l → szL l ≤ f → ((kdN k l).flatMap (fun i => pre M f i d)).map Prod.fst = nums k (szL l)
  | [], _, _, _, _, _, _ => rfl
  | n :: l, k, p, d, f, h, hf => by
    obtain ⟨h1, h2⟩ := h.parts
    rw [szL] at hf
    rw [kdN, List.flatMap_cons, List.map_append, szL, nums_add, InN.pre h1 (by omega), InL.pre h2 (by omega)]
end

mutual
/-- Parents lie within. -/
theorem elN_par : ∀ (n : Nd) (k : Nat) (p : Int) (j : Nat) (e : Elm), (elN k p n)[j]? = some e → (j = 0 ∧ e.parent = p) ∨ (0 < j ∧ (k : Int) ≤ e.parent ∧ e.parent < k + szN n)
  | .mk nm as ks, k, p, 0, e, h => by
    rw [elN] at h
    simp at h
    subst h
    exact .inl ⟨rfl, rfl⟩
  | .mk nm as ks, k, p, j + 1, e, h => by
    rw [elN] at h
    rw [szN]
    rcases elL_par ks (k + 1) k j e (by simpa using h) with h1 | h1
    · exact .inr (by omega)
    · exact .inr (by omega)
theorem elL_par : ∀ (l : List Nd) (k : Nat) (p : Int) (j : Nat) (e : Elm), (elL k p l)[j]? = some e → e.parent = p ∨ ((k : Int) ≤ e.parent ∧ e.parent < k + szL l)
  | [], _, _, _, _, h => by simp [elL] at h
  | n :: l, k, p, j, e, h => by
    rw [elL] at h
    rw [szL]
    by_cases hj : j < szN n
    · rw [List.getElem?_append_left (by rw [elN_len]; exact hj)] at h
      rcases elN_par n k p j e h with h1 | h1
      · exact .inl h1.2
      · exact .inr (by omega)
    · rw [List.getElem?_append_right (by rw [elN_len]; omega)] at h
      rcases elL_par l _ p _ e h with h1 | h1
      · exact .inl h1
      · exact .inr (by omega)
end
/-- Of these numbers the first one is the only one whose parent is not among them; and no others have theirs among them. -/
def Own (L : List Elm) (k i s : Nat) : Prop := ∀ (j : Nat) (e : Elm), L[j]? = some e → ((i < k + j ∧ k + j < i + s) → (i : Int) ≤ e.parent ∧ e.parent < i + s) ∧ (¬ (i ≤ k + j ∧ k + j < i + s) → ¬ ((i : Int) ≤ e.parent ∧ e.parent < i + s))
mutual
theorem elN_sub {M : Dm} : ∀ (n : Nd) (k : Nat) (p : Int) (i : Nat), InN M k p n → p < k → k ≤ i → i < k + szN n → ∃ m q, InN M i q m ∧ i + szN m ≤ k + szN n ∧ Own (elN k p n) k i (szN m)
  | .mk nm as ks, k, p, i, h, hp, h1, h2 => by
    by_cases hi : i = k
    · subst hi
      refine ⟨.mk nm as ks, p, h, Nat.le_refl _, fun j e he => ⟨fun hj => ?_, fun hj => ?_⟩⟩
      · rcases elN_par _ _ _ _ _ he with h3 | h3
        · omega
        · exact h3.2
      · have := (List.getElem?_eq_some_iff.1 he).1
        rw [elN_len] at this
        omega
    · rw [szN] at h2 ⊢
      obtain ⟨m, q, a1, a2, a3⟩ := elL_sub ks (k + 1) k i h.parts.2 (by omega) (by omega) (by omega)
      refine ⟨m, q, a1, by omega, fun j e he => ?_⟩
      rw [elN] at he
      cases j with
      | zero =>
        simp at he
        subst he
        simp only
        exact ⟨fun h => by omega, fun _ => by omega⟩
      | succ j =>
        have := a3 j e (by simpa using he)
        rw [show k + 1 + j = k + (j + 1) from by omega] at this
        exact this
theorem elL_sub {M : Dm} : ∀ (l : List Nd) (k : Nat) (p : Int) (i : Nat), InL M k p l → p < k → k ≤ i → i < k + szL l → ∃ m q, InN M i q m ∧ i + szN m ≤ k + szL l ∧ Own (elL k p l) k i (szN m)
  | [], _, _, _, _, _, h1, h2 => by rw [szL] at h2; omega
  | n :: l, k, p, i, h, hp, h1, h2 => by
    rw [szL] at h2 ⊢
    obtain ⟨b1, b2⟩ := h.parts
    by_cases hi : i < k + szN n
    · obtain ⟨m, q, a1, a2, a3⟩ := elN_sub n k p i b1 hp h1 hi
      refine ⟨m, q, a1, by omega, fun j e he => ?_⟩
      rw [elL] at he
      by_cases hj : j < szN n
      · rw [List.getElem?_append_left (by rw [elN_len]; exact hj)] at he
        exact a3 j e he
      · rw [List.getElem?_append_right (by rw [elN_len]; omega)] at he
        have := elL_par l _ p _ e he
        exact ⟨fun h => by omega, fun _ => by omega⟩
    · obtain ⟨m, q, a1, a2, a3⟩ := elL_sub l (k + szN n) p i b2 (by omega) (by omega) (by omega)
      refine ⟨m, q, a1, by omega, fun j e he => ?_⟩
      rw [elL] at he
      by_cases hj : j < szN n
      · rw [List.getElem?_append_left (by rw [elN_len]; exact hj)] at he
        have := elN_par n k p j e he
        exact ⟨fun h => by omega, fun _ => by omega⟩
      · rw [List.getElem?_append_right (by rw [elN_len]; omega), elN_len] at he
        have := a3 _ e he
        rw [show k + szN n + (j - szN n) = k + j from by omega] at this
        exact this
end

end Go.Proofs.YtnoecobddhmhlaaGreatDoor

namespace Go.Proofs.YtnoecobddhmhlaaGreatDoor
open Go.RowKit Go.Maps

/-- How a pointer to a block reads: as the block's number. -/
def ptrE : Value → Option (DataW Unit × List MemPlace)
  | .pointer none => some (.lit (.int .i64 (-1)), [])
  | .pointer (some a) => if a = ⟨a.block, 0, none⟩ then some (.lit (.int .i64 (a.block : Int)), []) else none
  | _ => none
theorem ptrE_some (b : Nat) : ptrE (.pointer (some ⟨b, 0, none⟩)) = some (.lit (.int .i64 b), []) := by simp [ptrE]
theorem ptrE_at (a : Addr) : ptrE (.pointer (some a)) = if a = ⟨a.block, 0, none⟩ then some (.lit (.int .i64 (a.block : Int)), []) else none := rfl
theorem ptrE_inv {v : Value} {b : Nat} {ps : List MemPlace} (h : ptrE v = some (.lit (.int .i64 b), ps)) : v = .pointer (some ⟨b, 0, none⟩) := by
  cases v <;> try cases h
  rename_i o
  cases o with
  | none => simp [ptrE] at h
  | some a =>
    rw [ptrE_at] at h
    by_cases e : a = ⟨a.block, 0, none⟩
    · rw [if_pos e] at h
      simp at h
      rw [e, show a.block = b from by omega]
    · rw [if_neg e] at h
      cases h
theorem ptrE_inv0 {v : Value} {ps : List MemPlace} (h : ptrE v = some (.lit (.int .i64 (-1)), ps)) : v = .pointer none := by
  cases v <;> try cases h
  rename_i o
  cases o with
  | none => rfl
  | some a =>
    rw [ptrE_at] at h
    by_cases e : a = ⟨a.block, 0, none⟩
    · rw [if_pos e] at h
      simp at h
    · rw [if_neg e] at h
      cases h

theorem key_int (i : Int) : WideAt.IsKeyLit (.int .i64 i) := by simp [WideAt.IsKeyLit]
/-- Block B is a map that has at key k the pointer to block p k, and c keys in all. -/
def PMap (P : Program) (K : TypeId) (w : World) (B : Nat) (p : Int → Option Nat) (n c : Nat) : Prop :=
  ∃ D : DataW Unit, w.ownsMap P K ptrE B n D ∧ Maps.size D = c ∧ ∀ k : Int, Maps.has D (.int .i64 k) = (p k).isSome ∧ ∀ b, p k = some b → ∀ zd, D.atKey (.int .i64 k) zd = .lit (.int .i64 b)
section
variable {P : Program} {K T E : TypeId} {w : World} {B n c : Nat} {p : Int → Option Nat}
theorem PMap.made (w : World) (P : Program) (K : TypeId) : PMap P K (w.alloc (.map #[] 0)) w.heap.size (fun _ => none) 0 0 :=
  ⟨.map [], World.ownsMap_made w P K ptrE, rfl, fun _ => ⟨rfl, fun _ h => by cases h⟩⟩
theorem PMap.kept {w' : World} {row : Option Nat} (h : PMap P K w B p n c) (hg : w.grownBy w' row) (hne : some B ≠ row) : PMap P K w' B p n c := by
  obtain ⟨D, h1, h2⟩ := h
  exact ⟨D, h1.kept hg hne, h2⟩
theorem PMap.lt (h : PMap P K w B p n c) : B < w.heap.size := by
  obtain ⟨D, h1, -⟩ := h
  exact h1.lt
theorem PMap.same {w' : World} (h : PMap P K w B p n c) (hb : w'.heap[B]? = w.heap[B]?) : PMap P K w' B p n c := by
  obtain ⟨D, ⟨es, cl, h1, h2⟩, h3⟩ := h
  exact ⟨D, ⟨es, cl, hb.trans h1, h2⟩, h3⟩
theorem PMap.size_le (h : PMap P K w B p n c) : c ≤ n := by
  obtain ⟨D, h1, rfl, -⟩ := h
  exact h1.size_le
theorem PMap.mono (h : PMap P K w B p n c) {n' : Nat} (hn : n ≤ n') : PMap P K w B p n' c := by
  obtain ⟨D, h1, h2⟩ := h
  exact ⟨D, h1.mono hn, h2⟩
variable (w) {ops : Array Oper} {rest : List Oper} {o : Oper} {a : Act} {Q : Exit → Act → World → Prop}
/-- 'v, ok := m[k]', where there is one. -/
theorem look_yes (hg : o.guard = none) (m x : Operand) (t : TypeId) (hop : o.op = Op.lookup t m x true) (hK : P.underlying K = some (.int .i64)) (hT : P.underlying t = some (.map K E)) (hz : (zeroValue E).run P w = .ok (.pointer none) w)
    (hm : a.eval m = .map (some B)) (h : PMap P K w B p n c) (k : Int) (hx : a.eval x = .int .i64 k) (hk : (Lit.int .i64 k).wf = true) (b : Nat) (hb : p k = some b)
    (hQ : wpList P ops Q rest (a.put o.dst (.tuple #[.pointer (some ⟨b, 0, none⟩), .bool true])) w) : wpList P ops Q (o :: rest) a w := by
  obtain ⟨D, h1, -, h3⟩ := h
  refine wpList_lookup_own_ok w hg m x t hop K E (int_keyed hK) hT ptrE hz (.lit (.int .i64 (-1))) [] rfl B n D hm h1 _ (.int .i64 k) hx (keyOf_int_mk hK hk) fun v ps hv => ?_
  rw [(h3 k).2 b hb] at hv
  rw [ptrE_inv hv, (h3 k).1, hb]
  exact hQ
/-- .. where there is none. -/
theorem look_no (hg : o.guard = none) (m x : Operand) (t : TypeId) (hop : o.op = Op.lookup t m x true) (hK : P.underlying K = some (.int .i64)) (hT : P.underlying t = some (.map K E)) (hz : (zeroValue E).run P w = .ok (.pointer none) w)
    (hm : a.eval m = .map (some B)) (h : PMap P K w B p n c) (k : Int) (hx : a.eval x = .int .i64 k) (hk : (Lit.int .i64 k).wf = true) (hb : p k = none)
    (hQ : wpList P ops Q rest (a.put o.dst (.tuple #[.pointer none, .bool false])) w) : wpList P ops Q (o :: rest) a w := by
  obtain ⟨D, h1, -, h3⟩ := h
  refine wpList_lookup_own_ok w hg m x t hop K E (int_keyed hK) hT ptrE hz (.lit (.int .i64 (-1))) [] rfl B n D hm h1 _ (.int .i64 k) hx (keyOf_int_mk hK hk) fun v ps hv => ?_
  have hh : Maps.has D (.int .i64 k) = false := by rw [(h3 k).1, hb]; rfl
  rw [atKey_of_not_has hh] at hv
  rw [ptrE_inv0 hv, hh]
  exact hQ
theorem look_one (hg : o.guard = none) (m x : Operand) (t : TypeId) (hop : o.op = Op.lookup t m x false) (hK : P.underlying K = some (.int .i64)) (hT : P.underlying t = some (.map K E)) (hz : (zeroValue E).run P w = .ok (.pointer none) w)
    (hm : a.eval m = .map (some B)) (h : PMap P K w B p n c) (k : Int) (hx : a.eval x = .int .i64 k) (hk : (Lit.int .i64 k).wf = true)
    (hQ : wpList P ops Q rest (a.put o.dst (.pointer ((p k).map fun b => ⟨b, 0, none⟩))) w) : wpList P ops Q (o :: rest) a w := by
  obtain ⟨D, h1, -, h3⟩ := h
  refine wpList_plain hg fun K' hK' => ?_
  obtain ⟨v, ps, hrun, hv⟩ := h1.lookup (zd := .lit (.int .i64 (-1))) (int_keyed hK) hT hz (zp := []) rfl (keyOf_int_mk hK hk)
  unfold Oper.wp
  simp [execOp, hop, hm, hx, hrun, Result.andThen]
  have e : v = .pointer ((p k).map fun b => ⟨b, 0, none⟩) := by
    cases hb : p k with
    | none =>
      have hh : Maps.has D (.int .i64 k) = false := by rw [(h3 k).1, hb]; rfl
      rw [atKey_of_not_has hh] at hv
      exact ptrE_inv0 hv
    | some b =>
      rw [(h3 k).2 b hb] at hv
      exact ptrE_inv hv
  rw [e]
  exact hK' _ _ hQ
/-- 'm[k]', where there is one; where there is none. -/
theorem get_yes (hg : o.guard = none) (m x : Operand) (t : TypeId) (hop : o.op = Op.lookup t m x false) (hK : P.underlying K = some (.int .i64)) (hT : P.underlying t = some (.map K E)) (hz : (zeroValue E).run P w = .ok (.pointer none) w)
    (hm : a.eval m = .map (some B)) (h : PMap P K w B p n c) (k : Int) (hx : a.eval x = .int .i64 k) (hk : (Lit.int .i64 k).wf = true) (b : Nat) (hb : p k = some b)
    (hQ : wpList P ops Q rest (a.put o.dst (.pointer (some ⟨b, 0, none⟩))) w) : wpList P ops Q (o :: rest) a w :=
  look_one w hg m x t hop hK hT hz hm h k hx hk (by rw [hb]; exact hQ)
theorem get_no (hg : o.guard = none) (m x : Operand) (t : TypeId) (hop : o.op = Op.lookup t m x false) (hK : P.underlying K = some (.int .i64)) (hT : P.underlying t = some (.map K E)) (hz : (zeroValue E).run P w = .ok (.pointer none) w)
    (hm : a.eval m = .map (some B)) (h : PMap P K w B p n c) (k : Int) (hx : a.eval x = .int .i64 k) (hk : (Lit.int .i64 k).wf = true) (hb : p k = none)
    (hQ : wpList P ops Q rest (a.put o.dst (.pointer none)) w) : wpList P ops Q (o :: rest) a w :=
  look_one w hg m x t hop hK hT hz hm h k hx hk (by rw [hb]; exact hQ)
/-- 'm[k] = v', where there is none. -/
theorem store_new (hg : o.guard = none) (m x v : Operand) (t : TypeId) (hop : o.op = Op.mapUpdate t m x v) (hK : P.underlying K = some (.int .i64)) (hT : P.underlying t = some (.map K E))
    (hm : a.eval m = .map (some B)) (h : PMap P K w B p n c) (hn : n < maxLen) (k : Int) (hx : a.eval x = .int .i64 k) (hk : (Lit.int .i64 k).wf = true) (b : Nat) (hv : a.eval v = .pointer (some ⟨b, 0, none⟩)) (hb : p k = none)
    (hQ : ∀ w', PMap P K w' B (fun i => if i = k then some b else p i) (n + 1) (c + 1) → w.mapTurned w' B → wpList P ops Q rest (a.put o.dst undef) w') : wpList P ops Q (o :: rest) a w := by
  obtain ⟨D, h1, h2, h3⟩ := h
  refine wpList_mapUpdate_in w hg m x v t hop K E (int_keyed hK) hT ptrE B n D hm h1 hn _ _ (.int .i64 k) hx hv (keyOf_int_mk hK hk) (.lit (.int .i64 b)) [] (ptrE_some b) fun w' hw ht => hQ w' ⟨_, hw, ?_, fun i => ?_⟩ ht
  · have hh : Maps.has D (.int .i64 k) = false := by rw [(h3 k).1, hb]; rfl
    rw [size_put (h1.tidy (int_keyed hK)), hh, h2]
    rfl
  · by_cases hi : i = k
    · subst hi
      simp only [if_pos]
      exact ⟨has_put_same h1.isMap (key_int i) _, fun b' hb' zd => by cases hb'; exact atKey_put_same h1.isMap (key_int i) _ _⟩
    · simp only [if_neg hi]
      have hne : (Lit.int .i64 i) ≠ (Lit.int .i64 k) := fun e => hi (by cases e; rfl)
      exact ⟨(has_put_other hne _).trans (h3 i).1, fun b' hb' zd => (atKey_put_other hne _ _).trans ((h3 i).2 b' hb' zd)⟩
/-- 'delete(m, k)', where there is one. -/
theorem strike_it (hg : o.guard = none) (m x : Operand) (t k' : TypeId) (hop : o.op = Op.call { callee := Callee.builtin Builtin.delete, args := #[m, x], argTypes := #[t, k'] }) (hK : P.underlying k' = some (.int .i64)) (hT : P.underlying t = some (.map k' E))
    (hm : a.eval m = .map (some B)) (h : PMap P k' w B p n c) (k : Int) (hx : a.eval x = .int .i64 k) (hk : (Lit.int .i64 k).wf = true) (b : Nat) (hb : p k = some b)
    (hQ : ∀ w', PMap P k' w' B (fun i => if i = k then none else p i) n (c - 1) → w.mapTurned w' B → wpList P ops Q rest (a.put o.dst (.tuple #[])) w') : wpList P ops Q (o :: rest) a w := by
  obtain ⟨D, h1, h2, h3⟩ := h
  refine wpList_delete_own w hg m x t k' hop E (int_keyed hK) hT ptrE B n D hm h1 _ (.int .i64 k) hx (keyOf_int_mk hK hk) fun w' hw ht => hQ w' ⟨_, hw, ?_, fun i => ?_⟩ ht
  · have hh : Maps.has D (.int .i64 k) = true := by rw [(h3 k).1, hb]; rfl
    have := size_del (k := .int .i64 k) (h1.tidy (int_keyed hK))
    rw [hh, h2] at this
    simp at this
    omega
  · by_cases hi : i = k
    · subst hi
      simp only [if_pos]
      exact ⟨has_del_same, fun b' hb' => by cases hb'⟩
    · simp only [if_neg hi]
      have hne : (Lit.int .i64 i) ≠ (Lit.int .i64 k) := fun e => hi (by cases e; rfl)
      exact ⟨(has_del_other hne).trans (h3 i).1, fun b' hb' zd => (atKey_del_other hne _).trans ((h3 i).2 b' hb' zd)⟩
theorem count_it (hg : o.guard = none) (m : Operand) (t : TypeId) (hop : o.op = Op.call { callee := Callee.builtin Builtin.len, args := #[m], argTypes := #[t] }) (hT : P.underlying t = some (.map K E))
    (hm : a.eval m = .map (some B)) (h : PMap P K w B p n c) (hQ : wpList P ops Q rest (a.put o.dst (.int .i64 c)) w) : wpList P ops Q (o :: rest) a w := by
  obtain ⟨D, h1, rfl, -⟩ := h
  exact wpList_len_own w hg m t hop K E hT ptrE B n D hm h1 hQ
end

end Go.Proofs.YtnoecobddhmhlaaGreatDoor

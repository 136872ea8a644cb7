/-
  What the law FracMakes asks besides: texts of fractions read and written; four boxes in every later world.
-/
import Derived.Test.YtdeahgbjkogjgaaDoorCode2
import Derived.Test.YtdeahgbjkogjgaaDoorOf3
import Derived.Test.YtdeahgbjkogjgaaDoorRef4
import Derived.Lib.QuietBelow
namespace Go.Proofs.YtdeahgbjkogjgaaDoor
open Go.RowKit

/-- two boxed fractions of the caller's, and two of the law's own -/
structure M4 (E : Nat → Addr) (w0 : World) (a0 a1 b0 b1 : Value) (bX bY : Nat) (x0 x1 y0 y1 : Value) (w : World) : Prop where
  g0 : GG E w0
  a : Two w w0.heap.size a0 a1
  b : Two w (w0.heap.size + 1) b0 b1
  x : Two w bX x0 x1
  y : Two w bY y0 y1
  hw : Below w0.heap.size w0 w
  hX : w0.heap.size + 1 < bX
  hXY : bX < bY
theorem M4.g {E : Nat → Addr} {w0 : World} {a0 a1 b0 b1 : Value} {bX bY : Nat} {x0 x1 y0 y1 : Value} {w : World} (h : M4 E w0 a0 a1 b0 b1 bX bY x0 x1 y0 y1 w) : GG E w := h.g0.below h.hw (Nat.le_refl _)
theorem M4.below {E : Nat → Addr} {w0 : World} {a0 a1 b0 b1 : Value} {bX bY : Nat} {x0 x1 y0 y1 : Value} {w : World} {w' : World} (h : M4 E w0 a0 a1 b0 b1 bX bY x0 x1 y0 y1 w) (hb : Below w.heap.size w w') : M4 E w0 a0 a1 b0 b1 bX bY x0 x1 y0 y1 w' :=
  ⟨h.g0, h.a.below hb (Nat.le_refl _), h.b.below hb (Nat.le_refl _), h.x.below hb (Nat.le_refl _), h.y.below hb (Nat.le_refl _), h.hw.trans (hb.mono h.hw.size), h.hX, h.hXY⟩
theorem M4.cells {E : Nat → Addr} {w0 : World} {a0 a1 b0 b1 : Value} {bX bY : Nat} {x0 x1 y0 y1 : Value} {w : World} (h : M4 E w0 a0 a1 b0 b1 bX bY x0 x1 y0 y1 w) : w.cell? ⟨w0.heap.size, 0, none⟩ = some a0 ∧ w.cell? ⟨w0.heap.size, 1, none⟩ = some a1 ∧ w.cell? ⟨w0.heap.size + 1, 0, none⟩ = some b0 ∧ w.cell? ⟨w0.heap.size + 1, 1, none⟩ = some b1 ∧ w.cell? ⟨bX, 0, none⟩ = some x0 ∧ w.cell? ⟨bX, 1, none⟩ = some x1 ∧ w.cell? ⟨bY, 0, none⟩ = some y0 ∧ w.cell? ⟨bY, 1, none⟩ = some y1 ∧ w.frozen? ⟨bX, 0, none⟩ = false ∧ w.frozen? ⟨bX, 1, none⟩ = false ∧ w.frozen? ⟨bY, 0, none⟩ = false ∧ w.frozen? ⟨bY, 1, none⟩ = false :=
  ⟨h.a.c0, h.a.c1, h.b.c0, h.b.c1, h.x.c0, h.x.c1, h.y.c0, h.y.c1, h.x.f0, h.x.f1, h.y.f0, h.y.f1⟩
theorem two_set {w : World} {b c : Nat} {x y : Value} (h : Two w b x y) (hc : b ≠ c) (v v' : Value) : Two ((w.setCell ⟨c, 0, none⟩ v).setCell ⟨c, 1, none⟩ v') b x y := by
  have hk : ∀ k, k ≠ c → ((w.setCell ⟨c, 0, none⟩ v).setCell ⟨c, 1, none⟩ v').heap[k]? = w.heap[k]? := fun k hk => by
    rw [Below.heap_setCell _ _ _ _ hk, Below.heap_setCell _ _ _ _ hk]
  exact ⟨(World.cell?_of_block (w := w) (hk b hc)).trans h.c0, (World.cell?_of_block (w := w) (hk b hc)).trans h.c1, (World.frozen?_of_block (w := w) (hk b hc)).trans h.f0, (World.frozen?_of_block (w := w) (hk b hc)).trans h.f1⟩
theorem two_set_same {w : World} {b : Nat} {x y : Value} (h : Two w b x y) (v v' : Value) : Two ((w.setCell ⟨b, 0, none⟩ v).setCell ⟨b, 1, none⟩ v') b v v' := by
  have c0 := h.c0; have c1 := h.c1; have f0 := h.f0; have f1 := h.f1
  refine ⟨?_, ?_, ?_, ?_⟩
  · rw [World.cell?_setCell_other _ _ _ _ (by intro e; cases e)]
    exact World.cell?_setCell_same' _ _ _ (by rw [c0]; rfl)
  · refine World.cell?_setCell_same' _ _ _ ?_
    rw [World.cell?_setCell_other _ _ _ _ (by intro e; cases e), c1]; rfl
  · rw [World.frozen?_setCell, World.frozen?_setCell]; exact f0
  · rw [World.frozen?_setCell, World.frozen?_setCell]; exact f1
theorem M4.setX {E : Nat → Addr} {w0 : World} {a0 a1 b0 b1 : Value} {bX bY : Nat} {x0 x1 y0 y1 : Value} {w : World} (h : M4 E w0 a0 a1 b0 b1 bX bY x0 x1 y0 y1 w) (v v' : Value) : M4 E w0 a0 a1 b0 b1 bX bY v v' y0 y1 ((w.setCell ⟨bX, 0, none⟩ v).setCell ⟨bX, 1, none⟩ v') := by
  have h1 := h.hX; have h2 := h.hXY
  exact ⟨h.g0, two_set h.a (by omega) v v', two_set h.b (by omega) v v', two_set_same h.x v v', two_set h.y (by omega) v v', (h.hw.setCell (show w0.heap.size ≤ bX by omega) v).setCell (show w0.heap.size ≤ bX by omega) v', h1, h2⟩
theorem M4.setY {E : Nat → Addr} {w0 : World} {a0 a1 b0 b1 : Value} {bX bY : Nat} {x0 x1 y0 y1 : Value} {w : World} (h : M4 E w0 a0 a1 b0 b1 bX bY x0 x1 y0 y1 w) (v v' : Value) : M4 E w0 a0 a1 b0 b1 bX bY x0 x1 v v' ((w.setCell ⟨bY, 0, none⟩ v).setCell ⟨bY, 1, none⟩ v') := by
  have h1 := h.hX; have h2 := h.hXY
  exact ⟨h.g0, two_set h.a (by omega) v v', two_set h.b (by omega) v v', two_set h.x (by omega) v v', two_set_same h.y v v', (h.hw.setCell (show w0.heap.size ≤ bY by omega) v).setCell (show w0.heap.size ≤ bY by omega) v', h1, h2⟩

/-- what is read is written as it was -/
theorem rd_txt {l : List UInt8} (h : (rd l).c = 0) : txt (rd l).n (rd l).d = l := by
  have num : ∀ {x : List UInt8} {v : Int}, numTxt x = some v → Lib.itoa v = x := by
    intro x v hx
    unfold numTxt at hx
    split at hx
    · rename_i hc
      simp only [Option.some.injEq] at hx
      have hd := dec_digs hc.1
      cases hp : Lib.hasPrefix x [45] with
      | true =>
        rw [hp, if_pos rfl] at hx
        have hv : val (Lib.trimPrefix x [45]) ≠ 0 := fun e => hc.2 ⟨hp, e⟩
        subst hx
        unfold Lib.itoa
        rw [if_pos (by omega), show (-(val (Lib.trimPrefix x [45]) : Int)).natAbs = val (Lib.trimPrefix x [45]) by omega, hd]
        unfold Lib.trimPrefix
        rw [if_pos hp]
        unfold Lib.hasPrefix at hp
        cases x with
        | nil => simp at hp
        | cons c r => simp at hp; simp [hp]
      | false =>
        rw [hp, if_neg (by simp)] at hx
        subst hx
        unfold Lib.itoa
        rw [if_neg (by omega), show ((val (Lib.trimPrefix x [45]) : Int)).toNat = val (Lib.trimPrefix x [45]) by omega, hd]
        unfold Lib.trimPrefix
        rw [hp, if_neg (by simp)]
    · cases hx
  have hck : ∀ n d, (ck n d).c = 0 → ck n d = ⟨n, d, 0⟩ := by
    intro n d hc
    unfold ck at hc ⊢
    split
    · rfl
    · rename_i hne; rw [if_neg hne] at hc; exact absurd hc hne
  unfold rd at h ⊢
  cases hn : numTxt (ahead 47 l) with
  | none => rw [hn] at h; cases h
  | some n =>
    rw [hn] at h
    cases hb : behind 47 l with
    | none =>
      rw [hb] at h
      simp only at h ⊢
      rw [hck n 1 h]
      unfold txt
      rw [if_pos rfl, num hn]
      exact (index_none 47 l hb).2
    | some b =>
      rw [hb] at h
      simp only at h ⊢
      split at h
      · rename_i hd
        rw [if_pos hd, hck n _ h]
        unfold txt
        rw [if_neg (by simp only; have := hd.2; omega), num hn]
        have e : Lib.itoa (val b : Int) = b := by
          unfold Lib.itoa
          rw [if_neg (by omega), show ((val b : Int)).toNat = val b by omega]
          exact dec_digs hd.1
        simp only
        rw [e]
        exact (behind_split hb).1.symm
      · cases h
theorem rd_code (l : List UInt8) : (rd l).c ≤ 3 ∧ (rd l).c ≤ 11 := by
  have hck : ∀ n d, (ck n d).c ≤ 3 := by
    intro n d
    unfold ck
    split
    · exact Nat.zero_le _
    · rcases chk_cases n d with e | e | e <;> simp [e]
  have : (rd l).c ≤ 3 := by
    unfold rd
    split
    · decide
    · split
      · exact hck _ _
      · split
        · exact hck _ _
        · decide
  omega
theorem er4_ev (E : Nat → Addr) {c : Nat} (h : c ≤ 3) : er4 (E 1) (E 2) (E 3) (E 11) c = ev E c := by
  rcases c with _ | _ | _ | _ | c
  · rfl
  · rfl
  · rfl
  · rfl
  · omega
theorem rd_chk {l : List UInt8} (h : (rd l).c = 0) : chk (rd l).n (rd l).d = 0 := by
  have hck : ∀ n d, (ck n d).c = 0 → chk (ck n d).n (ck n d).d = 0 := by
    intro n d hc
    unfold ck at hc ⊢
    split
    · rename_i he; exact he
    · rename_i hne; rw [if_neg hne] at hc; exact absurd hc hne
  unfold rd at h ⊢
  split at h
  · cases h
  · split at h
    · exact hck _ _ h
    · split at h
      · rename_i hd; rw [if_pos hd]; exact hck _ _ h
      · cases h
end Go.Proofs.YtdeahgbjkogjgaaDoor

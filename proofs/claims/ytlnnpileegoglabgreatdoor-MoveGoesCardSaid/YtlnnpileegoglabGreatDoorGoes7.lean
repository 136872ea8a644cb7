/-
  The document's reading of moves: the words of a text.
-/
import Derived.Test.YtlnnpileegoglabGreatDoorGoes3
import Derived.Test.YtlnnpileegoglabGreatDoorGoes6
import Derived.Test.YtlnnpileegoglabGreatDoorJ10
import Derived.Test.YtlnnpileegoglabGreatDoorJ11
namespace Go.Proofs.YtlnnpileegoglabGreatDoor
open Go.RowKit

theorem Blk.set {w : World} {R : Nat} {cs : Array Value} {t : TypeId} (h : Blk w R cs t) (i : Nat) (v : Value) : Blk (w.setCell ⟨R, i, none⟩ v) R (cs.setIfInBounds i v) t := ⟨heap_setCell_same w R i cs t v h.h⟩
theorem sets_below {B R : Nat} {A : World} (hR : B ≤ R) : ∀ (l : List (Nat × Value)) {w : World}, Below B A w → Below B A (l.foldl (fun w p => w.setCell ⟨R, p.1, none⟩ p.2) w)
  | [], _, h => h
  | p :: l, _, h => sets_below hR l (h.setCell (p := ⟨R, p.1, none⟩) hR p.2)
theorem Blk.set' {w : World} {R : Nat} {cs cs' : Array Value} {t : TypeId} (h : Blk w R cs t) (i : Nat) (v : Value) (e : cs.setIfInBounds i v = cs') : Blk (w.setCell ⟨R, i, none⟩ v) R cs' t := e ▸ h.set i v
theorem Blk.all12 {w : World} {R : Nat} {t : TypeId} {u0 u1 u2 u3 u4 u5 u6 u7 u8 u9 u10 u11 : Value} (h : Blk w R #[u0, u1, u2, u3, u4, u5, u6, u7, u8, u9, u10, u11] t) (v0 v1 v2 v3 v4 v5 v6 v7 v8 v9 v10 v11 : Value) : Blk ((((((((((((w.setCell ⟨R, 0, none⟩ v0).setCell ⟨R, 1, none⟩ v1).setCell ⟨R, 2, none⟩ v2).setCell ⟨R, 3, none⟩ v3).setCell ⟨R, 4, none⟩ v4).setCell ⟨R, 5, none⟩ v5).setCell ⟨R, 6, none⟩ v6).setCell ⟨R, 7, none⟩ v7).setCell ⟨R, 8, none⟩ v8).setCell ⟨R, 9, none⟩ v9).setCell ⟨R, 10, none⟩ v10).setCell ⟨R, 11, none⟩ v11) R #[v0, v1, v2, v3, v4, v5, v6, v7, v8, v9, v10, v11] t := by
  have h0 : Blk (w.setCell ⟨R, 0, none⟩ v0) R #[v0, u1, u2, u3, u4, u5, u6, u7, u8, u9, u10, u11] t := h.set' 0 v0 (by simp)
  have h1 : Blk ((w.setCell ⟨R, 0, none⟩ v0).setCell ⟨R, 1, none⟩ v1) R #[v0, v1, u2, u3, u4, u5, u6, u7, u8, u9, u10, u11] t := h0.set' 1 v1 (by simp)
  have h2 : Blk (((w.setCell ⟨R, 0, none⟩ v0).setCell ⟨R, 1, none⟩ v1).setCell ⟨R, 2, none⟩ v2) R #[v0, v1, v2, u3, u4, u5, u6, u7, u8, u9, u10, u11] t := h1.set' 2 v2 (by simp)
  have h3 : Blk ((((w.setCell ⟨R, 0, none⟩ v0).setCell ⟨R, 1, none⟩ v1).setCell ⟨R, 2, none⟩ v2).setCell ⟨R, 3, none⟩ v3) R #[v0, v1, v2, v3, u4, u5, u6, u7, u8, u9, u10, u11] t := h2.set' 3 v3 (by simp)
  have h4 : Blk (((((w.setCell ⟨R, 0, none⟩ v0).setCell ⟨R, 1, none⟩ v1).setCell ⟨R, 2, none⟩ v2).setCell ⟨R, 3, none⟩ v3).setCell ⟨R, 4, none⟩ v4) R #[v0, v1, v2, v3, v4, u5, u6, u7, u8, u9, u10, u11] t := h3.set' 4 v4 (by simp)
  have h5 : Blk ((((((w.setCell ⟨R, 0, none⟩ v0).setCell ⟨R, 1, none⟩ v1).setCell ⟨R, 2, none⟩ v2).setCell ⟨R, 3, none⟩ v3).setCell ⟨R, 4, none⟩ v4).setCell ⟨R, 5, none⟩ v5) R #[v0, v1, v2, v3, v4, v5, u6, u7, u8, u9, u10, u11] t := h4.set' 5 v5 (by simp)
  have h6 : Blk (((((((w.setCell ⟨R, 0, none⟩ v0).setCell ⟨R, 1, none⟩ v1).setCell ⟨R, 2, none⟩ v2).setCell ⟨R, 3, none⟩ v3).setCell ⟨R, 4, none⟩ v4).setCell ⟨R, 5, none⟩ v5).setCell ⟨R, 6, none⟩ v6) R #[v0, v1, v2, v3, v4, v5, v6, u7, u8, u9, u10, u11] t := h5.set' 6 v6 (by simp)
  have h7 : Blk ((((((((w.setCell ⟨R, 0, none⟩ v0).setCell ⟨R, 1, none⟩ v1).setCell ⟨R, 2, none⟩ v2).setCell ⟨R, 3, none⟩ v3).setCell ⟨R, 4, none⟩ v4).setCell ⟨R, 5, none⟩ v5).setCell ⟨R, 6, none⟩ v6).setCell ⟨R, 7, none⟩ v7) R #[v0, v1, v2, v3, v4, v5, v6, v7, u8, u9, u10, u11] t := h6.set' 7 v7 (by simp)
  have h8 : Blk (((((((((w.setCell ⟨R, 0, none⟩ v0).setCell ⟨R, 1, none⟩ v1).setCell ⟨R, 2, none⟩ v2).setCell ⟨R, 3, none⟩ v3).setCell ⟨R, 4, none⟩ v4).setCell ⟨R, 5, none⟩ v5).setCell ⟨R, 6, none⟩ v6).setCell ⟨R, 7, none⟩ v7).setCell ⟨R, 8, none⟩ v8) R #[v0, v1, v2, v3, v4, v5, v6, v7, v8, u9, u10, u11] t := h7.set' 8 v8 (by simp)
  have h9 : Blk ((((((((((w.setCell ⟨R, 0, none⟩ v0).setCell ⟨R, 1, none⟩ v1).setCell ⟨R, 2, none⟩ v2).setCell ⟨R, 3, none⟩ v3).setCell ⟨R, 4, none⟩ v4).setCell ⟨R, 5, none⟩ v5).setCell ⟨R, 6, none⟩ v6).setCell ⟨R, 7, none⟩ v7).setCell ⟨R, 8, none⟩ v8).setCell ⟨R, 9, none⟩ v9) R #[v0, v1, v2, v3, v4, v5, v6, v7, v8, v9, u10, u11] t := h8.set' 9 v9 (by simp)
  have h10 : Blk (((((((((((w.setCell ⟨R, 0, none⟩ v0).setCell ⟨R, 1, none⟩ v1).setCell ⟨R, 2, none⟩ v2).setCell ⟨R, 3, none⟩ v3).setCell ⟨R, 4, none⟩ v4).setCell ⟨R, 5, none⟩ v5).setCell ⟨R, 6, none⟩ v6).setCell ⟨R, 7, none⟩ v7).setCell ⟨R, 8, none⟩ v8).setCell ⟨R, 9, none⟩ v9).setCell ⟨R, 10, none⟩ v10) R #[v0, v1, v2, v3, v4, v5, v6, v7, v8, v9, v10, u11] t := h9.set' 10 v10 (by simp)
  have h11 : Blk ((((((((((((w.setCell ⟨R, 0, none⟩ v0).setCell ⟨R, 1, none⟩ v1).setCell ⟨R, 2, none⟩ v2).setCell ⟨R, 3, none⟩ v3).setCell ⟨R, 4, none⟩ v4).setCell ⟨R, 5, none⟩ v5).setCell ⟨R, 6, none⟩ v6).setCell ⟨R, 7, none⟩ v7).setCell ⟨R, 8, none⟩ v8).setCell ⟨R, 9, none⟩ v9).setCell ⟨R, 10, none⟩ v10).setCell ⟨R, 11, none⟩ v11) R #[v0, v1, v2, v3, v4, v5, v6, v7, v8, v9, v10, v11] t := h10.set' 11 v11 (by simp)
  exact h11
theorem indexB_one (s : ByteArray) (c : UInt8) : Lib.indexB s ⟨#[c]⟩ = Lib.indexByte s.data.toList c := Lib.index_one _ _
theorem splitK_pieces (c : UInt8) (k : Nat) (s : ByteArray) (h : Lib.countB s ⟨#[c]⟩ = k) : (Lib.splitB ⟨#[c]⟩ 0 k s).map (·.data.toList) = pieces c s.data.toList := by
  induction k generalizing s with
  | zero =>
    rw [Lib.splitB_zero]
    rcases Lib.indexB_cases s ⟨#[c]⟩ with h1 | ⟨i, h1, h2⟩
    · rw [indexB_one] at h1
      rw [pieces_none]
      · rfl
      · intro b hb e
        subst e
        obtain ⟨q, hq⟩ := List.getElem?_of_mem hb
        exact Lib.indexByte_none h1 q hq
    · rw [Lib.countB_hit s ⟨#[c]⟩ i (show 1 ≤ (⟨#[c]⟩ : ByteArray).size from Nat.le_refl 1) h1] at h; omega
  | succ k ih =>
    rcases Lib.indexB_cases s ⟨#[c]⟩ with h1 | ⟨i, h1, h2⟩
    · rw [Lib.countB_miss s ⟨#[c]⟩ h1] at h; omega
    · rw [Lib.splitB_hit _ _ _ _ i h1]
      have h3 := Lib.countB_hit s ⟨#[c]⟩ i (show 1 ≤ (⟨#[c]⟩ : ByteArray).size from Nat.le_refl 1) h1
      have e1 : (⟨#[c]⟩ : ByteArray).size = 1 := rfl
      rw [e1] at h2 h3 ⊢
      rw [indexB_one] at h1
      obtain ⟨k1, k2⟩ := Lib.indexByte_some h1
      have hi : i < s.data.toList.length := (List.getElem?_eq_some_iff.1 k1).1
      have e2 : s.data.toList = s.data.toList.take i ++ c :: s.data.toList.drop (i + 1) := by
        have : s.data.toList[i] = c := (List.getElem?_eq_some_iff.1 k1).2
        conv => lhs; rw [← List.take_append_drop i s.data.toList, List.drop_eq_getElem_cons hi, this]
      rw [List.map_cons, ih _ (by omega), Lib.extract_to_end, Lib.extract_data]
      conv => rhs; rw [e2]
      rw [pieces_cut]
      · simp
      · intro b hb e
        subst e
        obtain ⟨q, hq⟩ := List.getElem?_of_mem hb
        rw [List.getElem?_take] at hq
        split at hq
        · exact k2 q ‹_› hq
        · cases hq
theorem words_pieces (s : ByteArray) : (words s).map (·.data.toList) = pieces 32 s.data.toList := splitK_pieces 32 _ s rfl
theorem strs_words (ws : List ByteArray) : strs (ws.map (·.data.toList)) = ws.map Value.string := by
  unfold strs
  rw [List.map_map]
  apply List.map_congr_left
  intro a _
  simp
/-- The document's words are the program's. -/
theorem Cut_words (s : ByteArray) (hs : s.size ≤ 1000000) (V : World) :
    Calls Tryz.prog 44 #[.string s, .int .u8 32] V fun e w' => (∃ g cap cur, e = .returned (.slice (some ⟨g, 0, none⟩) (words s).length cap) ∧ V.heap.size ≤ g ∧ Blk w' g cur 9 ∧ ∀ (j : Nat) (k : ByteArray), (words s)[j]? = some k → cur[j]? = some (.string k)) ∧ Below V.heap.size V w' := by
  have h := Cut_ref s 32 V hs
  rw [← words_pieces, strs_words, List.length_map] at h
  refine h.mono ?_
  rintro e w' ⟨v, he, ⟨hl, h2⟩, hb⟩
  rcases h2 with ⟨_, h0⟩ | ⟨g, cap, cur, h3, h4, h5, h6, h7, h8, h9⟩
  · have : 1 ≤ (words s).length := by rw [← List.length_map (f := (·.data.toList)), words_pieces]; exact pieces_pos 32 _
    omega
  · refine ⟨⟨g, cap, cur, by rw [he, h3], h4, ⟨h5⟩, fun j k hk => ?_⟩, hb⟩
    have h10 : ((words s).map Value.string)[j]? = some (.string k) := by rw [List.getElem?_map, hk]; rfl
    rw [← h9, List.getElem?_take] at h10
    split at h10
    · simpa using h10
    · cases h10
theorem infoSix : (Tryz.prog.info? 25).map (fun i => (i.zero, i.size, i.bytes)) = some (some (.agg #[.int .i64 0, .int .i64 0, .int .i64 0, .int .i64 0, .int .i64 0, .int .i64 0, .int .i64 0, .int .i64 0, .int .i64 0, .int .i64 0, .int .i64 0, .int .i64 0]), 12, 96) := by kernel_rfl
theorem cells12 {w : World} {m : Mv} {t : TypeId} {B : Nat} (hB : B = w.heap.size) : ∀ (j : Nat) (u : Value), [.int .i64 m.a.n, .int .i64 m.a.d, .int .i64 m.b.n, .int .i64 m.b.d, .int .i64 m.c.n, .int .i64 m.c.d, .int .i64 m.d.n, .int .i64 m.d.d, .int .i64 m.e.n, .int .i64 m.e.d, .int .i64 m.f.n, .int .i64 m.f.d][j]? = some u → (w.alloc (.cells #[.int .i64 m.a.n, .int .i64 m.a.d, .int .i64 m.b.n, .int .i64 m.b.d, .int .i64 m.c.n, .int .i64 m.c.d, .int .i64 m.d.n, .int .i64 m.d.d, .int .i64 m.e.n, .int .i64 m.e.d, .int .i64 m.f.n, .int .i64 m.f.d] t)).cell? ((⟨B, 0, none⟩ : Addr).add j) = some u := fun j u hj => by
  have e : (⟨B, 0, none⟩ : Addr).add j = ⟨B, j, none⟩ := by unfold Addr.add; split <;> simp_all
  rw [e]
  exact cell_at hB (by simpa using hj)
theorem FracOf_ok {a : ByteArray} (hs : a.size ≤ 1000000) (hr : rdC a = 0) (V : World) : Calls Tryz.prog 46 #[.string a] V fun e w' => e = .returned (.tuple #[.agg #[.int .i64 (rdF a).n, .int .i64 (rdF a).d], .int .i64 0]) ∧ Below V.heap.size V w' := by
  have := FracOf_any a V hs
  rw [show (rd a.data.toList).c = 0 from hr] at this
  exact this
theorem FracOf_no {a : ByteArray} (hs : a.size ≤ 1000000) (hr : rdC a ≠ 0) (V : World) : Calls Tryz.prog 46 #[.string a] V fun e w' => e = .returned (.tuple #[.agg #[.int .i64 0, .int .i64 0], .int .i64 (rdC a)]) ∧ Below V.heap.size V w' := by
  have := FracOf_any a V hs
  rcases rd_cases a.data.toList with h0 | ⟨h1, h2, h3⟩
  · exact (hr h0).elim
  · rw [h2, h3] at this
    exact this
theorem keep24 {A B : World} {Q1 Q2 o : Nat} {a0 a1 a2 a3 a4 a5 a6 a7 a8 a9 a10 a11 b0 b1 b2 b3 b4 b5 b6 b7 b8 b9 b10 b11 : Value} (hb : Below A.heap.size A B) (h : A.cell? ⟨Q1, 0, none⟩ = some a0 ∧ A.cell? ⟨Q1, 1, none⟩ = some a1 ∧ A.cell? ⟨Q1, 2, none⟩ = some a2 ∧ A.cell? ⟨Q1, 3, none⟩ = some a3 ∧ A.cell? ⟨Q1, 4, none⟩ = some a4 ∧ A.cell? ⟨Q1, 5, none⟩ = some a5 ∧ A.cell? ⟨Q1, 6, none⟩ = some a6 ∧ A.cell? ⟨Q1, 7, none⟩ = some a7 ∧ A.cell? ⟨Q1, 8, none⟩ = some a8 ∧ A.cell? ⟨Q1, 9, none⟩ = some a9 ∧ A.cell? ⟨Q1, 10, none⟩ = some a10 ∧ A.cell? ⟨Q1, 11, none⟩ = some a11 ∧ A.cell? ⟨Q2, o, none⟩ = some b0 ∧ A.cell? ⟨Q2, o + 1, none⟩ = some b1 ∧ A.cell? ⟨Q2, o + 2, none⟩ = some b2 ∧ A.cell? ⟨Q2, o + 3, none⟩ = some b3 ∧ A.cell? ⟨Q2, o + 4, none⟩ = some b4 ∧ A.cell? ⟨Q2, o + 5, none⟩ = some b5 ∧ A.cell? ⟨Q2, o + 6, none⟩ = some b6 ∧ A.cell? ⟨Q2, o + 7, none⟩ = some b7 ∧ A.cell? ⟨Q2, o + 8, none⟩ = some b8 ∧ A.cell? ⟨Q2, o + 9, none⟩ = some b9 ∧ A.cell? ⟨Q2, o + 10, none⟩ = some b10 ∧ A.cell? ⟨Q2, o + 11, none⟩ = some b11) : B.cell? ⟨Q1, 0, none⟩ = some a0 ∧ B.cell? ⟨Q1, 1, none⟩ = some a1 ∧ B.cell? ⟨Q1, 2, none⟩ = some a2 ∧ B.cell? ⟨Q1, 3, none⟩ = some a3 ∧ B.cell? ⟨Q1, 4, none⟩ = some a4 ∧ B.cell? ⟨Q1, 5, none⟩ = some a5 ∧ B.cell? ⟨Q1, 6, none⟩ = some a6 ∧ B.cell? ⟨Q1, 7, none⟩ = some a7 ∧ B.cell? ⟨Q1, 8, none⟩ = some a8 ∧ B.cell? ⟨Q1, 9, none⟩ = some a9 ∧ B.cell? ⟨Q1, 10, none⟩ = some a10 ∧ B.cell? ⟨Q1, 11, none⟩ = some a11 ∧ B.cell? ⟨Q2, o, none⟩ = some b0 ∧ B.cell? ⟨Q2, o + 1, none⟩ = some b1 ∧ B.cell? ⟨Q2, o + 2, none⟩ = some b2 ∧ B.cell? ⟨Q2, o + 3, none⟩ = some b3 ∧ B.cell? ⟨Q2, o + 4, none⟩ = some b4 ∧ B.cell? ⟨Q2, o + 5, none⟩ = some b5 ∧ B.cell? ⟨Q2, o + 6, none⟩ = some b6 ∧ B.cell? ⟨Q2, o + 7, none⟩ = some b7 ∧ B.cell? ⟨Q2, o + 8, none⟩ = some b8 ∧ B.cell? ⟨Q2, o + 9, none⟩ = some b9 ∧ B.cell? ⟨Q2, o + 10, none⟩ = some b10 ∧ B.cell? ⟨Q2, o + 11, none⟩ = some b11 := by
  obtain ⟨k0, k1, k2, k3, k4, k5, k6, k7, k8, k9, k10, k11, k12, k13, k14, k15, k16, k17, k18, k19, k20, k21, k22, k23⟩ := h
  exact ⟨(hb.cell (cell_lt k0)).trans k0, (hb.cell (cell_lt k1)).trans k1, (hb.cell (cell_lt k2)).trans k2, (hb.cell (cell_lt k3)).trans k3, (hb.cell (cell_lt k4)).trans k4, (hb.cell (cell_lt k5)).trans k5, (hb.cell (cell_lt k6)).trans k6, (hb.cell (cell_lt k7)).trans k7, (hb.cell (cell_lt k8)).trans k8, (hb.cell (cell_lt k9)).trans k9, (hb.cell (cell_lt k10)).trans k10, (hb.cell (cell_lt k11)).trans k11, (hb.cell (cell_lt k12)).trans k12, (hb.cell (cell_lt k13)).trans k13, (hb.cell (cell_lt k14)).trans k14, (hb.cell (cell_lt k15)).trans k15, (hb.cell (cell_lt k16)).trans k16, (hb.cell (cell_lt k17)).trans k17, (hb.cell (cell_lt k18)).trans k18, (hb.cell (cell_lt k19)).trans k19, (hb.cell (cell_lt k20)).trans k20, (hb.cell (cell_lt k21)).trans k21, (hb.cell (cell_lt k22)).trans k22, (hb.cell (cell_lt k23)).trans k23⟩
theorem Blk.putOther {w : World} {R Q : Nat} {cs : Array Value} {t : TypeId} (h : Blk w R cs t) (hR : R ≠ Q) : ∀ (vs : List Value) (o : Nat := 0), Blk (put w Q o vs) R cs t := by
  intro vs
  induction vs generalizing w with
  | nil => intro o; exact h
  | cons v vs ih => intro o; exact ih (w := w.setCell ⟨Q, o, none⟩ v) ⟨(Below.heap_setCell _ _ _ R hR).trans h.h⟩ (o + 1)
theorem own_blk {w : World} {base : Nat} {e : TypeId} {v : Value} {R : List Mv} (h : w.ownsRow base e 12 v R.length (cellsM R)) (hp : 0 < R.length) : ∃ g cap cur, v = .slice (some ⟨g, 0, none⟩) R.length cap ∧ base ≤ g ∧ Blk w g cur e ∧ ∀ j m q u, R[j]? = some m → (cells1 m)[q]? = some u → cur[j * 12 + q]? = some u := by
  obtain ⟨h1, h2⟩ := h
  rcases h2 with ⟨_, h2⟩ | ⟨g, cap, cur, h3, h4, h5, h6, h7, h8, h9⟩
  · omega
  · refine ⟨g, cap, cur, h3, h4, ⟨h5⟩, fun j m q u hj hu => ?_⟩
    have hg := cellsM_get R j m hj q u hu
    rw [← h9, List.getElem?_take] at hg
    split at hg
    · simpa using hg
    · cases hg
def Kd.word : Kd → ByteArray
  | .move => bMove
  | .scale => bScale
  | .turn => bTurn
  | .skew => bSkew
theorem kd_is {k : ByteArray} {kd : Kd} (h : kdOf k = some kd) : k = kd.word := by
  unfold kdOf at h
  by_cases h1 : k = bMove
  · rw [if_pos h1] at h; cases h; exact h1
  · rw [if_neg h1] at h
    by_cases h2 : k = bScale
    · rw [if_pos h2] at h; cases h; exact h2
    · rw [if_neg h2] at h
      by_cases h3 : k = bTurn
      · rw [if_pos h3] at h; cases h; exact h3
      · rw [if_neg h3] at h
        by_cases h4 : k = bSkew
        · rw [if_pos h4] at h; cases h; exact h4
        · rw [if_neg h4] at h; cases h

theorem turn_wrong {a : ByteArray} {c : Nat} (h : (turnR a).2 = c) (hc : c ≠ 0) : turnR a = (.zero, 1) ∧ c = 1 := by
  unfold turnR at h ⊢
  by_cases h0 : a = ⟨#[48]⟩
  · rw [if_pos h0] at h; exact (hc h.symm).elim
  · rw [if_neg h0] at h ⊢
    by_cases h1 : a = ⟨#[49]⟩
    · rw [if_pos h1] at h; exact (hc h.symm).elim
    · rw [if_neg h1] at h ⊢
      by_cases h2 : a = ⟨#[50]⟩
      · rw [if_pos h2] at h; exact (hc h.symm).elim
      · rw [if_neg h2] at h ⊢
        by_cases h3 : a = ⟨#[51]⟩
        · rw [if_pos h3] at h; exact (hc h.symm).elim
        · rw [if_neg h3] at h ⊢; exact ⟨rfl, h.symm⟩

end Go.Proofs.YtlnnpileegoglabGreatDoor

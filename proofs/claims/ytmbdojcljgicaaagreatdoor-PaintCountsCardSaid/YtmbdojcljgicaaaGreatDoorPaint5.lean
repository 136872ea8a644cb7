/-
  Package paint: the pieces that reach a row: slices.Clone and slices.DeleteFunc of pieces, with a function that makes memory.
-/
import Derived.Test.YtmbdojcljgicaaaGreatDoorPaint2
import Derived.Test.YtmbdojcljgicaaaGreatDoorPaint3
import Derived.OwnWalk
import Derived.Lib.SliceRun
import Derived.Deep.Cut
namespace Go.Proofs.YtmbdojcljgicaaaGreatDoor
open Go.RowKit

def cells5 : List P5 → List Value
  | [] => []
  | a :: r => .int .i64 a.nd :: .slice a.o a.s.pts.length a.cap :: .string a.s.fill :: .string a.s.rule :: .int .i64 a.lv :: cells5 r
theorem cells5_len : ∀ l : List P5, (cells5 l).length = l.length * 5
  | [] => rfl
  | x :: r => by simp [cells5, cells5_len r]; omega
theorem cells5_app : ∀ l m : List P5, cells5 (l ++ m) = cells5 l ++ cells5 m
  | [], _ => rfl
  | x :: r, m => by simp [cells5, cells5_app r m]
theorem cells5_get : ∀ (l : List P5) (i : Nat) (x : P5), l[i]? = some x → (cells5 l)[i * 5]? = some (.int .i64 x.nd) ∧ (cells5 l)[i * 5 + 1]? = some (.slice x.o x.s.pts.length x.cap) ∧ (cells5 l)[i * 5 + 2]? = some (.string x.s.fill) ∧ (cells5 l)[i * 5 + 3]? = some (.string x.s.rule) ∧ (cells5 l)[i * 5 + 4]? = some (.int .i64 x.lv)
  | [], i, x, h => by simp at h
  | y :: r, 0, x, h => by simp at h; subst h; exact ⟨rfl, rfl, rfl, rfl, rfl⟩
  | y :: r, i + 1, x, h => by
    have h1 := cells5_get r i x (by simpa using h)
    have e : (i + 1) * 5 = i * 5 + 5 := by omega
    rw [e]
    exact h1
theorem cells5_inv : ∀ (l : List P5) (j : Nat) (u : Value), (cells5 l)[j]? = some u → ∃ i x, l[i]? = some x ∧ ((j = i * 5 ∧ u = .int .i64 x.nd) ∨ (j = i * 5 + 1 ∧ u = .slice x.o x.s.pts.length x.cap) ∨ (j = i * 5 + 2 ∧ u = .string x.s.fill) ∨ (j = i * 5 + 3 ∧ u = .string x.s.rule) ∨ (j = i * 5 + 4 ∧ u = .int .i64 x.lv))
  | [], j, u, h => by simp [cells5] at h
  | x :: r, 0, u, h => by simp [cells5] at h; exact ⟨0, x, rfl, .inl ⟨rfl, h.symm⟩⟩
  | x :: r, 1, u, h => by simp [cells5] at h; exact ⟨0, x, rfl, .inr (.inl ⟨rfl, h.symm⟩)⟩
  | x :: r, 2, u, h => by simp [cells5] at h; exact ⟨0, x, rfl, .inr (.inr (.inl ⟨rfl, h.symm⟩))⟩
  | x :: r, 3, u, h => by simp [cells5] at h; exact ⟨0, x, rfl, .inr (.inr (.inr (.inl ⟨rfl, h.symm⟩)))⟩
  | x :: r, 4, u, h => by simp [cells5] at h; exact ⟨0, x, rfl, .inr (.inr (.inr (.inr ⟨rfl, h.symm⟩)))⟩
  | x :: r, j + 5, u, h => by
    have h' : (cells5 r)[j]? = some u := by simpa [cells5] using h
    obtain ⟨i, y, h1, h2⟩ := cells5_inv r j u h'
    refine ⟨i + 1, y, by simpa using h1, ?_⟩
    rcases h2 with ⟨a, b⟩ | ⟨a, b⟩ | ⟨a, b⟩ | ⟨a, b⟩ | ⟨a, b⟩
    · exact .inl ⟨by omega, b⟩
    · exact .inr (.inl ⟨by omega, b⟩)
    · exact .inr (.inr (.inl ⟨by omega, b⟩))
    · exact .inr (.inr (.inr (.inl ⟨by omega, b⟩)))
    · exact .inr (.inr (.inr (.inr ⟨by omega, b⟩)))
theorem cells5_one (l : List P5) : ∀ u ∈ cells5 l, u.oneCell' = true := fun u hu => by
  obtain ⟨j, hj⟩ := List.getElem?_of_mem hu
  obtain ⟨i, x, -, ⟨-, rfl⟩ | ⟨-, rfl⟩ | ⟨-, rfl⟩ | ⟨-, rfl⟩ | ⟨-, rfl⟩⟩ := cells5_inv l j u hj <;> rfl
theorem pcs_news {w : World} {a : Addr} {l : List P5} (h : P5sAt w (some a) l) : ∀ j u, (cells5 l)[j]? = some u → w.cell? (a.add j) = some u := fun j u hu => by
  obtain ⟨i, x, hx, h2⟩ := cells5_inv l j u hu
  obtain ⟨b, off, h3, c0, c1, c2, c3, c4⟩ := h i x hx
  cases h3
  rw [addr_add]
  rcases h2 with ⟨rfl, rfl⟩ | ⟨rfl, rfl⟩ | ⟨rfl, rfl⟩ | ⟨rfl, rfl⟩ | ⟨rfl, rfl⟩
  · exact c0
  · rw [← Nat.add_assoc]; exact c1
  · rw [← Nat.add_assoc]; exact c2
  · rw [← Nat.add_assoc]; exact c3
  · rw [← Nat.add_assoc]; exact c4
/-- A row of one's own. -/
def Own5 (w : World) (base : Nat) (v : Value) (l : List P5) : Prop := w.ownsRow base 43 5 v l.length (cells5 l)
/-- A row of pieces that is handed over. -/
structure Row5 (w : World) (o : Option Addr) (cap : Nat) (l : List P5) : Prop where
  at_ : P5sAt w o l
  le : l.length ≤ cap
  no : o = none → cap = 0
theorem Row5.below {w w' : World} {o : Option Addr} {cap : Nat} {l : List P5} (h : Row5 w o cap l) (hb : Below w.heap.size w w') : Row5 w' o cap l := ⟨h.at_.below hb (Nat.le_refl _), h.le, h.no⟩
/-- A row in a block, which can be written. -/
structure Rw5 (w : World) (b : Nat) (l : List P5) : Prop where
  c : ∀ i x, l[i]? = some x → P5C w b (i * 5) x
  f : ∀ j, j < l.length * 5 → w.frozen? ⟨b, j, none⟩ = false
theorem Rw5.at_ {w : World} {b : Nat} {l : List P5} (h : Rw5 w b l) : P5sAt w (some ⟨b, 0, none⟩) l := fun i x hx => ⟨b, 0, rfl, by rw [Nat.zero_add]; exact h.c i x hx⟩
theorem Rw5.below {w w' : World} {b : Nat} {l : List P5} (h : Rw5 w b l) (hb : Below w.heap.size w w') (hl : b < w.heap.size) : Rw5 w' b l := ⟨fun i x hx => (h.c i x hx).below hb (Nat.le_refl _), fun j hj => (hb.frozen (p := ⟨b, j, none⟩) hl).trans (h.f j hj)⟩
theorem Own5.rw {w : World} {base : Nat} {v : Value} {l : List P5} (h : Own5 w base v l) : (v = .slice none 0 0 ∧ l = []) ∨ ∃ b cap, v = .slice (some ⟨b, 0, none⟩) l.length cap ∧ base ≤ b ∧ b < w.heap.size ∧ l.length ≤ cap ∧ Rw5 w b l := by
  have hO := h
  rcases h.2 with ⟨rfl, h0⟩ | ⟨g, cap, cur, rfl, hg, hblk, hle, hsz, hfr⟩
  · exact .inl ⟨rfl, List.length_eq_zero_iff.1 h0⟩
  · refine .inr ⟨g, cap, rfl, hg, (Array.getElem?_eq_some_iff.1 hblk).1, hle, ?_, ?_⟩
    · intro i x hx
      have hc : ∀ j u, (cells5 l)[j]? = some u → w.cell? ⟨g, j, none⟩ = some u := fun j u hj => by
        have := World.ownsRow.cells hO (g := g) rfl j u hj
        rw [addr_add, Nat.zero_add] at this
        exact this
      obtain ⟨h0, h1, h2, h3, h4⟩ := cells5_get l i x hx
      exact ⟨hc _ _ h0, hc _ _ h1, hc _ _ h2, hc _ _ h3, hc _ _ h4⟩
    · intro j hj
      unfold World.frozen?
      rw [hblk]
      simp
theorem infoPc : (Tryz.prog.info? 43).map (fun i => (i.zero, i.size, i.bytes)) = some (some (.agg #[.int .i64 0, .slice none 0 0, .string ⟨#[]⟩, .string ⟨#[]⟩, .int .i64 0]), 5, 72) := by kernel_rfl
set_option maxHeartbeats 2000000 in
theorem ClonePcs (w : World) (o : Option Addr) (cap : Nat) (l : List P5) (h : Row5 w o cap l) (hl : l.length ≤ 1000) :
    Calls Tryz.prog 26 #[.slice o l.length cap] w fun e w' => ∃ v, e = .returned v ∧ Own5 w' w.heap.size v l ∧ Below w.heap.size w w' := by
  have q22 : ∀ (w : World) (a : Option Addr) (n c n' c' : Nat), (binOp .eql 32 (.slice a n c) (.slice none n' c')).run Tryz.prog w = .ok (.bool a.isNone) w := fun w a n c n' c' => Lib.run_eql_slice_nil w _ _ a n c n' c' Tryz.underlying32
  obtain ⟨i0, hi, hz0, hz1, hz2⟩ := info_parts infoPc
  cases o with
  | none =>
    have hc := h.no rfl
    have hz : l = [] := List.length_eq_zero_iff.1 (by have := h.le; omega)
    subst hz
    go_enter Tryz.func26, Tryz.ntmps26
    go_wp2_with fail
    go_ret
    exact ⟨_, rfl, World.ownsRow_nil _ _ _ _, Below.refl _ _⟩
  | some a =>
    have HN : Hid (∀ j u, (cells5 l)[j]? = some u → (w.alloc (.cells #[] 43)).cell? (a.add j) = some u) := fun j u hj => ((mbelow w (.cells #[] 43)).cell (cell_lt (pcs_news h.at_ j u hj))).trans (pcs_news h.at_ j u hj)
    have hcap := h.le
    go_enter Tryz.func26, Tryz.ntmps26
    go_wp2_with (at_builtin; refine wpList_append_own _ rfl _ _ 32 rfl w.heap.size 43 i0 (.agg #[.int .i64 0, .slice none 0 0, .string ⟨#[]⟩, .string ⟨#[]⟩, .int .i64 0]) 5 72 Tryz.underlying32 hi hz0 hz1 hz2 rfl (by decide) _ _ _ rfl (World.ownsRow_made w #[] 0 (Nat.le_refl _) (Nat.zero_le _) (by simp)) a l.length cap (cells5 l) rfl (cells5_len l) HN.out (cells5_one l) (by simp only [maxLen]; omega) (by omega) (by simp) ?_; intro v7 w7 ow7 gr7 _)
    go_ret
    refine ⟨_, rfl, ?_, ((Below.refl _ w).alloc (Nat.le_refl _) _).grown gr7 (by simp) (fun k hk => by have hk' : some w.heap.size = some k := hk; cases hk'; exact Nat.le_refl _)⟩
    simpa [Own5] using ow7
end Go.Proofs.YtmbdojcljgicaaaGreatDoor

/-
  Rows of points that a call owns; the law's OwnPoints.
-/
import Derived.Test.YtmbdojcljgicaaaDoorShape10
import Derived.OwnWalk
import Derived.Lib.SliceRun
import Derived.Deep.AppendLies
import Derived.Deep.RegionLaw
namespace Go.Proofs.YtmbdojcljgicaaaDoor
open Go.RowKit

/-- the cells of points, one behind the other -/
def cellsP : List Qt → List Value
  | [] => []
  | a :: r => .int .i64 a.xn :: .int .i64 a.xd :: .int .i64 a.yn :: .int .i64 a.yd :: cellsP r
theorem cellsP_len : ∀ l : List Qt, (cellsP l).length = l.length * 4
  | [] => rfl
  | x :: r => by simp [cellsP, cellsP_len r]; omega
theorem cellsP_app : ∀ l m : List Qt, cellsP (l ++ m) = cellsP l ++ cellsP m
  | [], _ => rfl
  | x :: r, m => by simp [cellsP, cellsP_app r m]
theorem cellsP_inv : ∀ (l : List Qt) (j : Nat) (u : Value), (cellsP l)[j]? = some u → ∃ i x, l[i]? = some x ∧ ((j = i * 4 ∧ u = .int .i64 x.xn) ∨ (j = i * 4 + 1 ∧ u = .int .i64 x.xd) ∨ (j = i * 4 + 2 ∧ u = .int .i64 x.yn) ∨ (j = i * 4 + 3 ∧ u = .int .i64 x.yd))
  | [], j, u, h => by simp [cellsP] at h
  | x :: r, 0, u, h => by simp [cellsP] at h; exact ⟨0, x, rfl, .inl ⟨rfl, h.symm⟩⟩
  | x :: r, 1, u, h => by simp [cellsP] at h; exact ⟨0, x, rfl, .inr (.inl ⟨rfl, h.symm⟩)⟩
  | x :: r, 2, u, h => by simp [cellsP] at h; exact ⟨0, x, rfl, .inr (.inr (.inl ⟨rfl, h.symm⟩))⟩
  | x :: r, 3, u, h => by simp [cellsP] at h; exact ⟨0, x, rfl, .inr (.inr (.inr ⟨rfl, h.symm⟩))⟩
  | x :: r, j + 4, u, h => by
    have h' : (cellsP r)[j]? = some u := by simpa [cellsP] using h
    obtain ⟨i, y, h1, h2⟩ := cellsP_inv r j u h'
    refine ⟨i + 1, y, by simpa using h1, ?_⟩
    rcases h2 with ⟨rfl, h3⟩ | ⟨rfl, h3⟩ | ⟨rfl, h3⟩ | ⟨rfl, h3⟩
    · exact .inl ⟨by omega, h3⟩
    · exact .inr (.inl ⟨by omega, h3⟩)
    · exact .inr (.inr (.inl ⟨by omega, h3⟩))
    · exact .inr (.inr (.inr ⟨by omega, h3⟩))
theorem cellsP_get : ∀ (l : List Qt) (i : Nat) (x : Qt), l[i]? = some x → (cellsP l)[i * 4]? = some (.int .i64 x.xn) ∧ (cellsP l)[i * 4 + 1]? = some (.int .i64 x.xd) ∧ (cellsP l)[i * 4 + 2]? = some (.int .i64 x.yn) ∧ (cellsP l)[i * 4 + 3]? = some (.int .i64 x.yd)
  | [], i, x, h => by simp at h
  | y :: r, 0, x, h => by simp at h; subst h; exact ⟨rfl, rfl, rfl, rfl⟩
  | y :: r, i + 1, x, h => by
    have h1 := cellsP_get r i x (by simpa using h)
    rw [show (i + 1) * 4 = i * 4 + 4 from by omega]
    simpa [cellsP, Nat.add_right_comm _ 4] using h1
theorem cellsP_one (l : List Qt) : ∀ u ∈ cellsP l, u.oneCell' = true := fun u hu => by
  obtain ⟨j, hj⟩ := List.getElem?_of_mem hu
  obtain ⟨i, x, -, ⟨-, rfl⟩ | ⟨-, rfl⟩ | ⟨-, rfl⟩ | ⟨-, rfl⟩⟩ := cellsP_inv l j u hj <;> rfl
theorem addr_add (b off k : Nat) : (⟨b, off, none⟩ : Addr).add k = ⟨b, off + k, none⟩ := by unfold Addr.add; split <;> simp_all
theorem pts_news {w : World} {a : Addr} {l : List Qt} (h : PtsAt w (some a) l) : ∀ j u, (cellsP l)[j]? = some u → w.cell? (a.add j) = some u := fun j u hu => by
  obtain ⟨i, x, hx, h2⟩ := cellsP_inv l j u hu
  obtain ⟨b, off, h3, c0, c1, c2, c3, -⟩ := h i x hx
  cases h3
  rw [addr_add]
  rcases h2 with ⟨rfl, rfl⟩ | ⟨rfl, rfl⟩ | ⟨rfl, rfl⟩ | ⟨rfl, rfl⟩
  · exact c0
  · rw [← Nat.add_assoc]; exact c1
  · rw [← Nat.add_assoc]; exact c2
  · rw [← Nat.add_assoc]; exact c3
/-- A row of points of one's own. -/
def OwnP (w : World) (base : Nat) (v : Value) (l : List Qt) : Prop := w.ownsRow base 54 4 v l.length (cellsP l)
theorem OwnP.at_ {w : World} {base : Nat} {v : Value} {l : List Qt} (h : OwnP w base v l) (hl : ∀ a ∈ l, PI a) : ∃ o cap, v = .slice o l.length cap ∧ PtsAt w o l := by
  rcases h.2 with ⟨rfl, h0⟩ | ⟨g, cap, cur, rfl, -⟩
  · have : l = [] := List.length_eq_zero_iff.1 h0
    subst this
    exact ⟨none, 0, rfl, fun i a ha => by simp at ha⟩
  · refine ⟨_, cap, rfl, fun i a ha => ⟨g, 0, rfl, ?_⟩⟩
    have hc : ∀ j u, (cellsP l)[j]? = some u → w.cell? ⟨g, j, none⟩ = some u := fun j u hj => by
      have := World.ownsRow.cells h (g := g) rfl j u hj
      rw [addr_add, Nat.zero_add] at this
      exact this
    obtain ⟨h0, h1, h2, h3⟩ := cellsP_get l i a ha
    rw [Nat.zero_add]
    exact ⟨hc _ _ h0, hc _ _ h1, hc _ _ h2, hc _ _ h3, hl a (List.mem_of_getElem? ha)⟩
theorem infoPt : (Tryd.prog.info? 54).map (fun i => (i.zero, i.size, i.bytes)) = some (some (.agg #[.int .i64 0, .int .i64 0, .int .i64 0, .int .i64 0]), 4, 32) := by kernel_rfl
theorem own_ge' {w : World} {base : Nat} {e : TypeId} {size : Nat} {v : Value} {n : Nat} {xs : List Value} (h : w.ownsRow base e size v n xs) : ∀ k, v.ownBlock = some k → base ≤ k := by
  obtain ⟨_, h2⟩ := h
  rcases h2 with ⟨rfl, _⟩ | ⟨g, cap, cur, rfl, hg, _⟩
  · intro k hk; cases hk
  · intro k hk
    cases hk
    exact hg

set_option maxHeartbeats 2000000 in
theorem OwnPoints_any (l : List Qt) (o : Option Addr) (cap : Nat) (w : World) (hl : l.length ≤ 1000) (h : PtsAt w o l) :
    Calls Tryd.prog 15 #[.slice o l.length cap] w fun e W => ∃ v, e = .returned v ∧ OwnP W w.heap.size v l ∧ Below w.heap.size w W := by
  obtain ⟨i0, hi, hz0, hz1, hz2⟩ := info_parts infoPt
  cases o with
  | none =>
    have hn : l = [] := by
      cases l with
      | nil => rfl
      | cons a l => obtain ⟨b, off, h1, -⟩ := h 0 a rfl; cases h1
    subst hn
    go_enter Tryd.func15, Tryd.ntmps15
    go_wp2
    go_ret
    exact ⟨_, rfl, World.ownsRow_nil _ _ _ _, Below.refl _ _⟩
  | some a =>
    have HN : Hid (∀ j u, (cellsP l)[j]? = some u → w.cell? (a.add j) = some u) := pts_news h
    go_enter Tryd.func15, Tryd.ntmps15
    go_wp2_with (at_builtin; refine wpList_append_own _ rfl _ _ 38 rfl w.heap.size 54 i0 (.agg #[.int .i64 0, .int .i64 0, .int .i64 0, .int .i64 0]) 4 32 Tryd.underlying38 hi hz0 hz1 hz2 rfl (by decide) _ _ _ rfl (World.ownsRow_nil _ _ _ _) a l.length cap (cellsP l) rfl (cellsP_len l) HN.out (cellsP_one l) (by simp only [maxLen]; omega) (by omega) (Nat.le_refl _) ?_; intro v7 w7 ow7 gr7 _)
    go_ret
    refine ⟨_, rfl, ?_, (Below.refl _ _).grown gr7 (Nat.le_refl _) (fun k hk => by cases hk)⟩
    simpa [OwnP] using ow7
end Go.Proofs.YtmbdojcljgicaaaDoor

/-
  The walk of the law MoveThens, where the first two moves go together.
-/
import Derived.Test.YtnfkoamaojicmaaDoorThens1
namespace Go.Proofs.YtnfkoamaojicmaaDoor
open Go.RowKit

/-- What the law has laid, and the memory ahead of it as it was. -/
structure Law (W : World) (M N O X P : Nat) (m n o x : Mv) (p : Pt) (V : World) : Prop where
  bm : Blk V M #[.int .i64 m.a.n, .int .i64 m.a.d, .int .i64 m.b.n, .int .i64 m.b.d, .int .i64 m.c.n, .int .i64 m.c.d, .int .i64 m.d.n, .int .i64 m.d.d, .int .i64 m.e.n, .int .i64 m.e.d, .int .i64 m.f.n, .int .i64 m.f.d] 59
  bn : Blk V N #[.int .i64 n.a.n, .int .i64 n.a.d, .int .i64 n.b.n, .int .i64 n.b.d, .int .i64 n.c.n, .int .i64 n.c.d, .int .i64 n.d.n, .int .i64 n.d.d, .int .i64 n.e.n, .int .i64 n.e.d, .int .i64 n.f.n, .int .i64 n.f.d] 59
  bo : Blk V O #[.int .i64 o.a.n, .int .i64 o.a.d, .int .i64 o.b.n, .int .i64 o.b.d, .int .i64 o.c.n, .int .i64 o.c.d, .int .i64 o.d.n, .int .i64 o.d.d, .int .i64 o.e.n, .int .i64 o.e.d, .int .i64 o.f.n, .int .i64 o.f.d] 59
  bx : Blk V X #[.int .i64 x.a.n, .int .i64 x.a.d, .int .i64 x.b.n, .int .i64 x.b.d, .int .i64 x.c.n, .int .i64 x.c.d, .int .i64 x.d.n, .int .i64 x.d.d, .int .i64 x.e.n, .int .i64 x.e.d, .int .i64 x.f.n, .int .i64 x.f.d] 59
  bp : Blk V P #[.int .i64 p.x.n, .int .i64 p.x.d, .int .i64 p.y.n, .int .i64 p.y.d] 57
  hb : Below W.heap.size W V
theorem Law.below {W V V' : World} {M N O X P : Nat} {m n o x : Mv} {p : Pt} (h : Law W M N O X P m n o x p V) (hb : Below V.heap.size V V') : Law W M N O X P m n o x p V' :=
  ⟨h.bm.below hb (Nat.le_refl _), h.bn.below hb (Nat.le_refl _), h.bo.below hb (Nat.le_refl _), h.bx.below hb (Nat.le_refl _), h.bp.below hb (Nat.le_refl _), bt0 h.hb hb⟩
theorem Law.alloc {W V : World} {M N O X P : Nat} {m n o x : Mv} {p : Pt} (h : Law W M N O X P m n o x p V) (o' : Obj) : Law W M N O X P m n o x p (V.alloc o') := h.below ((Below.refl _ V).alloc (Nat.le_refl _) o')
theorem keep12 {A B : World} {M : Nat} {m : Mv} (hb : Below A.heap.size A B) (h : A.cell? ⟨M, 0, none⟩ = some (.int .i64 m.a.n) ∧ A.cell? ⟨M, 1, none⟩ = some (.int .i64 m.a.d) ∧ A.cell? ⟨M, 2, none⟩ = some (.int .i64 m.b.n) ∧ A.cell? ⟨M, 3, none⟩ = some (.int .i64 m.b.d) ∧ A.cell? ⟨M, 4, none⟩ = some (.int .i64 m.c.n) ∧ A.cell? ⟨M, 5, none⟩ = some (.int .i64 m.c.d) ∧ A.cell? ⟨M, 6, none⟩ = some (.int .i64 m.d.n) ∧ A.cell? ⟨M, 7, none⟩ = some (.int .i64 m.d.d) ∧ A.cell? ⟨M, 8, none⟩ = some (.int .i64 m.e.n) ∧ A.cell? ⟨M, 9, none⟩ = some (.int .i64 m.e.d) ∧ A.cell? ⟨M, 10, none⟩ = some (.int .i64 m.f.n) ∧ A.cell? ⟨M, 11, none⟩ = some (.int .i64 m.f.d)) : B.cell? ⟨M, 0, none⟩ = some (.int .i64 m.a.n) ∧ B.cell? ⟨M, 1, none⟩ = some (.int .i64 m.a.d) ∧ B.cell? ⟨M, 2, none⟩ = some (.int .i64 m.b.n) ∧ B.cell? ⟨M, 3, none⟩ = some (.int .i64 m.b.d) ∧ B.cell? ⟨M, 4, none⟩ = some (.int .i64 m.c.n) ∧ B.cell? ⟨M, 5, none⟩ = some (.int .i64 m.c.d) ∧ B.cell? ⟨M, 6, none⟩ = some (.int .i64 m.d.n) ∧ B.cell? ⟨M, 7, none⟩ = some (.int .i64 m.d.d) ∧ B.cell? ⟨M, 8, none⟩ = some (.int .i64 m.e.n) ∧ B.cell? ⟨M, 9, none⟩ = some (.int .i64 m.e.d) ∧ B.cell? ⟨M, 10, none⟩ = some (.int .i64 m.f.n) ∧ B.cell? ⟨M, 11, none⟩ = some (.int .i64 m.f.d) := by
  obtain ⟨k0, k1, k2, k3, k4, k5, k6, k7, k8, k9, k10, k11⟩ := h
  exact ⟨(hb.cell (p := ⟨M, 0, none⟩) (cell_lt k0)).trans k0, (hb.cell (p := ⟨M, 1, none⟩) (cell_lt k1)).trans k1, (hb.cell (p := ⟨M, 2, none⟩) (cell_lt k2)).trans k2, (hb.cell (p := ⟨M, 3, none⟩) (cell_lt k3)).trans k3, (hb.cell (p := ⟨M, 4, none⟩) (cell_lt k4)).trans k4, (hb.cell (p := ⟨M, 5, none⟩) (cell_lt k5)).trans k5, (hb.cell (p := ⟨M, 6, none⟩) (cell_lt k6)).trans k6, (hb.cell (p := ⟨M, 7, none⟩) (cell_lt k7)).trans k7, (hb.cell (p := ⟨M, 8, none⟩) (cell_lt k8)).trans k8, (hb.cell (p := ⟨M, 9, none⟩) (cell_lt k9)).trans k9, (hb.cell (p := ⟨M, 10, none⟩) (cell_lt k10)).trans k10, (hb.cell (p := ⟨M, 11, none⟩) (cell_lt k11)).trans k11⟩

theorem put_list {w : World} {R : Nat} {cs : Array Value} {t : TypeId} {vs : List Value} (h : Blk w R cs t) (hl : vs.length = cs.size) : ∀ j u, vs[j]? = some u → (put w R 0 vs).cell? ⟨R, j, none⟩ = some u := fun j u hu => by
  have := put_at (R := R) vs 0 w (fun i hi => blk_some h i (by omega)) j u hu
  rwa [Nat.zero_add] at this

end Go.Proofs.YtnfkoamaojicmaaDoor

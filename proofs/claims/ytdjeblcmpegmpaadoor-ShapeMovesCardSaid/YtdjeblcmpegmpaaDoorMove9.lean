/-
  Package move's Then and At: what they answer for any moves and points, and that nothing else in memory changes.
-/
import Derived.Test.YtdjeblcmpegmpaaDoorMove8
namespace Go.Proofs.YtdjeblcmpegmpaaDoor
open Go.RowKit

/-- A block of cells, whole. -/
structure Blk (w : World) (R : Nat) (cs : Array Value) (t : TypeId) : Prop where
  h : w.heap[R]? = some (.cells cs t)
theorem Blk.cell {w : World} {R : Nat} {cs : Array Value} {t : TypeId} (h : Blk w R cs t) (i : Nat) (v : Value) (hv : cs[i]? = some v) : w.cell? ⟨R, i, none⟩ = some v := by simp [World.cell?, h.h, hv]
theorem Blk.froz {w : World} {R : Nat} {cs : Array Value} {t : TypeId} (h : Blk w R cs t) (i : Nat) (v : Value) (hv : cs[i]? = some v) : w.frozen? ⟨R, i, none⟩ = false := by
  have := h.cell i v hv; simp [World.frozen?, h.h]
theorem Blk.new (w : World) (cs : Array Value) (t : TypeId) : Blk (w.alloc (.cells cs t)) w.heap.size cs t := ⟨World.alloc_heap_new w _⟩
theorem Blk.lt {w : World} {R : Nat} {cs : Array Value} {t : TypeId} (h : Blk w R cs t) : R < w.heap.size := (Array.getElem?_eq_some_iff.1 h.h).1
theorem Blk.below {w w' : World} {B R : Nat} {cs : Array Value} {t : TypeId} (h : Blk w R cs t) (hb : Below B w w') (hB : w.heap.size ≤ B) : Blk w' R cs t := ⟨(hb.block R (Nat.lt_of_lt_of_le h.lt hB)).trans h.h⟩
theorem Blk.alloc {w : World} {R : Nat} {cs : Array Value} {t : TypeId} (h : Blk w R cs t) (o : Obj) : Blk (w.alloc o) R cs t := h.below ((Below.refl _ w).alloc (Nat.le_refl _) o) (Nat.le_refl _)
theorem Blk.upto {w w' : World} {b R : Nat} {cs : Array Value} {t : TypeId} (h : Blk w R cs t) (hu : Upto b w w') (hb : R ≠ b) : Blk w' R cs t := ⟨(hu.block R h.lt hb).trans h.h⟩

/-- Values laid into a block, one behind the other. -/
def put (w : World) (R : Nat) : Nat → List Value → World
  | _, [] => w
  | o, v :: vs => put (w.setCell ⟨R, o, none⟩ v) R (o + 1) vs
theorem put_below {B R : Nat} {A : World} (hR : B ≤ R) : ∀ (vs : List Value) (o : Nat) {w : World}, Below B A w → Below B A (put w R o vs)
  | [], _, _, h => h
  | v :: vs, o, _, h => put_below hR vs (o + 1) (h.setCell hR v)
theorem put_cell {R : Nat} {p : Addr} (hp : p.block ≠ R) : ∀ (vs : List Value) (o : Nat) (w : World), (put w R o vs).cell? p = w.cell? p
  | [], _, _ => rfl
  | _ :: vs, o, _ => (put_cell hp vs (o + 1) _).trans (World.cell?_setCell_far _ _ _ _ (fun e => hp e.symm))

/-- An error as it is told: none, bare by its number, or as a fault with a place. -/
inductive Er where
  | no
  | bare (c : Nat)
  | fault (c i : Nat)
def Er.is (aB aS aZ : Addr) (B : Nat) : Er → Value → World → Prop
  | .no, v, _ => v = .nilIface
  | .bare c, v, _ => c = 2 ∧ v = er aB aS aZ 2
  | .fault c i, v, W => (c = 2 ∨ c = 3) ∧ ∃ pb, B ≤ pb ∧ v = .iface 59 (.pointer (some ⟨pb, 0, none⟩)) ∧ W.cell? ⟨pb, 0, none⟩ = some (.int .i64 i) ∧ W.cell? ⟨pb, 1, none⟩ = some (er aB aS aZ c)

theorem firstBad_zero : ∀ (l : List Fr) (i : Nat), (firstBad i l).1 = 0 → ∀ y ∈ l, chk y.n y.d = 0
  | [], _, _, _, h => by simp at h
  | x :: r, i, h, y, hy => by
    unfold firstBad at h
    by_cases hx : chk x.n x.d = 0
    · rw [if_pos hx] at h
      rcases List.mem_cons.1 hy with rfl | hy
      · exact hx
      · exact firstBad_zero r (i + 1) h y hy
    · rw [if_neg hx] at h; exact (hx h).elim
theorem mv_ok {m : Mv} (h : (firstBad 0 m.list).1 = 0) : m.ok := by
  have := firstBad_zero _ _ h
  exact ⟨this _ (by simp [Mv.list]), this _ (by simp [Mv.list]), this _ (by simp [Mv.list]), this _ (by simp [Mv.list]), this _ (by simp [Mv.list]), this _ (by simp [Mv.list])⟩
theorem pt_ok {p : Pt} (h : (firstBad 6 p.list).1 = 0) : p.ok := by
  have := firstBad_zero _ _ h
  exact ⟨this _ (by simp [Pt.list]), this _ (by simp [Pt.list])⟩

/-- What Then answers. -/
def thenR (m n : Mv) : Mv × Er :=
  if (firstBad 0 m.list).1 ≠ 0 then (.zero, .fault (firstBad 0 m.list).1 (firstBad 0 m.list).2) else if (firstBad 0 n.list).1 ≠ 0 then (.zero, .fault (firstBad 0 n.list).1 (firstBad 0 n.list).2)
  else if (thenS m n).2 = 0 then ((thenS m n).1, .no) else (.zero, .bare 2)
/-- What At answers. -/
def atR (m : Mv) (p : Pt) : Pt × Er :=
  if (firstBad 0 m.list).1 ≠ 0 then (.zero, .fault (firstBad 0 m.list).1 (firstBad 0 m.list).2) else if (firstBad 6 p.list).1 ≠ 0 then (.zero, .fault (firstBad 6 p.list).1 (firstBad 6 p.list).2)
  else if (movedF 0 m p).2 = 0 then ((movedF 0 m p).1, .no) else (.zero, .bare 2)

/-- A check that finds a fault. -/
def BadC (aB aS aZ : Addr) (m : Mv) (r : Nat × Nat) : Prop := ∀ W, E3 aB aS aZ W → Calls Tryd.prog 22 #[mv m] W fun e w' => (∃ pb, W.heap.size ≤ pb ∧ e = .returned (.iface 59 (.pointer (some ⟨pb, 0, none⟩))) ∧ w'.cell? ⟨pb, 0, none⟩ = some (.int .i64 r.2) ∧ w'.cell? ⟨pb, 1, none⟩ = some (er aB aS aZ r.1)) ∧ Below W.heap.size W w'
def FineC (aB aS aZ : Addr) (m : Mv) : Prop := ∀ W, E3 aB aS aZ W → Calls Tryd.prog 22 #[mv m] W fun e w' => e = .returned .nilIface ∧ Below W.heap.size W w'
theorem fineC {aB aS aZ : Addr} {m : Mv} (hi : m.i64) (h : (firstBad 0 m.list).1 = 0) : FineC aB aS aZ m := fun W hE => (mvCheck_any aB aS aZ m hi W hE).mono fun e w' ⟨⟨v, he, ht⟩, hb⟩ => by
  rcases ht with ht | ht
  · exact ⟨by rw [he, ht.2], hb⟩
  · exact (ht.1 h).elim
theorem badC {aB aS aZ : Addr} {m : Mv} (hi : m.i64) (h : (firstBad 0 m.list).1 ≠ 0) : BadC aB aS aZ m (firstBad 0 m.list) := fun W hE => (mvCheck_any aB aS aZ m hi W hE).mono fun e w' ⟨⟨v, he, ht⟩, hb⟩ => by
  rcases ht with ht | ⟨_, _, pb, h1, h2, h3, h4⟩
  · exact (h ht.1).elim
  · exact ⟨⟨pb, h1, by rw [he, h2], h3, h4⟩, hb⟩
theorem bad_23 {l : List Fr} {i : Nat} (h : (firstBad i l).1 ≠ 0) : (firstBad i l).1 = 2 ∨ (firstBad i l).1 = 3 := by
  induction l generalizing i with
  | nil => exact (h rfl).elim
  | cons x r ih =>
    unfold firstBad at h ⊢
    by_cases hx : chk x.n x.d = 0
    · rw [if_pos hx] at h ⊢; exact ih h
    · rw [if_neg hx] at h ⊢; have := chk_cases x.n x.d; simp only at h ⊢; omega


end Go.Proofs.YtdjeblcmpegmpaaDoor

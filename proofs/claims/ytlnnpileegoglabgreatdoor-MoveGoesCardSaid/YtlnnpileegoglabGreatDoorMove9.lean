/-
  Package move's Then and At: what they answer for any moves and points, and that nothing else in memory changes.
-/
import Derived.Test.YtlnnpileegoglabGreatDoorMove8
namespace Go.Proofs.YtlnnpileegoglabGreatDoor
open Go.RowKit

/-- A block of cells, whole. -/
structure Blk (w : World) (R : Nat) (cs : Array Value) (t : TypeId) : Prop where
  h : w.heap[R]? = some (.cells cs t)
theorem Blk.cell {w : World} {R : Nat} {cs : Array Value} {t : TypeId} (h : Blk w R cs t) (i : Nat) (v : Value) (hv : cs[i]? = some v) : w.cell? ⟨R, i, none⟩ = some v := by simp [World.cell?, h.h, hv]
theorem Blk.froz {w : World} {R : Nat} {cs : Array Value} {t : TypeId} (h : Blk w R cs t) (i : Nat) (v : Value) (hv : cs[i]? = some v) : w.frozen? ⟨R, i, none⟩ = false := by
  have := h.cell i v hv; simp [World.frozen?, h.h]
theorem Blk.new (w : World) (cs : Array Value) (t : TypeId) : Blk (w.alloc (.cells cs t)) w.heap.size cs t := ⟨World.alloc_heap_new w _⟩
theorem Blk.lt {w : World} {R : Nat} {cs : Array Value} {t : TypeId} (h : Blk w R cs t) : R < w.heap.size := (Array.getElem?_eq_some_iff.1 h.h).1
theorem Blk.below {w w' : World} {B R : Nat} {cs : Array Value} {t : TypeId} (h : Blk w R cs t) (hb : Below B w w') (hB : w.heap.size ≤ B) : Blk w' R cs t := ⟨(hb.block R (Nat.lt_of_lt_of_le h.lt hB)).trans h.h⟩
theorem Blk.alloc {w : World} {R : Nat} {cs : Array Value} {t : TypeId} (h : Blk w R cs t) (o : Obj) : Blk (w.alloc o) R cs t := h.below ((Below.refl _ w).alloc (Nat.le_refl _) o) (Nat.le_refl _)
theorem Blk.upto {w w' : World} {b R : Nat} {cs : Array Value} {t : TypeId} (h : Blk w R cs t) (hu : Upto b w w') (hb : R ≠ b) : Blk w' R cs t := ⟨(hu.block R h.lt hb).trans h.h⟩

/-- Values laid into a block, one behind the other. -/
def put (w : World) (R : Nat) : Nat → List Value → World
  | _, [] => w
  | o, v :: vs => put (w.setCell ⟨R, o, none⟩ v) R (o + 1) vs
theorem put_below {B R : Nat} {A : World} (hR : B ≤ R) : ∀ (vs : List Value) (o : Nat) {w : World}, Below B A w → Below B A (put w R o vs)
  | [], _, _, h => h
  | v :: vs, o, _, h => put_below hR vs (o + 1) (h.setCell hR v)
theorem put_cell {R : Nat} {p : Addr} (hp : p.block ≠ R) : ∀ (vs : List Value) (o : Nat) (w : World), (put w R o vs).cell? p = w.cell? p
  | [], _, _ => rfl
  | _ :: vs, o, _ => (put_cell hp vs (o + 1) _).trans (World.cell?_setCell_far _ _ _ _ (fun e => hp e.symm))

/-- An error as it is told: none, bare by its number, or as a fault with a place. -/
inductive Er where
  | no
  | bare (c : Nat)
  | fault (c i : Nat)
def Er.is (aB aS aZ : Addr) (B : Nat) : Er → Value → World → Prop
  | .no, v, _ => v = .nilIface
  | .bare c, v, _ => c = 2 ∧ v = er aB aS aZ 2
  | .fault c i, v, W => (c = 2 ∨ c = 3) ∧ ∃ pb, B ≤ pb ∧ v = .iface 102 (.pointer (some ⟨pb, 0, none⟩)) ∧ W.cell? ⟨pb, 0, none⟩ = some (.int .i64 i) ∧ W.cell? ⟨pb, 1, none⟩ = some (er aB aS aZ c)

theorem firstBad_zero : ∀ (l : List Fr) (i : Nat), (firstBad i l).1 = 0 → ∀ y ∈ l, chk y.n y.d = 0
  | [], _, _, _, h => by simp at h
  | x :: r, i, h, y, hy => by
    unfold firstBad at h
    by_cases hx : chk x.n x.d = 0
    · rw [if_pos hx] at h
      rcases List.mem_cons.1 hy with rfl | hy
      · exact hx
      · exact firstBad_zero r (i + 1) h y hy
    · rw [if_neg hx] at h; exact (hx h).elim
theorem mv_ok {m : Mv} (h : (firstBad 0 m.list).1 = 0) : m.ok := by
  have := firstBad_zero _ _ h
  exact ⟨this _ (by simp [Mv.list]), this _ (by simp [Mv.list]), this _ (by simp [Mv.list]), this _ (by simp [Mv.list]), this _ (by simp [Mv.list]), this _ (by simp [Mv.list])⟩
theorem pt_ok {p : Pt} (h : (firstBad 6 p.list).1 = 0) : p.ok := by
  have := firstBad_zero _ _ h
  exact ⟨this _ (by simp [Pt.list]), this _ (by simp [Pt.list])⟩

/-- What Then answers. -/
def thenR (m n : Mv) : Mv × Er :=
  if (firstBad 0 m.list).1 ≠ 0 then (.zero, .fault (firstBad 0 m.list).1 (firstBad 0 m.list).2) else if (firstBad 0 n.list).1 ≠ 0 then (.zero, .fault (firstBad 0 n.list).1 (firstBad 0 n.list).2)
  else if (thenS m n).2 = 0 then ((thenS m n).1, .no) else (.zero, .bare 2)
/-- What At answers. -/
def atR (m : Mv) (p : Pt) : Pt × Er :=
  if (firstBad 0 m.list).1 ≠ 0 then (.zero, .fault (firstBad 0 m.list).1 (firstBad 0 m.list).2) else if (firstBad 6 p.list).1 ≠ 0 then (.zero, .fault (firstBad 6 p.list).1 (firstBad 6 p.list).2)
  else if (movedF 0 m p).2 = 0 then ((movedF 0 m p).1, .no) else (.zero, .bare 2)

/-- A check that finds a fault. -/
def BadC (aB aS aZ : Addr) (m : Mv) (r : Nat × Nat) : Prop := ∀ W, E3 aB aS aZ W → Calls Tryz.prog 15 #[mv m] W fun e w' => (∃ pb, W.heap.size ≤ pb ∧ e = .returned (.iface 102 (.pointer (some ⟨pb, 0, none⟩))) ∧ w'.cell? ⟨pb, 0, none⟩ = some (.int .i64 r.2) ∧ w'.cell? ⟨pb, 1, none⟩ = some (er aB aS aZ r.1)) ∧ Below W.heap.size W w'
def FineC (aB aS aZ : Addr) (m : Mv) : Prop := ∀ W, E3 aB aS aZ W → Calls Tryz.prog 15 #[mv m] W fun e w' => e = .returned .nilIface ∧ Below W.heap.size W w'
theorem fineC {aB aS aZ : Addr} {m : Mv} (hi : m.i64) (h : (firstBad 0 m.list).1 = 0) : FineC aB aS aZ m := fun W hE => (mvCheck_any aB aS aZ m hi W hE).mono fun e w' ⟨⟨v, he, ht⟩, hb⟩ => by
  rcases ht with ht | ht
  · exact ⟨by rw [he, ht.2], hb⟩
  · exact (ht.1 h).elim
theorem badC {aB aS aZ : Addr} {m : Mv} (hi : m.i64) (h : (firstBad 0 m.list).1 ≠ 0) : BadC aB aS aZ m (firstBad 0 m.list) := fun W hE => (mvCheck_any aB aS aZ m hi W hE).mono fun e w' ⟨⟨v, he, ht⟩, hb⟩ => by
  rcases ht with ht | ⟨_, _, pb, h1, h2, h3, h4⟩
  · exact (h ht.1).elim
  · exact ⟨⟨pb, h1, by rw [he, h2], h3, h4⟩, hb⟩
theorem bad_23 {l : List Fr} {i : Nat} (h : (firstBad i l).1 ≠ 0) : (firstBad i l).1 = 2 ∨ (firstBad i l).1 = 3 := by
  induction l generalizing i with
  | nil => exact (h rfl).elim
  | cons x r ih =>
    unfold firstBad at h ⊢
    by_cases hx : chk x.n x.d = 0
    · rw [if_pos hx] at h ⊢; exact ih h
    · rw [if_neg hx] at h ⊢; have := chk_cases x.n x.d; simp only at h ⊢; omega

set_option maxHeartbeats 4000000 in
theorem then_badm (aB aS aZ : Addr) (m n : Mv) (r : Nat × Nat) (W : World) (hE : E3 aB aS aZ W) (HC : BadC aB aS aZ m r) :
    Calls Tryz.prog 12 #[mv m, mv n] W fun e w' => (∃ pb, W.heap.size ≤ pb ∧ e = .returned (.tuple #[mv .zero, .iface 102 (.pointer (some ⟨pb, 0, none⟩))]) ∧ w'.cell? ⟨pb, 0, none⟩ = some (.int .i64 r.2) ∧ w'.cell? ⟨pb, 1, none⟩ = some (er aB aS aZ r.1)) ∧ Below W.heap.size W w' := by
  have hF : ∃ V, (((W.alloc (.cells #[.int .i64 m.a.n, .int .i64 m.a.d, .int .i64 m.b.n, .int .i64 m.b.d, .int .i64 m.c.n, .int .i64 m.c.d, .int .i64 m.d.n, .int .i64 m.d.d, .int .i64 m.e.n, .int .i64 m.e.d, .int .i64 m.f.n, .int .i64 m.f.d] 30)).alloc (.cells #[.int .i64 n.a.n, .int .i64 n.a.d, .int .i64 n.b.n, .int .i64 n.b.d, .int .i64 n.c.n, .int .i64 n.c.d, .int .i64 n.d.n, .int .i64 n.d.d, .int .i64 n.e.n, .int .i64 n.e.d, .int .i64 n.f.n, .int .i64 n.f.d] 30)).alloc (.cells #[.int .i64 0, .int .i64 0, .int .i64 0, .int .i64 0, .int .i64 0, .int .i64 0, .int .i64 0, .int .i64 0, .int .i64 0, .int .i64 0, .int .i64 0, .int .i64 0] 30)) = V ∧ Blk V (W.heap.size + 1 + 1) #[.int .i64 0, .int .i64 0, .int .i64 0, .int .i64 0, .int .i64 0, .int .i64 0, .int .i64 0, .int .i64 0, .int .i64 0, .int .i64 0, .int .i64 0, .int .i64 0] 30 ∧ Below W.heap.size W V ∧ V.heap.size = W.heap.size + 3 := ⟨_, rfl, by simpa using Blk.new ((W.alloc (.cells #[.int .i64 m.a.n, .int .i64 m.a.d, .int .i64 m.b.n, .int .i64 m.b.d, .int .i64 m.c.n, .int .i64 m.c.d, .int .i64 m.d.n, .int .i64 m.d.d, .int .i64 m.e.n, .int .i64 m.e.d, .int .i64 m.f.n, .int .i64 m.f.d] 30)).alloc (.cells #[.int .i64 n.a.n, .int .i64 n.a.d, .int .i64 n.b.n, .int .i64 n.b.d, .int .i64 n.c.n, .int .i64 n.c.d, .int .i64 n.d.n, .int .i64 n.d.d, .int .i64 n.e.n, .int .i64 n.e.d, .int .i64 n.f.n, .int .i64 n.f.d] 30)) #[.int .i64 0, .int .i64 0, .int .i64 0, .int .i64 0, .int .i64 0, .int .i64 0, .int .i64 0, .int .i64 0, .int .i64 0, .int .i64 0, .int .i64 0, .int .i64 0] 30, (((Below.refl _ W).alloc (Nat.le_refl _) _).alloc (by simp) _).alloc (by simp; omega) _, by simp⟩
  go_enter Tryz.func12, Tryz.ntmps12
  go_wp2_with (go_at_call 15; obtain ⟨V, hV, hB, hb, hz⟩ := hF; refine (HC _ (hV ▸ hE.below hb (Nat.le_refl _))).mono ?_; rw [hV]; rintro e w1 ⟨⟨pb, hp, rfl, p0, p1⟩, hb1⟩; have hB1 := hB.below hb1 (Nat.le_refl _); have zc0 := hB1.cell 0 _ rfl; have zf0 := hB1.froz 0 _ rfl; have zc1 := hB1.cell 1 _ rfl; have zf1 := hB1.froz 1 _ rfl; have zc2 := hB1.cell 2 _ rfl; have zf2 := hB1.froz 2 _ rfl; have zc3 := hB1.cell 3 _ rfl; have zf3 := hB1.froz 3 _ rfl; have zc4 := hB1.cell 4 _ rfl; have zf4 := hB1.froz 4 _ rfl; have zc5 := hB1.cell 5 _ rfl; have zf5 := hB1.froz 5 _ rfl; have zc6 := hB1.cell 6 _ rfl; have zf6 := hB1.froz 6 _ rfl; have zc7 := hB1.cell 7 _ rfl; have zf7 := hB1.froz 7 _ rfl; have zc8 := hB1.cell 8 _ rfl; have zf8 := hB1.froz 8 _ rfl; have zc9 := hB1.cell 9 _ rfl; have zf9 := hB1.froz 9 _ rfl; have zc10 := hB1.cell 10 _ rfl; have zf10 := hB1.froz 10 _ rfl; have zc11 := hB1.cell 11 _ rfl; have zf11 := hB1.froz 11 _ rfl)
  have hz1 := hb1.size
  refine bodyPost_ret (v := .tuple #[mv .zero, .iface 102 (.pointer (some ⟨pb, 0, none⟩))]) (by simp [results, Tryz.results12, go_sem, Mv.zero, Fr.zero, zc0, zc1, zc2, zc3, zc4, zc5, zc6, zc7, zc8, zc9, zc10, zc11]) rfl ⟨⟨pb, by omega, rfl, ?_, ?_⟩, ?_⟩
  · exact (put_cell (p := ⟨pb, 0, none⟩) (R := W.heap.size + 1 + 1) (by simp only; omega) [.int .i64 0, .int .i64 0, .int .i64 0, .int .i64 0, .int .i64 0, .int .i64 0, .int .i64 0, .int .i64 0, .int .i64 0, .int .i64 0, .int .i64 0, .int .i64 0] 0 w1).trans p0
  · exact (put_cell (p := ⟨pb, 1, none⟩) (R := W.heap.size + 1 + 1) (by simp only; omega) [.int .i64 0, .int .i64 0, .int .i64 0, .int .i64 0, .int .i64 0, .int .i64 0, .int .i64 0, .int .i64 0, .int .i64 0, .int .i64 0, .int .i64 0, .int .i64 0] 0 w1).trans p1
  · exact put_below (R := W.heap.size + 1 + 1) (by omega) [.int .i64 0, .int .i64 0, .int .i64 0, .int .i64 0, .int .i64 0, .int .i64 0, .int .i64 0, .int .i64 0, .int .i64 0, .int .i64 0, .int .i64 0, .int .i64 0] 0 (hb.trans (hb1.mono (by omega)))

set_option maxHeartbeats 4000000 in
theorem then_badn (aB aS aZ : Addr) (m n : Mv) (r : Nat × Nat) (W : World) (hE : E3 aB aS aZ W) (HF : FineC aB aS aZ m) (HC : BadC aB aS aZ n r) :
    Calls Tryz.prog 12 #[mv m, mv n] W fun e w' => (∃ pb, W.heap.size ≤ pb ∧ e = .returned (.tuple #[mv .zero, .iface 102 (.pointer (some ⟨pb, 0, none⟩))]) ∧ w'.cell? ⟨pb, 0, none⟩ = some (.int .i64 r.2) ∧ w'.cell? ⟨pb, 1, none⟩ = some (er aB aS aZ r.1)) ∧ Below W.heap.size W w' := by
  have hF : ∃ V, (((W.alloc (.cells #[.int .i64 m.a.n, .int .i64 m.a.d, .int .i64 m.b.n, .int .i64 m.b.d, .int .i64 m.c.n, .int .i64 m.c.d, .int .i64 m.d.n, .int .i64 m.d.d, .int .i64 m.e.n, .int .i64 m.e.d, .int .i64 m.f.n, .int .i64 m.f.d] 30)).alloc (.cells #[.int .i64 n.a.n, .int .i64 n.a.d, .int .i64 n.b.n, .int .i64 n.b.d, .int .i64 n.c.n, .int .i64 n.c.d, .int .i64 n.d.n, .int .i64 n.d.d, .int .i64 n.e.n, .int .i64 n.e.d, .int .i64 n.f.n, .int .i64 n.f.d] 30)).alloc (.cells #[.int .i64 0, .int .i64 0, .int .i64 0, .int .i64 0, .int .i64 0, .int .i64 0, .int .i64 0, .int .i64 0, .int .i64 0, .int .i64 0, .int .i64 0, .int .i64 0] 30)) = V ∧ Blk V (W.heap.size + 1 + 1) #[.int .i64 0, .int .i64 0, .int .i64 0, .int .i64 0, .int .i64 0, .int .i64 0, .int .i64 0, .int .i64 0, .int .i64 0, .int .i64 0, .int .i64 0, .int .i64 0] 30 ∧ Blk V (W.heap.size + 1) #[.int .i64 n.a.n, .int .i64 n.a.d, .int .i64 n.b.n, .int .i64 n.b.d, .int .i64 n.c.n, .int .i64 n.c.d, .int .i64 n.d.n, .int .i64 n.d.d, .int .i64 n.e.n, .int .i64 n.e.d, .int .i64 n.f.n, .int .i64 n.f.d] 30 ∧ Below W.heap.size W V ∧ V.heap.size = W.heap.size + 3 := ⟨_, rfl, by simpa using Blk.new ((W.alloc (.cells #[.int .i64 m.a.n, .int .i64 m.a.d, .int .i64 m.b.n, .int .i64 m.b.d, .int .i64 m.c.n, .int .i64 m.c.d, .int .i64 m.d.n, .int .i64 m.d.d, .int .i64 m.e.n, .int .i64 m.e.d, .int .i64 m.f.n, .int .i64 m.f.d] 30)).alloc (.cells #[.int .i64 n.a.n, .int .i64 n.a.d, .int .i64 n.b.n, .int .i64 n.b.d, .int .i64 n.c.n, .int .i64 n.c.d, .int .i64 n.d.n, .int .i64 n.d.d, .int .i64 n.e.n, .int .i64 n.e.d, .int .i64 n.f.n, .int .i64 n.f.d] 30)) #[.int .i64 0, .int .i64 0, .int .i64 0, .int .i64 0, .int .i64 0, .int .i64 0, .int .i64 0, .int .i64 0, .int .i64 0, .int .i64 0, .int .i64 0, .int .i64 0] 30, (by simpa using Blk.new (W.alloc (.cells #[.int .i64 m.a.n, .int .i64 m.a.d, .int .i64 m.b.n, .int .i64 m.b.d, .int .i64 m.c.n, .int .i64 m.c.d, .int .i64 m.d.n, .int .i64 m.d.d, .int .i64 m.e.n, .int .i64 m.e.d, .int .i64 m.f.n, .int .i64 m.f.d] 30)) #[.int .i64 n.a.n, .int .i64 n.a.d, .int .i64 n.b.n, .int .i64 n.b.d, .int .i64 n.c.n, .int .i64 n.c.d, .int .i64 n.d.n, .int .i64 n.d.d, .int .i64 n.e.n, .int .i64 n.e.d, .int .i64 n.f.n, .int .i64 n.f.d] 30 : Blk _ _ _ _).alloc _, (((Below.refl _ W).alloc (Nat.le_refl _) _).alloc (by simp) _).alloc (by simp; omega) _, by simp⟩
  go_enter Tryz.func12, Tryz.ntmps12
  go_wp2_with (first | (go_at_call_of 15 (Value.int IntKind.i64 n.a.n); refine (HC _ (hE.below hb (Nat.le_refl _) |>.below hb1 (Nat.le_refl _))).mono ?_; rintro e w2 ⟨⟨pb, hp, rfl, p0, p1⟩, hb2⟩; have hB2 := (hB.below hb1 (Nat.le_refl _)).below hb2 (Nat.le_refl _); have zc0 := hB2.cell 0 _ rfl; have zf0 := hB2.froz 0 _ rfl; have zc1 := hB2.cell 1 _ rfl; have zf1 := hB2.froz 1 _ rfl; have zc2 := hB2.cell 2 _ rfl; have zf2 := hB2.froz 2 _ rfl; have zc3 := hB2.cell 3 _ rfl; have zf3 := hB2.froz 3 _ rfl; have zc4 := hB2.cell 4 _ rfl; have zf4 := hB2.froz 4 _ rfl; have zc5 := hB2.cell 5 _ rfl; have zf5 := hB2.froz 5 _ rfl; have zc6 := hB2.cell 6 _ rfl; have zf6 := hB2.froz 6 _ rfl; have zc7 := hB2.cell 7 _ rfl; have zf7 := hB2.froz 7 _ rfl; have zc8 := hB2.cell 8 _ rfl; have zf8 := hB2.froz 8 _ rfl; have zc9 := hB2.cell 9 _ rfl; have zf9 := hB2.froz 9 _ rfl; have zc10 := hB2.cell 10 _ rfl; have zf10 := hB2.froz 10 _ rfl; have zc11 := hB2.cell 11 _ rfl; have zf11 := hB2.froz 11 _ rfl) | (go_at_call_of 15 (Value.int IntKind.i64 m.a.n); obtain ⟨V, hV, hB, BN, hb, hz⟩ := hF; refine (HF _ (hV ▸ hE.below hb (Nat.le_refl _))).mono ?_; rw [hV]; rintro e w1 ⟨rfl, hb1⟩; have BN1 := BN.below hb1 (Nat.le_refl _); have nc0 := BN1.cell 0 _ rfl; have nc1 := BN1.cell 1 _ rfl; have nc2 := BN1.cell 2 _ rfl; have nc3 := BN1.cell 3 _ rfl; have nc4 := BN1.cell 4 _ rfl; have nc5 := BN1.cell 5 _ rfl; have nc6 := BN1.cell 6 _ rfl; have nc7 := BN1.cell 7 _ rfl; have nc8 := BN1.cell 8 _ rfl; have nc9 := BN1.cell 9 _ rfl; have nc10 := BN1.cell 10 _ rfl; have nc11 := BN1.cell 11 _ rfl))
  have hz1 := hb1.size
  have hz2 := hb2.size
  refine bodyPost_ret (v := .tuple #[mv .zero, .iface 102 (.pointer (some ⟨pb, 0, none⟩))]) (by simp [results, Tryz.results12, go_sem, Mv.zero, Fr.zero, zc0, zc1, zc2, zc3, zc4, zc5, zc6, zc7, zc8, zc9, zc10, zc11]) rfl ⟨⟨pb, by omega, rfl, ?_, ?_⟩, ?_⟩
  · exact (put_cell (p := ⟨pb, 0, none⟩) (R := W.heap.size + 1 + 1) (by simp only; omega) [.int .i64 0, .int .i64 0, .int .i64 0, .int .i64 0, .int .i64 0, .int .i64 0, .int .i64 0, .int .i64 0, .int .i64 0, .int .i64 0, .int .i64 0, .int .i64 0] 0 w2).trans p0
  · exact (put_cell (p := ⟨pb, 1, none⟩) (R := W.heap.size + 1 + 1) (by simp only; omega) [.int .i64 0, .int .i64 0, .int .i64 0, .int .i64 0, .int .i64 0, .int .i64 0, .int .i64 0, .int .i64 0, .int .i64 0, .int .i64 0, .int .i64 0, .int .i64 0] 0 w2).trans p1
  · exact put_below (R := W.heap.size + 1 + 1) (by omega) [.int .i64 0, .int .i64 0, .int .i64 0, .int .i64 0, .int .i64 0, .int .i64 0, .int .i64 0, .int .i64 0, .int .i64 0, .int .i64 0, .int .i64 0, .int .i64 0] 0 ((hb.trans (hb1.mono (by omega))).trans (hb2.mono (by omega)))

end Go.Proofs.YtlnnpileegoglabGreatDoor

/-
  The errors of moves by their numbers and places: what package plain tells of them.
-/
import Derived.Test.YtlnnpileegoglabGreatDoorGoes5
import Derived.Test.YtlnnpileegoglabGreatDoorJ11
import Derived.Test.YtlnnpileegoglabGreatDoorGoes10
namespace Go.Proofs.YtlnnpileegoglabGreatDoor
open Go.RowKit

/-- An error as the document tells it. -/
def erC : Er → Int × Int
  | .no => (0, -1)
  | .bare c => (c, -1)
  | .fault c i => (c, i)

theorem er_eV (E : Nat → Addr) {c : Nat} (h : c = 2 ∨ c = 3) : er (E 2) (E 3) (E 2) c = eV (E c) := by rcases h with rfl | rfl <;> rfl

/-- What Code tells of an error of moves, in the world where it was made or any later one. -/
theorem code_er {E : Nat → Addr} {B : Nat} {k : Er} {v : Value} {w V : World} (h : k.is (E 2) (E 3) (E 2) B v w) (hb : Below w.heap.size w V) (hE : EE E V) :
    Calls Tryz.prog 32 #[v] V fun e w' => e = .returned (.tuple #[.int .i64 (erC k).1, .int .i64 (erC k).2]) ∧ Below V.heap.size V w' := by
  cases k with
  | no =>
    obtain rfl := h
    exact (Code_nil V).mono fun e w' ⟨he, hw⟩ => ⟨he, by rw [hw]; exact Below.refl _ _⟩
  | bare c =>
    obtain ⟨rfl, rfl⟩ := h
    rw [er_eV E (.inl rfl)]
    exact Code_at 2 (by decide) (by decide) V hE
  | fault c i =>
    obtain ⟨hc, pb, _, rfl, h1, h2⟩ := h
    rw [er_eV E hc] at h2
    exact Code_fault c pb 0 i (by omega) (by omega) V hE ((hb.cell (cell_lt h1)).trans h1) ((hb.cell (cell_lt h2)).trans h2)

/-- An error of moves is the fault that the document tells. -/
theorem faulted_er {E : Nat → Addr} {B : Nat} {k : Er} {v : Value} {w V : World} (h : k.is (E 2) (E 3) (E 2) B v w) (hb : Below w.heap.size w V) (hE : EE E V) :
    Calls Tryz.prog 9 #[v, .agg #[.int .i64 (erC k).1, .int .i64 (erC k).2]] V fun e w' => e = .returned (.bool true) ∧ Below V.heap.size V w' :=
  faulted_true v _ _ _ V (.inr rfl) (fun _ hU => code_er h (bel0 hb hU) (hE.below hU (Nat.le_refl _)))

/-- What the document says of a point that is moved. -/
def goesF (m : Mv) (p : Pt) : Int × Int := if (ptB m p).1 = 0 then (if (goesO m p).isSome then fltC (ptB m p) else (2, -1)) else fltC (ptB m p)
theorem flt_zero {r : Nat × Nat} (h : r.1 = 0) : fltC r = (0, -1) := by unfold fltC; rw [if_pos h]
theorem flt_pos {r : Nat × Nat} (h : r.1 ≠ 0) : fltC r = ((r.1 : Int), (r.2 : Int)) := by unfold fltC; rw [if_neg h]
theorem flt_zero' {r : Nat × Nat} : (fltC r).1 = 0 ↔ r.1 = 0 := by
  by_cases h : r.1 = 0
  · rw [flt_zero h]; simp [h]
  · rw [flt_pos h]; simp [h]
theorem at_told (m : Mv) (p : Pt) : erC (atR m p).2 = goesF m p ∧ ((ptB m p).1 = 0 → m.ok ∧ p.ok ∧ (atR m p).1 = (goesO m p).getD .zero) ∧ ((ptB m p).1 ≠ 0 → (atR m p).1 = .zero) := by
  unfold goesF atR
  by_cases h1 : (firstBad 0 m.list).1 = 0
  · have hp : ptB m p = firstBad 6 p.list := by unfold ptB; rw [if_neg (fun e => e h1)]
    rw [hp, if_neg (c := (firstBad 0 m.list).1 ≠ 0) (fun e => e h1)]
    by_cases h2 : (firstBad 6 p.list).1 = 0
    · rw [if_neg (c := (firstBad 6 p.list).1 ≠ 0) (fun e => e h2), if_pos h2]
      have om := mv_ok h1
      have op := pt_ok h2
      by_cases h3 : (movedF 0 m p).2 = 0
      · have hg := (movedF_iff (q := (movedF 0 m p).1)).1 (pair_eq h3)
        rw [if_pos h3, hg.2]
        exact ⟨(flt_zero h2).symm, fun _ => ⟨om, op, rfl⟩, fun h => (h h2).elim⟩
      · have hn : goesO m p = none := by
          cases hq : goesO m p with
          | none => rfl
          | some q => exact (h3 (by rw [movedF_iff.2 ⟨rfl, hq⟩])).elim
        rw [if_neg h3, hn]
        exact ⟨rfl, fun _ => ⟨om, op, rfl⟩, fun h => (h h2).elim⟩
    · rw [if_pos (c := (firstBad 6 p.list).1 ≠ 0) h2, if_neg h2]
      exact ⟨(flt_pos h2).symm, fun h => (h2 h).elim, fun _ => rfl⟩
  · have hp : ptB m p = firstBad 0 m.list := by unfold ptB; rw [if_pos h1]
    rw [hp, if_pos (c := (firstBad 0 m.list).1 ≠ 0) h1, if_neg h1]
    exact ⟨(flt_pos h1).symm, fun h => (h1 h).elim, fun _ => rfl⟩

/-- What the document says of one move and then another one. -/
def thnF (m n : Mv) : Int × Int := if (firstBad 0 m.list).1 = 0 then (if (firstBad 0 n.list).1 = 0 then (if (thenO m n).isSome then fltC (firstBad 0 n.list) else (2, -1)) else fltC (firstBad 0 n.list)) else fltC (firstBad 0 m.list)
theorem then_told (m n : Mv) : erC (thenR m n).2 = thnF m n ∧ ((firstBad 0 m.list).1 = 0 → (firstBad 0 n.list).1 = 0 → m.ok ∧ n.ok ∧ (thenR m n).1 = (thenO m n).getD .zero) ∧ (((firstBad 0 m.list).1 ≠ 0 ∨ (firstBad 0 n.list).1 ≠ 0) → (thenR m n).1 = .zero) := by
  unfold thnF thenR
  by_cases h1 : (firstBad 0 m.list).1 = 0
  · rw [if_neg (c := (firstBad 0 m.list).1 ≠ 0) (fun e => e h1), if_pos h1]
    by_cases h2 : (firstBad 0 n.list).1 = 0
    · rw [if_neg (c := (firstBad 0 n.list).1 ≠ 0) (fun e => e h2), if_pos h2]
      have om := mv_ok h1
      have on := mv_ok h2
      by_cases h3 : (thenS m n).2 = 0
      · have hg := (thenS_iff (x := (thenS m n).1) om on).1 (pair_eq h3)
        rw [if_pos h3, hg]
        exact ⟨(flt_zero h2).symm, fun _ _ => ⟨om, on, rfl⟩, fun h => h.elim (fun h => (h h1).elim) (fun h => (h h2).elim)⟩
      · have hn : thenO m n = none := by
          cases hq : thenO m n with
          | none => rfl
          | some q => exact (h3 (by rw [(thenS_iff om on).2 hq])).elim
        rw [if_neg h3, hn]
        exact ⟨rfl, fun _ _ => ⟨om, on, rfl⟩, fun h => h.elim (fun h => (h h1).elim) (fun h => (h h2).elim)⟩
    · rw [if_pos (c := (firstBad 0 n.list).1 ≠ 0) h2, if_neg h2]
      exact ⟨(flt_pos h2).symm, fun _ h => (h2 h).elim, fun _ => rfl⟩
  · rw [if_pos (c := (firstBad 0 m.list).1 ≠ 0) h1, if_neg h1]
    exact ⟨(flt_pos h1).symm, fun h => (h1 h).elim, fun _ => rfl⟩

end Go.Proofs.YtlnnpileegoglabGreatDoor

namespace Go.Proofs.YtlnnpileegoglabGreatDoor
open Go.RowKit

theorem code_er0 {E : Nat → Addr} (c : Nat) (hc : c = 0 ∨ c = 1 ∨ c = 2 ∨ c = 3) (V : World) (h : EE E V) :
    Calls Tryz.prog 32 #[er0 (E 1) (E 2) (E 3) c] V fun e w' => e = .returned (.tuple #[.int .i64 c, .int .i64 (-1)]) ∧ Below V.heap.size V w' := by
  rcases hc with rfl | rfl | rfl | rfl
  · exact (Code_nil V).mono fun e w' ⟨he, hw⟩ => ⟨he, by rw [hw]; exact Below.refl _ _⟩
  · exact Code_at (E := E) 1 (by decide) (by decide) V h
  · exact Code_at (E := E) 2 (by decide) (by decide) V h
  · exact Code_at (E := E) 3 (by decide) (by decide) V h

set_option maxHeartbeats 1000000 in
theorem coded_er0 {E : Nat → Addr} (c : Nat) (hc : c = 0 ∨ c = 1 ∨ c = 2 ∨ c = 3) (V : World) (h : EE E V) :
    Calls Tryz.prog 11 #[er0 (E 1) (E 2) (E 3) c, .int .i64 c] V fun e w' => e = .returned (.bool true) ∧ Below V.heap.size V w' := by
  have HK := code_er0 c hc V h
  generalize er0 (E 1) (E 2) (E 3) c = v at HK ⊢
  go_enter Tryz.func11, Tryz.ntmps11
  go_wp2_with (go_at_call 32; refine HK.mono ?_; rintro e w1 ⟨rfl, hb1⟩)
  go_ret
  exact ⟨rfl, hb1⟩

/-- The numbers that a text's reading tells. -/
theorem kdR_codes (kd : Kd) (ws : List ByteArray) : (kdR kd ws).2 = 0 ∨ (kdR kd ws).2 = 1 ∨ (kdR kd ws).2 = 2 ∨ (kdR kd ws).2 = 3 := by
  have hr : ∀ a : ByteArray, rdC a = 0 ∨ rdC a = 1 ∨ rdC a = 2 ∨ rdC a = 3 := fun a => by
    by_cases h : rdC a = 0
    · exact .inl h
    · exact .inr (rdC_cases h)
  have h2 : ∀ mk a b, (rd2 mk a b).2 = 0 ∨ (rd2 mk a b).2 = 1 ∨ (rd2 mk a b).2 = 2 ∨ (rd2 mk a b).2 = 3 := fun mk a b => by
    unfold rd2
    by_cases h : rdC a = 0
    · rw [if_neg (fun e => e h)]
      by_cases h' : rdC b = 0
      · rw [if_neg (fun e => e h')]; exact .inl rfl
      · rw [if_pos h']; exact hr b
    · rw [if_pos h]; exact hr a
  unfold kdR
  split
  · exact h2 _ _ _
  · exact h2 _ _ _
  · rename_i a _
    by_cases h : (turnR a).2 = 0
    · exact .inl h
    · have : turnR a = (.zero, 1) := by
        revert h
        unfold turnR
        repeat' split
        all_goals first | (intro h; exact (h rfl).elim) | (intro _; rfl)
      exact .inr (.inl (by rw [this]))
  · rename_i a _
    unfold rd1
    by_cases h : rdC a = 0
    · rw [if_neg (fun e => e h)]; exact .inl rfl
    · rw [if_pos h]; exact hr a
  · exact .inr (.inl rfl)
theorem readL_codes : ∀ (f : Nat) (ws : List ByteArray) (acc : List Mv), (readL f ws acc).2 = 0 ∨ (readL f ws acc).2 = 1 ∨ (readL f ws acc).2 = 2 ∨ (readL f ws acc).2 = 3
  | _, [], _ => by simp [readL]
  | 0, _ :: _, _ => by simp [readL]
  | f + 1, k :: ws, acc => by
    unfold readL
    cases hk : kdOf k with
    | none => exact .inr (.inl rfl)
    | some kd =>
      simp only
      by_cases hl : ws.length < kd.n
      · rw [if_pos hl]; exact .inr (.inl rfl)
      · rw [if_neg hl]
        by_cases hc : (kdR kd ws).2 = 0
        · rw [if_pos hc]; exact readL_codes f _ _
        · rw [if_neg hc]; exact kdR_codes kd ws
attribute [local irreducible] thenS in
theorem readR_codes (s : ByteArray) : (readR s).2 = 0 ∨ (readR s).2 = 1 ∨ (readR s).2 = 2 ∨ (readR s).2 = 3 := by
  unfold readR
  by_cases h : (listR s).2 = 0
  · rw [if_pos h]
    rcases foldR_two (listR s).1.reverse .one with h1 | h1
    · exact .inl h1
    · rw [h1]; exact .inr (.inr (.inl rfl))
  · rw [if_neg h]
    unfold listR
    by_cases h0 : s.size = 0
    · rw [if_pos h0]; exact .inl rfl
    · rw [if_neg h0]; exact readL_codes _ _ _

end Go.Proofs.YtlnnpileegoglabGreatDoor

namespace Go.Proofs.YtlnnpileegoglabGreatDoor
open Go.RowKit

/-- What a check of a move tells. -/
def chkE (m : Mv) : Er := if (firstBad 0 m.list).1 = 0 then .no else .fault (firstBad 0 m.list).1 (firstBad 0 m.list).2
theorem chkE_told (m : Mv) : erC (chkE m) = fltC (firstBad 0 m.list) := by
  unfold chkE
  by_cases h : (firstBad 0 m.list).1 = 0
  · rw [if_pos h, flt_zero h]; rfl
  · rw [if_neg h, flt_pos h]; rfl
theorem Check_er {aB aS aZ : Addr} (m : Mv) (h : m.i64) (W : World) (hE : E3 aB aS aZ W) :
    Calls Tryz.prog 15 #[mv m] W fun e w' => (∃ v, e = .returned v ∧ (chkE m).is aB aS aZ W.heap.size v w') ∧ Below W.heap.size W w' := by
  refine (mvCheck_any aB aS aZ m h W hE).mono ?_
  rintro e w' ⟨⟨v, he, ht⟩, hb⟩
  refine ⟨⟨v, he, ?_⟩, hb⟩
  unfold chkE
  rcases ht with ⟨h1, h2⟩ | ⟨h1, h2, h3⟩
  · rw [if_pos h1]; exact h2
  · rw [if_neg h1]; exact ⟨h2, h3⟩

theorem atR_zero {m : Mv} {p : Pt} (h : (atR m p).2 ≠ .no) : (atR m p).1 = .zero := by
  revert h
  unfold atR
  by_cases h1 : (firstBad 0 m.list).1 = 0
  · rw [if_neg (c := (firstBad 0 m.list).1 ≠ 0) (fun e => e h1)]
    by_cases h2 : (firstBad 6 p.list).1 = 0
    · rw [if_neg (c := (firstBad 6 p.list).1 ≠ 0) (fun e => e h2)]
      by_cases h3 : (movedF 0 m p).2 = 0
      · rw [if_pos h3]; exact fun h => (h rfl).elim
      · rw [if_neg h3]; exact fun _ => rfl
    · rw [if_pos (c := (firstBad 6 p.list).1 ≠ 0) h2]; exact fun _ => rfl
  · rw [if_pos (c := (firstBad 0 m.list).1 ≠ 0) h1]; exact fun _ => rfl
theorem thenR_zero {m n : Mv} (h : (thenR m n).2 ≠ .no) : (thenR m n).1 = .zero := by
  revert h
  unfold thenR
  by_cases h1 : (firstBad 0 m.list).1 = 0
  · rw [if_neg (c := (firstBad 0 m.list).1 ≠ 0) (fun e => e h1)]
    by_cases h2 : (firstBad 0 n.list).1 = 0
    · rw [if_neg (c := (firstBad 0 n.list).1 ≠ 0) (fun e => e h2)]
      by_cases h3 : (thenS m n).2 = 0
      · rw [if_pos h3]; exact fun h => (h rfl).elim
      · rw [if_neg h3]; exact fun _ => rfl
    · rw [if_pos (c := (firstBad 0 n.list).1 ≠ 0) h2]; exact fun _ => rfl
  · rw [if_pos (c := (firstBad 0 m.list).1 ≠ 0) h1]; exact fun _ => rfl

theorem At_er {aB aS aZ : Addr} (m : Mv) (p : Pt) (hm : m.i64) (hp : p.i64) (W : World) (hE : E3 aB aS aZ W) :
    Calls Tryz.prog 14 #[mv m, pv p] W fun e w' => (∃ v, e = .returned (.tuple #[pv (atR m p).1, v]) ∧ (atR m p).2.is aB aS aZ W.heap.size v w') ∧ Below W.heap.size W w' := by
  by_cases h : (atR m p).2 = .no
  · refine (At_ok (q := (atR m p).1) hm hp (Prod.ext rfl h) W hE).mono ?_
    rintro e w' ⟨he, hb⟩
    exact ⟨⟨_, he, by rw [h]; rfl⟩, hb⟩
  · rw [atR_zero h]
    exact At_no hm hp (fun x e => h (by rw [e])) W hE
theorem Then_er {aB aS aZ : Addr} (m n : Mv) (hm : m.i64) (hn : n.i64) (W : World) (hE : E3 aB aS aZ W) :
    Calls Tryz.prog 12 #[mv m, mv n] W fun e w' => (∃ v, e = .returned (.tuple #[mv (thenR m n).1, v]) ∧ (thenR m n).2.is aB aS aZ W.heap.size v w') ∧ Below W.heap.size W w' := by
  by_cases h : (thenR m n).2 = .no
  · refine (Then_ok (x := (thenR m n).1) hm hn (Prod.ext rfl h) W hE).mono ?_
    rintro e w' ⟨he, hb⟩
    exact ⟨⟨_, he, by rw [h]; rfl⟩, hb⟩
  · rw [thenR_zero h]
    exact Then_no hm hn (fun x e => h (by rw [e])) W hE

end Go.Proofs.YtlnnpileegoglabGreatDoor

namespace Go.Proofs.YtlnnpileegoglabGreatDoor
open Go.RowKit

theorem Er.is.mono {aB aS aZ : Addr} {B B' : Nat} {k : Er} {v : Value} {w : World} (h : k.is aB aS aZ B v w) (hB : B' ≤ B) : k.is aB aS aZ B' v w := by
  cases k with
  | no => exact h
  | bare c => exact h
  | fault c i => obtain ⟨h1, pb, h2, h3⟩ := h; exact ⟨h1, pb, Nat.le_trans hB h2, h3⟩
theorem Er.is.below {aB aS aZ : Addr} {B : Nat} {k : Er} {v : Value} {w w' : World} (h : k.is aB aS aZ B v w) (hb : Below w.heap.size w w') : k.is aB aS aZ B v w' := by
  cases k with
  | no => exact h
  | bare c => exact h
  | fault c i => obtain ⟨h1, pb, h2, h3, h4, h5⟩ := h; exact ⟨h1, pb, h2, h3, (hb.cell (cell_lt h4)).trans h4, (hb.cell (cell_lt h5)).trans h5⟩
theorem Er.is.put {aB aS aZ : Addr} {B : Nat} {k : Er} {v : Value} {w : World} (h : k.is aB aS aZ B v w) {R : Nat} (hR : R < B) (vs : List Value) (o : Nat) : k.is aB aS aZ B v (put w R o vs) := by
  cases k with
  | no => exact h
  | bare c => exact h
  | fault c i =>
    obtain ⟨h1, pb, h2, h3, h4, h5⟩ := h
    exact ⟨h1, pb, h2, h3, (put_cell (p := ⟨pb, 0, none⟩) (by simp; omega) vs o w).trans h4, (put_cell (p := ⟨pb, 1, none⟩) (by simp; omega) vs o w).trans h5⟩

/-- Cells written one behind the other. -/
def setL : List Value → Nat → List Value → List Value
  | cs, _, [] => cs
  | cs, o, v :: vs => setL (cs.set o v) (o + 1) vs
theorem setL_all : ∀ (vs pre rest : List Value), vs.length = rest.length → setL (pre ++ rest) pre.length vs = pre ++ vs
  | [], pre, rest, h => by
    have : rest = [] := List.length_eq_zero_iff.1 h.symm
    subst this
    rfl
  | v :: vs, pre, [], h => by simp at h
  | v :: vs, pre, r :: rest, h => by
    have e : (pre ++ r :: rest).set pre.length v = (pre ++ [v]) ++ rest := by simp
    have := setL_all vs (pre ++ [v]) rest (by simpa using h)
    rw [setL, e]
    simpa using this
theorem Blk.puts {R : Nat} {t : TypeId} : ∀ (vs : List Value) (o : Nat) {w : World} {cs : List Value}, Blk w R cs.toArray t → Blk (put w R o vs) R (setL cs o vs).toArray t
  | [], _, _, _, h => h
  | v :: vs, o, _, cs, h => Blk.puts vs (o + 1) (cs := cs.set o v) (h.set' o v (by simp))
theorem Blk.over {w : World} {R : Nat} {cs vs : List Value} {t : TypeId} (h : Blk w R cs.toArray t) (hl : vs.length = cs.length) : Blk (put w R 0 vs) R vs.toArray t := by
  have := Blk.puts vs 0 h
  have e := setL_all vs [] cs hl
  simp only [List.nil_append, List.length_nil] at e
  rwa [e] at this

/-- A block with what it holds. -/
abbrev Bk := Nat × List Value × TypeId
/-- Blocks that were laid behind a world's own, the newest first. -/
structure Held (W : World) (l : List Bk) (V : World) : Prop where
  bk : ∀ b ∈ l, Blk V b.1 b.2.1.toArray b.2.2
  hb : Below W.heap.size W V
  low : ∀ b ∈ l, W.heap.size ≤ b.1
  srt : l.Pairwise (fun a b => b.1 < a.1)
theorem Held.start (W : World) : Held W [] W := ⟨by simp, Below.refl _ _, by simp, List.Pairwise.nil⟩
theorem Held.below {W V V' : World} {l : List Bk} (h : Held W l V) (hb : Below V.heap.size V V') : Held W l V' := ⟨fun b hm => (h.bk b hm).below hb (Nat.le_refl _), bel0 h.hb hb, h.low, h.srt⟩
theorem Held.far {W V : World} {l : List Bk} (h : Held W l V) {R : Nat} {cs : List Value} {t : TypeId} (hR : V.heap.size ≤ R) {V' : World} (hb : Below V.heap.size V V') (hk : Blk V' R cs.toArray t) : Held W ((R, cs, t) :: l) V' :=
  have h' := h.below hb
  ⟨fun b hm => by rcases List.mem_cons.1 hm with rfl | hm; exact hk; exact h'.bk b hm, h'.hb, fun b hm => by rcases List.mem_cons.1 hm with rfl | hm; exact Nat.le_trans h.hb.size hR; exact h.low b hm,
    List.Pairwise.cons (fun b hm => Nat.lt_of_lt_of_le (h.bk b hm).lt hR) h.srt⟩
theorem Held.new {W V : World} {l : List Bk} (h : Held W l V) (cs : List Value) (t : TypeId) : Held W ((V.heap.size, cs, t) :: l) (V.alloc (.cells cs.toArray t)) :=
  h.far (Nat.le_refl _) ((Below.refl _ V).alloc (Nat.le_refl _) _) (Blk.new V _ _)
theorem Held.put {W V : World} (l1 : List Bk) {l2 : List Bk} {R : Nat} {cs : List Value} {t : TypeId} (h : Held W (l1 ++ (R, cs, t) :: l2) V) (vs : List Value) (hl : vs.length = cs.length) : Held W (l1 ++ (R, vs, t) :: l2) (Go.Proofs.YtlnnpileegoglabGreatDoor.put V R 0 vs) := by
  have hs := List.pairwise_append.1 h.srt
  have hs2 := List.pairwise_cons.1 hs.2.1
  refine ⟨fun b hm => ?_, put_below (h.low (R, cs, t) (by simp)) vs 0 h.hb, fun b hm => ?_, ?_⟩
  · rcases List.mem_append.1 hm with hm | hm
    · have := hs.2.2 b hm (R, cs, t) (by simp)
      exact (h.bk b (by simp [hm])).putOther (fun e => by simp at this; omega) vs
    · rcases List.mem_cons.1 hm with rfl | hm
      · exact (h.bk (R, cs, t) (by simp)).over hl
      · have := hs2.1 b hm
        exact (h.bk b (by simp [hm])).putOther (fun e => by simp at this; omega) vs
  · rcases List.mem_append.1 hm with hm | hm
    · exact h.low b (by simp [hm])
    · rcases List.mem_cons.1 hm with rfl | hm
      · exact h.low (R, cs, t) (by simp)
      · exact h.low b (by simp [hm])
  · refine List.pairwise_append.2 ⟨hs.1, List.pairwise_cons.2 ⟨hs2.1, hs2.2⟩, fun a ha b hb => ?_⟩
    rcases List.mem_cons.1 hb with rfl | hb
    · exact hs.2.2 a ha (R, cs, t) (by simp)
    · exact hs.2.2 a ha b (by simp [hb])
theorem Held.k0 {W V : World} {b : Bk} {l : List Bk} (h : Held W (b :: l) V) : Blk V b.1 b.2.1.toArray b.2.2 := h.bk b (List.mem_cons_self ..)
theorem Held.tail {W V : World} {b : Bk} {l : List Bk} (h : Held W (b :: l) V) : Held W l V := ⟨fun c hm => h.bk c (List.mem_cons_of_mem _ hm), h.hb, fun c hm => h.low c (List.mem_cons_of_mem _ hm), (List.pairwise_cons.1 h.srt).2⟩

end Go.Proofs.YtlnnpileegoglabGreatDoor

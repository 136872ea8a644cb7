/-
  What package move reads in a text, as plain mathematics: words, kinds, the list of moves, and what they make together.
-/
import Derived.Test.YtdilieoobkldhabDoorMove15
import Derived.Test.YtdilieoobkldhabDoorMoveM2
namespace Go.Proofs.YtdilieoobkldhabDoor

/-- The kinds of moves in a text. -/
inductive Kd where
  | move
  | scale
  | turn
  | skew
def Kd.n : Kd → Nat
  | .move => 2
  | .scale => 2
  | .turn => 1
  | .skew => 1
def kdOf (b : ByteArray) : Option Kd := if b = bMove then some .move else if b = bScale then some .scale else if b = bTurn then some .turn else if b = bSkew then some .skew else none

def rdF (a : ByteArray) : Fr := ⟨(rd a.data.toList).n, (rd a.data.toList).d⟩
def rdC (a : ByteArray) : Nat := (rd a.data.toList).c
def rd2 (mk : Fr → Fr → Mv) (a b : ByteArray) : Mv × Nat := if rdC a ≠ 0 then (.zero, rdC a) else if rdC b ≠ 0 then (.zero, rdC b) else (mk (rdF a) (rdF b), 0)
def rd1 (mk : Fr → Mv) (a : ByteArray) : Mv × Nat := if rdC a ≠ 0 then (.zero, rdC a) else (mk (rdF a), 0)
def turnR (a : ByteArray) : Mv × Nat :=
  if a = ⟨#[48]⟩ then (.turn 1 0, 0) else if a = ⟨#[49]⟩ then (.turn 0 1, 0) else if a = ⟨#[50]⟩ then (.turn (-1) 0, 0) else if a = ⟨#[51]⟩ then (.turn 0 (-1), 0) else (.zero, 1)
/-- A kind's words, read. -/
def kdR : Kd → List ByteArray → Mv × Nat
  | .move, a :: b :: _ => rd2 Mv.shift a b
  | .scale, a :: b :: _ => rd2 Mv.scale a b
  | .turn, a :: _ => turnR a
  | .skew, a :: _ => rd1 Mv.skew a
  | _, _ => (.zero, 1)

/-- The list of moves in words, behind those that have been read; or an error's number. -/
def readL : Nat → List ByteArray → List Mv → List Mv × Nat
  | _, [], acc => (acc, 0)
  | 0, _ :: _, _ => ([], 1)
  | f + 1, k :: ws, acc => match kdOf k with
    | none => ([], 1)
    | some kd => if ws.length < kd.n then ([], 1) else if (kdR kd ws).2 = 0 then readL f (ws.drop kd.n) (acc ++ [(kdR kd ws).1]) else ([], (kdR kd ws).2)

/-- Moves, one behind the other: what they are together, or an error's number. -/
def foldR : Mv → List Mv → Mv × Nat
  | m, [] => (m, 0)
  | m, n :: l => if (thenS m n).2 = 0 then foldR (thenS m n).1 l else (.zero, 2)

def words (s : ByteArray) : List ByteArray := Lib.splitB ⟨#[32]⟩ 0 (Lib.countB s ⟨#[32]⟩) s
def listR (s : ByteArray) : List Mv × Nat := if s.size = 0 then ([], 0) else readL (words s).length (words s) []
/-- What Read answers. -/
def readR (s : ByteArray) : Mv × Nat := if (listR s).2 = 0 then foldR .one (listR s).1.reverse else (.zero, (listR s).2)

theorem rd_ok {l : List UInt8} (h : (rd l).c = 0) : chk (rd l).n (rd l).d = 0 := by
  unfold rd at h ⊢
  cases hn : numTxt (ahead 47 l) with
  | none => rw [hn] at h; cases h
  | some n =>
    rw [hn] at h; simp only at h ⊢
    cases hb : behind 47 l with
    | none =>
      rw [hb] at h; simp only [ck] at h ⊢
      split at h
      · rename_i hc; simp [hc]
      · rename_i hc; exact (hc h).elim
    | some b =>
      rw [hb] at h; simp only at h ⊢
      split at h
      · rename_i hd
        simp only [ck] at h ⊢
        split at h
        · rename_i hc; simp [hd, hc]
        · rename_i hc; exact (hc h).elim
      · cases h
theorem rdF_ok {a : ByteArray} (h : rdC a = 0) : (rdF a).ok := rd_ok h
theorem shift_ok' {x y : Fr} (hx : x.ok) (hy : y.ok) : (Mv.shift x y).ok := ⟨whole_ok (by decide), whole_ok (by decide), whole_ok (by decide), whole_ok (by decide), hx, hy⟩
theorem scale_ok' {x y : Fr} (hx : x.ok) (hy : y.ok) : (Mv.scale x y).ok := ⟨hx, whole_ok (by decide), whole_ok (by decide), hy, whole_ok (by decide), whole_ok (by decide)⟩
theorem skew_ok' {x : Fr} (hx : x.ok) : (Mv.skew x).ok := ⟨whole_ok (by decide), whole_ok (by decide), hx, whole_ok (by decide), whole_ok (by decide), whole_ok (by decide)⟩
theorem turn_ok' {c s : Int} (hc : c.natAbs ≤ 1) (hs : s.natAbs ≤ 1) : (Mv.turn c s).ok := ⟨whole_ok (by omega), whole_ok (by omega), whole_ok (by omega), whole_ok (by omega), whole_ok (by decide), whole_ok (by decide)⟩
theorem rd2_ok {mk : Fr → Fr → Mv} (hm : ∀ x y, x.ok → y.ok → (mk x y).ok) {a b : ByteArray} (h : (rd2 mk a b).2 = 0) : (rd2 mk a b).1.ok := by
  unfold rd2 at h ⊢
  by_cases h1 : rdC a = 0
  · rw [if_neg (by simp [h1])] at h ⊢
    by_cases h2 : rdC b = 0
    · rw [if_neg (by simp [h2])]; exact hm _ _ (rdF_ok h1) (rdF_ok h2)
    · rw [if_pos h2] at h; exact (h2 h).elim
  · rw [if_pos h1] at h; exact (h1 h).elim
theorem kdR_ok {kd : Kd} {ws : List ByteArray} (h : (kdR kd ws).2 = 0) : (kdR kd ws).1.ok := by
  unfold kdR at h ⊢
  split
  · exact rd2_ok (fun _ _ => shift_ok') h
  · exact rd2_ok (fun _ _ => scale_ok') h
  · simp only [turnR] at h ⊢
    repeat' split
    all_goals first | exact turn_ok' (by decide) (by decide) | skip
    rename_i h1 h2 h3 h4
    simp [h1, h2, h3, h4] at h
  · simp only [rd1] at h ⊢
    split
    · rename_i h1; rw [if_pos h1] at h; exact (h1 h).elim
    · rename_i h1; exact skew_ok' (rdF_ok (by simpa using h1))
  · rename_i h1 h2 h3 h4
    exfalso
    revert h
    split
    · exact (h1 _ _ _ rfl rfl).elim
    · exact (h2 _ _ _ rfl rfl).elim
    · exact (h3 _ _ rfl rfl).elim
    · exact (h4 _ _ rfl rfl).elim
    · intro h; cases h
theorem readL_ok : ∀ (f : Nat) (ws : List ByteArray) (acc : List Mv), (∀ m ∈ acc, m.ok) → (readL f ws acc).2 = 0 → ∀ m ∈ (readL f ws acc).1, m.ok
  | _, [], acc, h, _ => by simpa [readL] using h
  | 0, _ :: _, _, _, h => by simp [readL] at h
  | f + 1, k :: ws, acc, ha, h => by
    unfold readL at h ⊢
    cases hk : kdOf k with
    | none => rw [hk] at h; simp at h
    | some kd =>
      rw [hk] at h
      simp only at h ⊢
      by_cases hl : ws.length < kd.n
      · rw [if_pos hl] at h; simp at h
      · rw [if_neg hl] at h ⊢
        by_cases hc : (kdR kd ws).2 = 0
        · rw [if_pos hc] at h ⊢
          exact readL_ok f _ _ (fun m hm => by rcases List.mem_append.1 hm with h | h; exact ha m h; simp at h; subst h; exact kdR_ok hc) h
        · rw [if_neg hc] at h; exact (hc h).elim

end Go.Proofs.YtdilieoobkldhabDoor

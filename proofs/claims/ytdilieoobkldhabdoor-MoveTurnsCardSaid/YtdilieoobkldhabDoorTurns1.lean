/-
  Quarters of a turn, put together; what the texts of the law MoveTurns are read as; where a quarter takes a point.
-/
import Derived.Test.YtdilieoobkldhabDoorMove23
namespace Go.Proofs.YtdilieoobkldhabDoor
open Go.RowKit

/-- So many quarters. -/
def T (q : Nat) : Mv := if q % 4 = 0 then .turn 1 0 else if q % 4 = 1 then .turn 0 1 else if q % 4 = 2 then .turn (-1) 0 else .turn 0 (-1)
theorem T_ok (q : Nat) : (T q).ok := by
  unfold T
  split
  · exact turn_ok' (by decide) (by decide)
  · split
    · exact turn_ok' (by decide) (by decide)
    · split
      · exact turn_ok' (by decide) (by decide)
      · exact turn_ok' (by decide) (by decide)
theorem T_mod (q : Nat) : T (q % 4) = T q := by unfold T; simp
theorem T_four : ∀ a, a < 4 → ∀ b, b < 4 → thenS (T a) (T b) = (T (a + b), 0) := by decide +kernel
theorem T_then (a b : Nat) : thenR (T a) (T b) = (T (a + b), .no) := by
  refine thenR_ok (T_ok a) (T_ok b) ?_
  rw [← T_mod a, ← T_mod b, T_four _ (Nat.mod_lt _ (by decide)) _ (Nat.mod_lt _ (by decide)), ← T_mod (a % 4 + b % 4), ← Nat.add_mod, T_mod]

theorem T_0 : T 0 = .one := by decide +kernel
theorem Read_T {aT aB aS : Addr} (s : ByteArray) (ws : List ByteArray) (l : List Nat) (W : World) (hE : E4 aT aB aS W) (hs : s.size < 4294967281) (hne : s.toList.isEmpty = false) (hw : words s = ws) (hsz : ∀ a ∈ ws, a.size ≤ 1000000) (hN : ws.length ≤ 1000)
    (hR : readL ws.length ws [] = (l.map T, 0)) (h0 : 0 < l.length) (h1 : l.length ≤ 1000) (m : Mv) (hm : T (((cameAll l.length).map (fun j => l.getD j 0)).sum) = m) :
    Calls Tryd.prog 8 #[.string s] W fun e w' => e = .returned (.tuple #[mv m, .nilIface]) ∧ Below W.heap.size W w' := by
  have := Read_together s ws (l.map T) (fun j => T (l.getD j 0)) (fun pre => T ((pre.map (fun j => l.getD j 0)).sum)) W hE hs hne hw hsz hN hR (fun j m h => by
      rw [List.getElem?_map] at h
      cases hj : l[j]? with
      | none => rw [hj] at h; cases h
      | some a => rw [hj] at h; simp at h; subst h; simp [List.getD, hj])
    (by simpa using h0) (by simpa using h1) T_0 (fun pre x _ => ⟨ok_all (T_ok _), ok_all (T_ok _), by rw [T_then]; simp⟩)
  simp only [List.length_map, hm] at this
  exact this

abbrev b_t1 : ByteArray := ⟨#[116, 117, 114, 110, 32, 49]⟩
theorem Read_t1 {aT aB aS : Addr} (W : World) (hE : E4 aT aB aS W) : Calls Tryd.prog 8 #[.string b_t1] W fun e w' => e = .returned (.tuple #[mv (T 1), .nilIface]) ∧ Below W.heap.size W w' :=
  Read_T b_t1 [⟨#[116, 117, 114, 110]⟩, ⟨#[49]⟩] [1] W hE (by decide) (by decide +kernel) (by decide +kernel) (by decide +kernel) (by decide) (by decide +kernel) (by decide) (by decide) _ (by decide +kernel)

abbrev b_t4 : ByteArray := ⟨#[116, 117, 114, 110, 32, 49, 32, 116, 117, 114, 110, 32, 49, 32, 116, 117, 114, 110, 32, 49, 32, 116, 117, 114, 110, 32, 49]⟩
theorem Read_t4 {aT aB aS : Addr} (W : World) (hE : E4 aT aB aS W) : Calls Tryd.prog 8 #[.string b_t4] W fun e w' => e = .returned (.tuple #[mv (T 4), .nilIface]) ∧ Below W.heap.size W w' :=
  Read_T b_t4 [⟨#[116, 117, 114, 110]⟩, ⟨#[49]⟩, ⟨#[116, 117, 114, 110]⟩, ⟨#[49]⟩, ⟨#[116, 117, 114, 110]⟩, ⟨#[49]⟩, ⟨#[116, 117, 114, 110]⟩, ⟨#[49]⟩] [1,1,1,1] W hE (by decide) (by decide +kernel) (by decide +kernel) (by decide +kernel) (by decide) (by decide +kernel) (by decide) (by decide) _ (by decide +kernel)

abbrev b_t31 : ByteArray := ⟨#[116, 117, 114, 110, 32, 51, 32, 116, 117, 114, 110, 32, 49]⟩
theorem Read_t31 {aT aB aS : Addr} (W : World) (hE : E4 aT aB aS W) : Calls Tryd.prog 8 #[.string b_t31] W fun e w' => e = .returned (.tuple #[mv (T 4), .nilIface]) ∧ Below W.heap.size W w' :=
  Read_T b_t31 [⟨#[116, 117, 114, 110]⟩, ⟨#[51]⟩, ⟨#[116, 117, 114, 110]⟩, ⟨#[49]⟩] [3,1] W hE (by decide) (by decide +kernel) (by decide +kernel) (by decide +kernel) (by decide) (by decide +kernel) (by decide) (by decide) _ (by decide +kernel)

abbrev b_sc : ByteArray := ⟨#[115, 99, 97, 108, 101, 32, 45, 49, 32, 45, 49]⟩
theorem Read_sc {aT aB aS : Addr} (W : World) (hE : E4 aT aB aS W) : Calls Tryd.prog 8 #[.string b_sc] W fun e w' => e = .returned (.tuple #[mv (T 2), .nilIface]) ∧ Below W.heap.size W w' :=
  Read_T b_sc [⟨#[115, 99, 97, 108, 101]⟩, ⟨#[45, 49]⟩, ⟨#[45, 49]⟩] [2] W hE (by decide) (by decide +kernel) (by decide +kernel) (by decide +kernel) (by decide) (by decide +kernel) (by decide) (by decide) _ (by decide +kernel)

abbrev b_t2 : ByteArray := ⟨#[116, 117, 114, 110, 32, 50]⟩
theorem Read_t2 {aT aB aS : Addr} (W : World) (hE : E4 aT aB aS W) : Calls Tryd.prog 8 #[.string b_t2] W fun e w' => e = .returned (.tuple #[mv (T 2), .nilIface]) ∧ Below W.heap.size W w' :=
  Read_T b_t2 [⟨#[116, 117, 114, 110]⟩, ⟨#[50]⟩] [2] W hE (by decide) (by decide +kernel) (by decide +kernel) (by decide +kernel) (by decide) (by decide +kernel) (by decide) (by decide) _ (by decide +kernel)

theorem T1_eq : T 1 = .turn 0 1 := by decide +kernel
theorem T4_eq : T 4 = .one := by decide +kernel
theorem T2_eq : T 2 = .turn (-1) 0 := by decide +kernel

/-- The opposite of a fraction. -/
def Fr.neg (x : Fr) : Fr := ⟨-x.n, x.d⟩
theorem neg_ok {x : Fr} (h : x.ok) : x.neg.ok := by
  obtain ⟨h1, h2, h3, h4⟩ := chk_zero.1 h
  exact chk_zero.2 ⟨h1, by unfold gcdI at *; simpa [Fr.neg] using h2, by simpa [Fr.neg] using h3, h4⟩
theorem m1_mul {x : Fr} (h : x.ok) : doF mul 0 (.whole (-1)) x = (x.neg, 0) := doF_some (mul_some.2 ⟨whole_ok (by decide), h, neg_ok h, by simp [Fr.whole, Fr.neg]⟩)
theorem moved_turn {p : Pt} (h : p.ok) : movedF 0 (.turn 0 1) p = (⟨p.y.neg, p.x⟩, 0) := by
  have e1 : turnedF 0 (.turn 0 1) p = (⟨p.y.neg, p.x⟩, 0) := by
    unfold turnedF Mv.turn
    have d1 : dotF 0 (.whole 0) p.x (.whole (-1)) p.y = (p.y.neg, 0) := by unfold dotF; rw [zero_mul' h.1]; simp only; rw [m1_mul h.2]; simp only; exact zero_add' (neg_ok h.2)
    simp only; rw [d1]; simp only; rw [dot_10 h.1 h.2]
  unfold movedF; rw [e1]; unfold Mv.turn; simp only; rw [add_zero' (neg_ok h.2)]; simp only; rw [add_zero' h.1]
theorem turn1_ok : (Mv.turn 0 1).ok := turn_ok' (by decide) (by decide)
theorem At_turn {aT aB aS : Addr} {p : Pt} (hp : p.ok) (W : World) (hE : E4 aT aB aS W) :
    Calls Tryd.prog 10 #[mv (.turn 0 1), pv p] W fun e w' => e = .returned (.tuple #[pv ⟨p.y.neg, p.x⟩, .nilIface]) ∧ Below W.heap.size W w' :=
  At_ok (ok_all turn1_ok) ⟨ok_i64 hp.1, ok_i64 hp.2⟩ (atR_ok turn1_ok hp (moved_turn hp)) W hE.e3
theorem Er.shape' {aB aS aZ : Addr} {B : Nat} {k : Er} {v : Value} {w : World} (h : k.is aB aS aZ B v w) (hk : k ≠ .no) : ∃ t a, v = .iface t (.pointer (some a)) := by
  cases k with
  | no => exact (hk rfl).elim
  | bare c => exact ⟨_, _, h.2⟩
  | fault c i => obtain ⟨_, pb, _, h2, _⟩ := h; exact ⟨_, _, h2⟩
theorem At_turn_no {aT aB aS : Addr} {p : Pt} (hi : p.i64) (hp : ¬ p.ok) (W : World) (hE : E4 aT aB aS W) :
    Calls Tryd.prog 10 #[mv (.turn 0 1), pv p] W fun e w' => (∃ t a, e = .returned (.tuple #[pv .zero, .iface t (.pointer (some a))])) ∧ Below W.heap.size W w' := by
  have h : ∀ q, atR (.turn 0 1) p ≠ (q, .no) := fun q e => hp (atR_no e).2.1
  refine (At_no (ok_all turn1_ok) hi h W hE.e3).mono fun e w' ⟨⟨v, he, hv⟩, hb⟩ => ?_
  obtain ⟨t, a, rfl⟩ := Er.shape' hv (fun e => h (atR (.turn 0 1) p).1 (by rw [← e]))
  exact ⟨⟨t, a, he⟩, hb⟩

end Go.Proofs.YtdilieoobkldhabDoor

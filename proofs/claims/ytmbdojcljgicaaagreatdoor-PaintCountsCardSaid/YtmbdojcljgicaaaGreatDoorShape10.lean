/-
  The closed fact of the laws over shapes: a square holds its middle.
-/
import Derived.Test.YtmbdojcljgicaaaGreatDoorShape9
namespace Go.Proofs.YtmbdojcljgicaaaGreatDoor
open Go.RowKit

def sqL (n : Int) : List Qt := [⟨0, 1, 0, 1⟩, ⟨n, 1, 0, 1⟩, ⟨n, 1, n, 1⟩, ⟨0, 1, n, 1⟩]
theorem i64_small {n : Int} (h1 : -1000 ≤ n) (h2 : n ≤ 1000) : I64 n := ⟨by omega, by omega⟩
/-- four points in a block of their own -/
theorem pts_four {w : World} {b : Nat} {a0 a1 a2 a3 : Qt} {t : TypeId} {f : Nat × Nat} (h : w.heap[b]? = some (.cells #[.int .i64 a0.xn, .int .i64 a0.xd, .int .i64 a0.yn, .int .i64 a0.yd, .int .i64 a1.xn, .int .i64 a1.xd, .int .i64 a1.yn, .int .i64 a1.yd, .int .i64 a2.xn, .int .i64 a2.xd, .int .i64 a2.yn, .int .i64 a2.yd, .int .i64 a3.xn, .int .i64 a3.xd, .int .i64 a3.yn, .int .i64 a3.yd] t f))
    (h0 : PI a0) (h1 : PI a1) (h2 : PI a2) (h3 : PI a3) : PtsAt w (some ⟨b, 0, none⟩) [a0, a1, a2, a3] := by
  have key : ∀ k v, #[Value.int .i64 a0.xn, .int .i64 a0.xd, .int .i64 a0.yn, .int .i64 a0.yd, .int .i64 a1.xn, .int .i64 a1.xd, .int .i64 a1.yn, .int .i64 a1.yd, .int .i64 a2.xn, .int .i64 a2.xd, .int .i64 a2.yn, .int .i64 a2.yd, .int .i64 a3.xn, .int .i64 a3.xd, .int .i64 a3.yn, .int .i64 a3.yd][k]? = some v → w.cell? ⟨b, k, none⟩ = some v := fun k v hv => by
    simp only [World.cell?, h]
    exact hv
  intro i a ha
  match i, ha with
  | 0, ha => cases ha; exact ⟨b, 0, rfl, key 0 _ rfl, key 1 _ rfl, key 2 _ rfl, key 3 _ rfl, h0⟩
  | 1, ha => cases ha; exact ⟨b, 0, rfl, key 4 _ rfl, key 5 _ rfl, key 6 _ rfl, key 7 _ rfl, h1⟩
  | 2, ha => cases ha; exact ⟨b, 0, rfl, key 8 _ rfl, key 9 _ rfl, key 10 _ rfl, key 11 _ rfl, h2⟩
  | 3, ha => cases ha; exact ⟨b, 0, rfl, key 12 _ rfl, key 13 _ rfl, key 14 _ rfl, key 15 _ rfl, h3⟩
  | (k + 4), ha => simp at ha

set_option maxRecDepth 20000 in
set_option maxHeartbeats 4000000 in
theorem square_any (n : Int) (w : World) (h1 : -1000 ≤ n) (h2 : n ≤ 1000) :
    Calls Tryz.prog 10 #[.int .i64 n] w fun e W => ∃ b cap, e = .returned (.slice (some ⟨b, 0, none⟩) 4 cap) ∧ PtsAt W (some ⟨b, 0, none⟩) (sqL n) ∧ Below w.heap.size w W := by
  go_enter Tryz.func10, Tryz.ntmps10
  go_wp2
  go_ret
  have hn := World.alloc_heap_new ((w.alloc (.cells #[.int .i64 0, .int .i64 1] 59)).alloc (.cells #[.int .i64 n, .int .i64 1] 59)) (.cells #[.int .i64 0, .int .i64 1, .int .i64 0, .int .i64 1, .int .i64 n, .int .i64 1, .int .i64 0, .int .i64 1, .int .i64 n, .int .i64 1, .int .i64 n, .int .i64 1, .int .i64 0, .int .i64 1, .int .i64 n, .int .i64 1] 61)
  rw [show ((w.alloc (.cells #[.int .i64 0, .int .i64 1] 59)).alloc (.cells #[.int .i64 n, .int .i64 1] 59)).heap.size = w.heap.size + 1 + 1 from by simp] at hn
  have hi := i64_small h1 h2
  have z0 := i64_small (n := 0) (by decide) (by decide)
  have z1 := i64_small (n := 1) (by decide) (by decide)
  exact ⟨w.heap.size + 1 + 1, 4, rfl, pts_four (a0 := ⟨0, 1, 0, 1⟩) (a1 := ⟨n, 1, 0, 1⟩) (a2 := ⟨n, 1, n, 1⟩) (a3 := ⟨0, 1, n, 1⟩) hn ⟨z0, z1, z0, z1⟩ ⟨hi, z1, z0, z1⟩ ⟨hi, z1, hi, z1⟩ ⟨z0, z1, hi, z1⟩, (((Below.refl _ _).alloc (Nat.le_refl _) _).alloc (by simp) _).alloc (by simp; omega) _⟩

theorem sq_ok : okSh (sqL 2) ∧ errP ⟨1, 1, 1, 1⟩ = 0 := by
  have h0 : ∀ y ∈ sqL 2, errP y = 0 := by decide +kernel
  exact ⟨⟨by decide, h0⟩, by decide +kernel⟩
theorem sq_wind : windE (turnI ⟨1, 1, 1, 1⟩) (sqL 2) = 1 ∧ windE (sq ⟨1, 1, 1, 1⟩) (sqL 2) = 1 := by decide +kernel
theorem sq_aro {wd cr : Int} {v : Value} (h : AroundV (sqL 2) ⟨1, 1, 1, 1⟩ wd cr v) : wd = 1 ∧ cr = 1 ∧ v = .nilIface := by
  rcases h with ⟨-, -, h1, h2, h3⟩ | ⟨h1, -⟩
  · exact ⟨h1.trans sq_wind.1, h2.trans sq_wind.2, h3⟩
  · exact absurd sq_ok h1

end Go.Proofs.YtmbdojcljgicaaaGreatDoor

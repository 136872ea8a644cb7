/-
  The builder of texts, as this program bears it.
-/
import Derived.Test.YtnoecobddhmhlaaGreatDoorJ8
import Derived.Shelf.Strings.BuilderK
namespace Go.Proofs.YtnoecobddhmhlaaGreatDoor
open Go.RowKit

theorem heap_lt {w : World} {b : Nat} {o : Obj} (h : w.heap[b]? = some o) : b < w.heap.size := (Array.getElem?_eq_some_iff.1 h).1

theorem one_cell (w : World) (x : Value) (t : TypeId) : ∀ j u, [x][j]? = some u → (w.alloc (.cells #[x] t)).cell? ((⟨w.heap.size, 0, none⟩ : Addr).add j) = some u := by
  intro j u h
  match j, h with
  | 0, h => simp at h; subst h; exact mnew w #[x] t 0 x rfl

end Go.Proofs.YtnoecobddhmhlaaGreatDoor

namespace Go.Proofs.YtnoecobddhmhlaaGreatDoor
open Go.RowKit

end Go.Proofs.YtnoecobddhmhlaaGreatDoor

namespace Go.Proofs.YtnoecobddhmhlaaGreatDoor
open Go.RowKit

mutual
/-- Names are names and values are values, all the way down. -/
def okN : Nd → Prop
  | .mk nm ats ks => isNm nm = true ∧ (∀ a ∈ ats, isNm a.1 = true ∧ isVal a.2 = true) ∧ okL ks
def okL : List Nd → Prop
  | [] => True
  | k :: l => okN k ∧ okL l
end
theorem okL_mem : ∀ {l : List Nd} {k : Nd}, okL l → k ∈ l → okN k
  | [], _, _, h => by simp at h
  | a :: l, k, h, hk => by
    unfold okL at h
    rcases List.mem_cons.1 hk with rfl | hk
    · exact h.1
    · exact okL_mem h.2 hk
mutual
theorem okN_gd : ∀ n, okN n → gd n
  | .mk nm ats ks, h => by
    unfold okN at h
    unfold gd
    exact ⟨h.1, fun a ha => (h.2.1 a ha).1, okL_gd ks h.2.2⟩
theorem okL_gd : ∀ l, okL l → gdL l
  | [], _ => by unfold gdL; trivial
  | k :: l, h => by
    unfold okL at h
    unfold gdL
    exact ⟨okN_gd k h.1, okL_gd l h.2⟩
end
theorem ckL_ok : ∀ (ats pre : List (Bs × Bs)), ckL pre ats = 0 → ∀ a ∈ ats, isNm a.1 = true ∧ isVal a.2 = true
  | [], _, _, a, ha => by simp at ha
  | x :: r, pre, h, a, ha => by
    unfold ckL at h
    split at h
    · rename_i h0
      rcases List.mem_cons.1 ha with rfl | ha
      · unfold ckA at h0
        split at h0
        · rename_i h1
          split at h0
          · cases h0
          · split at h0
            · rename_i h3; exact ⟨h1, h3⟩
            · cases h0
        · cases h0
      · exact ckL_ok r _ h a ha
    · rename_i h0; exact (h0 h).elim
theorem ck1_ok {nm : Bs} {ats : List (Bs × Bs)} {deep ahead : Nat} (h : ck1 nm ats deep ahead = 0) : isNm nm = true ∧ ats.length ≤ 12 ∧ ∀ a ∈ ats, isNm a.1 = true ∧ isVal a.2 = true := by
  unfold ck1 at h
  split at h
  · cases h
  · split at h
    · cases h
    · split at h
      · rename_i hn
        split at h
        · cases h
        · exact ⟨hn, by omega, ckL_ok ats [] h⟩
      · cases h
mutual
theorem ckN_ok : ∀ (n : Nd) (deep ahead : Nat), (ckN n deep ahead).1 = 0 → okN n
  | .mk nm ats ks, deep, ahead, h => by
    unfold ckN at h
    split at h
    · rename_i h1
      unfold okN
      exact ⟨(ck1_ok h1).1, (ck1_ok h1).2.2, ckK_ok ks _ _ h⟩
    · rename_i h1; exact (h1 h).elim
theorem ckK_ok : ∀ (l : List Nd) (deep ahead : Nat), (ckK l deep ahead).1 = 0 → okL l
  | [], _, _, _ => by unfold okL; trivial
  | k :: l, deep, ahead, h => by
    unfold ckK at h
    split at h
    · rename_i h1
      unfold okL
      exact ⟨ckN_ok k _ _ h1, ckK_ok l _ _ h⟩
    · rename_i h1; exact (h1 h).elim
end

theorem mbox (w : World) (cs : Array Value) (t : TypeId) : (w.alloc (.cells cs t)).heap[w.heap.size]? = some (.cells cs t) := by show (w.heap.push (.cells cs t))[w.heap.size]? = _; simp
theorem bcell {w : World} {N : Nat} {cs : Array Value} {t : TypeId} (h : w.heap[N]? = some (.cells cs t)) (i : Nat) (v : Value) (hv : cs[i]? = some v) : w.cell? ⟨N, i, none⟩ = some v := by
  unfold World.cell?
  simp only [h]
  simpa using hv

theorem cat1 (a c : Bs) : (⟨a.toArray⟩ ++ ⟨c.toArray⟩ : ByteArray) = ⟨(a ++ c).toArray⟩ := by
  apply ByteArray.ext
  simp [ByteArray.data_append]
theorem isNm_len {s : Bs} (h : isNm s = true) : s.length ≤ 12 := by
  cases s with
  | nil => simp
  | cons c r => simp only [isNm, Bool.and_eq_true, decide_eq_true_eq] at h; exact h.1.1
theorem isVal_len {s : Bs} (h : isVal s = true) : s.length ≤ 200 := by
  simp only [isVal, Bool.and_eq_true, decide_eq_true_eq] at h
  exact h.1
end Go.Proofs.YtnoecobddhmhlaaGreatDoor

namespace Go.Proofs.YtnoecobddhmhlaaGreatDoor
open Go.RowKit

theorem mdrew {B : Nat} {w : World} : ∀ (k : Nat) {v : World}, Below B w v → Below B w (v.drewN k) := fun _ _ h => ⟨h.os, h.tape, h.output, h.size, h.block⟩
end Go.Proofs.YtnoecobddhmhlaaGreatDoor

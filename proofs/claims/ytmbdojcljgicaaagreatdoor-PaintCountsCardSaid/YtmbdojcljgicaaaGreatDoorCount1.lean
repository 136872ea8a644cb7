/-
  Package paint: names are counted in a map.
-/
import Derived.Test.YtmbdojcljgicaaaGreatDoorPaint12
import Derived.Test.YtmbdojcljgicaaaGreatDoorPaintC
import Derived.Maps.OwnSet
import Derived.Maps.OwnOps
import Derived.OwnWalk
namespace Go.Proofs.YtmbdojcljgicaaaGreatDoor
open Go.RowKit Go.Maps Go.Sort Go.WideMaps

theorem strKeyed : Keyed Tryz.prog 9 := string_keyed Tryz.underlying9
theorem zeroInt (w : World) : (zeroValue 3).run Tryz.prog w = .ok (.int .i64 0) w := by kernel_rfl
/-- Block B is a map that has counted these. -/
def CMap (w : World) (B n : Nat) (T : List By) : Prop :=
  ∃ D : DataW Unit, w.ownsMap Tryz.prog 9 (plainElem Tryz.prog 3) B n D ∧ ∀ s, Maps.has D (.string s) = decide (s ∈ T) ∧ D.atKey (.string s) (.lit (.int .i64 0)) = .lit (.int .i64 (T.count s : Nat))
theorem CMap.made (w : World) : CMap (w.alloc (.map #[] 0)) w.heap.size 0 [] :=
  ⟨.map [], World.ownsMap_made w _ _ _, fun _ => ⟨rfl, rfl⟩⟩
theorem CMap.kept {w w' : World} {B n : Nat} {T : List By} {row : Option Nat} (h : CMap w B n T) (hg : w.grownBy w' row) (hne : some B ≠ row) : CMap w' B n T := by
  obtain ⟨D, h1, h2⟩ := h
  exact ⟨D, h1.kept hg hne, h2⟩
theorem CMap.below {w w' : World} {B n : Nat} {T : List By} (h : CMap w B n T) (hb : Below w.heap.size w w') : CMap w' B n T := by
  obtain ⟨D, ⟨es, cl, h1, h2⟩, h3⟩ := h
  exact ⟨D, ⟨es, cl, (hb.block _ (Array.getElem?_eq_some_iff.1 h1).1).trans h1, h2⟩, h3⟩
theorem CMap.get {w : World} {B n : Nat} {T : List By} (h : CMap w B n T) {s : ByteArray} (hs : s.size ≤ maxLen) :
    (Instr.lookup 53 (.map (some B)) (.string s) false).run Tryz.prog w = .ok (.int .i64 (T.count s.data.toList : Nat)) w := by
  obtain ⟨D, h1, h2⟩ := h
  obtain ⟨c, hrun, hat, -⟩ := h1.lookup_int strKeyed Tryz.underlying53 Tryz.underlying3 (zeroInt _) (keyOf_string_mk Tryz.underlying9 hs)
  rw [(h2 _).2] at hat
  simp only [DataW.lit.injEq, Lit.int.injEq, true_and] at hat
  rw [hrun, ← hat]
theorem CMap.step {w w' : World} {B n : Nat} {T : List By} {s : By} {D : DataW Unit} (h : w.ownsMap Tryz.prog 9 (plainElem Tryz.prog 3) B n D) (h2 : ∀ s, Maps.has D (.string s) = decide (s ∈ T) ∧ D.atKey (.string s) (.lit (.int .i64 0)) = .lit (.int .i64 (T.count s : Nat)))
    (h' : w'.ownsMap Tryz.prog 9 (plainElem Tryz.prog 3) B (n + 1) (D.put (.string s) (.lit (.int .i64 ((T.count s : Nat) + 1))))) : CMap w' B (n + 1) (T ++ [s]) := by
  refine ⟨_, h', fun x => ?_⟩
  have hk : WideAt.IsKeyLit (.string s) := by simp [WideAt.IsKeyLit]
  by_cases e : x = s
  · subst e
    refine ⟨by rw [has_put_same h.isMap hk]; simp, ?_⟩
    rw [atKey_put_same h.isMap hk, List.count_append, List.count_singleton_self]
    simp
  · have hne : (Lit.string x) ≠ (Lit.string s) := fun h => e (by cases h; rfl)
    refine ⟨by rw [has_put_other hne, (h2 x).1]; simp [e], ?_⟩
    rw [atKey_put_other hne, (h2 x).2, List.count_append, List.count_singleton, if_neg (by simpa using fun h => e h.symm), Nat.add_zero]
theorem CMap.keys {w : World} {B n : Nat} {T : List By} {D : DataW Unit} (h : w.ownsMap Tryz.prog 9 (plainElem Tryz.prog 3) B n D) (h2 : ∀ s, Maps.has D (.string s) = decide (s ∈ T) ∧ D.atKey (.string s) (.lit (.int .i64 0)) = .lit (.int .i64 (T.count s : Nat))) : (ded T).Perm (strKeys D) := by
  obtain ⟨es, rfl, hk⟩ := h.keysOf
  obtain ⟨es', he, hp⟩ := h.tidy strKeyed
  cases he
  refine perm_strKeys hp (fun p hp => ?_) (ded_nodup T) (fun x => ?_)
  · obtain ⟨v, hv⟩ := hk p hp
    obtain ⟨x, -, hx, -⟩ := Maps.keyOf_str Tryz.underlying9 hv
    exact ⟨x, hx⟩
  · rw [ded_mem, (h2 x).1]
    simp
end Go.Proofs.YtmbdojcljgicaaaGreatDoor

/-
  A new document is well-formed. What the last look at a document finds: each is a child once, its parents lead to the root.
-/
import Derived.Test.YtmlajdhkkcmjnacDoorJ11
import Derived.Test.YtmlajdhkkcmjnacDoorDocs1
namespace Go.Proofs.YtmlajdhkkcmjnacDoor
open Go.RowKit

mutual
theorem ckN_sz : ∀ (n : Nd) (deep ahead : Nat), (ckN n deep ahead).1 = 0 → (ckN n deep ahead).2 = ahead + szN n
  | .mk nm ats ks, deep, ahead, h => by
    by_cases h1 : ck1 nm ats deep ahead = 0
    · rw [ckN_zero h1] at h ⊢
      rw [ckK_sz ks _ _ h, szN]
      omega
    · rw [ckN, if_neg h1] at h
      exact absurd h h1
theorem ckK_sz : ∀ (l : List Nd) (deep ahead : Nat), (ckK l deep ahead).1 = 0 → (ckK l deep ahead).2 = ahead + szL l
  | [], _, ahead, _ => by rw [ckK, szL]; rfl
  | k :: l, deep, ahead, h => by
    by_cases h1 : (ckN k deep ahead).1 = 0
    · rw [ckK_zero h1] at h ⊢
      rw [ckK_sz l _ _ h, ckN_sz k _ _ h1, szL]
      omega
    · rw [ckK_pos h1] at h
      exact absurd h h1
end
theorem New_S (E : Nat → Addr) (n : Nd) (c0 c1 c2 : Value) (W : World) (hE : CE E W) (hn : NdC W c0 c1 c2 n) (hs : szN n ≤ 1000000) (hc : (ckN n 1 0).1 = 0) :
    Calls Tryd.prog 9 #[.agg #[c0, c1, c2]] W fun e w' => Below W.heap.size W w' ∧ ∃ DB MB tg p, e = .returned (.tuple #[.pointer (some ⟨DB, 0, none⟩), .nilIface]) ∧ DocS W.heap.size tg w' DB MB p (newD n) (szN n) (szN n) (rkD n) := by
  refine (New_yes E n c0 c1 c2 W hE hn hs hc).mono ?_
  rintro e w' ⟨hb, DB, MB, tg, p, rfl, hd⟩
  have h1 := ckN_sz n 1 0 hc
  have h2 := ckN_le n 1 0 hc
  exact ⟨hb, DB, MB, tg, p, rfl, hd, Wd.new n (rkN_of n 1 0 hc), Cd.new n, by omega, hb.size⟩
section
variable {M : Dm} {r : Int → Nat}
/-- Each but the root is a child of its parent, once. -/
theorem Wd.once (h : Wd M r) {x : Int} {e : Elm} (hx : M x = some e) (h0 : x ≠ 0) : (kidsD M e.parent).count x = 1 := by
  obtain ⟨q, hq, hm, _⟩ := h.up x e hx h0
  unfold kidsD
  rw [hq]
  exact (h.nodup _ q hq).count.trans (if_pos hm)
/-- So many steps up from an element. -/
def parD (M : Dm) (x : Int) : Int := match M x with | none => -1 | some e => e.parent
theorem Wd.up_one (h : Wd M r) {x : Int} {e : Elm} (hx : M x = some e) (h0 : 0 < x) : ∃ q, M (parD M x) = some q ∧ 0 ≤ parD M x ∧ r x = r (parD M x) + 1 := by
  obtain ⟨q, hq, _, hr⟩ := h.up x e hx (by omega)
  unfold parD
  rw [hx]
  refine ⟨q, hq, ?_, hr⟩
  refine Classical.byContradiction fun hn => ?_
  have h1 : e.parent < 0 := by
    have h2 : ¬ 0 ≤ e.parent := hn
    omega
  rw [h.neg _ h1] at hq
  exact absurd hq (by simp)
end

end Go.Proofs.YtmlajdhkkcmjnacDoor

/-
  Are two flat lists the same ones? What the law's comparison tells.
-/
import Derived.Test.YtdebekonggnckabDoorMark15
namespace Go.Proofs.YtdebekonggnckabDoor
open Go.RowKit

/-- Two of flat lists are the same, whatever is said of how deep they lie. -/
def SameF (f g : Fl) : Prop := f.name = g.name ∧ f.parent = g.parent ∧ f.attrs = g.attrs
def Alike (a b : List Fl) : Prop := a.length = b.length ∧ ∀ (i : Nat) (f g : Fl), a[i]? = some f → b[i]? = some g → SameF f g
abbrev St := Bs × List (Bs × Bs) × Int
def st (f : Fl) : St := (f.name, f.attrs, f.parent)
theorem alike_map {a b : List Fl} (h : Alike a b) : a.map st = b.map st := by
  apply List.ext_getElem?
  intro i
  rw [List.getElem?_map, List.getElem?_map]
  rcases Nat.lt_or_ge i a.length with hi | hi
  · have hj : i < b.length := by rw [← h.1]; exact hi
    rw [List.getElem?_eq_getElem hi, List.getElem?_eq_getElem hj]
    obtain ⟨h1, h2, h3⟩ := h.2 i _ _ (List.getElem?_eq_getElem hi) (List.getElem?_eq_getElem hj)
    simp [st, h1, h2, h3]
  · rw [List.getElem?_eq_none hi, List.getElem?_eq_none (by rw [← h.1]; exact hi)]
mutual
theorem flN_st : ∀ (a b : Nd) (k : Nat) (p : Int) (d : Nat) (x y : List St), p < k → (∀ f, x.head? = some f → f.2.2 ≤ p) → (∀ f, y.head? = some f → f.2.2 ≤ p) → (flN k p d a).map st ++ x = (flN k p d b).map st ++ y → a = b ∧ x = y
  | .mk n1 a1 k1, .mk n2 a2 k2, k, p, d, x, y, hp, hx, hy, h => by
    simp only [flN, List.map_cons, st, List.cons_append, List.cons.injEq, Prod.mk.injEq, and_true] at h
    obtain ⟨⟨rfl, rfl⟩, h⟩ := h
    obtain ⟨rfl, rfl⟩ := flL_st k1 k2 (k + 1) k (d + 1) x y (by omega) (fun f hf => by have := hx f hf; omega) (fun f hf => by have := hy f hf; omega) h
    exact ⟨rfl, rfl⟩
theorem flL_st : ∀ (a b : List Nd) (k : Nat) (p : Int) (d : Nat) (x y : List St), p < k → (∀ f, x.head? = some f → f.2.2 < p) → (∀ f, y.head? = some f → f.2.2 < p) → (flL k p d a).map st ++ x = (flL k p d b).map st ++ y → a = b ∧ x = y
  | [], [], _, _, _, _, _, _, _, _, h => by simpa [flL] using h
  | [], n :: b, k, p, d, x, y, hp, hx, hy, h => by
    obtain ⟨f, r, e, hf⟩ := flN_head k p d n
    have := hx (st f) (by simp only [flL, List.map_nil, List.nil_append, List.map_append, e, List.map_cons] at h; rw [h]; rfl)
    simp only [st] at this
    omega
  | n :: a, [], k, p, d, x, y, hp, hx, hy, h => by
    obtain ⟨f, r, e, hf⟩ := flN_head k p d n
    have := hy (st f) (by simp only [flL, List.map_nil, List.nil_append, List.map_append, e, List.map_cons] at h; rw [← h]; rfl)
    simp only [st] at this
    omega
  | n :: a, m :: b, k, p, d, x, y, hp, hx, hy, h => by
    simp only [flL, List.map_append, List.append_assoc] at h
    have hd : ∀ (l : List Nd) (q : Nat) (z : List St), (∀ f, z.head? = some f → f.2.2 < p) → ∀ f, ((flL q p d l).map st ++ z).head? = some f → f.2.2 ≤ p := fun l q z hz f hf => by
      cases l with
      | nil => have := hz f (by simpa [flL] using hf); omega
      | cons c l =>
        obtain ⟨g, r, e, hg⟩ := flN_head q p d c
        simp [flL, e] at hf
        subst hf
        simp only [st]
        omega
    obtain ⟨rfl, h'⟩ := flN_st n m k p d _ _ hp (hd a _ x hx) (hd b _ y hy) h
    obtain ⟨rfl, rfl⟩ := flL_st a b _ p d x y (by omega) hx hy h'
    exact ⟨rfl, rfl⟩
end
/-- Two nodes are alike, flat, just where they are one. -/
theorem alike_one {a b : Nd} : Alike (flN 0 (-1) 1 a) (flN 0 (-1) 1 b) ↔ a = b := by
  constructor
  · intro h
    exact (flN_st a b 0 (-1) 1 [] [] (by decide) (by simp) (by simp) (by simpa using alike_map h)).1
  · rintro rfl
    refine ⟨rfl, fun i f g hf hg => ?_⟩
    rw [hf] at hg
    cases hg
    exact ⟨rfl, rfl, rfl⟩

set_option maxRecDepth 20000 in
set_option maxHeartbeats 16000000 in
theorem AlikeFlats_any (W W' : World) (M M' : List FlM) (g g' cap cap' : Nat) (L L' : List Fl) (w : World) (bW : Below W.heap.size W w) (bW' : Below W'.heap.size W' w) (hr : RowF w g M) (hr' : RowF w g' M') (hc : M.length ≤ cap) (hc' : M'.length ≤ cap') (hl : M.length ≤ 150) (hl' : M'.length ≤ 150) (hR : FlRs W M L) (hR' : FlRs W' M' L') :
    Calls Tryd.prog 20 #[.slice (some ⟨g, 0, none⟩) M.length cap, .slice (some ⟨g', 0, none⟩) M'.length cap'] w fun e w' => Below w.heap.size w w' ∧ ∃ r : Bool, e = .returned (.int .i64 (if r = true then 1 else 0)) ∧ (r = true ↔ Alike L L') := by
  have hlL := hR.len
  have hlL' := hR'.len
  by_cases hne : M.length = M'.length
  · have HR : Hid (FlRs W M L) := hR
    have HR' : Hid (FlRs W' M' L') := hR'
    have HW : Hid (RowF w g M) := hr
    have HW' : Hid (RowF w g' M') := hr'
    have hne' : (M.length : Int) = (M'.length : Int) := by omega
    have hl2 : (M.length : Int) ≤ 150 := by omega
    have hc2 : (M.length : Int) ≤ (cap : Int) := by omega
    have hc3 : (M'.length : Int) ≤ (cap' : Int) := by omega
    have HLEN : Hid (L.length = L'.length) := (by omega : L.length = L'.length)
    clear hR hR' hr hr' hlL hlL'
    go_enter Tryd.func20, Tryd.ntmps20
    go_wp2_with fail
    go_loopw [5] (fun y wr => ∃ i : Nat, y = .int .i64 i ∧ i ≤ M.length ∧ (∀ (j : Nat) (f f' : Fl), L[j]? = some f → L'[j]? = some f' → j < i → SameF f f') ∧ Below w.heap.size w wr) (fun y _ => M.length - (intOf y).toNat)
    case atStart => exact ⟨0, rfl, Nat.zero_le _, fun j _ _ _ _ h => absurd h (Nat.not_lt_zero _), Below.refl _ _⟩
    case round =>
      obtain ⟨i, rfl, hi, hsm, hbr⟩ := hrel
      have HS : Hid (∀ (j : Nat) (f f' : Fl), L[j]? = some f → L'[j]? = some f' → j < i → SameF f f') := hsm
      clear hsm
      by_cases hlt : i < M.length
      · have hlt' : (i : Int) < (M.length : Int) := by omega
        have hlt2 : (i : Int) < (M'.length : Int) := by omega
        obtain ⟨x, hx, -⟩ := drop_at hlt
        obtain ⟨x', hx', -⟩ := drop_at (l := M') (k := i) (by omega)
        obtain ⟨f, hf, hf1, hf2, hf3, -, -⟩ := HR.out.get hx
        obtain ⟨f', hf', hg1, hg2, hg3, -, -⟩ := HR'.out.get hx'
        obtain ⟨r0, r1, r2, -⟩ := HW.out i x hx
        obtain ⟨s0, s1, s2, -⟩ := HW'.out i x' hx'
        obtain ⟨oa, ca, hxc, ha1, ha2, -, ha4⟩ := hf2
        obtain ⟨ob, cb, hyc, hb1, hb2, -, hb4⟩ := hg2
        have q0 := (hbr.cell (cell_lt3 r0)).trans r0
        have q1 := (hbr.cell (cell_lt3 r1)).trans r1
        have q2 := (hbr.cell (cell_lt3 r2)).trans r2
        have t0 := (hbr.cell (cell_lt3 s0)).trans s0
        have t1 := (hbr.cell (cell_lt3 s1)).trans s1
        have t2 := (hbr.cell (cell_lt3 s2)).trans s2
        rw [hxc] at q1
        rw [hyc] at t1
        have HA : Hid (AtsAt W oa f.attrs) := ha4
        have HB : Hid (AtsAt W' ob f'.attrs) := hb4
        have HF : Hid (L[i]? = some f ∧ L'[i]? = some f') := ⟨hf, hf'⟩
        have HE : Hid (x.nm = f.name ∧ x'.nm = f'.name ∧ x.parent = f.parent ∧ x'.parent = f'.parent) := ⟨hf1, hg1, hf3, hg3⟩
        have hla : (f.attrs.length : Int) ≤ 9223372036854775807 := by rw [maxLen_eq] at ha2; omega
        have hlb : (f'.attrs.length : Int) ≤ 9223372036854775807 := by rw [maxLen_eq] at hb2; omega
        clear r0 r1 r2 s0 s1 s2 hx hx' hxc hyc ha4 hb4 hf hf' hf1 hg1 hf3 hg3
        by_cases e1 : x.nm = x'.nm
        · have e1b : (x.nm == x'.nm) = true := by rw [e1]; simp
          by_cases e2 : x.parent = x'.parent
          · by_cases e3 : f.attrs.length = f'.attrs.length
            · have e3' : (f.attrs.length : Int) = (f'.attrs.length : Int) := by omega
              go_upto_region 6 with fail
              go_quiet (fail)
              go_wp2_with fail
              have hba := mdrew nq hbr
              have p1 : (wr.drewN nq).cell? ⟨g, i * 4 + 1, none⟩ = some (.slice oa f.attrs.length ca) := q1
              have p2 : (wr.drewN nq).cell? ⟨g', i * 4 + 1, none⟩ = some (.slice ob f'.attrs.length cb) := t1
              clear q0 q1 q2 t0 t1 t2 hbr
              generalize wr.drewN nq = wa at hba p1 p2 ⊢
              go_loopw [6] (fun y wq => ∃ k : Nat, y = .int .i64 k ∧ k ≤ f.attrs.length ∧ (∀ j, j < k → f.attrs[j]? = f'.attrs[j]?) ∧ Below wa.heap.size wa wq) (fun y _ => f.attrs.length - (intOf y).toNat)
              case atStart => exact ⟨0, rfl, Nat.zero_le _, fun j h => absurd h (Nat.not_lt_zero _), Below.refl _ _⟩
              case round =>
                obtain ⟨k, rfl, hk, hsk, hbq⟩ := hrel
                have HK : Hid (∀ j, j < k → f.attrs[j]? = f'.attrs[j]?) := hsk
                clear hsk
                obtain ⟨wq, rfl⟩ : ∃ V, V = wr := ⟨_, rfl⟩
                have hwq := mbel hba hbq
                have bQ : Below W.heap.size W wq := bW.trans (hwq.mono bW.size)
                have bQ' : Below W'.heap.size W' wq := bW'.trans (hwq.mono bW'.size)
                have u1 := (hbq.cell (cell_lt3 p1)).trans p1
                have u2 := (hbq.cell (cell_lt3 p2)).trans p2
                by_cases hlk : k < f.attrs.length
                · have hlk' : (k : Int) < (f.attrs.length : Int) := by omega
                  have hlk2 : (k : Int) < (f'.attrs.length : Int) := by omega
                  obtain ⟨a, hxa, -⟩ := drop_at hlk
                  obtain ⟨a', hxa', -⟩ := drop_at (l := f'.attrs) (k := k) (by omega)
                  obtain ⟨b1, o1, rfl, d0, d1, -, -⟩ := HA.out k a hxa
                  obtain ⟨b2, o2, rfl, d2, d3, -, -⟩ := HB.out k a' hxa'
                  have j0 := (bQ.cell (cell_lt3 d0)).trans d0
                  have j1 := (bQ.cell (cell_lt3 d1)).trans d1
                  have j2 := (bQ'.cell (cell_lt3 d2)).trans d2
                  have j3 := (bQ'.cell (cell_lt3 d3)).trans d3
                  unfold strV at j0 j1 j2 j3
                  have HX : Hid (f.attrs[k]? = some a ∧ f'.attrs[k]? = some a') := ⟨hxa, hxa'⟩
                  clear d0 d1 d2 d3 hxa hxa'
                  by_cases c1 : a.1 = a'.1
                  · have c1b : (a.1 == a'.1) = true := by rw [c1]; simp
                    by_cases c2 : a.2 = a'.2
                    · have c2b : (a.2 == a'.2) = true := by rw [c2]; simp
                      have HQ : Hid (f.attrs[k]? = f'.attrs[k]?) := (by rw [HX.out.1, HX.out.2]; exact congrArg some (Prod.ext c1 c2) : f.attrs[k]? = f'.attrs[k]?)
                      go_upto_region 11 with fail
                      go_quiet (fail)
                      go_wp2_with fail
                      go_roundw
                      case rel => exact ⟨k + 1, by go_num, by omega, fun j hj => by
                        by_cases e : j < k
                        · exact HK.out j e
                        · obtain rfl : j = k := by omega
                          exact HQ.out, mdrew _ hbq⟩
                      case measure => simp [intOf]; omega
                    · have c2b : (a.2 == a'.2) = false := by rw [beq_eq_false_iff_ne]; exact c2
                      have HNO : Hid (¬ Alike L L') := (fun h => c2 (by have := (h.2 i f f' HF.out.1 HF.out.2).2.2; have h1 := HX.out.1; rw [this, HX.out.2] at h1; cases h1; rfl) : ¬ Alike L L')
                      go_upto_region 11 with fail
                      go_quiet (fail)
                      go_wp2_with fail
                      go_ret
                      exact ⟨mdrew _ hwq, false, rfl, ⟨(fun h => nomatch h), (fun h => (HNO.out h).elim)⟩⟩
                  · have c1b : (a.1 == a'.1) = false := by rw [beq_eq_false_iff_ne]; exact c1
                    have HNO : Hid (¬ Alike L L') := (fun h => c1 (by have := (h.2 i f f' HF.out.1 HF.out.2).2.2; have h1 := HX.out.1; rw [this, HX.out.2] at h1; cases h1; rfl) : ¬ Alike L L')
                    go_upto_region 11 with fail
                    go_quiet (fail)
                    go_wp2_with fail
                    go_ret
                    exact ⟨mdrew _ hwq, false, rfl, ⟨(fun h => nomatch h), (fun h => (HNO.out h).elim)⟩⟩
                · obtain rfl : k = f.attrs.length := by omega
                  have HQ : Hid (SameF f f') := (⟨by rw [← HE.out.1, ← HE.out.2.1]; exact e1, by rw [← HE.out.2.2.1, ← HE.out.2.2.2]; exact e2, List.ext_getElem? (fun j => by
                    by_cases e : j < f.attrs.length
                    · exact HK.out j e
                    · rw [List.getElem?_eq_none (by omega), List.getElem?_eq_none (by omega)])⟩ : SameF f f')
                  go_wp2_with fail
                  go_roundw
                  case rel => exact ⟨i + 1, by go_num, by omega, fun j h h' h1 h2 hj => by
                    by_cases e : j < i
                    · exact HS.out j h h' h1 h2 e
                    · obtain rfl : j = i := by omega
                      rw [HF.out.1] at h1
                      rw [HF.out.2] at h2
                      cases h1
                      cases h2
                      exact HQ.out, hwq⟩
                  case measure => simp [intOf]; omega
            · have e3' : ¬ (f.attrs.length : Int) = (f'.attrs.length : Int) := by omega
              have HNO : Hid (¬ Alike L L') := (fun h => e3 (by rw [(h.2 i f f' HF.out.1 HF.out.2).2.2]) : ¬ Alike L L')
              go_upto_region 6 with fail
              go_quiet (fail)
              go_wp2_with fail
              go_ret
              exact ⟨mdrew _ hbr, false, rfl, ⟨(fun h => nomatch h), (fun h => (HNO.out h).elim)⟩⟩
          · have HNO : Hid (¬ Alike L L') := (fun h => e2 (by rw [HE.out.2.2.1, HE.out.2.2.2]; exact (h.2 i f f' HF.out.1 HF.out.2).2.1) : ¬ Alike L L')
            go_upto_region 6 with fail
            go_quiet (fail)
            go_wp2_with fail
            go_ret
            exact ⟨mdrew _ hbr, false, rfl, ⟨(fun h => nomatch h), (fun h => (HNO.out h).elim)⟩⟩
        · have e1b : (x.nm == x'.nm) = false := by rw [beq_eq_false_iff_ne]; exact e1
          have HNO : Hid (¬ Alike L L') := (fun h => e1 (by rw [HE.out.1, HE.out.2.1]; exact (h.2 i f f' HF.out.1 HF.out.2).1) : ¬ Alike L L')
          go_upto_region 6 with fail
          go_quiet (fail)
          go_wp2_with fail
          go_ret
          exact ⟨mdrew _ hbr, false, rfl, ⟨(fun h => nomatch h), (fun h => (HNO.out h).elim)⟩⟩
      · obtain rfl : i = M.length := by omega
        have hyes : Hid (Alike L L') := (⟨HLEN.out, fun j f f' h1 h2 => HS.out j f f' h1 h2 (by
          have := HR.out.len
          have := (List.getElem?_eq_some_iff.1 h1).1
          omega)⟩ : Alike L L')
        go_wp2_with fail
        go_ret
        exact ⟨hbr, true, rfl, ⟨(fun _ => hyes.out), (fun _ => rfl)⟩⟩
  · have hne' : ¬ (M.length : Int) = (M'.length : Int) := by omega
    have hno : Hid (¬ Alike L L') := (fun h => hne (by rw [hlL, hlL']; exact h.1) : ¬ Alike L L')
    clear hlL hlL' hR hR' hr hr'
    go_enter Tryd.func20, Tryd.ntmps20
    go_wp2_with fail
    go_ret
    exact ⟨Below.refl _ _, false, rfl, ⟨(fun h => nomatch h), (fun h => (hno.out h).elim)⟩⟩

end Go.Proofs.YtdebekonggnckabDoor

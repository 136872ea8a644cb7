/-
  A node that came in: it lies in memory as a node.
-/
import Derived.Test.YtlnnpileegoglabDoorMark3
import Derived.ChangeSame
namespace Go.Proofs.YtlnnpileegoglabDoor
open Go.RowKit

theorem cellsAttr : Tryd.prog.cellsOf 77 = 2 := by kernel_rfl
theorem cellsNode : Tryd.prog.cellsOf 40 = 3 := by kernel_rfl
theorem cellsStr : Tryd.prog.cellsOf 9 = 1 := by kernel_rfl
theorem cellsAttrs : Tryd.prog.cellsOf 37 = 1 := by kernel_rfl
theorem cellsKids : Tryd.prog.cellsOf 38 = 1 := by kernel_rfl
section
variable {H : Type} {enc : TypeId × Value → H} {w : World} {base : Nat} {spare : Nat → Bool} {held : Bool}

theorem trod_str {fuel : Nat} {c : Value} {x : DataW H × List MemPlace} (h : DataW.trod enc Tryd.prog w base spare held fuel 9 [c] = some x) : ∃ s : Bs, c = strV s ∧ s.length ≤ maxLen := by
  obtain ⟨s', h1, _, hs⟩ := DataW.trod_string Tryd.underlying9 h
  simp at h1
  subst h1
  exact ⟨s'.data.toList, strV_of s', by rw [m_len]; exact hs⟩
theorem open_ats {fuel : Nat} {cs : List Value} {x : DataW H × List MemPlace} (h : DataW.trod enc Tryd.prog w base spare held fuel 37 cs = some x) : ∃ v ats, cs = [v] ∧ AtsIn w v ats := by
  rcases DataW.trod_slice Tryd.underlying37 h with ⟨rfl, _⟩ | ⟨a, len, cap, elems, rest, n, _, rfl, _, _, hl, hc, hlen, hel, _⟩
  · exact ⟨_, [], rfl, none, 0, rfl, Nat.le_refl _, by decide, fun _ => rfl, fun i x hx => by simp at hx⟩
  · simp only [cellsAttr] at hel
    obtain ⟨l, hll, hP⟩ := list_of (α := Bs × Bs) (P := fun i x => ∃ b off, some a = some ⟨b, off, none⟩ ∧ w.cell? ⟨b, off + i * 2, none⟩ = some (strV x.1) ∧ w.cell? ⟨b, off + i * 2 + 1, none⟩ = some (strV x.2) ∧ x.1.length ≤ maxLen ∧ x.2.length ≤ maxLen) len (fun i hi => by
      have hE := hel i hi
      obtain ⟨y, hy⟩ : ∃ y, elems[i]? = some y := ⟨elems[i], List.getElem?_eq_getElem (by omega)⟩
      rw [hy] at hE
      simp only [Option.bind_eq_some_iff] at hE
      obtain ⟨c, hc1, hc2⟩ := hE
      obtain ⟨b, off, c0, c1, ha, rfl, h0, h1⟩ := cells_two hc1
      obtain ⟨y0, y1, m, _, _, f0, f1⟩ := Go.ChangeShapes.trod_struct2 Tryd.underlying77 hc2
      simp only [cellsStr] at f0 f1
      obtain ⟨s0, rfl, l0⟩ := trod_str f0
      obtain ⟨s1, rfl, l1⟩ := trod_str f1
      obtain ⟨ab, ao, asp⟩ := a
      have : asp = none := by
        cases i with
        | zero => simp [Addr.add] at ha; exact ha.2.2
        | succ i => 
          have h00 := hel 0 (by omega)
          obtain ⟨y0, hy0⟩ : ∃ y, elems[0]? = some y := ⟨elems[0], List.getElem?_eq_getElem (by omega)⟩
          rw [hy0] at h00
          simp only [Option.bind_eq_some_iff] at h00
          obtain ⟨_, hd1, _⟩ := h00
          obtain ⟨_, _, _, _, hb, _⟩ := cells_two hd1
          simp [Addr.add] at hb
          exact hb.2.2
      subst this
      have e : b = ab ∧ off = ao + i * 2 := by
        unfold Addr.add at ha
        split at ha <;> simp at ha <;> exact ⟨ha.1.symm, by omega⟩
      obtain ⟨rfl, rfl⟩ := e
      exact ⟨(s0, s1), _, ao, rfl, h0, h1, l0, l1⟩)
    exact ⟨_, l, rfl, some a, cap, by rw [hll], by omega, hc, (fun e => nomatch e), hP⟩

theorem trod_three {t : TypeId} {f0 f1 f2 : Field} {fuel : Nat} {cs : List Value} {x : DataW H × List MemPlace} {P : Program} (ht : P.underlying t = some (.struct #[f0, f1, f2])) (h : DataW.trod enc P w base spare held fuel t cs = some x) :
    ∃ y0 y1 y2 n, fuel = n + 1 ∧ cs.length = P.cellsOf t ∧ DataW.trod enc P w base spare held n f0.type ((cs.drop f0.offset).take (P.cellsOf f0.type)) = some y0 ∧
      DataW.trod enc P w base spare held n f1.type ((cs.drop f1.offset).take (P.cellsOf f1.type)) = some y1 ∧ DataW.trod enc P w base spare held n f2.type ((cs.drop f2.offset).take (P.cellsOf f2.type)) = some y2 := by
  obtain ⟨xs, n, hn, rfl, hl, hlen, hf⟩ := DataW.trod_struct ht h
  match xs, hlen with
  | [y0, y1, y2], _ => exact ⟨y0, y1, y2, n, hn, hl, by simpa using hf 0 f0 rfl, by simpa using hf 1 f1 rfl, by simpa using hf 2 f2 rfl⟩

theorem open_nd : ∀ (fuel : Nat) {cs : List Value} {x : DataW H × List MemPlace}, DataW.trod enc Tryd.prog w base spare held fuel 40 cs = some x → ∃ c0 c1 c2 n, cs = [c0, c1, c2] ∧ NdC w c0 c1 c2 n
  | fuel, cs, x, h => by
    obtain ⟨y0, y1, y2, m, rfl, hcl, f0, f1, f2⟩ := trod_three Tryd.underlying40 h
    rw [cellsNode] at hcl
    obtain ⟨c0, c1, c2, rfl⟩ : ∃ c0 c1 c2, cs = [c0, c1, c2] := by
      rcases cs with _ | ⟨c0, _ | ⟨c1, _ | ⟨c2, _ | ⟨c3, cs⟩⟩⟩⟩
      all_goals first | exact ⟨_, _, _, rfl⟩ | simp at hcl
    simp only [cellsStr, cellsAttrs, cellsKids] at f0 f1 f2
    obtain ⟨s0, rfl, l0⟩ := trod_str f0
    obtain ⟨v1, ats, e1, ha⟩ := open_ats f1
    simp at e1
    subst e1
    suffices hk : ∃ ks : List Nd, ∃ o cap, c2 = .slice o ks.length cap ∧ ks.length ≤ cap ∧ cap ≤ maxLen ∧ (o = none → cap = 0) ∧ KdsAt w o 0 ks by
      obtain ⟨ks, hk⟩ := hk
      exact ⟨_, _, _, .mk s0 ats ks, rfl, by unfold NdC; exact ⟨rfl, l0, ha, hk⟩⟩
    rcases DataW.trod_slice Tryd.underlying38 f2 with ⟨e2, _⟩ | ⟨a, len, cap, elems, rest, q, hq, e2, _, _, hl, hc, hlen, hel, _⟩
    · simp at e2
      subst e2
      exact ⟨[], none, 0, rfl, Nat.le_refl _, by decide, fun _ => rfl, by unfold KdsAt; trivial⟩
    · simp at e2
      subst e2
      simp only [cellsNode] at hel
      have sp : 0 < len → a.spot = none := fun h0 => by
        have h00 := hel 0 h0
        obtain ⟨y0, hy0⟩ : ∃ y, elems[0]? = some y := ⟨elems[0], List.getElem?_eq_getElem (by omega)⟩
        rw [hy0] at h00
        simp only [Option.bind_eq_some_iff] at h00
        obtain ⟨_, hd1, _⟩ := h00
        obtain ⟨_, _, _, _, _, hb, _⟩ := cells_three hd1
        simp [Addr.add] at hb
        rw [hb]
      obtain ⟨l, hll, hP⟩ := list_of (α := Nd) (P := fun i k => ∃ b off c0 c1 c2, some a = some ⟨b, off, none⟩ ∧ w.cell? ⟨b, off + i * 3, none⟩ = some c0 ∧ w.cell? ⟨b, off + i * 3 + 1, none⟩ = some c1 ∧ w.cell? ⟨b, off + i * 3 + 2, none⟩ = some c2 ∧ NdC w c0 c1 c2 k) len (fun i hi => by
        have hE := hel i hi
        obtain ⟨y, hy⟩ : ∃ y, elems[i]? = some y := ⟨elems[i], List.getElem?_eq_getElem (by omega)⟩
        rw [hy] at hE
        simp only [Option.bind_eq_some_iff] at hE
        obtain ⟨c, hc1, hc2⟩ := hE
        obtain ⟨b, off, d0, d1, d2, hb, rfl, h0, h1, h2⟩ := cells_three hc1
        obtain ⟨e0, e1, e2, k, he, hk⟩ := open_nd q hc2
        simp at he
        obtain ⟨rfl, rfl, rfl⟩ := he
        have hs := sp (by omega)
        obtain ⟨ab, ao, asp⟩ := a
        simp at hs
        subst hs
        have e : b = ab ∧ off = ao + i * 3 := by
          unfold Addr.add at hb
          split at hb <;> simp at hb <;> exact ⟨hb.1.symm, by omega⟩
        obtain ⟨rfl, rfl⟩ := e
        exact ⟨k, _, ao, d0, d1, d2, rfl, h0, h1, h2, hk⟩)
      exact ⟨l, some a, cap, by rw [hll], by omega, hc, (fun e => nomatch e), kdsAt_of (fun j k hk => by rw [show 0 + j = j from by omega]; exact hP j k hk)⟩
  termination_by fuel => fuel
  decreasing_by omega
end

end Go.Proofs.YtlnnpileegoglabDoor

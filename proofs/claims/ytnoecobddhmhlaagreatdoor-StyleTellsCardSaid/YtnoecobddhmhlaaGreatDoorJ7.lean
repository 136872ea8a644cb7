/-
  A node that came in: it lies in memory as a node.
-/
import Derived.Test.YtnoecobddhmhlaaGreatDoorJ5
import Derived.ChangeSame
namespace Go.Proofs.YtnoecobddhmhlaaGreatDoor
open Go.RowKit

theorem cellsAttr : Tryz.prog.cellsOf 59 = 2 := by kernel_rfl
theorem cellsNode : Tryz.prog.cellsOf 25 = 3 := by kernel_rfl
theorem cellsStr : Tryz.prog.cellsOf 9 = 1 := by kernel_rfl
theorem cellsAttrs : Tryz.prog.cellsOf 22 = 1 := by kernel_rfl
theorem cellsKids : Tryz.prog.cellsOf 23 = 1 := by kernel_rfl
section
variable {H : Type} {enc : TypeId × Value → H} {w : World} {base : Nat} {spare : Nat → Bool} {held : Bool}

theorem trod_str {fuel : Nat} {c : Value} {x : DataW H × List MemPlace} (h : DataW.trod enc Tryz.prog w base spare held fuel 9 [c] = some x) : ∃ s : Bs, c = strV s ∧ s.length ≤ maxLen := by
  obtain ⟨s', h1, _, hs⟩ := DataW.trod_string Tryz.underlying9 h
  simp at h1
  subst h1
  exact ⟨s'.data.toList, strV_of s', by rw [m_len]; exact hs⟩
theorem open_ats {fuel : Nat} {cs : List Value} {x : DataW H × List MemPlace} (h : DataW.trod enc Tryz.prog w base spare held fuel 22 cs = some x) : ∃ v ats, cs = [v] ∧ AtsIn w v ats := by
  rcases DataW.trod_slice Tryz.underlying22 h with ⟨rfl, _⟩ | ⟨a, len, cap, elems, rest, n, _, rfl, _, _, hl, hc, hlen, hel, _⟩
  · exact ⟨_, [], rfl, none, 0, rfl, Nat.le_refl _, by decide, fun _ => rfl, fun i x hx => by simp at hx⟩
  · simp only [cellsAttr] at hel
    obtain ⟨l, hll, hP⟩ := list_of (α := Bs × Bs) (P := fun i x => ∃ b off, some a = some ⟨b, off, none⟩ ∧ w.cell? ⟨b, off + i * 2, none⟩ = some (strV x.1) ∧ w.cell? ⟨b, off + i * 2 + 1, none⟩ = some (strV x.2) ∧ x.1.length ≤ maxLen ∧ x.2.length ≤ maxLen) len (fun i hi => by
      have hE := hel i hi
      obtain ⟨y, hy⟩ : ∃ y, elems[i]? = some y := ⟨elems[i], List.getElem?_eq_getElem (by omega)⟩
      rw [hy] at hE
      simp only [Option.bind_eq_some_iff] at hE
      obtain ⟨c, hc1, hc2⟩ := hE
      obtain ⟨b, off, c0, c1, ha, rfl, h0, h1⟩ := cells_two hc1
      obtain ⟨y0, y1, m, _, _, f0, f1⟩ := Go.ChangeShapes.trod_struct2 Tryz.underlying59 hc2
      simp only [cellsStr] at f0 f1
      obtain ⟨s0, rfl, l0⟩ := trod_str f0
      obtain ⟨s1, rfl, l1⟩ := trod_str f1
      obtain ⟨ab, ao, asp⟩ := a
      have : asp = none := by
        cases i with
        | zero => simp [Addr.add] at ha; exact ha.2.2
        | succ i => 
          have h00 := hel 0 (by omega)
          obtain ⟨y0, hy0⟩ : ∃ y, elems[0]? = some y := ⟨elems[0], List.getElem?_eq_getElem (by omega)⟩
          rw [hy0] at h00
          simp only [Option.bind_eq_some_iff] at h00
          obtain ⟨_, hd1, _⟩ := h00
          obtain ⟨_, _, _, _, hb, _⟩ := cells_two hd1
          simp [Addr.add] at hb
          exact hb.2.2
      subst this
      have e : b = ab ∧ off = ao + i * 2 := by
        unfold Addr.add at ha
        split at ha <;> simp at ha <;> exact ⟨ha.1.symm, by omega⟩
      obtain ⟨rfl, rfl⟩ := e
      exact ⟨(s0, s1), _, ao, rfl, h0, h1, l0, l1⟩)
    exact ⟨_, l, rfl, some a, cap, by rw [hll], by omega, hc, (fun e => nomatch e), hP⟩

theorem trod_three {t : TypeId} {f0 f1 f2 : Field} {fuel : Nat} {cs : List Value} {x : DataW H × List MemPlace} {P : Program} (ht : P.underlying t = some (.struct #[f0, f1, f2])) (h : DataW.trod enc P w base spare held fuel t cs = some x) :
    ∃ y0 y1 y2 n, fuel = n + 1 ∧ cs.length = P.cellsOf t ∧ DataW.trod enc P w base spare held n f0.type ((cs.drop f0.offset).take (P.cellsOf f0.type)) = some y0 ∧
      DataW.trod enc P w base spare held n f1.type ((cs.drop f1.offset).take (P.cellsOf f1.type)) = some y1 ∧ DataW.trod enc P w base spare held n f2.type ((cs.drop f2.offset).take (P.cellsOf f2.type)) = some y2 := by
  obtain ⟨xs, n, hn, rfl, hl, hlen, hf⟩ := DataW.trod_struct ht h
  match xs, hlen with
  | [y0, y1, y2], _ => exact ⟨y0, y1, y2, n, hn, hl, by simpa using hf 0 f0 rfl, by simpa using hf 1 f1 rfl, by simpa using hf 2 f2 rfl⟩

theorem open_nd : ∀ (fuel : Nat) {cs : List Value} {x : DataW H × List MemPlace}, DataW.trod enc Tryz.prog w base spare held fuel 25 cs = some x → ∃ c0 c1 c2 n, cs = [c0, c1, c2] ∧ NdC w c0 c1 c2 n
  | fuel, cs, x, h => by
    obtain ⟨y0, y1, y2, m, rfl, hcl, f0, f1, f2⟩ := trod_three Tryz.underlying25 h
    rw [cellsNode] at hcl
    obtain ⟨c0, c1, c2, rfl⟩ : ∃ c0 c1 c2, cs = [c0, c1, c2] := by
      rcases cs with _ | ⟨c0, _ | ⟨c1, _ | ⟨c2, _ | ⟨c3, cs⟩⟩⟩⟩
      all_goals first | exact ⟨_, _, _, rfl⟩ | simp at hcl
    simp only [cellsStr, cellsAttrs, cellsKids] at f0 f1 f2
    obtain ⟨s0, rfl, l0⟩ := trod_str f0
    obtain ⟨v1, ats, e1, ha⟩ := open_ats f1
    simp at e1
    subst e1
    suffices hk : ∃ ks : List Nd, ∃ o cap, c2 = .slice o ks.length cap ∧ ks.length ≤ cap ∧ cap ≤ maxLen ∧ (o = none → cap = 0) ∧ KdsAt w o 0 ks by
      obtain ⟨ks, hk⟩ := hk
      exact ⟨_, _, _, .mk s0 ats ks, rfl, by unfold NdC; exact ⟨rfl, l0, ha, hk⟩⟩
    rcases DataW.trod_slice Tryz.underlying23 f2 with ⟨e2, _⟩ | ⟨a, len, cap, elems, rest, q, hq, e2, _, _, hl, hc, hlen, hel, _⟩
    · simp at e2
      subst e2
      exact ⟨[], none, 0, rfl, Nat.le_refl _, by decide, fun _ => rfl, by unfold KdsAt; trivial⟩
    · simp at e2
      subst e2
      simp only [cellsNode] at hel
      have sp : 0 < len → a.spot = none := fun h0 => by
        have h00 := hel 0 h0
        obtain ⟨y0, hy0⟩ : ∃ y, elems[0]? = some y := ⟨elems[0], List.getElem?_eq_getElem (by omega)⟩
        rw [hy0] at h00
        simp only [Option.bind_eq_some_iff] at h00
        obtain ⟨_, hd1, _⟩ := h00
        obtain ⟨_, _, _, _, _, hb, _⟩ := cells_three hd1
        simp [Addr.add] at hb
        rw [hb]
      obtain ⟨l, hll, hP⟩ := list_of (α := Nd) (P := fun i k => ∃ b off c0 c1 c2, some a = some ⟨b, off, none⟩ ∧ w.cell? ⟨b, off + i * 3, none⟩ = some c0 ∧ w.cell? ⟨b, off + i * 3 + 1, none⟩ = some c1 ∧ w.cell? ⟨b, off + i * 3 + 2, none⟩ = some c2 ∧ NdC w c0 c1 c2 k) len (fun i hi => by
        have hE := hel i hi
        obtain ⟨y, hy⟩ : ∃ y, elems[i]? = some y := ⟨elems[i], List.getElem?_eq_getElem (by omega)⟩
        rw [hy] at hE
        simp only [Option.bind_eq_some_iff] at hE
        obtain ⟨c, hc1, hc2⟩ := hE
        obtain ⟨b, off, d0, d1, d2, hb, rfl, h0, h1, h2⟩ := cells_three hc1
        obtain ⟨e0, e1, e2, k, he, hk⟩ := open_nd q hc2
        simp at he
        obtain ⟨rfl, rfl, rfl⟩ := he
        have hs := sp (by omega)
        obtain ⟨ab, ao, asp⟩ := a
        simp at hs
        subst hs
        have e : b = ab ∧ off = ao + i * 3 := by
          unfold Addr.add at hb
          split at hb <;> simp at hb <;> exact ⟨hb.1.symm, by omega⟩
        obtain ⟨rfl, rfl⟩ := e
        exact ⟨k, _, ao, d0, d1, d2, rfl, h0, h1, h2, hk⟩)
      exact ⟨l, some a, cap, by rw [hll], by omega, hc, (fun e => nomatch e), kdsAt_of (fun j k hk => by rw [show 0 + j = j from by omega]; exact hP j k hk)⟩
  termination_by fuel => fuel
  decreasing_by omega
end

end Go.Proofs.YtnoecobddhmhlaaGreatDoor

namespace Go.Proofs.YtnoecobddhmhlaaGreatDoor
open Go.RowKit

theorem maxLen_eq : maxLen = 9223372036854775807 := by decide
/-- An attribute's value. -/
def atV (x : Bs × Bs) : Value := .agg #[strV x.1, strV x.2]

theorem mbel {W A w : World} (h : Below W.heap.size W A) (hb : Below A.heap.size A w) : Below W.heap.size W w := h.trans (hb.mono h.size)
theorem mcell_al {W : World} {a : Addr} {v : Value} (o : Obj) (h : W.cell? a = some v) : (W.alloc o).cell? a = some v := (((Below.refl W.heap.size W).alloc (Nat.le_refl _) o).cell (cell_lt3 h)).trans h
set_option maxHeartbeats 1000000 in
theorem sameName_any (x : Bs × Bs) (nm : Bs) (B : Nat) (W : World) (hB : W.cell? ⟨B, 0, none⟩ = some (strV nm)) :
    Calls Tryz.prog 155 #[atV x, .pointer (some ⟨B, 0, none⟩)] W fun e w' => e = .returned (.bool (x.1 == nm)) ∧ Below W.heap.size W w' := by
  have hB' := fun o => mcell_al o hB
  unfold atV strV at *
  go_enter Tryz.func155, Tryz.ntmps155
  go_wp2
  go_ret
  exact ⟨rfl, (Below.refl _ W).alloc (Nat.le_refl _) _⟩

/-- The first one of that name, from number k on; below 0: none. -/
def fI (nm : Bs) : Nat → List (Bs × Bs) → Int
  | _, [] => -1
  | k, x :: r => if (x.1 == nm) = true then k else fI nm (k + 1) r
theorem fI_any (nm : Bs) : ∀ (l : List (Bs × Bs)) (k : Nat), decide (0 ≤ fI nm k l) = l.any (fun x => x.1 == nm)
  | [], _ => rfl
  | x :: r, k => by
    unfold fI
    cases hx : (x.1 == nm) with
    | true => simp [hx]
    | false => simp only [Bool.false_eq_true, if_false, List.any_cons, hx, Bool.false_or]; exact fI_any nm r (k + 1)
theorem drop_at {α : Type} {l : List α} {k : Nat} (h : k < l.length) : ∃ x, l[k]? = some x ∧ l.drop k = x :: l.drop (k + 1) := ⟨l[k], List.getElem?_eq_getElem h, (List.getElem_cons_drop h).symm⟩

set_option maxHeartbeats 2000000 in
theorem IndexFunc_any (ats : List (Bs × Bs)) (nm : Bs) (B : Nat) (v : Value) (W : World) (h : AtsIn W v ats) (hB : W.cell? ⟨B, 0, none⟩ = some (strV nm)) :
    Calls Tryz.prog 114 #[v, .func (.func 155) #[] #[.pointer (some ⟨B, 0, none⟩)]] W fun e w' => e = .returned (.int .i64 (fI nm 0 ats)) ∧ Below W.heap.size W w' := by
  obtain ⟨o, cap, rfl, h1, h2, h3, h4⟩ := h
  have hlen : (ats.length : Int) ≤ 9223372036854775807 := by rw [maxLen_eq] at h2; omega
  by_cases h0 : ats.length = 0
  · obtain rfl : ats = [] := List.length_eq_zero_iff.1 h0
    clear h4
    go_enter Tryz.func114, Tryz.ntmps114
    go_wp2_with fail
    go_loopw [8] (fun y wr => y = .int .i64 0 ∧ wr = W) (fun _ _ => 0)
    case atStart => exact ⟨rfl, rfl⟩
    case round =>
      obtain ⟨rfl, rfl⟩ := hrel
      go_wp2_with fail
      go_ret
      exact ⟨rfl, Below.refl _ _⟩
  · obtain ⟨x0, hx0, -⟩ := drop_at (l := ats) (k := 0) (by omega)
    obtain ⟨b, off, rfl, -⟩ := h4 0 x0 hx0
    have H4 : Hid (AtsAt W (some ⟨b, off, none⟩) ats) := h4
    clear h4 hx0 h3 x0
    have hcap : (ats.length : Int) ≤ (cap : Int) := by omega
    go_enter Tryz.func114, Tryz.ntmps114
    go_wp2_with fail
    go_loopw [8] (fun y wr => ∃ k : Nat, k ≤ ats.length ∧ y = .int .i64 k ∧ fI nm 0 ats = fI nm k (ats.drop k) ∧ Below W.heap.size W wr) (fun y _ => ats.length - (intOf y).toNat)
    case atStart => exact ⟨0, Nat.zero_le _, rfl, rfl, Below.refl _ _⟩
    case round =>
      obtain ⟨k, hk, rfl, hf, hb⟩ := hrel
      by_cases hlt : k < ats.length
      · have hlt' : (k : Int) < (ats.length : Int) := by omega
        obtain ⟨x, hx, hd⟩ := drop_at hlt
        obtain ⟨b', off', e, c0, c1, -⟩ := H4.out k x hx
        simp only [Option.some.injEq, Addr.mk.injEq, and_true] at e
        obtain ⟨rfl, rfl⟩ := e
        have k0 := (hb.cell (cell_lt3 c0)).trans c0
        have k1 := (hb.cell (cell_lt3 c1)).trans c1
        have hB1 := (hb.cell (cell_lt3 hB)).trans hB
        have HS := sameName_any x nm B wr hB1
        rw [hd] at hf
        clear c0 c1 hx hd
        unfold strV at k0 k1
        cases hs : (x.1 == nm) with
        | true =>
          rw [hs] at HS
          have hf' : Hid (fI nm 0 ats = k) := (by rw [hf]; unfold fI; rw [if_pos hs] : fI nm 0 ats = k)
          clear hf hs
          go_wp2_with (go_at_call 155; refine HS.mono ?_; rintro e w1 ⟨rfl, hb1⟩)
          go_ret
          exact ⟨by rw [hf'.out]; rfl, mbel hb hb1⟩
        | false =>
          rw [hs] at HS
          have hf0 : fI nm k (x :: ats.drop (k + 1)) = fI nm (k + 1) (ats.drop (k + 1)) := by rw [fI, if_neg (by rw [hs]; simp)]
          have hf' : Hid (fI nm 0 ats = fI nm (k + 1) (ats.drop (k + 1))) := hf.trans hf0
          clear hf0
          clear hf hs
          go_wp2_with (go_at_call 155; refine HS.mono ?_; rintro e w1 ⟨rfl, hb1⟩)
          go_roundw
          case rel => exact ⟨k + 1, by omega, by go_num, hf'.out, mbel hb hb1⟩
          case measure => simp [intOf]; omega
      · obtain rfl : k = ats.length := by omega
        have hf' : Hid (fI nm 0 ats = -1) := (by rw [hf, List.drop_length]; rfl : fI nm 0 ats = -1)
        clear hf
        go_wp2_with fail
        go_ret
        exact ⟨by rw [hf'.out]; rfl, hb⟩

set_option maxHeartbeats 1000000 in
theorem ContainsFunc_any (ats : List (Bs × Bs)) (nm : Bs) (B : Nat) (v : Value) (W : World) (h : AtsIn W v ats) (hB : W.cell? ⟨B, 0, none⟩ = some (strV nm)) :
    Calls Tryz.prog 154 #[v, .func (.func 155) #[] #[.pointer (some ⟨B, 0, none⟩)]] W fun e w' => e = .returned (.bool (ats.any (fun x => x.1 == nm))) ∧ Below W.heap.size W w' := by
  have HI := IndexFunc_any ats nm B v W h hB
  rw [← fI_any nm ats 0]
  generalize fI nm 0 ats = z at HI ⊢
  go_enter Tryz.func154, Tryz.ntmps154
  go_wp2_with (go_at_call 114; refine HI.mono ?_; rintro e w1 ⟨rfl, hb1⟩)
  go_ret
  exact ⟨rfl, hb1⟩

end Go.Proofs.YtnoecobddhmhlaaGreatDoor

namespace Go.Proofs.YtnoecobddhmhlaaGreatDoor
open Go.RowKit

/-- The errors of package api that the check of a node tells. -/
structure CE (E : Nat → Addr) (w : World) : Prop where
  c4 : w.cell? ⟨2, 0, none⟩ = some (.iface 245 (.pointer (some (E 4))))
  c6 : w.cell? ⟨9, 0, none⟩ = some (.iface 245 (.pointer (some (E 6))))
  c7 : w.cell? ⟨4, 0, none⟩ = some (.iface 245 (.pointer (some (E 7))))
  c8 : w.cell? ⟨3, 0, none⟩ = some (.iface 245 (.pointer (some (E 8))))
  c10 : w.cell? ⟨7, 0, none⟩ = some (.iface 245 (.pointer (some (E 10))))
theorem CE.below {E : Nat → Addr} {w w' : World} (h : CE E w) (hb : Below w.heap.size w w') : CE E w' where
  c4 := (hb.cell (cell_lt3 h.c4)).trans h.c4
  c6 := (hb.cell (cell_lt3 h.c6)).trans h.c6
  c7 := (hb.cell (cell_lt3 h.c7)).trans h.c7
  c8 := (hb.cell (cell_lt3 h.c8)).trans h.c8
  c10 := (hb.cell (cell_lt3 h.c10)).trans h.c10
/-- The errors of package api that package mark tells. -/
structure ME (E : Nat → Addr) (w : World) : Prop where
  c2 : w.cell? ⟨1, 0, none⟩ = some (.iface 245 (.pointer (some (E 2))))
  c4 : w.cell? ⟨2, 0, none⟩ = some (.iface 245 (.pointer (some (E 4))))
  c6 : w.cell? ⟨9, 0, none⟩ = some (.iface 245 (.pointer (some (E 6))))
  c7 : w.cell? ⟨4, 0, none⟩ = some (.iface 245 (.pointer (some (E 7))))
  c8 : w.cell? ⟨3, 0, none⟩ = some (.iface 245 (.pointer (some (E 8))))
  c10 : w.cell? ⟨7, 0, none⟩ = some (.iface 245 (.pointer (some (E 10))))
theorem ME.below {E : Nat → Addr} {w w' : World} (h : ME E w) (hb : Below w.heap.size w w') : ME E w' where
  c2 := (hb.cell (cell_lt3 h.c2)).trans h.c2
  c4 := (hb.cell (cell_lt3 h.c4)).trans h.c4
  c6 := (hb.cell (cell_lt3 h.c6)).trans h.c6
  c7 := (hb.cell (cell_lt3 h.c7)).trans h.c7
  c8 := (hb.cell (cell_lt3 h.c8)).trans h.c8
  c10 := (hb.cell (cell_lt3 h.c10)).trans h.c10
theorem ME.ce {E : Nat → Addr} {w : World} (h : ME E w) : CE E w := ⟨h.c4, h.c6, h.c7, h.c8, h.c10⟩
/-- An error by its number. -/
def errV (E : Nat → Addr) (c : Nat) : Value := if c = 0 then .nilIface else .iface 245 (.pointer (some (E c)))
theorem errV_zero (E : Nat → Addr) : errV E 0 = .nilIface := rfl
theorem errV_pos (E : Nat → Addr) {c : Nat} (h : c ≠ 0) : errV E c = .iface 245 (.pointer (some (E c))) := by unfold errV; rw [if_neg h]

/-- What the check of an attribute tells; ahead: those ahead of it. -/
def ckA (ahead : List (Bs × Bs)) (a : Bs × Bs) : Nat := if isNm a.1 = true then (if ahead.any (fun x => x.1 == a.1) = true then 6 else if isVal a.2 = true then 0 else 10) else 4

theorem mal (W : World) (o : Obj) : Below W.heap.size W (W.alloc o) := (Below.refl W.heap.size W).alloc (Nat.le_refl _) o
theorem mnew (W : World) (cs : Array Value) (t : TypeId) (i : Nat) (v : Value) (h : cs[i]? = some v) : (W.alloc (.cells cs t)).cell? ⟨W.heap.size, i, none⟩ = some v := by
  have e : (W.alloc (.cells cs t)).heap[W.heap.size]? = some (.cells cs t) := by show (W.heap.push (.cells cs t))[W.heap.size]? = _; simp
  unfold World.cell?
  simp only [e]
  simpa using h

set_option maxHeartbeats 2000000 in
theorem checkAttr_any (E : Nat → Addr) (a : Bs × Bs) (ats : List (Bs × Bs)) (v : Value) (W : World) (hE : CE E W) (h : AtsIn W v ats) (l1 : a.1.length ≤ maxLen) (l2 : a.2.length ≤ maxLen) :
    Calls Tryz.prog 135 #[atV a, v] W fun e w' => e = .returned (errV E (ckA ats a)) ∧ Below W.heap.size W w' := by
  have b0 := mal W (.cells #[.string ⟨a.1.toArray⟩, .string ⟨a.2.toArray⟩] 59)
  have n0 := mnew W #[.string ⟨a.1.toArray⟩, .string ⟨a.2.toArray⟩] 59 0 _ rfl
  have n1 := mnew W #[.string ⟨a.1.toArray⟩, .string ⟨a.2.toArray⟩] 59 1 _ rfl
  have HN := IsName_any ⟨a.1.toArray⟩ (by rw [strV_size, ← maxLen_eq]; exact l1) (W.alloc (.cells #[.string ⟨a.1.toArray⟩, .string ⟨a.2.toArray⟩] 59))
  have HC := ContainsFunc_any ats a.1 W.heap.size v _ (h.below b0) n0
  have HV := fun V => IsValue_any ⟨a.2.toArray⟩ (by rw [strV_size, ← maxLen_eq]; exact l2) V
  have hE1 := hE.below b0
  obtain ⟨o, cap, rfl, _, _, _, _⟩ := h
  have e4 := hE1.c4
  unfold ckA
  unfold atV strV
  cases hn : isNm a.1 with
  | false =>
    rw [show isNm (⟨a.1.toArray⟩ : ByteArray).data.toList = false from hn] at HN
    rw [if_neg (by simp), errV_pos E (by decide)]
    clear HC HV n1
    go_enter Tryz.func135, Tryz.ntmps135
    go_wp2_with (go_at_call 57; refine HN.mono ?_; rintro e w1 ⟨rfl, rfl⟩)
    go_ret
    exact ⟨rfl, b0⟩
  | true =>
    rw [show isNm (⟨a.1.toArray⟩ : ByteArray).data.toList = true from hn] at HN
    rw [if_pos rfl]
    cases ha : ats.any (fun x => x.1 == a.1) with
    | true =>
      rw [ha] at HC
      rw [if_pos rfl, errV_pos E (by decide)]
      clear HV n1 e4
      go_enter Tryz.func135, Tryz.ntmps135
      go_wp2_with (first | (go_at_call 57; refine HN.mono ?_; rintro e w1 ⟨rfl, rfl⟩) | (go_at_call 154; refine HC.mono ?_; rintro e w2 ⟨rfl, hb2⟩; have e6 := (hE1.below hb2).c6))
      go_ret
      exact ⟨rfl, mbel b0 hb2⟩
    | false =>
      rw [ha] at HC
      rw [if_neg (by simp)]
      cases hv : isVal a.2 with
      | true =>
        rw [show isVal (⟨a.2.toArray⟩ : ByteArray).data.toList = true from hv] at HV
        rw [if_pos rfl, errV_zero]
        clear e4
        go_enter Tryz.func135, Tryz.ntmps135
        go_wp2_with (first | (go_at_call 57; refine HN.mono ?_; rintro e w1 ⟨rfl, rfl⟩) | (go_at_call 154; refine HC.mono ?_; rintro e w2 ⟨rfl, hb2⟩; have k1 := (hb2.cell (cell_lt3 n1)).trans n1) | (go_at_call 70; refine (HV _).mono ?_; rintro e w3 ⟨rfl, rfl⟩))
        go_ret
        exact ⟨rfl, mbel b0 hb2⟩
      | false =>
        rw [show isVal (⟨a.2.toArray⟩ : ByteArray).data.toList = false from hv] at HV
        rw [if_neg (by simp), errV_pos E (by decide)]
        clear e4
        go_enter Tryz.func135, Tryz.ntmps135
        go_wp2_with (first | (go_at_call 57; refine HN.mono ?_; rintro e w1 ⟨rfl, rfl⟩) | (go_at_call 154; refine HC.mono ?_; rintro e w2 ⟨rfl, hb2⟩; have k1 := (hb2.cell (cell_lt3 n1)).trans n1; have e10 := (hE1.below hb2).c10) | (go_at_call 70; refine (HV _).mono ?_; rintro e w3 ⟨rfl, rfl⟩))
        go_ret
        exact ⟨rfl, mbel b0 hb2⟩

end Go.Proofs.YtnoecobddhmhlaaGreatDoor

/-
  Package paint: slices.IndexFunc and slices.DeleteFunc of pieces, with a function that makes memory.
-/
import Derived.Test.YtmbdojcljgicaaaGreatDoorPaint5
namespace Go.Proofs.YtmbdojcljgicaaaGreatDoor
open Go.RowKit

abbrev rfV (By : Nat) : Value := .func (.func 27) #[] #[.pointer (some ⟨By, 0, none⟩)]
/-- The function that is asked, in every world behind. -/
def AskR (base By : Nat) (w : World) (l : List P5) (q : P5 → Bool) : Prop := ∀ x ∈ l, ∀ V, Below base w V → Calls Tryz.prog 27 #[p5V x, .pointer (some ⟨By, 0, none⟩)] V fun e W => e = .returned (.bool (q x)) ∧ Below V.heap.size V W
set_option maxHeartbeats 2000000 in
theorem rowOf1_any (aB aS aZ : Addr) (x : P5) (y : Int) (By : Nat) (w : World) (hl : x.s.pts.length ≤ 1000) (h : PtsAt w x.o x.s.pts) (hE : E3 aB aS aZ w) (hy : w.cell? ⟨By, 0, none⟩ = some (.int .i64 y)) :
    Calls Tryz.prog 27 #[p5V x, .pointer (some ⟨By, 0, none⟩)] w fun e W => e = .returned (.bool (!reachM x.s.pts y)) ∧ Below w.heap.size w W := by
  have C0 := P5C.new w x 43
  have b0 := mbelow w (.cells (p5A x) 43)
  have RE := Reaches_any aB aS aZ x y (w.alloc (.cells (p5A x) 43)) hl (h.below b0 (Nat.le_refl _)) (hE.below b0 (Nat.le_refl _))
  have hy1 := (b0.cell (cell_lt hy)).trans hy
  go_enter Tryz.func27, Tryz.ntmps27
  go_wp2_with (go_at_call 28; refine RE.mono ?_; rintro e w1 ⟨rfl, b1⟩)
  go_ret
  exact ⟨rfl, bel_more b0 b1⟩
/-- What IndexFunc answers. -/
def IdxR (q : P5 → Bool) (l : List P5) (e : Ending) : Prop := ((∀ x ∈ l, q x = false) ∧ e = .returned (.int .i64 (-1))) ∨ ∃ k x, l[k]? = some x ∧ (∀ y ∈ l.take k, q y = false) ∧ q x = true ∧ e = .returned (.int .i64 (k : Nat))
set_option maxRecDepth 20000 in
set_option maxHeartbeats 4000000 in
theorem IndexPcs (base By : Nat) (q : P5 → Bool) (l : List P5) (o : Option Addr) (cap : Nat) (w0 w : World) (hl : l.length ≤ 1000) (h : P5sAt w o l) (hb0 : Below base w0 w) (hbase : base ≤ w.heap.size) (hq : AskR base By w0 l q) :
    Calls Tryz.prog 38 #[.slice o l.length cap, rfV By] w fun e W => IdxR q l e ∧ Below w.heap.size w W := by
  go_enter Tryz.func38, Tryz.ntmps38
  go_wp2
  go_loopw [8] (fun i wr => ∃ k : Nat, k ≤ l.length ∧ i = .int .i64 k ∧ (∀ x ∈ l.take k, q x = false) ∧ Below w.heap.size w wr) (fun i _ => l.length - (intOf i).toNat)
  case atStart => exact ⟨0, Nat.zero_le _, rfl, (fun a ha => by simp at ha), Below.refl _ _⟩
  case round =>
    obtain ⟨k, hk, rfl, hrt, hb⟩ := hrel
    by_cases hlt : k < l.length
    · have hlt' : (k : Int) < (l.length : Int) := by omega
      obtain ⟨x, hx⟩ : ∃ x, l[k]? = some x := ⟨_, List.getElem?_eq_getElem hlt⟩
      have hmem : x ∈ l := List.mem_of_getElem? hx
      obtain ⟨b, off, rfl, hC⟩ := h.below hb (Nat.le_refl _) k x hx
      have AQ := hq x hmem wr (hb0.trans (hb.mono hbase))
      obtain ⟨c0, c1, c2, c3, c4⟩ := hC
      have HX : Hid (l[k]? = some x) := hx
      clear hx
      cases hqx : q x with
      | false =>
        rw [hqx] at AQ
        go_wp2_with (go_at_call 27; refine AQ.mono ?_; rintro e w1 ⟨rfl, b1⟩)
        go_roundw
        case rel => exact ⟨k + 1, by omega, by go_num, fun y hy => by rw [List.take_add_one, HX.out] at hy; rcases List.mem_append.1 hy with hy | hy; exact hrt y hy; simp at hy; subst hy; exact hqx, bel_more hb b1⟩
        case measure => simp [intOf]; omega
      | true =>
        rw [hqx] at AQ
        go_wp2_with (go_at_call 27; refine AQ.mono ?_; rintro e w1 ⟨rfl, b1⟩)
        go_ret
        exact ⟨.inr ⟨k, x, HX.out, hrt, hqx, rfl⟩, bel_more hb b1⟩
    · obtain rfl : k = l.length := by omega
      go_wp2_with fail
      go_ret
      rw [List.take_length] at hrt
      exact ⟨.inl ⟨hrt, rfl⟩, hb⟩

theorem run_clear_pcs (w : World) (ty : TypeId) (b o n c : Nat) (hn : 0 < n) (hc : ∀ j, j < n * 5 → (w.cell? ⟨b, o + j, none⟩).isSome = true) (hf : ∀ j, j < n * 5 → w.frozen? ⟨b, o + j, none⟩ = false) :
    ∃ vs : List Value, vs.length = n * 5 ∧ (Builtin.clear_ #[32] ty #[.slice (some ⟨b, o, none⟩) n c]).run Tryz.prog w = .ok (.tuple #[]) (w.setCells b o vs) := by
  have hv : ∀ w, (zeroValue 43).run Tryz.prog w = .ok (.agg #[.int .i64 0, .slice none 0 0, .string ⟨#[]⟩, .string ⟨#[]⟩, .int .i64 0]) w := fun w => by kernel_rfl
  have hlen : (Builtin.zeroCells (Value.agg #[.int .i64 0, .slice none 0 0, .string ⟨#[]⟩, .string ⟨#[]⟩, .int .i64 0]).cells n).toList.length = n * 5 := by
    simp [Builtin.zeroCells, Value.cells]
  refine ⟨(Builtin.zeroCells (Value.agg #[.int .i64 0, .slice none 0 0, .string ⟨#[]⟩, .string ⟨#[]⟩, .int .i64 0]).cells n).toList, hlen, ?_⟩
  have hone : ∀ v ∈ (Builtin.zeroCells (Value.agg #[.int .i64 0, .slice none 0 0, .string ⟨#[]⟩, .string ⟨#[]⟩, .int .i64 0]).cells n).toList, v.oneCell' = true := by
    intro v hv
    simp only [Builtin.zeroCells, Value.cells, Array.toList_map, List.mem_map] at hv
    obtain ⟨i, -, rfl⟩ := hv
    have hi : i % 5 < 5 := Nat.mod_lt _ (by decide)
    show (#[Value.int .i64 0, .slice none 0 0, .string ⟨#[]⟩, .string ⟨#[]⟩, .int .i64 0][i % 5]!).oneCell' = true
    generalize i % 5 = j at hi
    match j, hi with
    | 0, _ => rfl
    | 1, _ => rfl
    | 2, _ => rfl
    | 3, _ => rfl
    | 4, _ => rfl
  have hst := run_storeCells_cells (P := Tryz.prog) b o (Builtin.zeroCells (Value.agg #[.int .i64 0, .slice none 0 0, .string ⟨#[]⟩, .string ⟨#[]⟩, .int .i64 0]).cells n).toList 0 w (by rw [hlen]; simpa using hc) (by rw [hlen]; simpa using hf) hone
  simp only [Nat.add_zero] at hst
  obtain ⟨m, rfl⟩ : ∃ m, n = m + 1 := ⟨n - 1, by omega⟩
  simp [Builtin.clear_, run_underlying Tryz.underlying32, hv, hst]
theorem below_setCellsP {B b : Nat} {a : World} (hb : B ≤ b) : ∀ (vs : List Value) (o : Nat) (w : World), Below B a w → Below B a (w.setCells b o vs)
  | [], _, _, h => h
  | _ :: vs, _, _, h => below_setCellsP hb vs _ _ (h.setCell hb _)
abbrev set5 (w : World) (b o : Nat) (x : P5) : World := ((((w.setCell ⟨b, o, none⟩ (.int .i64 x.nd)).setCell ⟨b, o + 1, none⟩ (.slice x.o x.s.pts.length x.cap)).setCell ⟨b, o + 2, none⟩ (.string x.s.fill)).setCell ⟨b, o + 3, none⟩ (.string x.s.rule)).setCell ⟨b, o + 4, none⟩ (.int .i64 x.lv)
theorem set5_eq (w : World) (b o : Nat) (x : P5) : set5 w b o x = w.setCells b o [.int .i64 x.nd, .slice x.o x.s.pts.length x.cap, .string x.s.fill, .string x.s.rule, .int .i64 x.lv] := rfl
theorem Rw5.set {w : World} {b : Nat} {l : List P5} (h : Rw5 w b l) {i : Nat} (hi : i < l.length) (x : P5) : Rw5 (set5 w b (i * 5) x) b (l.set i x) := by
  rw [set5_eq]
  have old := h.c i l[i] (List.getElem?_eq_getElem hi)
  have hin := World.cell?_setCells_in b [.int .i64 x.nd, .slice x.o x.s.pts.length x.cap, .string x.s.fill, .string x.s.rule, .int .i64 x.lv] (i * 5) w (fun j hj => by
    have hj' : j < 5 := hj
    match j, hj' with
    | 0, _ => rw [Nat.add_zero, old.c0]; rfl
    | 1, _ => rw [old.c1]; rfl
    | 2, _ => rw [old.c2]; rfl
    | 3, _ => rw [old.c3]; rfl
    | 4, _ => rw [old.c4]; rfl)
  refine ⟨fun k y hy => ?_, fun j hj => ?_⟩
  · by_cases e : k = i
    · subst e
      rw [List.getElem?_set_self hi] at hy
      cases hy
      exact ⟨hin 0 (by simp), hin 1 (by simp), hin 2 (by simp), hin 3 (by simp), hin 4 (by simp)⟩
    · rw [List.getElem?_set_ne (fun h => e h.symm)] at hy
      obtain ⟨c0, c1, c2, c3, c4⟩ := h.c k y hy
      have far : ∀ j, j < 5 → (w.setCells b (i * 5) [.int .i64 x.nd, .slice x.o x.s.pts.length x.cap, .string x.s.fill, .string x.s.rule, .int .i64 x.lv]).cell? ⟨b, k * 5 + j, none⟩ = w.cell? ⟨b, k * 5 + j, none⟩ := fun j hj => World.cell?_setCells_out b _ _ w ⟨b, k * 5 + j, none⟩ (fun _ _ => by
        show k * 5 + j < i * 5 ∨ i * 5 + 5 ≤ k * 5 + j
        omega)
      exact ⟨(far 0 (by decide)).trans c0, (far 1 (by decide)).trans c1, (far 2 (by decide)).trans c2, (far 3 (by decide)).trans c3, (far 4 (by decide)).trans c4⟩
  · rw [World.frozen?_setCells]
    exact h.f j (by rw [List.length_set] at hj; exact hj)
theorem Rw5.take {w : World} {b : Nat} {l : List P5} (h : Rw5 w b l) (k : Nat) : Rw5 w b (l.take k) := ⟨fun i x hx => by
    rw [List.getElem?_take] at hx
    split at hx
    · exact h.c i x hx
    · exact absurd hx (by simp), fun j hj => h.f j (by rw [List.length_take] at hj; omega)⟩
theorem Rw5.setCells {w : World} {b : Nat} {l : List P5} (h : Rw5 w b l) (i : Nat) (vs : List Value) : Rw5 (w.setCells b (i * 5) vs) b (l.take i) := ⟨fun k y hy => by
    rw [List.getElem?_take] at hy
    split at hy
    · rename_i hki
      obtain ⟨c0, c1, c2, c3, c4⟩ := h.c k y hy
      have far : ∀ j, j < 5 → (w.setCells b (i * 5) vs).cell? ⟨b, k * 5 + j, none⟩ = w.cell? ⟨b, k * 5 + j, none⟩ := fun j hj => World.cell?_setCells_out b _ _ w ⟨b, k * 5 + j, none⟩ (fun _ _ => .inl (by
        show k * 5 + j < i * 5
        omega))
      exact ⟨(far 0 (by decide)).trans c0, (far 1 (by decide)).trans c1, (far 2 (by decide)).trans c2, (far 3 (by decide)).trans c3, (far 4 (by decide)).trans c4⟩
    · exact absurd hy (by simp), fun j hj => by
    rw [World.frozen?_setCells]
    exact h.f j (by rw [List.length_take] at hj; omega)⟩
/-- What is kept so far. -/
structure DelI (q : P5 → Bool) (l : List P5) (b base : Nat) (w0 : World) (i j : Nat) (l' : List P5) (w : World) : Prop where
  len : l'.length = l.length
  lt : i < j
  le : j ≤ l.length
  kept : l'.take i = (l.take j).filter fun x => !q x
  rest : l'.drop j = l.drop j
  row : Rw5 w b l'
  bel : Below base w0 w
  sz : b < w.heap.size
theorem filter_none {q : P5 → Bool} {l : List P5} (h : ∀ x ∈ l, q x = false) : (l.filter fun x => !q x) = l := List.filter_eq_self.2 (fun x hx => by rw [h x hx]; rfl)
theorem DelI.skip {q : P5 → Bool} {l : List P5} {b base : Nat} {w0 : World} {i j : Nat} {l' : List P5} {w w' : World} {x : P5} (h : DelI q l b base w0 i j l' w) (hx : l[j]? = some x) (hq : q x = true) (hb : Below w.heap.size w w') (hbase : base ≤ w.heap.size) : DelI q l b base w0 i (j + 1) l' w' := by
  have hj : j < l.length := (List.getElem?_eq_some_iff.1 hx).1
  refine ⟨h.len, by have := h.lt; omega, hj, ?_, ?_, h.row.below hb h.sz, h.bel.trans (hb.mono hbase), Nat.lt_of_lt_of_le h.sz hb.size⟩
  · rw [h.kept, List.take_add_one, hx, List.filter_append]
    simp [hq]
  · rw [← List.drop_drop, h.rest, List.drop_drop]
theorem DelI.keep {q : P5 → Bool} {l : List P5} {b base : Nat} {w0 : World} {i j : Nat} {l' : List P5} {w w' : World} {x : P5} (h : DelI q l b base w0 i j l' w) (hx : l[j]? = some x) (hq : q x = false) (hb : Below w.heap.size w w') (hbase : base ≤ w.heap.size) (hbb : base ≤ b) : DelI q l b base w0 (i + 1) (j + 1) (l'.set i x) (set5 w' b (i * 5) x) := by
  have hj : j < l.length := (List.getElem?_eq_some_iff.1 hx).1
  have hi : i < l'.length := by have := h.lt; have := h.le; rw [h.len]; omega
  have hbl := h.bel.trans (hb.mono hbase)
  refine ⟨by rw [List.length_set, h.len], by have := h.lt; omega, hj, ?_, ?_, (h.row.below hb h.sz).set hi x, ?_, ?_⟩
  · rw [List.take_add_one, List.take_set_of_le (Nat.le_refl _), h.kept, List.getElem?_set_self hi, List.take_add_one, hx, List.filter_append]
    simp [hq]
  · rw [List.drop_set_of_lt (by have := h.lt; omega), ← List.drop_drop, h.rest, List.drop_drop]
  · rw [set5_eq]
    exact below_setCellsP hbb _ _ _ hbl
  · have : (set5 w' b (i * 5) x).heap.size = w'.heap.size := by simp [set5]
    rw [this]
    exact Nat.lt_of_lt_of_le h.sz hb.size
theorem DelI.start {q : P5 → Bool} {l : List P5} {b base : Nat} {w0 w : World} {k : Nat} {x : P5} (hr : Rw5 w b l) (hb : Below base w0 w) (hs : b < w.heap.size) (hx : l[k]? = some x) (hall : ∀ y ∈ l.take k, q y = false) (hq : q x = true) : DelI q l b base w0 k (k + 1) l w := by
  have hk : k < l.length := (List.getElem?_eq_some_iff.1 hx).1
  refine ⟨rfl, by omega, hk, ?_, rfl, hr, hb, hs⟩
  rw [List.take_add_one, hx, List.filter_append, filter_none hall]
  simp [hq]
set_option maxRecDepth 20000 in
set_option maxHeartbeats 4000000 in
theorem DeletePcs (base By : Nat) (q : P5 → Bool) (l : List P5) (b cap : Nat) (w0 w : World) (hl : l.length ≤ 1000) (hr : Rw5 w b l) (hbb : base ≤ b) (hbw : b < w.heap.size) (hcap : l.length ≤ cap) (hb0 : Below base w0 w) (hq : AskR base By w0 l q) :
    Calls Tryz.prog 25 #[.slice (some ⟨b, 0, none⟩) l.length cap, rfV By] w fun e W => e = .returned (.slice (some ⟨b, 0, none⟩) (l.filter fun x => !q x).length cap) ∧ Rw5 W b (l.filter fun x => !q x) ∧ Below base w0 W ∧ b < W.heap.size := by
  have hbase : base ≤ w.heap.size := by omega
  have IX := IndexPcs base By q l (some ⟨b, 0, none⟩) cap w0 w hl hr.at_ hb0 hbase hq
  go_enter Tryz.func25, Tryz.ntmps25
  go_upto_region 2 with (go_at_call 38; refine IX.mono ?_; rintro e w1 ⟨hix, b1⟩; obtain ⟨n, rfl, hn⟩ : ∃ n : Int, e = .returned (.int .i64 n) ∧ ((∀ x ∈ l, q x = false) ∧ n = -1 ∨ ∃ (k : Nat) (x : P5), l[k]? = some x ∧ (∀ y ∈ l.take k, q y = false) ∧ q x = true ∧ n = k) := (by rcases hix with ⟨k1, k2⟩ | ⟨k, x, k1, k2, k3, k4⟩; exact ⟨_, k2, .inl ⟨k1, rfl⟩⟩; exact ⟨_, k4, .inr ⟨k, x, k1, k2, k3, rfl⟩⟩))
  clear hix IX
  have hr1 := hr.below b1 hbw
  have hb1 := hb0.trans (b1.mono hbase)
  have hbw1 := Nat.lt_of_lt_of_le hbw b1.size
  rcases hn with ⟨hall, rfl⟩ | ⟨k, x, hx, hall, hqx, rfl⟩
  · go_wp2_with fail
    go_ret
    rw [filter_none hall]
    exact ⟨rfl, hr1, hb1, hbw1⟩
  · have D0 := DelI.start hr1 hb1 hbw1 hx hall hqx
    have hk : k < l.length := (List.getElem?_eq_some_iff.1 hx).1
    have hne : ((k : Int) == -1) = false := beq_eq_false_iff_ne.2 (by omega)
    clear hx hall hqx hr1 hb1 hbw1 hr
    go_wp2_with fail
    go_loopw [5, 6] (fun u v wr => ∃ (i j : Nat) (l' : List P5), u = .int .i64 i ∧ v = .int .i64 j ∧ DelI q l b base w0 i j l' wr) (fun _ v _ => l.length - (intOf v).toNat)
    case atStart => exact ⟨k, k + 1, l, rfl, by go_num, D0⟩
    case round =>
      obtain ⟨i, j, l', rfl, rfl, hD⟩ := hrel
      have hij := hD.lt
      have hjl := hD.le
      have hwb : base ≤ wr.heap.size := by have := hD.sz; omega
      by_cases hlt : j < l.length
      · have hlt' : (j : Int) < (l.length : Int) := by omega
        have hil' : (i : Int) < (l.length : Int) := by omega
        obtain ⟨x, hx⟩ : ∃ x, l[j]? = some x := ⟨_, List.getElem?_eq_getElem hlt⟩
        have hmem : x ∈ l := List.mem_of_getElem? hx
        have hx' : l'[j]? = some x := by
          have h1 : (l'.drop j)[0]? = some x := by rw [hD.rest, List.getElem?_drop]; exact hx
          rw [List.getElem?_drop] at h1
          exact h1
        have hC := hD.row.c j x hx'
        have b2 := mbelow wr (.cells (p5A x) 43)
        have AQ := hq x hmem (wr.alloc (.cells (p5A x) 43)) (hD.bel.trans (b2.mono hwb))
        have C0 := P5C.new wr x 43
        obtain ⟨c0, c1, c2, c3, c4⟩ := hC
        have HX : Hid (l[j]? = some x) := hx
        clear hx hx'
        cases hqx : q x with
        | true =>
          rw [hqx] at AQ
          go_wp2_with (go_at_call 27; refine AQ.mono ?_; rintro e w2 ⟨rfl, b3⟩)
          go_roundw
          case rel => exact ⟨i, j + 1, l', rfl, by go_num, hD.skip HX.out hqx (bel_more b2 b3) hwb⟩
          case measure => simp [intOf]; omega
        | false =>
          rw [hqx] at AQ
          have hil : i < l'.length := by rw [hD.len]; omega
          have oi := hD.row.c i l'[i] (List.getElem?_eq_getElem hil)
          generalize l'[i] = old at oi
          have fi : ∀ m, m < 5 → wr.frozen? ⟨b, i * 5 + m, none⟩ = false := fun m hm => hD.row.f _ (by rw [hD.len]; omega)
          go_upto_region 9 with (go_at_call 27; refine AQ.mono ?_; rintro e w2 ⟨rfl, b3⟩)
          have b23 := bel_more b2 b3
          obtain ⟨d0, d1, d2, d3, d4⟩ := C0.below b3 (Nat.le_refl _)
          obtain ⟨o0, o1, o2, o3, o4⟩ := oi.below b23 (Nat.le_refl _)
          have f0 := (b23.frozen (p := ⟨b, i * 5, none⟩) hD.sz).trans (fi 0 (by decide))
          have f1 := (b23.frozen (p := ⟨b, i * 5 + 1, none⟩) hD.sz).trans (fi 1 (by decide))
          have f2 := (b23.frozen (p := ⟨b, i * 5 + 2, none⟩) hD.sz).trans (fi 2 (by decide))
          have f3 := (b23.frozen (p := ⟨b, i * 5 + 3, none⟩) hD.sz).trans (fi 3 (by decide))
          have f4 := (b23.frozen (p := ⟨b, i * 5 + 4, none⟩) hD.sz).trans (fi 4 (by decide))
          have K := hD.keep HX.out hqx b23 hwb hbb
          clear hil c0 c1 c2 c3 c4 fi
          go_wp2_with fail
          go_roundw
          case rel => exact ⟨i + 1, j + 1, _, by go_num, by go_num, K⟩
          case measure => simp [intOf]; omega
      · obtain rfl : j = l.length := by omega
        have hni : 0 < l.length - i := by omega
        have hlen := hD.len
        obtain ⟨vs, hvl, hcl⟩ : ∃ vs : List Value, vs.length = (l.length - i) * 5 ∧ ∀ ty, (Builtin.clear_ #[32] ty #[.slice (some ⟨b, i * 5, none⟩) (l.length - i) (cap - i)]).run Tryz.prog wr = .ok (.tuple #[]) (wr.setCells b (i * 5) vs) := by
          have hex : ∀ ty, ∃ vs : List Value, vs.length = (l.length - i) * 5 ∧ (Builtin.clear_ #[32] ty #[.slice (some ⟨b, i * 5, none⟩) (l.length - i) (cap - i)]).run Tryz.prog wr = .ok (.tuple #[]) (wr.setCells b (i * 5) vs) := fun ty => run_clear_pcs wr ty b (i * 5) (l.length - i) (cap - i) hni (fun m hm => by
            obtain ⟨r, hr⟩ : ∃ r, i * 5 + m = r := ⟨_, rfl⟩
            rw [hr]
            have hrl : r / 5 < l'.length := by omega
            obtain ⟨c0, c1, c2, c3, c4⟩ := hD.row.c (r / 5) l'[r / 5] (List.getElem?_eq_getElem hrl)
            have hm5 : r % 5 < 5 := Nat.mod_lt _ (by decide)
            have er : r = r / 5 * 5 + r % 5 := by omega
            rw [er]
            generalize r % 5 = z at hm5
            match z, hm5 with
            | 0, _ => rw [Nat.add_zero, c0]; rfl
            | 1, _ => rw [c1]; rfl
            | 2, _ => rw [c2]; rfl
            | 3, _ => rw [c3]; rfl
            | 4, _ => rw [c4]; rfl) (fun m hm => hD.row.f _ (by omega))
          obtain ⟨vs, h1, h2⟩ := hex 0
          exact ⟨vs, h1, fun ty => h2⟩
        have hic : (i : Int) < (cap : Int) := by omega
        have hil : (i : Int) < (l.length : Int) := by omega
        have hicn : ¬ cap - i = 0 := by omega
        have K : Rw5 (wr.setCells b (i * 5) vs) b (l.filter fun x => !q x) := by
          have h1 := hD.row.setCells i vs
          rw [hD.kept, List.take_length] at h1
          exact h1
        have hfl : (l.filter fun x => !q x).length = i := by
          have h1 := hD.kept
          rw [List.take_length] at h1
          rw [← h1, List.length_take]
          omega
        have HF : Hid ((l.filter fun x => !q x).length = i) := hfl
        have hB2 := below_setCellsP hbb vs (i * 5) wr hD.bel
        have hS2 : b < (wr.setCells b (i * 5) vs).heap.size := by
          have := (below_setCellsP (Nat.le_refl _) vs (i * 5) wr (Below.refl b wr)).size
          have := hD.sz
          omega
        clear hfl hvl hlen
        go_wp2_with fail
        go_ret
        exact ⟨by rw [HF.out]; rfl, K, hB2, hS2⟩
end Go.Proofs.YtmbdojcljgicaaaGreatDoor

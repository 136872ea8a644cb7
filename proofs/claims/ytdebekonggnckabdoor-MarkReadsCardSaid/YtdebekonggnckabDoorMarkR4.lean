/-
  The document's reader: FlatOf.
-/
import Derived.Test.YtdebekonggnckabDoorMarkR3
namespace Go.Proofs.YtdebekonggnckabDoor
open Go.RowKit

/-- What FlatOf tells of a text. -/
def FoR (s : Bs) (e : Ending) (w : World) : Prop := (foT [] (-1) s = none ∧ e = .returned (.tuple #[.slice none 0 0, .agg #[.int .i64 1, .int .i64 (-1)]])) ∨ ∃ L, foT [] (-1) s = some L ∧ (((flF 0 L).1 ≠ 0 ∧ e = .returned (.tuple #[.slice none 0 0, .agg #[.int .i64 (fltM (flF 0 L)).1, .int .i64 (fltM (flF 0 L)).2]])) ∨ ((flF 0 L).1 = 0 ∧ ∃ M g cap, e = .returned (.tuple #[.slice (some ⟨g, 0, none⟩) (List.length M) cap, .agg #[.int .i64 0, .int .i64 (-1)]]) ∧ 0 < M.length ∧ M.length ≤ 10000 ∧ M.length ≤ cap ∧ RowF w g M ∧ FlRs w M L))

/-- FlatOf's ends: its box written, and nothing else of what is told. -/
theorem fo_block {B b : Nat} {wr U : World} (hb : Below wr.heap.size wr U) (h1 : B + 1 ≤ b) (h2 : b < wr.heap.size) (x y : Value) : (((U.setCell ⟨B, 0, none⟩ x).setCell ⟨B, 1, none⟩ y).drew).heap[b]? = wr.heap[b]? := by
  have hne : b ≠ B := by omega
  show (((U.setCell ⟨B, 0, none⟩ x).setCell ⟨B, 1, none⟩ y)).heap[b]? = _
  rw [Below.heap_setCell _ _ _ b hne, Below.heap_setCell _ _ _ b hne]
  exact hb.block b h2
theorem fo_low {w wr U : World} (h : Below w.heap.size w wr) (hb : Below wr.heap.size wr U) (x y : Value) : Below w.heap.size w (((U.setCell ⟨w.heap.size, 0, none⟩ x).setCell ⟨w.heap.size, 1, none⟩ y).drew) :=
  (((h.trans (hb.mono h.size)).setCell (Nat.le_refl _) _).setCell (Nat.le_refl _) _).drew
theorem fo_row {B g : Nat} {wr U : World} {M : List FlM} (h : RowF wr g M) (hb : Below wr.heap.size wr U) (hg : B + 1 ≤ g) (x y : Value) : RowF (((U.setCell ⟨B, 0, none⟩ x).setCell ⟨B, 1, none⟩ y).drew) g M := fun i z hz => by
  obtain ⟨h1, h2, h3, h4⟩ := h i z hz
  have e := fo_block hb hg (cell_lt3 h1) x y
  exact ⟨(World.cell?_of_block e).trans h1, (World.cell?_of_block e).trans h2, (World.cell?_of_block e).trans h3, (World.cell?_of_block e).trans h4⟩
theorem fo_flrs {B : Nat} {P : Nat → Prop} {wr U : World} {M : List FlM} {L : List Fl} (h : FR (fun b => B + 1 ≤ b ∧ P b) wr M L) (hb : Below wr.heap.size wr U) (x y : Value) : FlRs (((U.setCell ⟨B, 0, none⟩ x).setCell ⟨B, 1, none⟩ y).drew) M L :=
  FR.flrs (FR.turn (Q' := fun _ => True) (fun _ hq hlt => ⟨trivial, fo_block hb hq.1 hlt x y⟩) h)

theorem pre32 {c : UInt8} {r : Bs} (h : c ≠ 32) : [32].isPrefixOf (c :: r) = false := by
  have : ((32 : UInt8) == c) = false := by rw [beq_eq_false_iff_ne]; exact fun e => h e.symm
  simp [List.isPrefixOf, this]
theorem pre60 {c : UInt8} {r : Bs} (h : c ≠ 60) : [60].isPrefixOf (c :: r) = false := by
  have : ((60 : UInt8) == c) = false := by rw [beq_eq_false_iff_ne]; exact fun e => h e.symm
  simp [List.isPrefixOf, this]
theorem has_is (s wd : Bs) (a : Nat) (v : Bool) (hs : s.length ≤ 10000) (hw : wd.length ≤ 100000) (ha : a ≤ s.length) (h : Hid (wd.isPrefixOf (s.drop a) = v)) (w : World) : Calls Tryd.prog 43 #[.string ⟨s.toArray⟩, .int .i64 a, .string ⟨wd.toArray⟩] w fun e w' => e = .returned (.bool v) ∧ w' = w := by
  have := has_any s wd a (by omega) hw ha w
  rw [h.out] at this
  exact this

theorem nameAt_is (s : Bs) (k E : Nat) (hs : s.length ≤ 10000) (hk : k ≤ s.length) (hE : Hid (k + (tkE (s.drop k)).length = E)) (w : World) : Calls Tryd.prog 44 #[.string ⟨s.toArray⟩, .int .i64 (k : Int)] w fun e w' => e = .returned (.int .i64 (E : Int)) ∧ w' = w := by
  have := nameAt_any s k (by omega) hk w
  rw [hE.out] at this
  exact this
theorem foS_el0 {L : List Fl} {op : Int} {s : Bs} (h : ¬ (L ≠ [] ∧ op < 0)) (h1 : [60, 47].isPrefixOf s = false) (h2 : [60].isPrefixOf s = true) (h3 : elT s = none) : foS L op s = none := by rw [foS_el h h1 h2, h3]
theorem elT_0 {s : Bs} {k : Nat} (h : tkE (s.drop (k + 1)) = []) : elT (s.drop k) = none := by
  unfold elT
  rw [List.drop_drop, if_pos h]

theorem FB.belX {Z X : Nat} {a b : Value} {w w' : World} (h : FB Z a b w) (hX : w.heap.size = X) (hb : Below X w w') : FB Z a b w' := by subst hX; exact h.bel hb
theorem belX {X : Nat} {w wr w' : World} (h : Below w.heap.size w wr) (hX : wr.heap.size = X) (hb : Below X wr w') : Below w.heap.size w w' := by subst hX; exact mbel h hb
theorem FX.ald {X : Nat} {a b c d : Value} {w : World} (h : FX X a b c d w) (o : Obj) : FX X a b c d ((w.alloc o).drew) := (h.bel (mal w o) : (w.alloc o).heap[X]? = _)
theorem at_fin {X g7 cap7 : Nat} {wn w5 w7 : World} {a c d va : Value} {acc : List (Bs × Bs)} {T2 v : Bs} {o : Obj} (fx5 : FX X a va c d w5) (ow5 : w5.ownsRow (X + 1) 77 2 va acc.length (cellsA acc)) (b5 : Below X wn w5)
    (ow7 : w7.ownsRow (X + 1) 77 2 (.slice (some ⟨g7, 0, none⟩) (acc.length + 1) cap7) (acc.length + 1) (cellsA acc ++ [.string ⟨T2.toArray⟩, .string ⟨v.toArray⟩])) (gr7 : ((w5.alloc o).drew).grownBy w7 va.ownBlock) :
    FX X a (.slice (some ⟨g7, 0, none⟩) (acc.length + 1) cap7) c d (w7.setCell ⟨X, 1, none⟩ (.slice (some ⟨g7, 0, none⟩) (acc.length + 1) cap7)) ∧ (w7.setCell ⟨X, 1, none⟩ (.slice (some ⟨g7, 0, none⟩) (acc.length + 1) cap7)).ownsRow (X + 1) 77 2 (.slice (some ⟨g7, 0, none⟩) (acc.length + 1) cap7) (acc ++ [(T2, v)]).length (cellsA (acc ++ [(T2, v)])) ∧ Below X wn (w7.setCell ⟨X, 1, none⟩ (.slice (some ⟨g7, 0, none⟩) (acc.length + 1) cap7)) := by
  have hX := heap_lt fx5
  have fx7 := FX.grown (fx5.ald o) gr7 (own_ne ow5 (Nat.lt_succ_self X))
  have b7 : Below X wn w7 := ⟨gr7.os.trans b5.os, gr7.tape.trans b5.tape, gr7.output.trans b5.output, Nat.le_trans (Nat.le_trans b5.size (mal w5 o).size) gr7.size, fun k hk => by
    have hk5 : k < w5.heap.size := by omega
    have h1 := gr7.block k (Nat.lt_of_lt_of_le hk5 (mal w5 o).size) (fun e => by have := (ow5.lt k e.symm).1; omega)
    have h2 : (w5.alloc o).drew.heap[k]? = w5.heap[k]? := (mal w5 o).block k hk5
    rw [h1, h2]
    exact b5.block k hk⟩
  refine ⟨fx7.set1 _, ?_, b7.setCell (Nat.le_refl X) _⟩
  rw [cellsA_snoc, List.length_append]
  exact own_keep ow7 (Keep.set X 1 w7 _) (Nat.lt_succ_self X)
theorem lens_snoc {acc : List (Bs × Bs)} {T2 v : Bs} (h : ∀ x ∈ acc, x.1.length ≤ maxLen ∧ x.2.length ≤ maxLen) (h1 : T2.length ≤ 10000) (h2 : v.length ≤ 10000) : ∀ x ∈ acc ++ [(T2, v)], x.1.length ≤ maxLen ∧ x.2.length ≤ maxLen := fun x hx => by
  rcases List.mem_append.1 hx with hx | hx
  · exact h x hx
  · simp at hx
    subst hx
    rw [maxLen_eq]
    simp only
    omega
theorem ownX {B X k n : Nat} {e : TypeId} {v : Value} {xs : List Value} {w w' : World} (h : w.ownsRow B e k v n xs) (hX : w.heap.size = X) (hb : Below X w w') : w'.ownsRow B e k v n xs := by subst hX; exact own_bel h hb
theorem pre47 {r : Bs} (h : [47, 62].isPrefixOf r = true) : [62].isPrefixOf r = false := by
  cases r with
  | nil => rfl
  | cons c r =>
    simp [List.isPrefixOf] at h
    obtain ⟨rfl, -⟩ := h
    rfl
theorem foS_whole {L : List Fl} {op : Int} {s NM r : Bs} {acc : List (Bs × Bs)} (h : ¬ (L ≠ [] ∧ op < 0)) (h1 : [60, 47].isPrefixOf s = false) (h2 : [60].isPrefixOf s = true) (h3 : elT s = some (NM, acc, r)) (h4 : [47, 62].isPrefixOf r = true) : foS L op s = some (L ++ [⟨NM, acc, op, dpO L op⟩], op, r.drop 2) := by
  rw [foS_el h h1 h2, h3]
  simp only
  rw [if_pos h4]
theorem foS_open {L : List Fl} {op : Int} {s NM r : Bs} {acc : List (Bs × Bs)} (h : ¬ (L ≠ [] ∧ op < 0)) (h1 : [60, 47].isPrefixOf s = false) (h2 : [60].isPrefixOf s = true) (h3 : elT s = some (NM, acc, r)) (h4 : [47, 62].isPrefixOf r = false) (h5 : [62].isPrefixOf r = true) : foS L op s = some (L ++ [⟨NM, acc, op, dpO L op⟩], (L.length : Int), r.drop 1) := by
  rw [foS_el h h1 h2, h3]
  simp only
  rw [if_neg (by rw [h4]; simp), if_pos h5]
theorem foS_bad {L : List Fl} {op : Int} {s NM r : Bs} {acc : List (Bs × Bs)} (h : ¬ (L ≠ [] ∧ op < 0)) (h1 : [60, 47].isPrefixOf s = false) (h2 : [60].isPrefixOf s = true) (h3 : elT s = some (NM, acc, r)) (h4 : [47, 62].isPrefixOf r = false) (h5 : [62].isPrefixOf r = false) : foS L op s = none := by
  rw [foS_el h h1 h2, h3]
  simp only
  rw [if_neg (by rw [h4]; simp), if_neg (by rw [h5]; simp)]
theorem fo_fin {w wn wq w7 : World} {X DP : Nat} {vL vA v7 z0 z1 : Value} {M : List FlM} {L : List Fl} {acc : List (Bs × Bs)} {NM : Bs} {op : Int} {o : Obj} (hown : wn.ownsRow (w.heap.size + 1) 80 4 vL M.length (cellsF M)) (hfr : FR (fun b => w.heap.size + 1 ≤ b ∧ vL.ownBlock ≠ some b) wn M L) (hbr : Below w.heap.size w wn) (hzr : FB w.heap.size z0 z1 wn) (hX : wn.heap.size = X) (hbq : Below X wn wq) (hXq : X < wq.heap.size)
    (hoA : wq.ownsRow (X + 1) 77 2 vA acc.length (cellsA acc)) (hal : ∀ x ∈ acc, x.1.length ≤ maxLen ∧ x.2.length ≤ maxLen) (hNl : NM.length ≤ 10000) (ow7 : w7.ownsRow (w.heap.size + 1) 80 4 v7 (M.length + 1) (cellsF M ++ [.string ⟨NM.toArray⟩, vA, .int .i64 op, .int .i64 DP])) (gr7 : (wq.alloc o).grownBy w7 vL.ownBlock) (loc7 : v7.ownBlock = vL.ownBlock ∨ v7.ownBlock = some (wq.alloc o).heap.size) :
    Below w.heap.size w w7 ∧ FB w.heap.size z0 z1 w7 ∧ w7.ownsRow (w.heap.size + 1) 80 4 v7 (M ++ [(⟨NM, vA, op, DP⟩ : FlM)]).length (cellsF (M ++ [⟨NM, vA, op, DP⟩])) ∧ FR (fun b => w.heap.size + 1 ≤ b ∧ v7.ownBlock ≠ some b) w7 (M ++ [⟨NM, vA, op, DP⟩]) (L ++ [⟨NM, acc, op, DP⟩]) := by
  have hzl := heap_lt hzr
  have hsz : (wq.alloc o).heap.size = wq.heap.size + 1 := by simp
  have low : ∀ b, b < X → vL.ownBlock ≠ some b → w7.heap[b]? = wn.heap[b]? := fun b hb hne => by
    have h1 := gr7.block b (by omega) (fun e => hne e.symm)
    have h2 := (mal wq o).block b (by omega)
    exact h1.trans (h2.trans (hbq.block b hb))
  have own0 : ∀ b, b ≤ w.heap.size → vL.ownBlock ≠ some b := fun b hb e => by have := (hown.lt b e).1; omega
  have hz7 : FB w.heap.size z0 z1 w7 := (low _ (by omega) (own0 _ (Nat.le_refl _))).trans hzr
  have b7 : Below w.heap.size w w7 := ⟨gr7.os.trans ((mal wq o).os.trans (hbq.os.trans hbr.os)), gr7.tape.trans ((mal wq o).tape.trans (hbq.tape.trans hbr.tape)), gr7.output.trans ((mal wq o).output.trans (hbq.output.trans hbr.output)), by have := gr7.size; have := hbr.size; have := hbq.size; omega, fun k hk => (low k (by omega) (own0 k (Nat.le_of_lt hk))).trans (hbr.block k hk)⟩
  have lt7 : ∀ b, vA.ownBlock = some b → X + 1 ≤ b ∧ b < wq.heap.size := hoA.lt
  have hoA7 : w7.ownsRow (X + 1) 77 2 vA acc.length (cellsA acc) := (World.ownsRow.alloc hoA o).kept gr7 (by
    cases hv : vA.ownBlock with
    | none => exact .inl rfl
    | some g => exact .inr fun e => by have := (hown.lt g e.symm).2; have := (lt7 g hv).1; omega)
  refine ⟨b7, hz7, ?_, ?_⟩
  · rw [cellsF_snoc, List.length_append]
    exact ow7
  · have t1 : Turn (fun b => w.heap.size + 1 ≤ b ∧ vL.ownBlock ≠ some b) (fun b => w.heap.size + 1 ≤ b ∧ v7.ownBlock ≠ some b) wn w7 := fun b hq hlt => ⟨⟨hq.1, by
      rcases loc7 with e | e
      · rw [e]; exact hq.2
      · rw [e]; intro h; cases h; omega⟩, low b (by omega) hq.2⟩
    have t2 : Turn (fun b => vA.ownBlock = some b) (fun b => w.heap.size + 1 ≤ b ∧ v7.ownBlock ≠ some b) w7 w7 := fun b hb _ => by
      have h1 := lt7 b hb
      refine ⟨⟨by omega, ?_⟩, rfl⟩
      rcases loc7 with e | e
      · rw [e]; intro h; have := (hown.lt b h).2; omega
      · rw [e]; intro h; cases h; omega
    exact FR.snoc (FR.turn t1 hfr) ⟨rfl, (AtsQ.of_row hoA7 hal).turn t2, rfl, rfl, by rw [maxLen_eq]; simp only; omega⟩
theorem elT_A {s NM : Bs} {k K1 : Nat} (hk : k + 1 = K1) (hn : tkE (s.drop K1) = NM) (h0 : NM ≠ []) (ha : rdA ((drE (s.drop K1)).length + 1) (drE (s.drop K1)) = none) : elT (s.drop k) = none := by
  unfold elT
  rw [List.drop_drop, hk, hn, if_neg h0, ha]
theorem elT_B {s NM : Bs} {k K1 : Nat} {acc : List (Bs × Bs)} {r : Bs} (hk : k + 1 = K1) (hn : tkE (s.drop K1) = NM) (h0 : NM ≠ []) (ha : rdA ((drE (s.drop K1)).length + 1) (drE (s.drop K1)) = some (acc, r)) : elT (s.drop k) = some (NM, acc, r) := by
  unfold elT
  rw [List.drop_drop, hk, hn, if_neg h0, ha]

set_option maxRecDepth 20000 in
set_option maxHeartbeats 16000000 in
theorem FlatOf_any (s : Bs) (hs : s.length ≤ 10000) (w : World) : Calls Tryd.prog 21 #[.string ⟨s.toArray⟩] w fun e w' => Below w.heap.size w w' ∧ FoR s e w' := by
  have h1 := strV_size s
  have hs' : ¬ 10000 < (s.length : Int) := by omega
  have zb0 : FB w.heap.size (.int .i64 0) (.int .i64 0) (w.alloc (.cells #[.int .i64 0, .int .i64 0] 44)) := mbox w #[.int .i64 0, .int .i64 0] 44
  have b0 := mal w (.cells #[.int .i64 0, .int .i64 0] 44)
  obtain ⟨i0, hi, hz0, hz1, hz2⟩ := info_parts flatInfo
  obtain ⟨i1, hi1, hy0, hy1, hy2⟩ := info_parts attrInfo
  go_enter Tryd.func21, Tryd.ntmps21
  go_wp2_with fail
  obtain ⟨V, hV⟩ : ∃ V, w.alloc (.cells #[.int .i64 0, .int .i64 0] 44) = V := ⟨_, rfl⟩
  rw [hV] at zb0 b0 ⊢
  clear hV
  go_loopw [4, 5, 6] (fun v yo ya wr => ∃ (M : List FlM) (L : List Fl) (k : Nat) (op : Int), yo = .int .i64 op ∧ ya = .int .i64 k ∧ k ≤ s.length ∧ foT [] (-1) s = foT L op (s.drop k) ∧ wr.ownsRow (w.heap.size + 1) 80 4 v M.length (cellsF M) ∧ FR (fun b => w.heap.size + 1 ≤ b ∧ v.ownBlock ≠ some b) wr M L ∧ Below w.heap.size w wr ∧ FB w.heap.size (.int .i64 0) (.int .i64 0) wr ∧ LOk L op k) (fun _ _ ya _ => s.length - (intOf ya).toNat)
  case atStart => exact ⟨[], [], 0, -1, rfl, rfl, Nat.zero_le _, rfl, World.ownsRow_nil _ _ _ _, trivial, b0, zb0, by refine ⟨Nat.le_refl _, by simp, by decide, by decide⟩⟩
  case round =>
    obtain ⟨M, L, k, op, rfl, rfl, hk, hq, hown, hfr, hbr, hzr, hlo⟩ := hrel
    obtain ⟨oL, cL, rfl⟩ := own_slice2 hown
    have HQ : Hid (foT [] (-1) s = foT L op (s.drop k)) := hq
    have HFR : Hid (FR (fun b => w.heap.size + 1 ≤ b ∧ (Value.slice oL M.length cL).ownBlock ≠ some b) wr M L) := hfr
    have HLO : Hid (LOk L op k) := hlo
    have hML : M.length = L.length := hfr.len
    have hMk : M.length ≤ k := by rw [hML]; exact hlo.1
    have hop1 : -1 ≤ op := hlo.2.2.1
    have hop2 : op < (M.length : Int) := by rw [hML]; exact hlo.2.2.2
    have HML : Hid (M.length = L.length) := hML
    clear hq hfr hlo hML
    by_cases hlt : k < s.length
    · have hlt' : (k : Int) < (s.length : Int) := by omega
      have hlt2 : k < (⟨s.toArray⟩ : ByteArray).size := by rw [h1]; exact hlt
      have hget := bs_get s k hlt2
      obtain ⟨c, hc⟩ : ∃ c, (⟨s.toArray⟩ : ByteArray)[k] = c := ⟨_, rfl⟩
      rw [hc] at hget
      have HD : Hid (s.drop k = c :: s.drop (k + 1)) := drop_get hget
      have hne0 : s.drop k ≠ [] := by rw [HD.out]; simp
      have hb := m_lt255 c
      clear hget
      by_cases hdone : L ≠ [] ∧ op < 0
      · have hm0 : 0 < (M.length : Int) := by
          have : L.length ≠ 0 := fun h => hdone.1 (List.length_eq_zero_iff.1 h)
          have := HML.out
          omega
        have ho0 := hdone.2
        have HNONE : Hid (foT [] (-1) s = none) := (by rw [HQ.out]; exact foT_none hne0 (foS_done hdone) : foT [] (-1) s = none)
        go_wp2_with (first | (go_at_call 42; refine (Bare_any 1 _).mono ?_; rintro e wB ⟨rfl, bB⟩; have zbB := hzr.bel bB; have z0 := zbB.c0; have z1 := zbB.c1; have zf := zbB.froz))
        refine bodyPost_ret (v := .tuple #[.slice none 0 0, .agg #[.int .i64 1, .int .i64 (-1)]]) (by simp [results, Tryd.results21, go_sem, z0, z1]) rfl ⟨?_, .inl ⟨HNONE.out, rfl⟩⟩
        exact (((hbr).trans (bB.mono (hbr).size)).setCell (Nat.le_refl _) _).setCell (Nat.le_refl _) _
      by_cases hopn : op < 0
      · have hL0 : L = [] := by
          by_cases h : L = []
          · exact h
          · exact absurd ⟨h, hopn⟩ hdone
        obtain rfl : op = -1 := by omega
        have hM0 : M.length = 0 := by rw [HML.out, hL0]; rfl
        have hm0 : ¬ 0 < (M.length : Int) := by omega
        clear hM0
        cases hp : [60, 47].isPrefixOf (s.drop k) with
        | true =>
          have HP : Hid ([60, 47].isPrefixOf (s.drop k) = true) := hp
          have HNONE : Hid (foT [] (-1) s = none) := (by clear hp; rw [HQ.out]; exact foT_none hne0 (foS_noOpen hdone HP.out (by decide)) : foT [] (-1) s = none)
          clear hp
          go_wp2_with (first | (go_at_call 43; refine (has_is s [60, 47] k true (by omega) (by decide) (by omega) HP _).mono ?_; rintro e wh ⟨rfl, rfl⟩) | (go_at_call 42; refine (Bare_any 1 _).mono ?_; rintro e wB ⟨rfl, bB⟩; have zbB := hzr.bel bB; have z0 := zbB.c0; have z1 := zbB.c1; have zf := zbB.froz))
          refine bodyPost_ret (v := .tuple #[.slice none 0 0, .agg #[.int .i64 1, .int .i64 (-1)]]) (by simp [results, Tryd.results21, go_sem, z0, z1]) rfl ⟨?_, .inl ⟨HNONE.out, rfl⟩⟩
          exact (((hbr).trans (bB.mono (hbr).size)).setCell (Nat.le_refl _) _).setCell (Nat.le_refl _) _
        | false =>
          have HP : Hid ([60, 47].isPrefixOf (s.drop k) = false) := hp
          clear hp
          by_cases c60 : c = 60
          · skip
            have H60 : Hid ([60].isPrefixOf (s.drop k) = true) := (by rw [HD.out, c60]; simp [List.isPrefixOf] : [60].isPrefixOf (s.drop k) = true)
            subst c60
            obtain ⟨K1, hK1⟩ : ∃ K1, k + 1 = K1 := ⟨_, rfl⟩
            have hk1 : (k : Int) + 1 = (K1 : Int) := by omega
            have HK1 : Hid (k + 1 = K1) := hK1
            have hKs : K1 ≤ s.length := by omega
            obtain ⟨E, hE⟩ : ∃ E, K1 + (tkE (s.drop K1)).length = E := ⟨_, rfl⟩
            have HE : Hid (K1 + (tkE (s.drop K1)).length = E) := hE
            have hkE : K1 ≤ E := by omega
            clear hE hK1
            by_cases hE0 : E = K1
            · have hE1 : ((E : Int) == (K1 : Int)) = true := by rw [beq_iff_eq]; omega
              have H0 : Hid (tkE (s.drop (k + 1)) = []) := (by rw [HK1.out]; exact List.length_eq_zero_iff.1 (by have := HE.out; omega) : tkE (s.drop (k + 1)) = [])
              clear hE0
              have HNONE : Hid (foT [] (-1) s = none) := (by rw [HQ.out]; exact foT_none hne0 (foS_el0 hdone HP.out H60.out (elT_0 H0.out)) : foT [] (-1) s = none)
              go_wp2_with (first | (go_at_call 43; refine (has_is s [60, 47] k false (by omega) (by decide) (by omega) HP _).mono ?_; rintro e wh ⟨rfl, rfl⟩) | (go_at_call 44; refine (nameAt_is s K1 E hs (by omega) HE _).mono ?_; rintro e wn ⟨rfl, rfl⟩) | (go_at_call 42; refine (Bare_any 1 _).mono ?_; rintro e wB ⟨rfl, bB⟩; have zbB := hzr.bel bB; have z0 := zbB.c0; have z1 := zbB.c1; have zf := zbB.froz))
              refine bodyPost_ret (v := .tuple #[.slice none 0 0, .agg #[.int .i64 1, .int .i64 (-1)]]) (by simp [results, Tryd.results21, go_sem, z0, z1]) rfl ⟨?_, .inl ⟨HNONE.out, rfl⟩⟩
              exact (((hbr).trans (bB.mono (hbr).size)).setCell (Nat.le_refl _) _).setCell (Nat.le_refl _) _
            have hE1 : ((E : Int) == (K1 : Int)) = false := by rw [beq_eq_false_iff_ne]; omega
            have hEs : E ≤ s.length := by
              have h5 := tkE_len (s.drop K1)
              have h6 := HE.out
              rw [List.length_drop] at h5
              omega
            clear hE0
            have hle1 : (K1 : Int) ≤ (E : Int) := by omega
            have hle2 : (E : Int) ≤ (s.length : Int) := by omega
            have hle3 : (E : Int) ≤ ((⟨s.toArray⟩ : ByteArray).size : Int) := by rw [h1]; omega
            have hNM : (⟨s.toArray⟩ : ByteArray).extract K1 E = ⟨(tkE (s.drop K1)).toArray⟩ := by
              rw [bs_mid, show E - K1 = (tkE (s.drop K1)).length from by have := HE.out; omega, (tkE_take _).1]
            have HDR : Hid (drE (s.drop K1) = s.drop E) := (by rw [← (tkE_take (s.drop K1)).2, List.drop_drop, HE.out] : drE (s.drop K1) = s.drop E)
            have HNE : Hid (tkE (s.drop K1) ≠ []) := (fun h => by have h5 := HE.out; rw [h] at h5; rw [beq_eq_false_iff_ne] at hE1; simp at h5; omega : tkE (s.drop K1) ≠ [])
            have hNl : (tkE (s.drop K1)).length ≤ 10000 := by
              have h5 := tkE_len (s.drop K1)
              rw [List.length_drop] at h5
              omega
            obtain ⟨NM, hNMe⟩ : ∃ NM, tkE (s.drop K1) = NM := ⟨_, rfl⟩
            have HNM : Hid (tkE (s.drop K1) = NM) := hNMe
            rw [hNMe] at hNM HNE hNl
            clear hNMe
            go_wp2_with (first | (go_at_call 43; refine (has_is s [60, 47] k false (by omega) (by decide) (by omega) HP _).mono ?_; rintro e wh ⟨rfl, rfl⟩) | (go_at_call 44; refine (nameAt_is s K1 E hs (by omega) HE _).mono ?_; rintro e wn ⟨rfl, rfl⟩))
            try rw [hNM]
            have FU : FX wn.heap.size (.string ⟨NM.toArray⟩) (.slice none 0 0) (.int .i64 (-1)) (.int .i64 1) (wn.alloc (.cells #[.string ⟨NM.toArray⟩, .slice none 0 0, .int .i64 (-1), .int .i64 1] 80)) := mbox wn #[.string ⟨NM.toArray⟩, .slice none 0 0, .int .i64 (-1), .int .i64 1] 80
            have bU := mal wn (.cells #[.string ⟨NM.toArray⟩, .slice none 0 0, .int .i64 (-1), .int .i64 1] 80)
            obtain ⟨U, hU⟩ : ∃ U, wn.alloc (.cells #[.string ⟨NM.toArray⟩, .slice none 0 0, .int .i64 (-1), .int .i64 1] 80) = U := ⟨_, rfl⟩
            rw [hU] at FU bU ⊢
            clear hU
            obtain ⟨DP, hDP⟩ : ∃ DP : Nat, dpO L (-1) = DP := ⟨_, rfl⟩
            have hDP1 : (1 : Int) = (DP : Int) := by rw [← hDP]; rfl
            have FU : FX wn.heap.size (.string ⟨NM.toArray⟩) (.slice none 0 0) (.int .i64 (-1)) (.int .i64 DP) U := by rw [← hDP1]; exact FU
            have HDP : Hid (dpO L (-1) = DP) := hDP
            clear hDP hDP1
            obtain ⟨X, hX⟩ : ∃ X, wn.heap.size = X := ⟨_, rfl⟩
            rw [hX] at FU bU ⊢
            have HX : Hid (wn.heap.size = X) := hX
            have hBX : w.heap.size < X := by have := heap_lt hzr; omega
            have hUX := heap_lt FU
            clear hX
            go_loopw [10] (fun yk wq => ∃ (acc : List (Bs × Bs)) (E2 q : Nat) (vA : Value), yk = .int .i64 E2 ∧ E ≤ E2 ∧ E2 ≤ s.length ∧ (s.drop E2).length < q ∧ acc.length ≤ E2 ∧ rdA ((drE (s.drop K1)).length + 1) (drE (s.drop K1)) = preA acc (rdA q (s.drop E2)) ∧ FX X (.string ⟨NM.toArray⟩) vA (.int .i64 (-1)) (.int .i64 DP) wq ∧ wq.ownsRow (X + 1) 77 2 vA acc.length (cellsA acc) ∧ (∀ x ∈ acc, x.1.length ≤ maxLen ∧ x.2.length ≤ maxLen) ∧ Below X wn wq) (fun yk _ => s.length - (intOf yk).toNat)
            case atStart => exact ⟨[], E, (drE (s.drop K1)).length + 1, .slice none 0 0, rfl, Nat.le_refl _, hEs, by rw [HDR.out]; omega, Nat.zero_le _, by rw [preA_nil, HDR.out], FU, World.ownsRow_nil _ _ _ _, by simp, bU⟩
            case round =>
              obtain ⟨acc, E2, q, vA, rfl, hE2, hE2s, hql, haE, hra, hfx, hoA, hal, hbq⟩ := hrel
              obtain ⟨wq, rfl⟩ : ∃ X, X = wr := ⟨_, rfl⟩
              obtain ⟨q, rfl⟩ : ∃ g, q = g + 1 := ⟨q - 1, by omega⟩
              obtain ⟨oA, cA, rfl⟩ := own_slice2 hoA
              have HRA : Hid (rdA ((drE (s.drop K1)).length + 1) (drE (s.drop K1)) = preA acc (rdA (q + 1) (s.drop E2))) := hra
              have HAL : Hid (∀ x ∈ acc, x.1.length ≤ maxLen ∧ x.2.length ≤ maxLen) := hal
              clear hra hal
              have hzq := FB.belX hzr HX.out hbq
              have hbw := belX hbr HX.out hbq
              by_cases hlt3 : E2 < s.length
              · have hlt3' : (E2 : Int) < (s.length : Int) := by omega
                have hlt4 : E2 < (⟨s.toArray⟩ : ByteArray).size := by rw [h1]; exact hlt3
                have hget := bs_get s E2 hlt4
                obtain ⟨c2, hc2⟩ : ∃ c, (⟨s.toArray⟩ : ByteArray)[E2] = c := ⟨_, rfl⟩
                rw [hc2] at hget
                have HD2 : Hid (s.drop E2 = c2 :: s.drop (E2 + 1)) := drop_get hget
                have hb2 := m_lt255 c2
                clear hget
                by_cases c32 : c2 = 32
                · subst c32
                  have H32 : Hid ([32].isPrefixOf (s.drop E2) = true) := (by rw [HD2.out]; simp [List.isPrefixOf] : [32].isPrefixOf (s.drop E2) = true)
                  obtain ⟨K2, hK2⟩ : ∃ K2, E2 + 1 = K2 := ⟨_, rfl⟩
                  have hk2 : (E2 : Int) + 1 = (K2 : Int) := by omega
                  have HD3 : Hid ((s.drop E2).drop 1 = s.drop K2) := (by rw [List.drop_drop, hK2] : (s.drop E2).drop 1 = s.drop K2)
                  have hK2s : K2 ≤ s.length := by omega
                  obtain ⟨N2, hN2⟩ : ∃ N2, K2 + (tkE (s.drop K2)).length = N2 := ⟨_, rfl⟩
                  have HN2 : Hid (K2 + (tkE (s.drop K2)).length = N2) := hN2
                  have hKN : K2 ≤ N2 := by omega
                  have HB : Hid (rdA1 (s.drop K2) = none → rdA ((drE (s.drop K1)).length + 1) (drE (s.drop K1)) = none) := (fun h => by rw [HRA.out, rdA_bad H32.out (by rw [HD3.out]; exact h)]; rfl : rdA1 (s.drop K2) = none → rdA ((drE (s.drop K1)).length + 1) (drE (s.drop K1)) = none)
                  have hE2K : E2 < K2 := by omega
                  clear hN2 hK2
                  have NAME2 := nameAt_is s K2 N2 hs hK2s HN2
                  by_cases hN0 : N2 = K2
                  · have hN1 : ((N2 : Int) == (K2 : Int)) = true := by rw [beq_iff_eq]; omega
                    have H0 : Hid (tkE (s.drop K2) = []) := (List.length_eq_zero_iff.1 (by have := HN2.out; omega) : tkE (s.drop K2) = [])
                    have hNs2 : N2 ≤ s.length := by omega
                    clear hN0
                    have HH : ∀ W, Calls Tryd.prog 43 #[.string ⟨s.toArray⟩, .int .i64 N2, .string ⟨([61, 34] : Bs).toArray⟩] W fun e w' => e = .returned (.bool ([61, 34].isPrefixOf (s.drop N2))) ∧ w' = W := fun W => has_any s [61, 34] N2 (by omega) (by decide) hNs2 W
                    generalize [61, 34].isPrefixOf (s.drop N2) = hv at HH
                    have HNONE : Hid (foT [] (-1) s = none) := (by rw [HQ.out]; exact foT_none hne0 (foS_el0 hdone HP.out H60.out (elT_A HK1.out HNM.out HNE.out (HB.out (rdA1_nil H0.out)))) : foT [] (-1) s = none)
                    go_wp2_with (first | (go_at_call 43; refine (HH _).mono ?_; rintro e wh ⟨rfl, rfl⟩) | (go_at_call 44; refine (NAME2 _).mono ?_; rintro e wn2 ⟨rfl, rfl⟩) | (go_at_call 42; refine (Bare_any 1 _).mono ?_; rintro e wB ⟨rfl, bB⟩; have zbB := hzq.bel bB; have z0 := zbB.c0; have z1 := zbB.c1; have zf := zbB.froz))
                    refine bodyPost_ret (v := .tuple #[.slice none 0 0, .agg #[.int .i64 1, .int .i64 (-1)]]) (by simp [results, Tryd.results21, go_sem, z0, z1]) rfl ⟨?_, .inl ⟨HNONE.out, rfl⟩⟩
                    exact (((hbw).trans (bB.mono (hbw).size)).setCell (Nat.le_refl _) _).setCell (Nat.le_refl _) _
                  have hN1 : ((N2 : Int) == (K2 : Int)) = false := by rw [beq_eq_false_iff_ne]; omega
                  have hNs2 : N2 ≤ s.length := by
                    have h5 := tkE_len (s.drop K2)
                    have h6 := HN2.out
                    rw [List.length_drop] at h5
                    omega
                  have HT0 : Hid (tkE (s.drop K2) ≠ []) := (fun h => hN0 (by have h5 := HN2.out; rw [h] at h5; simp at h5; omega) : tkE (s.drop K2) ≠ [])
                  have HDR2 : Hid (drE (s.drop K2) = s.drop N2) := (by rw [← (tkE_take (s.drop K2)).2, List.drop_drop, HN2.out] : drE (s.drop K2) = s.drop N2)
                  have hle4 : (K2 : Int) ≤ (N2 : Int) := by omega
                  have hle5 : (N2 : Int) ≤ (s.length : Int) := by omega
                  have hle6 : (N2 : Int) ≤ ((⟨s.toArray⟩ : ByteArray).size : Int) := by rw [h1]; omega
                  clear hN0
                  cases hp3 : [61, 34].isPrefixOf (s.drop N2) with
                  | false =>
                    have HP3 : Hid ([61, 34].isPrefixOf (s.drop N2) = false) := hp3
                    clear hp3
                    have HNONE : Hid (foT [] (-1) s = none) := (by rw [HQ.out]; exact foT_none hne0 (foS_el0 hdone HP.out H60.out (elT_A HK1.out HNM.out HNE.out (HB.out (rdA1_q (by rw [HDR2.out]; exact HP3.out))))) : foT [] (-1) s = none)
                    go_wp2_with (first | (go_at_call 43; refine (has_is s [61, 34] N2 false (by omega) (by decide) (by omega) HP3 _).mono ?_; rintro e wh ⟨rfl, rfl⟩) | (go_at_call 44; refine (NAME2 _).mono ?_; rintro e wn2 ⟨rfl, rfl⟩) | (go_at_call 42; refine (Bare_any 1 _).mono ?_; rintro e wB ⟨rfl, bB⟩; have zbB := hzq.bel bB; have z0 := zbB.c0; have z1 := zbB.c1; have zf := zbB.froz))
                    refine bodyPost_ret (v := .tuple #[.slice none 0 0, .agg #[.int .i64 1, .int .i64 (-1)]]) (by simp [results, Tryd.results21, go_sem, z0, z1]) rfl ⟨?_, .inl ⟨HNONE.out, rfl⟩⟩
                    exact (((hbw).trans (bB.mono (hbw).size)).setCell (Nat.le_refl _) _).setCell (Nat.le_refl _) _
                  | true =>
                    have HP3 : Hid ([61, 34].isPrefixOf (s.drop N2) = true) := hp3
                    have hpl := pre_len hp3
                    clear hp3
                    obtain ⟨V2, hV2⟩ : ∃ V2, N2 + 2 = V2 := ⟨_, rfl⟩
                    have hv2 : (N2 : Int) + 2 = (V2 : Int) := by omega
                    have hV2s : V2 ≤ s.length := by rw [List.length_drop] at hpl; simp at hpl; omega
                    have HD4 : Hid ((drE (s.drop K2)).drop 2 = s.drop V2) := (by rw [HDR2.out, List.drop_drop, hV2] : (drE (s.drop K2)).drop 2 = s.drop V2)
                    have hNV : N2 < V2 := by omega
                    clear hpl hV2
                    have VA := valueAt_any s V2 hs hV2s
                    cases hv : rdV ((s.drop V2).length + 1) (s.drop V2) with
                    | none =>
                      have HV : Hid (rdV ((s.drop V2).length + 1) (s.drop V2) = none) := hv
                      have VA1 := fun W => (VA W).mono (R' := fun e w' => Below W.heap.size W w' ∧ e = .returned (.tuple #[.string ⟨#[]⟩, .int .i64 (-1)])) (fun e w' h => ⟨h.1, by
                        rcases h.2 with h2 | ⟨v, z, kk, h2, -⟩
                        · exact h2.2
                        · rw [hv] at h2; exact absurd h2 (by simp)⟩)
                      clear VA hv
                      have HNONE : Hid (foT [] (-1) s = none) := (by rw [HQ.out]; exact foT_none hne0 (foS_el0 hdone HP.out H60.out (elT_A HK1.out HNM.out HNE.out (HB.out (rdA1_v HT0.out (by rw [HDR2.out]; exact HP3.out) (by rw [HD4.out]; exact HV.out))))) : foT [] (-1) s = none)
                      go_wp2_with (first | (go_at_call 45; refine (VA1 _).mono ?_; rintro e w5 ⟨b5, rfl⟩; have hz5 := hzq.bel b5; have hb5 := hbw.trans (b5.mono hbw.size)) | (go_at_call 43; refine (has_is s [61, 34] N2 true (by omega) (by decide) (by omega) HP3 _).mono ?_; rintro e wh ⟨rfl, rfl⟩) | (go_at_call 44; refine (NAME2 _).mono ?_; rintro e wn2 ⟨rfl, rfl⟩) | (go_at_call 42; refine (Bare_any 1 _).mono ?_; rintro e wB ⟨rfl, bB⟩; have zbB := hz5.bel bB; have z0 := zbB.c0; have z1 := zbB.c1; have zf := zbB.froz))
                      refine bodyPost_ret (v := .tuple #[.slice none 0 0, .agg #[.int .i64 1, .int .i64 (-1)]]) (by simp [results, Tryd.results21, go_sem, z0, z1]) rfl ⟨?_, .inl ⟨HNONE.out, rfl⟩⟩
                      exact (((hb5).trans (bB.mono (hb5).size)).setCell (Nat.le_refl _) _).setCell (Nat.le_refl _) _
                    | some qv =>
                      obtain ⟨v, z⟩ := qv
                      have hvl := rdV_len _ _ _ hv
                      simp only [List.length_drop] at hvl
                      have HZ : Hid (rdA ((drE (s.drop K1)).length + 1) (drE (s.drop K1)) = preA (acc ++ [(tkE (s.drop K2), v)]) (rdA q z)) := (by rw [HRA.out, rdA_on H32.out (by rw [HD3.out]; exact rdA1_ok HT0.out (by rw [HDR2.out]; exact HP3.out) (by rw [HD4.out]; exact hv)), preA_app] : rdA ((drE (s.drop K1)).length + 1) (drE (s.drop K1)) = preA (acc ++ [(tkE (s.drop K2), v)]) (rdA q z))
                      have VA1 := fun W => (VA W).mono (R' := fun e w' => Below W.heap.size W w' ∧ ∃ kk : Nat, z = s.drop (kk + 1) ∧ kk < s.length ∧ V2 ≤ kk ∧ e = .returned (.tuple #[.string ⟨v.toArray⟩, .int .i64 kk])) (fun e w' h => ⟨h.1, by
                        rcases h.2 with h2 | ⟨v', z', kk, h2, h3, h4, h5⟩
                        · rw [hv] at h2; exact absurd h2.1 (by simp)
                        · rw [hv] at h2
                          cases h2
                          refine ⟨kk, h3, h4, ?_, h5⟩
                          have h6 : z.length = s.length - (kk + 1) := by rw [h3, List.length_drop]
                          omega⟩)
                      have hNM2 : (⟨s.toArray⟩ : ByteArray).extract K2 N2 = ⟨(tkE (s.drop K2)).toArray⟩ := by
                        rw [bs_mid, show N2 - K2 = (tkE (s.drop K2)).length from by have := HN2.out; omega, (tkE_take _).1]
                      have hT2l : (tkE (s.drop K2)).length ≤ 10000 := by
                        have h5 := tkE_len (s.drop K2)
                        rw [List.length_drop] at h5
                        omega
                      obtain ⟨T2, hT2⟩ : ∃ T2, tkE (s.drop K2) = T2 := ⟨_, rfl⟩
                      rw [hT2] at HZ hNM2 hT2l
                      have hvl' : v.length ≤ 10000 := by omega
                      clear VA hv hvl hT2
                      go_upto_region 35 with (first | (go_at_call 45; refine (VA1 _).mono ?_; rintro e w5 ⟨b5, kk, hzz, hkk, hVk, rfl⟩; have hk0 : ¬ (kk : Int) < 0 := (by omega)) | (go_at_call 43; refine (has_is s [61, 34] N2 true (by omega) (by decide) (by omega) HP3 _).mono ?_; rintro e wh ⟨rfl, rfl⟩) | (go_at_call 44; refine (NAME2 _).mono ?_; rintro e wn2 ⟨rfl, rfl⟩))
                      have HZZ : Hid (z = s.drop (kk + 1)) := hzz
                      clear hzz
                      have fx5 := hfx.bel b5
                      have ow5 := own_bel hoA b5
                      have l5 := heap_lt fx5
                      have x1 := fx5.cell.2.1
                      have x1' := fun o => mcell_al o x1
                      have H0 := mbox w5 #[.string ⟨T2.toArray⟩, .string ⟨v.toArray⟩] 77
                      have hac : acc.length ≤ 10000 := by omega
                      have hw2 : IntKind.i64.wrap (K2 : Int) = (K2 : Int) := IntWalk.i64_in _ (by omega)
                      go_region_law ((refine step_append_lies _ rfl (.tmp 133) (.tmp 141) 37 rfl (X + 1) 77 i1 (.agg #[.string ⟨#[]⟩, .string ⟨#[]⟩]) 2 32 Tryd.underlying37 hi1 hy0 hy1 hy2 rfl (by decide) (.slice oA acc.length cA) acc.length (cellsA acc) rfl (World.ownsRow.alloc ow5 _) ⟨w5.heap.size, 0, none⟩ 1 1 [.string ⟨T2.toArray⟩, .string ⟨v.toArray⟩] rfl rfl (World.news_of_block H0) (fun u hu => by simp at hu; rcases hu with rfl | rfl <;> rfl) (by decide) (by rw [maxLen_eq]; omega) (by omega) (by simp; omega) _ rfl ?_; intro g7 cap7 w7 ow7 gr7 hat7 hlt7; have fx7 := FX.grown (k := gr7) (h := by exact fx5.ald _) (hne := own_ne ow5 (Nat.lt_succ_self X)); have m1 := fx7.cell; have mf := fx7.froz))
                      all_goals (
                        obtain ⟨FIN1, FIN2, FIN3⟩ := at_fin fx5 ow5 (hbq.trans (b5.mono (Nat.le_of_lt (heap_lt hfx)))) ow7 gr7
                        have hne2 : (s.drop (kk + 1)).length < q := by rw [List.length_drop] at hql ⊢; omega
                        go_wp2_with fail
                        go_roundw
                        case rel => exact ⟨acc ++ [(T2, v)], kk + 1, q, _, by go_num, by omega, by omega, hne2, by simp; omega, by rw [HZ.out, HZZ.out], FIN1, FIN2, lens_snoc HAL.out hT2l hvl', FIN3⟩
                        case measure => simp [intOf]; omega)
                · have n32 : ((c2.toNat : Int) == 32) = false := by rw [beq_eq_false_iff_ne]; exact fun h => c32 ((m_eq _ _).2 (h.trans (by decide)))
                  have HE3 : Hid (rdA ((drE (s.drop K1)).length + 1) (drE (s.drop K1)) = some (acc, s.drop E2)) := (by rw [HRA.out, rdA_no (by rw [HD2.out]; exact pre32 c32)]; simp [preA] : rdA ((drE (s.drop K1)).length + 1) (drE (s.drop K1)) = some (acc, s.drop E2))
                  have HEL : Hid (elT (s.drop k) = some (NM, acc, s.drop E2)) := elT_B HK1.out HNM.out HNE.out HE3.out
                  cases hp5 : [47, 62].isPrefixOf (s.drop E2) with
                  | true =>
                    have HP5 : Hid ([47, 62].isPrefixOf (s.drop E2) = true) := hp5
                    have hpl := pre_len hp5
                    have HP6 : Hid ([62].isPrefixOf (s.drop E2) = false) := pre47 hp5
                    have hE5 : E2 + 2 ≤ s.length := by rw [List.length_drop] at hpl; simp at hpl; omega
                    have HNX : Hid (foT [] (-1) s = foT (L ++ [⟨NM, acc, (-1), DP⟩]) (-1) (s.drop (E2 + 2))) := (by rw [HQ.out, foT_step (foS_whole hdone HP.out H60.out HEL.out hp5), HDP.out, List.drop_drop] : foT [] (-1) s = foT (L ++ [⟨NM, acc, (-1), DP⟩]) (-1) (s.drop (E2 + 2)))
                    clear hp5 hpl
                    go_upto_region 39 with (go_at_call 43; refine (has_is s [47, 62] E2 true (by omega) (by decide) (by omega) HP5 _).mono ?_; rintro e wh5 ⟨rfl, rfl⟩)
                    go_upto_region 40 with (go_at_call 43; refine (has_is s [62] E2 false (by omega) (by decide) (by omega) HP6 _).mono ?_; rintro e wh6 ⟨rfl, rfl⟩)
                    obtain ⟨x0, x1, x2, x3⟩ := hfx.cell
                    have lq := heap_lt hfx
                    have hownq := ownX hown HX.out hbq
                    have HB4 := mbox wh6 #[.string ⟨NM.toArray⟩, .slice oA acc.length cA, .int .i64 (-1), .int .i64 DP] 80
                    go_upto_region 41 with (at_builtin; refine wpList_append_own_at _ rfl _ _ 41 rfl (w.heap.size + 1) 80 i0 (.agg #[.string ⟨#[]⟩, .slice none 0 0, .int .i64 0, .int .i64 0]) 4 56 Tryd.underlying41 hi hz0 hz1 hz2 rfl (by decide) _ _ _ rfl (World.ownsRow.alloc hownq _) ⟨wh6.heap.size, 0, none⟩ 1 1 [.string ⟨NM.toArray⟩, .slice oA acc.length cA, .int .i64 (-1), .int .i64 DP] rfl rfl (World.news_of_block HB4) (fun u hu => by simp at hu; rcases hu with rfl | rfl | rfl | rfl <;> rfl) (by rw [maxLen_eq]; omega) (by omega) (by simp; omega) ?_; intro v7 w7 ow7 gr7 _ loc7; obtain ⟨o7, cap7, rfl⟩ := own_slice2 ow7)
                    obtain ⟨F1, F2, F3, F4⟩ := fo_fin hown HFR.out hbr hzr HX.out hbq lq hoA HAL.out hNl ow7 gr7 loc7
                    have HF4 : Hid (FR (fun b => w.heap.size + 1 ≤ b ∧ (Value.slice o7 (M.length + 1) cap7).ownBlock ≠ some b) w7 (M ++ [⟨NM, .slice oA acc.length cA, (-1), DP⟩]) (L ++ [⟨NM, acc, (-1), DP⟩])) := F4
                    clear F4 x0 x1 x2 x3 hownq HB4
                    go_wp2_with fail
                    go_roundw
                    case rel => exact ⟨M ++ [⟨NM, .slice oA acc.length cA, (-1), DP⟩], L ++ [⟨NM, acc, (-1), DP⟩], E2 + 2, (-1), rfl, by go_num, by omega, HNX.out, F3, HF4.out, F1, F2, (by have h := HLO.out.snoc (ats := acc) (op' := (-1)) (k' := E2 + 2) hNl (by omega) (.inl rfl); rw [HDP.out] at h; exact h)⟩
                    case measure => simp [intOf]; omega
                  | false =>
                    have HP5 : Hid ([47, 62].isPrefixOf (s.drop E2) = false) := hp5
                    clear hp5
                    cases hp6 : [62].isPrefixOf (s.drop E2) with
                    | true =>
                      have HP6 : Hid ([62].isPrefixOf (s.drop E2) = true) := hp6
                      have hpl := pre_len hp6
                      have hE5 : E2 + 1 ≤ s.length := by rw [List.length_drop] at hpl; simp at hpl; omega
                      have HNX : Hid (foT [] (-1) s = foT (L ++ [⟨NM, acc, (-1), DP⟩]) (L.length : Int) (s.drop (E2 + 1))) := (by rw [HQ.out, foT_step (foS_open hdone HP.out H60.out HEL.out HP5.out hp6), HDP.out, List.drop_drop] : foT [] (-1) s = foT (L ++ [⟨NM, acc, (-1), DP⟩]) (L.length : Int) (s.drop (E2 + 1)))
                      clear hp6 hpl
                      go_upto_region 39 with (go_at_call 43; refine (has_is s [47, 62] E2 false (by omega) (by decide) (by omega) HP5 _).mono ?_; rintro e wh5 ⟨rfl, rfl⟩)
                      go_upto_region 40 with (go_at_call 43; refine (has_is s [62] E2 true (by omega) (by decide) (by omega) HP6 _).mono ?_; rintro e wh6 ⟨rfl, rfl⟩)
                      obtain ⟨x0, x1, x2, x3⟩ := hfx.cell
                      have lq := heap_lt hfx
                      have hownq := ownX hown HX.out hbq
                      have HB4 := mbox wh6 #[.string ⟨NM.toArray⟩, .slice oA acc.length cA, .int .i64 (-1), .int .i64 DP] 80
                      go_upto_region 41 with (at_builtin; refine wpList_append_own_at _ rfl _ _ 41 rfl (w.heap.size + 1) 80 i0 (.agg #[.string ⟨#[]⟩, .slice none 0 0, .int .i64 0, .int .i64 0]) 4 56 Tryd.underlying41 hi hz0 hz1 hz2 rfl (by decide) _ _ _ rfl (World.ownsRow.alloc hownq _) ⟨wh6.heap.size, 0, none⟩ 1 1 [.string ⟨NM.toArray⟩, .slice oA acc.length cA, .int .i64 (-1), .int .i64 DP] rfl rfl (World.news_of_block HB4) (fun u hu => by simp at hu; rcases hu with rfl | rfl | rfl | rfl <;> rfl) (by rw [maxLen_eq]; omega) (by omega) (by simp; omega) ?_; intro v7 w7 ow7 gr7 _ loc7; obtain ⟨o7, cap7, rfl⟩ := own_slice2 ow7)
                      obtain ⟨F1, F2, F3, F4⟩ := fo_fin hown HFR.out hbr hzr HX.out hbq lq hoA HAL.out hNl ow7 gr7 loc7
                      have HF4 : Hid (FR (fun b => w.heap.size + 1 ≤ b ∧ (Value.slice o7 (M.length + 1) cap7).ownBlock ≠ some b) w7 (M ++ [⟨NM, .slice oA acc.length cA, (-1), DP⟩]) (L ++ [⟨NM, acc, (-1), DP⟩])) := F4
                      clear F4 x0 x1 x2 x3 hownq HB4
                      go_wp2_with fail
                      go_roundw
                      case rel => exact ⟨M ++ [⟨NM, .slice oA acc.length cA, (-1), DP⟩], L ++ [⟨NM, acc, (-1), DP⟩], E2 + 1, (L.length : Int), (by first | (rw [HML.out]; done) | (rw [HML.out]; go_num)), by go_num, by omega, HNX.out, F3, HF4.out, F1, F2, (by have h := HLO.out.snoc (ats := acc) (op' := (L.length : Int)) (k' := E2 + 1) hNl (by omega) (.inr rfl); rw [HDP.out] at h; exact h)⟩
                      case measure => simp [intOf]; omega
                    | false =>
                      have HP6 : Hid ([62].isPrefixOf (s.drop E2) = false) := hp6
                      clear hp6
                      go_upto_region 39 with (go_at_call 43; refine (has_is s [47, 62] E2 false (by omega) (by decide) (by omega) HP5 _).mono ?_; rintro e wh5 ⟨rfl, rfl⟩)
                      go_upto_region 40 with (go_at_call 43; refine (has_is s [62] E2 false (by omega) (by decide) (by omega) HP6 _).mono ?_; rintro e wh6 ⟨rfl, rfl⟩)
                      obtain ⟨x0, x1, x2, x3⟩ := hfx.cell
                      have lq := heap_lt hfx
                      have hownq := ownX hown HX.out hbq
                      have HB4 := mbox wh6 #[.string ⟨NM.toArray⟩, .slice oA acc.length cA, .int .i64 (-1), .int .i64 DP] 80
                      go_upto_region 41 with (at_builtin; refine wpList_append_own_at _ rfl _ _ 41 rfl (w.heap.size + 1) 80 i0 (.agg #[.string ⟨#[]⟩, .slice none 0 0, .int .i64 0, .int .i64 0]) 4 56 Tryd.underlying41 hi hz0 hz1 hz2 rfl (by decide) _ _ _ rfl (World.ownsRow.alloc hownq _) ⟨wh6.heap.size, 0, none⟩ 1 1 [.string ⟨NM.toArray⟩, .slice oA acc.length cA, .int .i64 (-1), .int .i64 DP] rfl rfl (World.news_of_block HB4) (fun u hu => by simp at hu; rcases hu with rfl | rfl | rfl | rfl <;> rfl) (by rw [maxLen_eq]; omega) (by omega) (by simp; omega) ?_; intro v7 w7 ow7 gr7 _ loc7; obtain ⟨o7, cap7, rfl⟩ := own_slice2 ow7)
                      obtain ⟨F1, F2, F3, F4⟩ := fo_fin hown HFR.out hbr hzr HX.out hbq lq hoA HAL.out hNl ow7 gr7 loc7
                      have HF4 : Hid (FR (fun b => w.heap.size + 1 ≤ b ∧ (Value.slice o7 (M.length + 1) cap7).ownBlock ≠ some b) w7 (M ++ [⟨NM, .slice oA acc.length cA, (-1), DP⟩]) (L ++ [⟨NM, acc, (-1), DP⟩])) := F4
                      clear F4 x0 x1 x2 x3 hownq HB4
                      have HNONE : Hid (foT [] (-1) s = none) := (by rw [HQ.out]; exact foT_none hne0 (foS_bad hdone HP.out H60.out HEL.out HP5.out HP6.out) : foT [] (-1) s = none)
                      go_wp2_with (first | (go_at_call 42; refine (Bare_any 1 _).mono ?_; rintro e wB ⟨rfl, bB⟩; have zbB := F2.bel bB; have z0 := zbB.c0; have z1 := zbB.c1; have zf := zbB.froz))
                      refine bodyPost_ret (v := .tuple #[.slice none 0 0, .agg #[.int .i64 1, .int .i64 (-1)]]) (by simp [results, Tryd.results21, go_sem, z0, z1]) rfl ⟨?_, .inl ⟨HNONE.out, rfl⟩⟩
                      exact (((F1).trans (bB.mono (F1).size)).setCell (Nat.le_refl _) _).setCell (Nat.le_refl _) _
              · obtain rfl : E2 = s.length := by omega
                have hge2 : ¬ (s.length : Int) < (s.length : Int) := by omega
                have HE3 : Hid (rdA ((drE (s.drop K1)).length + 1) (drE (s.drop K1)) = some (acc, s.drop s.length)) := (by rw [HRA.out, rdA_no (by rw [List.drop_length]; rfl)]; simp [preA] : rdA ((drE (s.drop K1)).length + 1) (drE (s.drop K1)) = some (acc, s.drop s.length))
                have HEL : Hid (elT (s.drop k) = some (NM, acc, s.drop s.length)) := elT_B HK1.out HNM.out HNE.out HE3.out
                have HP5 : Hid ([47, 62].isPrefixOf (s.drop s.length) = false) := (by rw [List.drop_length]; rfl : [47, 62].isPrefixOf (s.drop s.length) = false)
                have HP6 : Hid ([62].isPrefixOf (s.drop s.length) = false) := (by rw [List.drop_length]; rfl : [62].isPrefixOf (s.drop s.length) = false)
                go_upto_region 39 with (go_at_call 43; refine (has_is s [47, 62] s.length false (by omega) (by decide) (by omega) HP5 _).mono ?_; rintro e wh5 ⟨rfl, rfl⟩)
                go_upto_region 40 with (go_at_call 43; refine (has_is s [62] s.length false (by omega) (by decide) (by omega) HP6 _).mono ?_; rintro e wh6 ⟨rfl, rfl⟩)
                obtain ⟨x0, x1, x2, x3⟩ := hfx.cell
                have lq := heap_lt hfx
                have hownq := ownX hown HX.out hbq
                have HB4 := mbox wh6 #[.string ⟨NM.toArray⟩, .slice oA acc.length cA, .int .i64 (-1), .int .i64 DP] 80
                go_upto_region 41 with (at_builtin; refine wpList_append_own_at _ rfl _ _ 41 rfl (w.heap.size + 1) 80 i0 (.agg #[.string ⟨#[]⟩, .slice none 0 0, .int .i64 0, .int .i64 0]) 4 56 Tryd.underlying41 hi hz0 hz1 hz2 rfl (by decide) _ _ _ rfl (World.ownsRow.alloc hownq _) ⟨wh6.heap.size, 0, none⟩ 1 1 [.string ⟨NM.toArray⟩, .slice oA acc.length cA, .int .i64 (-1), .int .i64 DP] rfl rfl (World.news_of_block HB4) (fun u hu => by simp at hu; rcases hu with rfl | rfl | rfl | rfl <;> rfl) (by rw [maxLen_eq]; omega) (by omega) (by simp; omega) ?_; intro v7 w7 ow7 gr7 _ loc7; obtain ⟨o7, cap7, rfl⟩ := own_slice2 ow7)
                obtain ⟨F1, F2, F3, F4⟩ := fo_fin hown HFR.out hbr hzr HX.out hbq lq hoA HAL.out hNl ow7 gr7 loc7
                have HF4 : Hid (FR (fun b => w.heap.size + 1 ≤ b ∧ (Value.slice o7 (M.length + 1) cap7).ownBlock ≠ some b) w7 (M ++ [⟨NM, .slice oA acc.length cA, (-1), DP⟩]) (L ++ [⟨NM, acc, (-1), DP⟩])) := F4
                clear F4 x0 x1 x2 x3 hownq HB4
                have HNONE : Hid (foT [] (-1) s = none) := (by rw [HQ.out]; exact foT_none hne0 (foS_bad hdone HP.out H60.out HEL.out HP5.out HP6.out) : foT [] (-1) s = none)
                go_wp2_with (first | (go_at_call 42; refine (Bare_any 1 _).mono ?_; rintro e wB ⟨rfl, bB⟩; have zbB := F2.bel bB; have z0 := zbB.c0; have z1 := zbB.c1; have zf := zbB.froz))
                refine bodyPost_ret (v := .tuple #[.slice none 0 0, .agg #[.int .i64 1, .int .i64 (-1)]]) (by simp [results, Tryd.results21, go_sem, z0, z1]) rfl ⟨?_, .inl ⟨HNONE.out, rfl⟩⟩
                exact (((F1).trans (bB.mono (F1).size)).setCell (Nat.le_refl _) _).setCell (Nat.le_refl _) _
          have n60 : ((c.toNat : Int) != 60) = true := bne_iff_ne.2 (fun h => c60 ((m_eq _ _).2 (h.trans (by decide))))
          have HNONE : Hid (foT [] (-1) s = none) := (by rw [HQ.out]; exact foT_none hne0 (foS_byte hdone HP.out (by rw [HD.out]; exact pre60 c60)) : foT [] (-1) s = none)
          go_wp2_with (first | (go_at_call 43; refine (has_is s [60, 47] k false (by omega) (by decide) (by omega) HP _).mono ?_; rintro e wh ⟨rfl, rfl⟩) | (go_at_call 42; refine (Bare_any 1 _).mono ?_; rintro e wB ⟨rfl, bB⟩; have zbB := hzr.bel bB; have z0 := zbB.c0; have z1 := zbB.c1; have zf := zbB.froz))
          refine bodyPost_ret (v := .tuple #[.slice none 0 0, .agg #[.int .i64 1, .int .i64 (-1)]]) (by simp [results, Tryd.results21, go_sem, z0, z1]) rfl ⟨?_, .inl ⟨HNONE.out, rfl⟩⟩
          exact (((hbr).trans (bB.mono (hbr).size)).setCell (Nat.le_refl _) _).setCell (Nat.le_refl _) _
      · obtain ⟨j, rfl⟩ : ∃ j : Nat, op = j := ⟨op.toNat, by omega⟩
        have hj : j < M.length := by omega
        have hm0 : 0 < (M.length : Int) := by omega
        have hM1 : 0 < M.length := by omega
        have hj0 : ¬ (j : Int) < 0 := by omega
        obtain ⟨f, hf, -⟩ := drop_at (l := L) (k := j) (by rw [← HML.out]; exact hj)
        obtain ⟨x, hx, hx0, hx2, hx3⟩ := HFR.out.get hf
        obtain ⟨g, cap, hv, hg, hcap, hrow⟩ := row_of hown hM1
        simp only [Value.slice.injEq, true_and] at hv
        obtain ⟨rfl, rfl⟩ := hv
        obtain ⟨r0, -, r2, r3⟩ := hrow j x hx
        rw [hx0] at r0
        rw [hx2] at r2
        rw [hx3] at r3
        have HF : Hid (L[j]? = some f) := hf
        have HROW : Hid (RowF wr g M) := hrow
        clear hf hx hx0 hx2 hx3 hrow
        cases hp : [60, 47].isPrefixOf (s.drop k) with
        | true =>
          have HP : Hid ([60, 47].isPrefixOf (s.drop k) = true) := hp
          clear hp
          have hfl : f.name.length ≤ 10000 := (HLO.out.2.1 f (List.mem_of_getElem? HF.out)).2.2.2
          obtain ⟨nm, hnm⟩ : ∃ nm, f.name = nm := ⟨_, rfl⟩
          rw [hnm] at r0 hfl
          obtain ⟨T, hT⟩ : ∃ T, ([60, 47] ++ nm ++ [62] : Bs) = T := ⟨_, rfl⟩
          have HT : Hid (endT f.name = T) := (by rw [hnm]; exact hT : endT f.name = T)
          have hTl : T.length = nm.length + 3 := by rw [← hT]; simp
          have hTs := strV_size T
          have sl1 : 2 + nm.length ≤ 9223372036854775807 := by omega
          have sl2 : 2 + nm.length + 1 ≤ 9223372036854775807 := by omega
          clear hnm
          cases hp : T.isPrefixOf (s.drop k) with
          | false =>
            have HP2 : Hid (T.isPrefixOf (s.drop k) = false) := hp
            clear hp
            have HNONE : Hid (foT [] (-1) s = none) := (by rw [HQ.out]; exact foT_none hne0 (foS_other HP.out HF.out (by rw [HT.out]; exact HP2.out)) : foT [] (-1) s = none)
            go_wp2_with (first | (go_at_call 43; rw [cat1, cat1, hT]; refine (has_is s T k false (by omega) (by omega) (by omega) HP2 _).mono ?_; rintro e wh ⟨rfl, rfl⟩) | (go_at_call 43; refine (has_is s [60, 47] k true (by omega) (by decide) (by omega) HP _).mono ?_; rintro e wh ⟨rfl, rfl⟩) | (go_at_call 42; refine (Bare_any 1 _).mono ?_; rintro e wB ⟨rfl, bB⟩; have zbB := hzr.bel bB; have z0 := zbB.c0; have z1 := zbB.c1; have zf := zbB.froz))
            refine bodyPost_ret (v := .tuple #[.slice none 0 0, .agg #[.int .i64 1, .int .i64 (-1)]]) (by simp [results, Tryd.results21, go_sem, z0, z1]) rfl ⟨?_, .inl ⟨HNONE.out, rfl⟩⟩
            exact (((hbr).trans (bB.mono (hbr).size)).setCell (Nat.le_refl _) _).setCell (Nat.le_refl _) _
          | true =>
            have HP2 : Hid (T.isPrefixOf (s.drop k) = true) := hp
            have hkT : k + T.length ≤ s.length := by
              have h5 := (List.isPrefixOf_iff_prefix.1 hp).length_le
              rw [List.length_drop] at h5
              omega
            clear hp
            have HN : Hid (foT [] (-1) s = foT L f.parent (s.drop (k + T.length))) := (by
              rw [HQ.out, foT_step (foS_end HP.out HF.out (by rw [HT.out]; exact HP2.out)), HT.out]
              show foT L f.parent ((s.drop k).drop T.length) = _
              rw [List.drop_drop] : foT [] (-1) s = foT L f.parent (s.drop (k + T.length)))
            have hsum : (k : Int) + (T.length : Int) ≤ 10000 := by omega
            go_wp2_with (first | (go_at_call 43; rw [cat1, cat1, hT]; refine (has_is s T k true (by omega) (by omega) (by omega) HP2 _).mono ?_; rintro e wh ⟨rfl, rfl⟩) | (go_at_call 43; refine (has_is s [60, 47] k true (by omega) (by decide) (by omega) HP _).mono ?_; rintro e wh ⟨rfl, rfl⟩))
            go_roundw
            case rel => exact ⟨M, L, k + T.length, f.parent, rfl, by go_num, hkT, HN.out, hown, HFR.out, hbr, hzr, HLO.out.up HF.out (by omega)⟩
            case measure => simp [intOf]; omega
        | false =>
          have HP : Hid ([60, 47].isPrefixOf (s.drop k) = false) := hp
          clear hp
          by_cases c60 : c = 60
          · skip
            have H60 : Hid ([60].isPrefixOf (s.drop k) = true) := (by rw [HD.out, c60]; simp [List.isPrefixOf] : [60].isPrefixOf (s.drop k) = true)
            subst c60
            obtain ⟨K1, hK1⟩ : ∃ K1, k + 1 = K1 := ⟨_, rfl⟩
            have hk1 : (k : Int) + 1 = (K1 : Int) := by omega
            have HK1 : Hid (k + 1 = K1) := hK1
            have hKs : K1 ≤ s.length := by omega
            obtain ⟨E, hE⟩ : ∃ E, K1 + (tkE (s.drop K1)).length = E := ⟨_, rfl⟩
            have HE : Hid (K1 + (tkE (s.drop K1)).length = E) := hE
            have hkE : K1 ≤ E := by omega
            clear hE hK1
            by_cases hE0 : E = K1
            · have hE1 : ((E : Int) == (K1 : Int)) = true := by rw [beq_iff_eq]; omega
              have H0 : Hid (tkE (s.drop (k + 1)) = []) := (by rw [HK1.out]; exact List.length_eq_zero_iff.1 (by have := HE.out; omega) : tkE (s.drop (k + 1)) = [])
              clear hE0
              have HNONE : Hid (foT [] (-1) s = none) := (by rw [HQ.out]; exact foT_none hne0 (foS_el0 hdone HP.out H60.out (elT_0 H0.out)) : foT [] (-1) s = none)
              go_wp2_with (first | (go_at_call 43; refine (has_is s [60, 47] k false (by omega) (by decide) (by omega) HP _).mono ?_; rintro e wh ⟨rfl, rfl⟩) | (go_at_call 44; refine (nameAt_is s K1 E hs (by omega) HE _).mono ?_; rintro e wn ⟨rfl, rfl⟩) | (go_at_call 42; refine (Bare_any 1 _).mono ?_; rintro e wB ⟨rfl, bB⟩; have zbB := hzr.bel bB; have z0 := zbB.c0; have z1 := zbB.c1; have zf := zbB.froz))
              refine bodyPost_ret (v := .tuple #[.slice none 0 0, .agg #[.int .i64 1, .int .i64 (-1)]]) (by simp [results, Tryd.results21, go_sem, z0, z1]) rfl ⟨?_, .inl ⟨HNONE.out, rfl⟩⟩
              exact (((hbr).trans (bB.mono (hbr).size)).setCell (Nat.le_refl _) _).setCell (Nat.le_refl _) _
            have hE1 : ((E : Int) == (K1 : Int)) = false := by rw [beq_eq_false_iff_ne]; omega
            have hEs : E ≤ s.length := by
              have h5 := tkE_len (s.drop K1)
              have h6 := HE.out
              rw [List.length_drop] at h5
              omega
            clear hE0
            have hle1 : (K1 : Int) ≤ (E : Int) := by omega
            have hle2 : (E : Int) ≤ (s.length : Int) := by omega
            have hle3 : (E : Int) ≤ ((⟨s.toArray⟩ : ByteArray).size : Int) := by rw [h1]; omega
            have hNM : (⟨s.toArray⟩ : ByteArray).extract K1 E = ⟨(tkE (s.drop K1)).toArray⟩ := by
              rw [bs_mid, show E - K1 = (tkE (s.drop K1)).length from by have := HE.out; omega, (tkE_take _).1]
            have HDR : Hid (drE (s.drop K1) = s.drop E) := (by rw [← (tkE_take (s.drop K1)).2, List.drop_drop, HE.out] : drE (s.drop K1) = s.drop E)
            have HNE : Hid (tkE (s.drop K1) ≠ []) := (fun h => by have h5 := HE.out; rw [h] at h5; rw [beq_eq_false_iff_ne] at hE1; simp at h5; omega : tkE (s.drop K1) ≠ [])
            have hNl : (tkE (s.drop K1)).length ≤ 10000 := by
              have h5 := tkE_len (s.drop K1)
              rw [List.length_drop] at h5
              omega
            obtain ⟨NM, hNMe⟩ : ∃ NM, tkE (s.drop K1) = NM := ⟨_, rfl⟩
            have HNM : Hid (tkE (s.drop K1) = NM) := hNMe
            rw [hNMe] at hNM HNE hNl
            clear hNMe
            go_upto_region 26 with (first | (go_at_call 43; refine (has_is s [60, 47] k false (by omega) (by decide) (by omega) HP _).mono ?_; rintro e wh ⟨rfl, rfl⟩) | (go_at_call 44; refine (nameAt_is s K1 E hs (by omega) HE _).mono ?_; rintro e wn ⟨rfl, rfl⟩))
            try rw [hNM]
            have F0 : FX wn.heap.size (.string ⟨NM.toArray⟩) (.slice none 0 0) (.int .i64 j) (.int .i64 1) (wn.alloc (.cells #[.string ⟨NM.toArray⟩, .slice none 0 0, .int .i64 j, .int .i64 1] 80)) := mbox wn #[.string ⟨NM.toArray⟩, .slice none 0 0, .int .i64 j, .int .i64 1] 80
            have b0U := mal wn (.cells #[.string ⟨NM.toArray⟩, .slice none 0 0, .int .i64 j, .int .i64 1] 80)
            have r3' := mcell_al (.cells #[.string ⟨NM.toArray⟩, .slice none 0 0, .int .i64 j, .int .i64 1] 80) r3
            have hfd : f.deep ≤ 10001 := by have := (HLO.out.2.1 f (List.mem_of_getElem? HF.out)).2.2.1; have := HML.out; omega
            have hfd' : (f.deep : Int) ≤ 10001 := by omega
            obtain ⟨U0, hU⟩ : ∃ U, wn.alloc (.cells #[.string ⟨NM.toArray⟩, .slice none 0 0, .int .i64 j, .int .i64 1] 80) = U := ⟨_, rfl⟩
            rw [hU] at F0 b0U r3' ⊢
            clear hU r0 r2 r3
            obtain ⟨x0, x1, x2, x3⟩ := F0.cell
            have xf := F0.froz
            go_wp2_with fail
            have FU := F0.set3 (.int .i64 ((f.deep : Int) + 1))
            have bU := b0U.setCell (p := ⟨wn.heap.size, 3, none⟩) (Nat.le_refl _) (.int .i64 ((f.deep : Int) + 1))
            obtain ⟨U, hU⟩ : ∃ U, U0.setCell ⟨wn.heap.size, 3, none⟩ (.int .i64 ((f.deep : Int) + 1)) = U := ⟨_, rfl⟩
            rw [hU] at FU bU ⊢
            clear hU F0 b0U x0 x1 x2 x3 xf r3'
            obtain ⟨DP, hDP⟩ : ∃ DP : Nat, f.deep + 1 = DP := ⟨_, rfl⟩
            have HDP : Hid (dpO L (j : Int) = DP) := (by unfold dpO; rw [if_neg (by omega)]; simp [HF.out, hDP] : dpO L (j : Int) = DP)
            rw [show (f.deep : Int) + 1 = (DP : Int) from by omega] at FU
            clear hDP hfd hfd'
            obtain ⟨X, hX⟩ : ∃ X, wn.heap.size = X := ⟨_, rfl⟩
            rw [hX] at FU bU ⊢
            have HX : Hid (wn.heap.size = X) := hX
            have hBX : w.heap.size < X := by have := heap_lt hzr; omega
            have hUX := heap_lt FU
            clear hX
            go_loopw [10] (fun yk wq => ∃ (acc : List (Bs × Bs)) (E2 q : Nat) (vA : Value), yk = .int .i64 E2 ∧ E ≤ E2 ∧ E2 ≤ s.length ∧ (s.drop E2).length < q ∧ acc.length ≤ E2 ∧ rdA ((drE (s.drop K1)).length + 1) (drE (s.drop K1)) = preA acc (rdA q (s.drop E2)) ∧ FX X (.string ⟨NM.toArray⟩) vA (.int .i64 (j : Int)) (.int .i64 DP) wq ∧ wq.ownsRow (X + 1) 77 2 vA acc.length (cellsA acc) ∧ (∀ x ∈ acc, x.1.length ≤ maxLen ∧ x.2.length ≤ maxLen) ∧ Below X wn wq) (fun yk _ => s.length - (intOf yk).toNat)
            case atStart => exact ⟨[], E, (drE (s.drop K1)).length + 1, .slice none 0 0, rfl, Nat.le_refl _, hEs, by rw [HDR.out]; omega, Nat.zero_le _, by rw [preA_nil, HDR.out], FU, World.ownsRow_nil _ _ _ _, by simp, bU⟩
            case round =>
              obtain ⟨acc, E2, q, vA, rfl, hE2, hE2s, hql, haE, hra, hfx, hoA, hal, hbq⟩ := hrel
              obtain ⟨wq, rfl⟩ : ∃ X, X = wr := ⟨_, rfl⟩
              obtain ⟨q, rfl⟩ : ∃ g, q = g + 1 := ⟨q - 1, by omega⟩
              obtain ⟨oA, cA, rfl⟩ := own_slice2 hoA
              have HRA : Hid (rdA ((drE (s.drop K1)).length + 1) (drE (s.drop K1)) = preA acc (rdA (q + 1) (s.drop E2))) := hra
              have HAL : Hid (∀ x ∈ acc, x.1.length ≤ maxLen ∧ x.2.length ≤ maxLen) := hal
              clear hra hal
              have hzq := FB.belX hzr HX.out hbq
              have hbw := belX hbr HX.out hbq
              by_cases hlt3 : E2 < s.length
              · have hlt3' : (E2 : Int) < (s.length : Int) := by omega
                have hlt4 : E2 < (⟨s.toArray⟩ : ByteArray).size := by rw [h1]; exact hlt3
                have hget := bs_get s E2 hlt4
                obtain ⟨c2, hc2⟩ : ∃ c, (⟨s.toArray⟩ : ByteArray)[E2] = c := ⟨_, rfl⟩
                rw [hc2] at hget
                have HD2 : Hid (s.drop E2 = c2 :: s.drop (E2 + 1)) := drop_get hget
                have hb2 := m_lt255 c2
                clear hget
                by_cases c32 : c2 = 32
                · subst c32
                  have H32 : Hid ([32].isPrefixOf (s.drop E2) = true) := (by rw [HD2.out]; simp [List.isPrefixOf] : [32].isPrefixOf (s.drop E2) = true)
                  obtain ⟨K2, hK2⟩ : ∃ K2, E2 + 1 = K2 := ⟨_, rfl⟩
                  have hk2 : (E2 : Int) + 1 = (K2 : Int) := by omega
                  have HD3 : Hid ((s.drop E2).drop 1 = s.drop K2) := (by rw [List.drop_drop, hK2] : (s.drop E2).drop 1 = s.drop K2)
                  have hK2s : K2 ≤ s.length := by omega
                  obtain ⟨N2, hN2⟩ : ∃ N2, K2 + (tkE (s.drop K2)).length = N2 := ⟨_, rfl⟩
                  have HN2 : Hid (K2 + (tkE (s.drop K2)).length = N2) := hN2
                  have hKN : K2 ≤ N2 := by omega
                  have HB : Hid (rdA1 (s.drop K2) = none → rdA ((drE (s.drop K1)).length + 1) (drE (s.drop K1)) = none) := (fun h => by rw [HRA.out, rdA_bad H32.out (by rw [HD3.out]; exact h)]; rfl : rdA1 (s.drop K2) = none → rdA ((drE (s.drop K1)).length + 1) (drE (s.drop K1)) = none)
                  have hE2K : E2 < K2 := by omega
                  clear hN2 hK2
                  have NAME2 := nameAt_is s K2 N2 hs hK2s HN2
                  by_cases hN0 : N2 = K2
                  · have hN1 : ((N2 : Int) == (K2 : Int)) = true := by rw [beq_iff_eq]; omega
                    have H0 : Hid (tkE (s.drop K2) = []) := (List.length_eq_zero_iff.1 (by have := HN2.out; omega) : tkE (s.drop K2) = [])
                    have hNs2 : N2 ≤ s.length := by omega
                    clear hN0
                    have HH : ∀ W, Calls Tryd.prog 43 #[.string ⟨s.toArray⟩, .int .i64 N2, .string ⟨([61, 34] : Bs).toArray⟩] W fun e w' => e = .returned (.bool ([61, 34].isPrefixOf (s.drop N2))) ∧ w' = W := fun W => has_any s [61, 34] N2 (by omega) (by decide) hNs2 W
                    generalize [61, 34].isPrefixOf (s.drop N2) = hv at HH
                    have HNONE : Hid (foT [] (-1) s = none) := (by rw [HQ.out]; exact foT_none hne0 (foS_el0 hdone HP.out H60.out (elT_A HK1.out HNM.out HNE.out (HB.out (rdA1_nil H0.out)))) : foT [] (-1) s = none)
                    go_wp2_with (first | (go_at_call 43; refine (HH _).mono ?_; rintro e wh ⟨rfl, rfl⟩) | (go_at_call 44; refine (NAME2 _).mono ?_; rintro e wn2 ⟨rfl, rfl⟩) | (go_at_call 42; refine (Bare_any 1 _).mono ?_; rintro e wB ⟨rfl, bB⟩; have zbB := hzq.bel bB; have z0 := zbB.c0; have z1 := zbB.c1; have zf := zbB.froz))
                    refine bodyPost_ret (v := .tuple #[.slice none 0 0, .agg #[.int .i64 1, .int .i64 (-1)]]) (by simp [results, Tryd.results21, go_sem, z0, z1]) rfl ⟨?_, .inl ⟨HNONE.out, rfl⟩⟩
                    exact (((hbw).trans (bB.mono (hbw).size)).setCell (Nat.le_refl _) _).setCell (Nat.le_refl _) _
                  have hN1 : ((N2 : Int) == (K2 : Int)) = false := by rw [beq_eq_false_iff_ne]; omega
                  have hNs2 : N2 ≤ s.length := by
                    have h5 := tkE_len (s.drop K2)
                    have h6 := HN2.out
                    rw [List.length_drop] at h5
                    omega
                  have HT0 : Hid (tkE (s.drop K2) ≠ []) := (fun h => hN0 (by have h5 := HN2.out; rw [h] at h5; simp at h5; omega) : tkE (s.drop K2) ≠ [])
                  have HDR2 : Hid (drE (s.drop K2) = s.drop N2) := (by rw [← (tkE_take (s.drop K2)).2, List.drop_drop, HN2.out] : drE (s.drop K2) = s.drop N2)
                  have hle4 : (K2 : Int) ≤ (N2 : Int) := by omega
                  have hle5 : (N2 : Int) ≤ (s.length : Int) := by omega
                  have hle6 : (N2 : Int) ≤ ((⟨s.toArray⟩ : ByteArray).size : Int) := by rw [h1]; omega
                  clear hN0
                  cases hp3 : [61, 34].isPrefixOf (s.drop N2) with
                  | false =>
                    have HP3 : Hid ([61, 34].isPrefixOf (s.drop N2) = false) := hp3
                    clear hp3
                    have HNONE : Hid (foT [] (-1) s = none) := (by rw [HQ.out]; exact foT_none hne0 (foS_el0 hdone HP.out H60.out (elT_A HK1.out HNM.out HNE.out (HB.out (rdA1_q (by rw [HDR2.out]; exact HP3.out))))) : foT [] (-1) s = none)
                    go_wp2_with (first | (go_at_call 43; refine (has_is s [61, 34] N2 false (by omega) (by decide) (by omega) HP3 _).mono ?_; rintro e wh ⟨rfl, rfl⟩) | (go_at_call 44; refine (NAME2 _).mono ?_; rintro e wn2 ⟨rfl, rfl⟩) | (go_at_call 42; refine (Bare_any 1 _).mono ?_; rintro e wB ⟨rfl, bB⟩; have zbB := hzq.bel bB; have z0 := zbB.c0; have z1 := zbB.c1; have zf := zbB.froz))
                    refine bodyPost_ret (v := .tuple #[.slice none 0 0, .agg #[.int .i64 1, .int .i64 (-1)]]) (by simp [results, Tryd.results21, go_sem, z0, z1]) rfl ⟨?_, .inl ⟨HNONE.out, rfl⟩⟩
                    exact (((hbw).trans (bB.mono (hbw).size)).setCell (Nat.le_refl _) _).setCell (Nat.le_refl _) _
                  | true =>
                    have HP3 : Hid ([61, 34].isPrefixOf (s.drop N2) = true) := hp3
                    have hpl := pre_len hp3
                    clear hp3
                    obtain ⟨V2, hV2⟩ : ∃ V2, N2 + 2 = V2 := ⟨_, rfl⟩
                    have hv2 : (N2 : Int) + 2 = (V2 : Int) := by omega
                    have hV2s : V2 ≤ s.length := by rw [List.length_drop] at hpl; simp at hpl; omega
                    have HD4 : Hid ((drE (s.drop K2)).drop 2 = s.drop V2) := (by rw [HDR2.out, List.drop_drop, hV2] : (drE (s.drop K2)).drop 2 = s.drop V2)
                    have hNV : N2 < V2 := by omega
                    clear hpl hV2
                    have VA := valueAt_any s V2 hs hV2s
                    cases hv : rdV ((s.drop V2).length + 1) (s.drop V2) with
                    | none =>
                      have HV : Hid (rdV ((s.drop V2).length + 1) (s.drop V2) = none) := hv
                      have VA1 := fun W => (VA W).mono (R' := fun e w' => Below W.heap.size W w' ∧ e = .returned (.tuple #[.string ⟨#[]⟩, .int .i64 (-1)])) (fun e w' h => ⟨h.1, by
                        rcases h.2 with h2 | ⟨v, z, kk, h2, -⟩
                        · exact h2.2
                        · rw [hv] at h2; exact absurd h2 (by simp)⟩)
                      clear VA hv
                      have HNONE : Hid (foT [] (-1) s = none) := (by rw [HQ.out]; exact foT_none hne0 (foS_el0 hdone HP.out H60.out (elT_A HK1.out HNM.out HNE.out (HB.out (rdA1_v HT0.out (by rw [HDR2.out]; exact HP3.out) (by rw [HD4.out]; exact HV.out))))) : foT [] (-1) s = none)
                      go_wp2_with (first | (go_at_call 45; refine (VA1 _).mono ?_; rintro e w5 ⟨b5, rfl⟩; have hz5 := hzq.bel b5; have hb5 := hbw.trans (b5.mono hbw.size)) | (go_at_call 43; refine (has_is s [61, 34] N2 true (by omega) (by decide) (by omega) HP3 _).mono ?_; rintro e wh ⟨rfl, rfl⟩) | (go_at_call 44; refine (NAME2 _).mono ?_; rintro e wn2 ⟨rfl, rfl⟩) | (go_at_call 42; refine (Bare_any 1 _).mono ?_; rintro e wB ⟨rfl, bB⟩; have zbB := hz5.bel bB; have z0 := zbB.c0; have z1 := zbB.c1; have zf := zbB.froz))
                      refine bodyPost_ret (v := .tuple #[.slice none 0 0, .agg #[.int .i64 1, .int .i64 (-1)]]) (by simp [results, Tryd.results21, go_sem, z0, z1]) rfl ⟨?_, .inl ⟨HNONE.out, rfl⟩⟩
                      exact (((hb5).trans (bB.mono (hb5).size)).setCell (Nat.le_refl _) _).setCell (Nat.le_refl _) _
                    | some qv =>
                      obtain ⟨v, z⟩ := qv
                      have hvl := rdV_len _ _ _ hv
                      simp only [List.length_drop] at hvl
                      have HZ : Hid (rdA ((drE (s.drop K1)).length + 1) (drE (s.drop K1)) = preA (acc ++ [(tkE (s.drop K2), v)]) (rdA q z)) := (by rw [HRA.out, rdA_on H32.out (by rw [HD3.out]; exact rdA1_ok HT0.out (by rw [HDR2.out]; exact HP3.out) (by rw [HD4.out]; exact hv)), preA_app] : rdA ((drE (s.drop K1)).length + 1) (drE (s.drop K1)) = preA (acc ++ [(tkE (s.drop K2), v)]) (rdA q z))
                      have VA1 := fun W => (VA W).mono (R' := fun e w' => Below W.heap.size W w' ∧ ∃ kk : Nat, z = s.drop (kk + 1) ∧ kk < s.length ∧ V2 ≤ kk ∧ e = .returned (.tuple #[.string ⟨v.toArray⟩, .int .i64 kk])) (fun e w' h => ⟨h.1, by
                        rcases h.2 with h2 | ⟨v', z', kk, h2, h3, h4, h5⟩
                        · rw [hv] at h2; exact absurd h2.1 (by simp)
                        · rw [hv] at h2
                          cases h2
                          refine ⟨kk, h3, h4, ?_, h5⟩
                          have h6 : z.length = s.length - (kk + 1) := by rw [h3, List.length_drop]
                          omega⟩)
                      have hNM2 : (⟨s.toArray⟩ : ByteArray).extract K2 N2 = ⟨(tkE (s.drop K2)).toArray⟩ := by
                        rw [bs_mid, show N2 - K2 = (tkE (s.drop K2)).length from by have := HN2.out; omega, (tkE_take _).1]
                      have hT2l : (tkE (s.drop K2)).length ≤ 10000 := by
                        have h5 := tkE_len (s.drop K2)
                        rw [List.length_drop] at h5
                        omega
                      obtain ⟨T2, hT2⟩ : ∃ T2, tkE (s.drop K2) = T2 := ⟨_, rfl⟩
                      rw [hT2] at HZ hNM2 hT2l
                      have hvl' : v.length ≤ 10000 := by omega
                      clear VA hv hvl hT2
                      go_upto_region 35 with (first | (go_at_call 45; refine (VA1 _).mono ?_; rintro e w5 ⟨b5, kk, hzz, hkk, hVk, rfl⟩; have hk0 : ¬ (kk : Int) < 0 := (by omega)) | (go_at_call 43; refine (has_is s [61, 34] N2 true (by omega) (by decide) (by omega) HP3 _).mono ?_; rintro e wh ⟨rfl, rfl⟩) | (go_at_call 44; refine (NAME2 _).mono ?_; rintro e wn2 ⟨rfl, rfl⟩))
                      have HZZ : Hid (z = s.drop (kk + 1)) := hzz
                      clear hzz
                      have fx5 := hfx.bel b5
                      have ow5 := own_bel hoA b5
                      have l5 := heap_lt fx5
                      have x1 := fx5.cell.2.1
                      have x1' := fun o => mcell_al o x1
                      have H0 := mbox w5 #[.string ⟨T2.toArray⟩, .string ⟨v.toArray⟩] 77
                      have hac : acc.length ≤ 10000 := by omega
                      have hw2 : IntKind.i64.wrap (K2 : Int) = (K2 : Int) := IntWalk.i64_in _ (by omega)
                      go_region_law ((refine step_append_lies _ rfl (.tmp 133) (.tmp 141) 37 rfl (X + 1) 77 i1 (.agg #[.string ⟨#[]⟩, .string ⟨#[]⟩]) 2 32 Tryd.underlying37 hi1 hy0 hy1 hy2 rfl (by decide) (.slice oA acc.length cA) acc.length (cellsA acc) rfl (World.ownsRow.alloc ow5 _) ⟨w5.heap.size, 0, none⟩ 1 1 [.string ⟨T2.toArray⟩, .string ⟨v.toArray⟩] rfl rfl (World.news_of_block H0) (fun u hu => by simp at hu; rcases hu with rfl | rfl <;> rfl) (by decide) (by rw [maxLen_eq]; omega) (by omega) (by simp; omega) _ rfl ?_; intro g7 cap7 w7 ow7 gr7 hat7 hlt7; have fx7 := FX.grown (k := gr7) (h := by exact fx5.ald _) (hne := own_ne ow5 (Nat.lt_succ_self X)); have m1 := fx7.cell; have mf := fx7.froz))
                      all_goals (
                        obtain ⟨FIN1, FIN2, FIN3⟩ := at_fin fx5 ow5 (hbq.trans (b5.mono (Nat.le_of_lt (heap_lt hfx)))) ow7 gr7
                        have hne2 : (s.drop (kk + 1)).length < q := by rw [List.length_drop] at hql ⊢; omega
                        go_wp2_with fail
                        go_roundw
                        case rel => exact ⟨acc ++ [(T2, v)], kk + 1, q, _, by go_num, by omega, by omega, hne2, by simp; omega, by rw [HZ.out, HZZ.out], FIN1, FIN2, lens_snoc HAL.out hT2l hvl', FIN3⟩
                        case measure => simp [intOf]; omega)
                · have n32 : ((c2.toNat : Int) == 32) = false := by rw [beq_eq_false_iff_ne]; exact fun h => c32 ((m_eq _ _).2 (h.trans (by decide)))
                  have HE3 : Hid (rdA ((drE (s.drop K1)).length + 1) (drE (s.drop K1)) = some (acc, s.drop E2)) := (by rw [HRA.out, rdA_no (by rw [HD2.out]; exact pre32 c32)]; simp [preA] : rdA ((drE (s.drop K1)).length + 1) (drE (s.drop K1)) = some (acc, s.drop E2))
                  have HEL : Hid (elT (s.drop k) = some (NM, acc, s.drop E2)) := elT_B HK1.out HNM.out HNE.out HE3.out
                  cases hp5 : [47, 62].isPrefixOf (s.drop E2) with
                  | true =>
                    have HP5 : Hid ([47, 62].isPrefixOf (s.drop E2) = true) := hp5
                    have hpl := pre_len hp5
                    have HP6 : Hid ([62].isPrefixOf (s.drop E2) = false) := pre47 hp5
                    have hE5 : E2 + 2 ≤ s.length := by rw [List.length_drop] at hpl; simp at hpl; omega
                    have HNX : Hid (foT [] (-1) s = foT (L ++ [⟨NM, acc, (j : Int), DP⟩]) (j : Int) (s.drop (E2 + 2))) := (by rw [HQ.out, foT_step (foS_whole hdone HP.out H60.out HEL.out hp5), HDP.out, List.drop_drop] : foT [] (-1) s = foT (L ++ [⟨NM, acc, (j : Int), DP⟩]) (j : Int) (s.drop (E2 + 2)))
                    clear hp5 hpl
                    go_upto_region 39 with (go_at_call 43; refine (has_is s [47, 62] E2 true (by omega) (by decide) (by omega) HP5 _).mono ?_; rintro e wh5 ⟨rfl, rfl⟩)
                    go_upto_region 40 with (go_at_call 43; refine (has_is s [62] E2 false (by omega) (by decide) (by omega) HP6 _).mono ?_; rintro e wh6 ⟨rfl, rfl⟩)
                    obtain ⟨x0, x1, x2, x3⟩ := hfx.cell
                    have lq := heap_lt hfx
                    have hownq := ownX hown HX.out hbq
                    have HB4 := mbox wh6 #[.string ⟨NM.toArray⟩, .slice oA acc.length cA, .int .i64 (j : Int), .int .i64 DP] 80
                    go_upto_region 41 with (at_builtin; refine wpList_append_own_at _ rfl _ _ 41 rfl (w.heap.size + 1) 80 i0 (.agg #[.string ⟨#[]⟩, .slice none 0 0, .int .i64 0, .int .i64 0]) 4 56 Tryd.underlying41 hi hz0 hz1 hz2 rfl (by decide) _ _ _ rfl (World.ownsRow.alloc hownq _) ⟨wh6.heap.size, 0, none⟩ 1 1 [.string ⟨NM.toArray⟩, .slice oA acc.length cA, .int .i64 (j : Int), .int .i64 DP] rfl rfl (World.news_of_block HB4) (fun u hu => by simp at hu; rcases hu with rfl | rfl | rfl | rfl <;> rfl) (by rw [maxLen_eq]; omega) (by omega) (by simp; omega) ?_; intro v7 w7 ow7 gr7 _ loc7; obtain ⟨o7, cap7, rfl⟩ := own_slice2 ow7)
                    obtain ⟨F1, F2, F3, F4⟩ := fo_fin hown HFR.out hbr hzr HX.out hbq lq hoA HAL.out hNl ow7 gr7 loc7
                    have HF4 : Hid (FR (fun b => w.heap.size + 1 ≤ b ∧ (Value.slice o7 (M.length + 1) cap7).ownBlock ≠ some b) w7 (M ++ [⟨NM, .slice oA acc.length cA, (j : Int), DP⟩]) (L ++ [⟨NM, acc, (j : Int), DP⟩])) := F4
                    clear F4 x0 x1 x2 x3 hownq HB4
                    go_wp2_with fail
                    go_roundw
                    case rel => exact ⟨M ++ [⟨NM, .slice oA acc.length cA, (j : Int), DP⟩], L ++ [⟨NM, acc, (j : Int), DP⟩], E2 + 2, (j : Int), rfl, by go_num, by omega, HNX.out, F3, HF4.out, F1, F2, (by have h := HLO.out.snoc (ats := acc) (op' := (j : Int)) (k' := E2 + 2) hNl (by omega) (.inl rfl); rw [HDP.out] at h; exact h)⟩
                    case measure => simp [intOf]; omega
                  | false =>
                    have HP5 : Hid ([47, 62].isPrefixOf (s.drop E2) = false) := hp5
                    clear hp5
                    cases hp6 : [62].isPrefixOf (s.drop E2) with
                    | true =>
                      have HP6 : Hid ([62].isPrefixOf (s.drop E2) = true) := hp6
                      have hpl := pre_len hp6
                      have hE5 : E2 + 1 ≤ s.length := by rw [List.length_drop] at hpl; simp at hpl; omega
                      have HNX : Hid (foT [] (-1) s = foT (L ++ [⟨NM, acc, (j : Int), DP⟩]) (L.length : Int) (s.drop (E2 + 1))) := (by rw [HQ.out, foT_step (foS_open hdone HP.out H60.out HEL.out HP5.out hp6), HDP.out, List.drop_drop] : foT [] (-1) s = foT (L ++ [⟨NM, acc, (j : Int), DP⟩]) (L.length : Int) (s.drop (E2 + 1)))
                      clear hp6 hpl
                      go_upto_region 39 with (go_at_call 43; refine (has_is s [47, 62] E2 false (by omega) (by decide) (by omega) HP5 _).mono ?_; rintro e wh5 ⟨rfl, rfl⟩)
                      go_upto_region 40 with (go_at_call 43; refine (has_is s [62] E2 true (by omega) (by decide) (by omega) HP6 _).mono ?_; rintro e wh6 ⟨rfl, rfl⟩)
                      obtain ⟨x0, x1, x2, x3⟩ := hfx.cell
                      have lq := heap_lt hfx
                      have hownq := ownX hown HX.out hbq
                      have HB4 := mbox wh6 #[.string ⟨NM.toArray⟩, .slice oA acc.length cA, .int .i64 (j : Int), .int .i64 DP] 80
                      go_upto_region 41 with (at_builtin; refine wpList_append_own_at _ rfl _ _ 41 rfl (w.heap.size + 1) 80 i0 (.agg #[.string ⟨#[]⟩, .slice none 0 0, .int .i64 0, .int .i64 0]) 4 56 Tryd.underlying41 hi hz0 hz1 hz2 rfl (by decide) _ _ _ rfl (World.ownsRow.alloc hownq _) ⟨wh6.heap.size, 0, none⟩ 1 1 [.string ⟨NM.toArray⟩, .slice oA acc.length cA, .int .i64 (j : Int), .int .i64 DP] rfl rfl (World.news_of_block HB4) (fun u hu => by simp at hu; rcases hu with rfl | rfl | rfl | rfl <;> rfl) (by rw [maxLen_eq]; omega) (by omega) (by simp; omega) ?_; intro v7 w7 ow7 gr7 _ loc7; obtain ⟨o7, cap7, rfl⟩ := own_slice2 ow7)
                      obtain ⟨F1, F2, F3, F4⟩ := fo_fin hown HFR.out hbr hzr HX.out hbq lq hoA HAL.out hNl ow7 gr7 loc7
                      have HF4 : Hid (FR (fun b => w.heap.size + 1 ≤ b ∧ (Value.slice o7 (M.length + 1) cap7).ownBlock ≠ some b) w7 (M ++ [⟨NM, .slice oA acc.length cA, (j : Int), DP⟩]) (L ++ [⟨NM, acc, (j : Int), DP⟩])) := F4
                      clear F4 x0 x1 x2 x3 hownq HB4
                      go_wp2_with fail
                      go_roundw
                      case rel => exact ⟨M ++ [⟨NM, .slice oA acc.length cA, (j : Int), DP⟩], L ++ [⟨NM, acc, (j : Int), DP⟩], E2 + 1, (L.length : Int), (by first | (rw [HML.out]; done) | (rw [HML.out]; go_num)), by go_num, by omega, HNX.out, F3, HF4.out, F1, F2, (by have h := HLO.out.snoc (ats := acc) (op' := (L.length : Int)) (k' := E2 + 1) hNl (by omega) (.inr rfl); rw [HDP.out] at h; exact h)⟩
                      case measure => simp [intOf]; omega
                    | false =>
                      have HP6 : Hid ([62].isPrefixOf (s.drop E2) = false) := hp6
                      clear hp6
                      go_upto_region 39 with (go_at_call 43; refine (has_is s [47, 62] E2 false (by omega) (by decide) (by omega) HP5 _).mono ?_; rintro e wh5 ⟨rfl, rfl⟩)
                      go_upto_region 40 with (go_at_call 43; refine (has_is s [62] E2 false (by omega) (by decide) (by omega) HP6 _).mono ?_; rintro e wh6 ⟨rfl, rfl⟩)
                      obtain ⟨x0, x1, x2, x3⟩ := hfx.cell
                      have lq := heap_lt hfx
                      have hownq := ownX hown HX.out hbq
                      have HB4 := mbox wh6 #[.string ⟨NM.toArray⟩, .slice oA acc.length cA, .int .i64 (j : Int), .int .i64 DP] 80
                      go_upto_region 41 with (at_builtin; refine wpList_append_own_at _ rfl _ _ 41 rfl (w.heap.size + 1) 80 i0 (.agg #[.string ⟨#[]⟩, .slice none 0 0, .int .i64 0, .int .i64 0]) 4 56 Tryd.underlying41 hi hz0 hz1 hz2 rfl (by decide) _ _ _ rfl (World.ownsRow.alloc hownq _) ⟨wh6.heap.size, 0, none⟩ 1 1 [.string ⟨NM.toArray⟩, .slice oA acc.length cA, .int .i64 (j : Int), .int .i64 DP] rfl rfl (World.news_of_block HB4) (fun u hu => by simp at hu; rcases hu with rfl | rfl | rfl | rfl <;> rfl) (by rw [maxLen_eq]; omega) (by omega) (by simp; omega) ?_; intro v7 w7 ow7 gr7 _ loc7; obtain ⟨o7, cap7, rfl⟩ := own_slice2 ow7)
                      obtain ⟨F1, F2, F3, F4⟩ := fo_fin hown HFR.out hbr hzr HX.out hbq lq hoA HAL.out hNl ow7 gr7 loc7
                      have HF4 : Hid (FR (fun b => w.heap.size + 1 ≤ b ∧ (Value.slice o7 (M.length + 1) cap7).ownBlock ≠ some b) w7 (M ++ [⟨NM, .slice oA acc.length cA, (j : Int), DP⟩]) (L ++ [⟨NM, acc, (j : Int), DP⟩])) := F4
                      clear F4 x0 x1 x2 x3 hownq HB4
                      have HNONE : Hid (foT [] (-1) s = none) := (by rw [HQ.out]; exact foT_none hne0 (foS_bad hdone HP.out H60.out HEL.out HP5.out HP6.out) : foT [] (-1) s = none)
                      go_wp2_with (first | (go_at_call 42; refine (Bare_any 1 _).mono ?_; rintro e wB ⟨rfl, bB⟩; have zbB := F2.bel bB; have z0 := zbB.c0; have z1 := zbB.c1; have zf := zbB.froz))
                      refine bodyPost_ret (v := .tuple #[.slice none 0 0, .agg #[.int .i64 1, .int .i64 (-1)]]) (by simp [results, Tryd.results21, go_sem, z0, z1]) rfl ⟨?_, .inl ⟨HNONE.out, rfl⟩⟩
                      exact (((F1).trans (bB.mono (F1).size)).setCell (Nat.le_refl _) _).setCell (Nat.le_refl _) _
              · obtain rfl : E2 = s.length := by omega
                have hge2 : ¬ (s.length : Int) < (s.length : Int) := by omega
                have HE3 : Hid (rdA ((drE (s.drop K1)).length + 1) (drE (s.drop K1)) = some (acc, s.drop s.length)) := (by rw [HRA.out, rdA_no (by rw [List.drop_length]; rfl)]; simp [preA] : rdA ((drE (s.drop K1)).length + 1) (drE (s.drop K1)) = some (acc, s.drop s.length))
                have HEL : Hid (elT (s.drop k) = some (NM, acc, s.drop s.length)) := elT_B HK1.out HNM.out HNE.out HE3.out
                have HP5 : Hid ([47, 62].isPrefixOf (s.drop s.length) = false) := (by rw [List.drop_length]; rfl : [47, 62].isPrefixOf (s.drop s.length) = false)
                have HP6 : Hid ([62].isPrefixOf (s.drop s.length) = false) := (by rw [List.drop_length]; rfl : [62].isPrefixOf (s.drop s.length) = false)
                go_upto_region 39 with (go_at_call 43; refine (has_is s [47, 62] s.length false (by omega) (by decide) (by omega) HP5 _).mono ?_; rintro e wh5 ⟨rfl, rfl⟩)
                go_upto_region 40 with (go_at_call 43; refine (has_is s [62] s.length false (by omega) (by decide) (by omega) HP6 _).mono ?_; rintro e wh6 ⟨rfl, rfl⟩)
                obtain ⟨x0, x1, x2, x3⟩ := hfx.cell
                have lq := heap_lt hfx
                have hownq := ownX hown HX.out hbq
                have HB4 := mbox wh6 #[.string ⟨NM.toArray⟩, .slice oA acc.length cA, .int .i64 (j : Int), .int .i64 DP] 80
                go_upto_region 41 with (at_builtin; refine wpList_append_own_at _ rfl _ _ 41 rfl (w.heap.size + 1) 80 i0 (.agg #[.string ⟨#[]⟩, .slice none 0 0, .int .i64 0, .int .i64 0]) 4 56 Tryd.underlying41 hi hz0 hz1 hz2 rfl (by decide) _ _ _ rfl (World.ownsRow.alloc hownq _) ⟨wh6.heap.size, 0, none⟩ 1 1 [.string ⟨NM.toArray⟩, .slice oA acc.length cA, .int .i64 (j : Int), .int .i64 DP] rfl rfl (World.news_of_block HB4) (fun u hu => by simp at hu; rcases hu with rfl | rfl | rfl | rfl <;> rfl) (by rw [maxLen_eq]; omega) (by omega) (by simp; omega) ?_; intro v7 w7 ow7 gr7 _ loc7; obtain ⟨o7, cap7, rfl⟩ := own_slice2 ow7)
                obtain ⟨F1, F2, F3, F4⟩ := fo_fin hown HFR.out hbr hzr HX.out hbq lq hoA HAL.out hNl ow7 gr7 loc7
                have HF4 : Hid (FR (fun b => w.heap.size + 1 ≤ b ∧ (Value.slice o7 (M.length + 1) cap7).ownBlock ≠ some b) w7 (M ++ [⟨NM, .slice oA acc.length cA, (j : Int), DP⟩]) (L ++ [⟨NM, acc, (j : Int), DP⟩])) := F4
                clear F4 x0 x1 x2 x3 hownq HB4
                have HNONE : Hid (foT [] (-1) s = none) := (by rw [HQ.out]; exact foT_none hne0 (foS_bad hdone HP.out H60.out HEL.out HP5.out HP6.out) : foT [] (-1) s = none)
                go_wp2_with (first | (go_at_call 42; refine (Bare_any 1 _).mono ?_; rintro e wB ⟨rfl, bB⟩; have zbB := F2.bel bB; have z0 := zbB.c0; have z1 := zbB.c1; have zf := zbB.froz))
                refine bodyPost_ret (v := .tuple #[.slice none 0 0, .agg #[.int .i64 1, .int .i64 (-1)]]) (by simp [results, Tryd.results21, go_sem, z0, z1]) rfl ⟨?_, .inl ⟨HNONE.out, rfl⟩⟩
                exact (((F1).trans (bB.mono (F1).size)).setCell (Nat.le_refl _) _).setCell (Nat.le_refl _) _
          have n60 : ((c.toNat : Int) != 60) = true := bne_iff_ne.2 (fun h => c60 ((m_eq _ _).2 (h.trans (by decide))))
          have HNONE : Hid (foT [] (-1) s = none) := (by rw [HQ.out]; exact foT_none hne0 (foS_byte hdone HP.out (by rw [HD.out]; exact pre60 c60)) : foT [] (-1) s = none)
          go_wp2_with (first | (go_at_call 43; refine (has_is s [60, 47] k false (by omega) (by decide) (by omega) HP _).mono ?_; rintro e wh ⟨rfl, rfl⟩) | (go_at_call 42; refine (Bare_any 1 _).mono ?_; rintro e wB ⟨rfl, bB⟩; have zbB := hzr.bel bB; have z0 := zbB.c0; have z1 := zbB.c1; have zf := zbB.froz))
          refine bodyPost_ret (v := .tuple #[.slice none 0 0, .agg #[.int .i64 1, .int .i64 (-1)]]) (by simp [results, Tryd.results21, go_sem, z0, z1]) rfl ⟨?_, .inl ⟨HNONE.out, rfl⟩⟩
          exact (((hbr).trans (bB.mono (hbr).size)).setCell (Nat.le_refl _) _).setCell (Nat.le_refl _) _
    · obtain rfl : k = s.length := by omega
      have HE : Hid (foT [] (-1) s = if L = [] ∨ 0 ≤ op then none else some L) := (by rw [HQ.out, List.drop_length]; exact foT_nil L op : foT [] (-1) s = if L = [] ∨ 0 ≤ op then none else some L)
      have hge : ¬ (s.length : Int) < (s.length : Int) := by omega
      by_cases hL0 : L = []
      · have hM0 : M.length = 0 := by rw [HML.out, hL0]; rfl
        have hm0 : ((M.length : Int) == 0) = true := by rw [hM0]; rfl
        have HNONE : Hid (foT [] (-1) s = none) := (by rw [HE.out, if_pos (.inl hL0)] : foT [] (-1) s = none)
        go_wp2_with (first | (go_at_call 42; refine (Bare_any 1 _).mono ?_; rintro e wB ⟨rfl, bB⟩; have zbB := hzr.bel bB; have z0 := zbB.c0; have z1 := zbB.c1; have zf := zbB.froz))
        refine bodyPost_ret (v := .tuple #[.slice none 0 0, .agg #[.int .i64 1, .int .i64 (-1)]]) (by simp [results, Tryd.results21, go_sem, z0, z1]) rfl ⟨?_, .inl ⟨HNONE.out, rfl⟩⟩
        exact (((hbr).trans (bB.mono (hbr).size)).setCell (Nat.le_refl _) _).setCell (Nat.le_refl _) _
      have hM1 : 0 < M.length := by
        have : L.length ≠ 0 := fun h => hL0 (List.length_eq_zero_iff.1 h)
        have := HML.out
        omega
      have hm0 : ((M.length : Int) == 0) = false := by rw [beq_eq_false_iff_ne]; omega
      by_cases hop0 : 0 ≤ op
      · skip
        have HNONE : Hid (foT [] (-1) s = none) := (by rw [HE.out, if_pos (.inr hop0)] : foT [] (-1) s = none)
        go_wp2_with (first | (go_at_call 42; refine (Bare_any 1 _).mono ?_; rintro e wB ⟨rfl, bB⟩; have zbB := hzr.bel bB; have z0 := zbB.c0; have z1 := zbB.c1; have zf := zbB.froz))
        refine bodyPost_ret (v := .tuple #[.slice none 0 0, .agg #[.int .i64 1, .int .i64 (-1)]]) (by simp [results, Tryd.results21, go_sem, z0, z1]) rfl ⟨?_, .inl ⟨HNONE.out, rfl⟩⟩
        exact (((hbr).trans (bB.mono (hbr).size)).setCell (Nat.le_refl _) _).setCell (Nat.le_refl _) _
      have hop3 : ¬ 0 ≤ op := hop0
      have HS : Hid (foT [] (-1) s = some L) := (by rw [HE.out, if_neg (by rintro (h | h) <;> contradiction)] : foT [] (-1) s = some L)
      obtain ⟨g, cap, hv, hg, hcap, hrow⟩ := row_of hown hM1
      simp only [Value.slice.injEq, true_and] at hv
      obtain ⟨rfl, rfl⟩ := hv
      have hfl := HFR.out.flrs
      have FF := FlatFault_any wr M g cL L wr (Below.refl _ _) hrow hcap (by omega) hfl
      have hc0 : ((flF 0 L).1 = 0 → fltM (flF 0 L) = (0, -1)) ∧ ((flF 0 L).1 ≠ 0 → 0 < (fltM (flF 0 L)).1) := by
        unfold fltM
        constructor
        · intro h; rw [if_pos h]
        · intro h; rw [if_neg h]; show (0 : Int) < ((flF 0 L).1 : Int); omega
      have HROW : Hid (RowF wr g M ∧ FlRs wr M L) := ⟨hrow, hfl⟩
      clear hrow hfl
      by_cases hz : (flF 0 L).1 = 0
      · rw [hc0.1 hz] at FF
        simp only at FF
        have HZ : Hid ((flF 0 L).1 = 0) := hz
        clear hc0 hz
        go_upto_region 52 with (go_at_call 13; refine FF.mono ?_; rintro e w1 ⟨b1, rfl⟩; have y0 := mnew w1 #[.int .i64 0, .int .i64 (-1)] 44 0 (.int .i64 0) rfl)
        have F1 : FB w1.heap.size (.int .i64 0) (.int .i64 (-1)) (w1.alloc (.cells #[.int .i64 0, .int .i64 (-1)] 44)) := mbox w1 #[.int .i64 0, .int .i64 (-1)] 44
        have bU := mbel b1 (mal w1 (.cells #[.int .i64 0, .int .i64 (-1)] 44))
        obtain ⟨U, hU⟩ : ∃ U, w1.alloc (.cells #[.int .i64 0, .int .i64 (-1)] 44) = U := ⟨_, rfl⟩
        obtain ⟨F, hF⟩ : ∃ F, w1.heap.size = F := ⟨_, rfl⟩
        rw [hU] at F1 bU ⊢
        rw [hF] at F1 ⊢
        have hFZ : w.heap.size < F := by have := b1.size; have := heap_lt hzr; omega
        clear hU hF y0
        have zbU := hzr.bel bU
        have z0 := zbU.c0
        have z1 := zbU.c1
        have zf := zbU.froz
        have y0 := F1.c0
        have y1 := F1.c1
        have q1 : ¬ w.heap.size = F := by omega
        have q2 : ¬ F = w.heap.size := by omega
        go_region
        all_goals go_wp2_with fail
        all_goals refine bodyPost_ret (v := .tuple #[.slice (some ⟨g, 0, none⟩) M.length cL, .agg #[.int .i64 0, .int .i64 (-1)]]) (by simp [results, Tryd.results21, go_sem, z0, z1]) rfl ⟨fo_low hbr bU _ _, .inr ⟨L, HS.out, .inr ⟨HZ.out, M, g, cL, rfl, hM1, by omega, hcap, fo_row HROW.out.1 bU hg _ _, fo_flrs HFR.out bU _ _⟩⟩⟩
      · have hp0 := hc0.2 hz
        have HZ : Hid ((flF 0 L).1 ≠ 0) := hz
        clear hc0 hz
        obtain ⟨p1, hp1⟩ : ∃ p, (fltM (flF 0 L)).1 = p := ⟨_, rfl⟩
        obtain ⟨p2, hp2⟩ : ∃ p, (fltM (flF 0 L)).2 = p := ⟨_, rfl⟩
        have HP : Hid ((fltM (flF 0 L)).1 = p1 ∧ (fltM (flF 0 L)).2 = p2) := ⟨hp1, hp2⟩
        rw [hp1] at hp0
        simp only [hp1, hp2] at FF
        clear hp1 hp2
        go_upto_region 51 with (go_at_call 13; refine FF.mono ?_; rintro e w1 ⟨b1, rfl⟩; have y0 := mnew w1 #[.int .i64 p1, .int .i64 p2] 44 0 (.int .i64 p1) rfl)
        have F1 : FB w1.heap.size (.int .i64 p1) (.int .i64 p2) (w1.alloc (.cells #[.int .i64 p1, .int .i64 p2] 44)) := mbox w1 #[.int .i64 p1, .int .i64 p2] 44
        have bU := mbel b1 (mal w1 (.cells #[.int .i64 p1, .int .i64 p2] 44))
        obtain ⟨U, hU⟩ : ∃ U, w1.alloc (.cells #[.int .i64 p1, .int .i64 p2] 44) = U := ⟨_, rfl⟩
        obtain ⟨F, hF⟩ : ∃ F, w1.heap.size = F := ⟨_, rfl⟩
        rw [hU] at F1 bU ⊢
        rw [hF] at F1 ⊢
        have hFZ : w.heap.size < F := by have := b1.size; have := heap_lt hzr; omega
        clear hU hF y0
        have zbU := hzr.bel bU
        have z0 := zbU.c0
        have z1 := zbU.c1
        have zf := zbU.froz
        have y0 := F1.c0
        have y1 := F1.c1
        have q1 : ¬ w.heap.size = F := by omega
        have q2 : ¬ F = w.heap.size := by omega
        go_region
        all_goals go_wp2_with fail
        all_goals refine bodyPost_ret (v := .tuple #[.slice none 0 0, .agg #[.int .i64 p1, .int .i64 p2]]) (by simp [results, Tryd.results21, go_sem, z0, z1]) rfl ⟨fo_low hbr bU _ _, .inr ⟨L, HS.out, .inl ⟨HZ.out, by rw [HP.out.1, HP.out.2]⟩⟩⟩

end Go.Proofs.YtdebekonggnckabDoor

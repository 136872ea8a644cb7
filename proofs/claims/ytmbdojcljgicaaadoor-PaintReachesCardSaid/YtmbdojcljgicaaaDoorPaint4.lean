/-
  Package paint: what is shown at a point: the pieces from the last one on.
-/
import Derived.Test.YtmbdojcljgicaaaDoorPaint3
import Derived.Test.YtmbdojcljgicaaaDoorShape8
namespace Go.Proofs.YtmbdojcljgicaaaDoor
open Go.RowKit Go.Shelf

attribute [local go_sem] Oper.semAt_some

/-- A piece that comes, with its number. -/
structure BkI (w0 : World) where
  ix : Nat
  x : P5
  hp : PtsAt w0 x.o x.s.pts
  ok : okPm x.s
abbrev bkV {w0 : World} (e : BkI w0) : Array Value := #[.int .i64 e.ix, p5V e.x]
theorem bk_ex (w0 : World) (l : List P5) (hP : PtsOf w0 l) (hk : ∀ x ∈ l, okPm x.s) : ∀ n, n ≤ l.length → ∃ xs : List (BkI w0), xs.length = n ∧ xs.map (·.x) = (l.take n).reverse ∧ ∀ k e, xs[k]? = some e → e.ix = n - 1 - k
  | 0, _ => ⟨[], rfl, rfl, fun k e h => by simp at h⟩
  | n + 1, hn => by
    obtain ⟨xs, h1, h2, h3⟩ := bk_ex w0 l hP hk n (by omega)
    have hl : l[n]? = some l[n] := List.getElem?_eq_getElem (by omega)
    have hm : l[n] ∈ l := List.getElem_mem _
    refine ⟨⟨n, l[n], hP _ hm, hk _ hm⟩ :: xs, by simp [h1], ?_, fun k e h => ?_⟩
    · rw [List.map_cons, h2]
      have e : l.take (n + 1) = l.take n ++ [l[n]] := take_suc l n (by omega)
      rw [e, List.reverse_append]
      rfl
    · cases k with
      | zero => simp at h; rw [← h]; simp
      | succ k => have := h3 k e (by simpa using h); omega
/-- The blocks that are read. -/
def bkT (Bs : Nat) (o : Option Addr) (l : List P5) (k : Nat) : Prop := k = Bs ∨ (l ≠ [] ∧ ∃ off, o = some ⟨k, off, none⟩)
theorem P5sAt.kept {w w' : World} {o : Option Addr} {l : List P5} {Bs : Nat} (h : P5sAt w o l) (hk : KpS (bkT Bs o l) w w') : P5sAt w' o l := fun i a ha => by
  obtain ⟨b, off, h1, c0, c1, c2, c3, c4⟩ := h i a ha
  have hb := hk b (.inr ⟨by rintro rfl; simp at ha, off, h1⟩)
  exact ⟨b, off, h1, (cell_of_heap (p := ⟨b, _, none⟩) hb).trans c0, (cell_of_heap (p := ⟨b, _, none⟩) hb).trans c1, (cell_of_heap (p := ⟨b, _, none⟩) hb).trans c2, (cell_of_heap (p := ⟨b, _, none⟩) hb).trans c3, (cell_of_heap (p := ⟨b, _, none⟩) hb).trans c4⟩

set_option maxRecDepth 100000 in
set_option maxHeartbeats 8000000 in
theorem back_seq (l : List P5) (w0 : World) (xs : List (BkI w0)) (hxl : xs.length = l.length) (hxs : xs.map (·.x) = l.reverse) (hix : ∀ k e, xs[k]? = some e → e.ix = l.length - 1 - k) (hl : l.length ≤ 1000) (o : Option Addr) (cap n Bs : Nat) (hB : w0.heap[Bs]? = some (.cells #[.slice o l.length cap] 32)) (hP : P5sAt w0 o l) :
    SeqStopsK Fence.wide n Tryd.prog 48 #[.pointer (some ⟨Bs, 0, none⟩)] bkV (KpS (bkT Bs o l)) (fun ys => ys = xs) (fun p => p <+: xs) xs.length w0 := by
  intro L J Jx W hW hJ hJx hY h0
  have hBl : Bs < w0.heap.size := (Array.getElem?_eq_some_iff.1 hB).1
  have hBW : W.heap[Bs]? = some (.cells #[.slice o l.length cap] 32) := (hW.block Bs hBl).trans hB
  have c0 : W.cell? ⟨Bs, 0, none⟩ = some (.slice o l.length cap) := by simp [World.cell?, hBW]
  have hPW := hP.below hW (Nat.le_refl _)
  refine callsIn_of_wp Tryd.func48 rfl trivial ?_ rfl
  simp only [Tryd.ntmps48, List.size_toArray, List.length_cons, List.length_nil, Nat.reduceAdd, Nat.reduceSub, Array.replicate_succ, Array.replicate_zero, List.push_toArray, List.append_toArray, List.nil_append, List.cons_append]
  gi_wp2
  gi_loopw [3] (fun i wr => ∃ k : Nat, k ≤ l.length ∧ i = .int .i64 ((l.length : Int) - 1 - k) ∧ J (xs.take k) wr ∧ KpS (bkT Bs o l) W wr) (fun i _ => (intOf i + 1).toNat)
  case atStart => exact ⟨0, Nat.zero_le _, by simp, h0, KpS.refl _⟩
  case round =>
    obtain ⟨k, hk, rfl, hJs, hnx⟩ := hrel
    by_cases hlt : k < l.length
    · have hkx : k < xs.length := by omega
      obtain ⟨x, hxk⟩ : ∃ x, xs[k]? = some x := ⟨_, List.getElem?_eq_getElem hkx⟩
      have hi := hix k x hxk
      have hge : l[l.length - 1 - k]? = some x.x := by
        have h1 : (xs.map (·.x))[k]? = some x.x := by rw [List.getElem?_map, hxk]; rfl
        rw [hxs, List.getElem?_reverse hlt] at h1
        exact h1
      have hts : xs.take (k + 1) = xs.take k ++ [x] := by rw [List.take_add_one, hxk]; rfl
      have hpl : (xs.take k).length < xs.length := by rw [List.length_take]; omega
      obtain ⟨j, hj⟩ : ∃ j : Nat, l.length - 1 - k = j := ⟨_, rfl⟩
      rw [hj] at hi hge
      have hjz : (l.length : Int) - 1 - k = (j : Int) := by omega
      have hjl : j < l.length := by omega
      have hjl' : (j : Int) < (l.length : Int) := by omega
      obtain ⟨bb, off, ho, q0, q1, q2, q3, q4⟩ := hPW.kept hnx j x.x hge
      have cB := (cell_of_heap (p := ⟨Bs, 0, none⟩) (hnx Bs (.inl rfl))).trans c0
      subst ho
      obtain ⟨fn, tmps, assign, body, hy, hR⟩ := hY (xs.take k) x wr hJs hpl
      have HTS : Hid (xs.take (k + 1) = xs.take k ++ [x]) := hts
      have HJ : Hid (j + k + 1 = l.length) := (by omega : j + k + 1 = l.length)
      rw [hjz]
      unfold bkV at hy
      rw [hi] at hy
      clear hts hpl hge hi hj hxk hjz
      gi_wp2
      refine ⟨(fun h => by cases h), hR.mono ?_⟩
      rintro e W3 (⟨rfl, hJ3, hk3⟩ | ⟨rfl, hJx3⟩)
      · gi_wp2
        go_roundw
        case rel => exact ⟨k + 1, by omega, by have := HJ.out; congr 1; omega, by rw [HTS.out]; exact hJ3, hnx.trans hk3⟩
        case measure => simp [intOf]
      · gi_wp2
        refine bodyPost_ret (results_none rfl _ _ _) rfl ?_
        exact ⟨⟨_, rfl⟩, .inr ⟨_, by rw [← HTS.out]; exact List.take_prefix _ _, hJx3⟩⟩
    · obtain rfl : k = l.length := by omega
      have hz : (l.length : Int) - 1 - (l.length : Nat) = -1 := by omega
      rw [hz]
      gi_wp2
      go_end0
      exact ⟨⟨_, rfl⟩, .inl ⟨_, by rw [List.take_of_length_le (by omega)], hJs⟩⟩
theorem backward_pcs (o : Option Addr) (n c : Nat) (W : World) : Calls Tryd.prog 34 #[.slice o n c] W fun e w' => e = .returned (.func (.func 48) #[] #[.pointer (some ⟨W.heap.size, 0, none⟩)]) ∧ w' = W.alloc (.cells #[.slice o n c] 32) := by
  go_enter Tryd.func34, Tryd.ntmps34
  go_wp2
  go_ret
  exact ⟨rfl, rfl⟩
/-- What the round holds. -/
structure ShI (p : Qt) (B1 B2 N : Nat) (W : World) : Prop where
  f : Four W B1 (.int .i64 p.xn) (.int .i64 p.xd) (.int .i64 p.yn) (.int .i64 p.yd)
  r : W.heap[B2]? = some (.cells #[.string ⟨#[]⟩] 9)
  sz : N ≤ W.heap.size
theorem ShI.below {p : Qt} {B1 B2 N : Nat} {A B : World} (h : ShI p B1 B2 N A) (hb : Below A.heap.size A B) : ShI p B1 B2 N B :=
  ⟨h.f.below hb (Nat.le_refl _), (hb.block _ (Array.getElem?_eq_some_iff.1 h.r).1).trans h.r, Nat.le_trans h.sz hb.size⟩
theorem blk_ownS {A C : World} {row : Option Nat} {U k : Nat} {o : Obj} (h : A.heap[k]? = some o) (hk : k < U) (hg : A.grownBy C row) (hr : ∀ r, row = some r → U ≤ r ∧ ∃ o : Obj, A.heap[r]? = some o ∧ o.isCells = false) : C.heap[k]? = some o :=
  (hg.block k (Array.getElem?_eq_some_iff.1 h).1 (fun e => by have := (hr k e.symm).1; omega)).trans h
theorem set_oneS {w : World} {b : Nat} {v : Value} {t : TypeId} (h : w.heap[b]? = some (.cells #[v] t)) (u : Value) : (w.setCell ⟨b, 0, none⟩ u).heap[b]? = some (.cells #[u] t) := by
  rw [heap_setCell_same w b 0 _ _ _ h]
  rfl
theorem cell_oneS {w : World} {b : Nat} {v : Value} {t : TypeId} (h : w.heap[b]? = some (.cells #[v] t)) : w.cell? ⟨b, 0, none⟩ = some v := by simp [World.cell?, h]
theorem froz_oneS {w : World} {b : Nat} {v : Value} {t : TypeId} (h : w.heap[b]? = some (.cells #[v] t)) : w.frozen? ⟨b, 0, none⟩ = false := by
  unfold World.frozen?
  rw [h]
  simp
/-- None of these holds the point. -/
def noneH {w0 : World} (p : Qt) (pre : List (BkI w0)) : Prop := ∀ e ∈ pre, holdB e.x.s.pts e.x.s.rule p = false
theorem noneH.snoc {w0 : World} {p : Qt} {pre : List (BkI w0)} {e : BkI w0} (h : noneH p pre) (he : holdB e.x.s.pts e.x.s.rule p = false) : noneH p (pre ++ [e]) := fun x hx => by
  rcases List.mem_append.1 hx with hx | hx
  · exact h x hx
  · simp at hx
    subst hx
    exact he
theorem noneH.pm {w0 : World} {p : Qt} {pre : List (BkI w0)} (h : noneH p pre) : ∀ s ∈ pre.map (·.x.s), holdB s.pts s.rule p = false := fun s hs => by
  obtain ⟨e, he, rfl⟩ := List.mem_map.1 hs
  exact h e he

set_option maxRecDepth 100000 in
set_option maxHeartbeats 8000000 in
theorem shownAt_in (aB aS aZ aV : Addr) (l : List P5) (o : Option Addr) (cap : Nat) (p : Qt) (w : World) (hl : l.length ≤ 1000) (h : P5sAt w o l) (hP : PtsOf w l) (hk : ∀ x ∈ l, okPm x.s) (hp : PI p) (hpe : errP p = 0) (hE : EP aB aS aZ aV w) :
    CallsIn Fence.wide 9 Tryd.prog 26 #[.slice o l.length cap, qtV p] w fun e W => e = .returned (.string (shownM (sP l) p)) ∧ Below w.heap.size w W := by
  refine callsIn_of_wp_marks Tryd.func26 rfl trivial ?_ rfl
  simp only [Tryd.ntmps26, List.size_toArray, List.length_cons, List.length_nil, Nat.reduceAdd, Nat.reduceSub, Array.replicate_succ, Array.replicate_zero, List.push_toArray, List.append_toArray, List.nil_append, List.cons_append]
  gi_wp2
  obtain ⟨U, hU⟩ : ∃ U, (w.alloc (.cells #[.int .i64 p.xn, .int .i64 p.xd, .int .i64 p.yn, .int .i64 p.yd] 54)).alloc (.cells #[.string ⟨#[]⟩] 9) = U := ⟨_, rfl⟩
  have F0 := Four.new w (.int .i64 p.xn) (.int .i64 p.xd) (.int .i64 p.yn) (.int .i64 p.yd) 54
  have b0 := mbelow w (.cells #[.int .i64 p.xn, .int .i64 p.xd, .int .i64 p.yn, .int .i64 p.yd] 54)
  have b1 := mbelow (w.alloc (.cells #[.int .i64 p.xn, .int .i64 p.xd, .int .i64 p.yn, .int .i64 p.yd] 54)) (.cells #[.string ⟨#[]⟩] 9)
  have r1 := World.alloc_heap_new (w.alloc (.cells #[.int .i64 p.xn, .int .i64 p.xd, .int .i64 p.yn, .int .i64 p.yd] 54)) (.cells #[.string ⟨#[]⟩] 9)
  have F1 := F0.below b1 (Nat.le_refl _)
  rw [show (w.alloc (.cells #[.int .i64 p.xn, .int .i64 p.xd, .int .i64 p.yn, .int .i64 p.yd] 54)).heap.size = w.heap.size + 1 from by simp] at r1
  have bU := bel_more b0 b1
  rw [hU] at F1 r1 bU
  rw [hU]
  clear hU F0 b0 b1
  refine ⟨trivial, (callsIn_wide.2 (backward_pcs o l.length cap U)).mono ?_⟩
  rintro e w3 ⟨rfl, hw3⟩
  have b3 := mbelow U (.cells #[.slice o l.length cap] 32)
  have hX : w3.heap[U.heap.size]? = some (.cells #[.slice o l.length cap] 32) := by rw [hw3]; exact World.alloc_heap_new U _
  rw [← hw3] at b3
  clear hw3
  have bw3 := bel_more bU b3
  have hlt3 : U.heap.size < w3.heap.size := (Array.getElem?_eq_some_iff.1 hX).1
  have hP3 := hP.below bw3 (Nat.le_refl _)
  have h3 := h.below bw3 (Nat.le_refl _)
  have hE3 := hE.below bw3 (Nat.le_refl _)
  obtain ⟨xs, hx1, hx2, hx3⟩ := bk_ex w3 l hP3 hk l.length (Nat.le_refl _)
  rw [List.take_length] at hx2
  have hUs : w.heap.size + 1 < U.heap.size := (Array.getElem?_eq_some_iff.1 r1).1
  have hT3 : ∀ k, bkT U.heap.size o l k → k < w3.heap.size ∧ k ≠ w.heap.size + 1 := fun k hk => by
    rcases hk with rfl | ⟨hne, off, ho⟩
    · exact ⟨hlt3, by omega⟩
    · cases l with
      | nil => exact absurd rfl hne
      | cons a l =>
        obtain ⟨b, off', e1, h2⟩ := h 0 a rfl
        rw [ho] at e1
        cases e1
        have hk := cell_lt h2.c0
        simp at hk
        exact ⟨by have := bw3.size; omega, by omega⟩
  have I0' : ShI p w.heap.size (w.heap.size + 1) 0 w3 := ShI.below ⟨F1, r1, Nat.zero_le _⟩ b3
  have I0 : ShI p w.heap.size (w.heap.size + 1) w3.heap.size w3 := ⟨I0'.f, I0'.r, Nat.le_refl _⟩
  have hmap : xs.map (·.x.s) = (sP l).reverse := by
    have : (xs.map (·.x)).map (·.s) = (l.reverse).map (·.s) := by rw [hx2]
    rw [List.map_map] at this
    rw [sP, ← List.map_reverse, ← this]
    rfl
  have HM : Hid (xs.map (·.x.s) = (sP l).reverse) := hmap
  have hseq := back_seq l w3 xs hx1 hx2 hx3 hl o cap (9 - 1) U.heap.size hX h3
  clear I0' hx1 hx2 hx3 hmap F1 r1
  gi_wp2
  refine wpIn_rangeFunc_ownH rfl (by omega) (gf := 48) (lb := #[.pointer (some ⟨U.heap.size, 0, none⟩)]) rfl trivial (enters_of Tryd.func48 (by kernel_rfl) rfl)
    hseq KpS.trans (KpS.put (fun k hk => (hT3 k hk).1)) (Below.refl _ _) (fun _ => rfl)
    (fun pre W => ShI p w.heap.size (w.heap.size + 1) w3.heap.size W ∧ Below w.heap.size w W ∧ Below w3.heap.size w3 W ∧ noneH p pre)
    (fun c pre W => c = .ret ∧ ∃ pre0 e, pre = pre0 ++ [e] ∧ noneH p pre0 ∧ holdB e.x.s.pts e.x.s.rule p = true ∧ W.heap[w.heap.size + 1]? = some (.cells #[.string e.x.s.fill] 9) ∧ Below w.heap.size w W)
    ?own ?ownx
    ⟨I0, bw3, Below.refl _ _, fun e he => by cases he⟩
    (fun x a' W => ∃ Bx, P5C W Bx 0 x.x ∧ a' = { tmps := #[.slice o l.length cap, qtV p, undef, .pointer (some ⟨w.heap.size, 0, none⟩), .pointer (some ⟨w.heap.size + 1, 0, none⟩), undef, .pointer (some ⟨Bx, 0, none⟩), undef, undef, .slice o l.length cap, .func (.func 48) #[] #[.pointer (some ⟨U.heap.size, 0, none⟩)], .int .i64 x.ix, p5V x.x, undef, undef, undef, undef, undef, undef, undef, undef, undef, undef, undef, undef], defers := [] })
    ?ownax
    ?assign ?body ?done ?stop
  case own =>
    intro pre A B row hs hg hr
    obtain ⟨hI, hB, hB3, hn⟩ := hs
    have hr' : ∀ r, row = some r → ∃ o : Obj, A.heap[r]? = some o ∧ o.isCells = false := fun r e => (hr r e).2
    refine ⟨⟨hI.f.kept' hg hr', blk_ownS hI.r (by omega) hg hr, Nat.le_trans hI.sz hg.size⟩, ?_, ?_, hn⟩
    · exact ⟨hg.os.trans hB.os, hg.tape.trans hB.tape, hg.output.trans hB.output, Nat.le_trans hB.size hg.size, fun k hk => (hg.block k (Nat.lt_of_lt_of_le hk hB.size) (fun e => by have := (hr k e.symm).1; omega)).trans (hB.block k hk)⟩
    · exact ⟨hg.os.trans hB3.os, hg.tape.trans hB3.tape, hg.output.trans hB3.output, Nat.le_trans hB3.size hg.size, fun k hk => (hg.block k (Nat.lt_of_lt_of_le hk hB3.size) (fun e => by have := (hr k e.symm).1; omega)).trans (hB3.block k hk)⟩
  case ownx =>
    intro c pre A B row hs hg hr
    obtain ⟨hc, pre0, e, h1, h2, h3', h4, hB⟩ := hs
    exact ⟨hc, pre0, e, h1, h2, h3', blk_ownS h4 (by omega) hg hr, ⟨hg.os.trans hB.os, hg.tape.trans hB.tape, hg.output.trans hB.output, Nat.le_trans hB.size hg.size, fun k hk => (hg.block k (Nat.lt_of_lt_of_le hk hB.size) (fun e => by have := (hr k e.symm).1; omega)).trans (hB.block k hk)⟩⟩
  case ownax =>
    intro x a' s A B row hs hg hr
    obtain ⟨Bx, hC, ha⟩ := hs
    have hr' : ∀ r, row = some r → ∃ o : Obj, A.heap[r]? = some o ∧ o.isCells = false := fun r e => (hr r e).2
    exact ⟨Bx, ⟨cell_kept hC.c0 hg hr', cell_kept hC.c1 hg hr', cell_kept hC.c2 hg hr', cell_kept hC.c3 hg hr', cell_kept hC.c4 hg hr'⟩, ha⟩
  case assign =>
    rintro L pre x W K ⟨hI, hB, hB3, hn⟩ hK
    gi_wp2
    have k1 := mbelow W (.cells (p5A x.x) 42)
    exact hK _ _ ((KeepsOthers.alloc _ _).from _) (KpS.of_below k1 (fun j hj => by have h1 := (hT3 j hj).1; have h2 := hI.sz; omega)) ⟨hI.below k1, bel_more hB k1, bel_more hB3 k1, hn⟩ ⟨W.heap.size, P5C.new W x.x 42, rfl⟩
  case body =>
    rintro L pre x a' W hl' hr ⟨hI, hB, hB3, hn⟩ ⟨Bx, ⟨x0, x1, x2, x3, x4⟩, rfl⟩ hlt
    have HO := Holds_ok aB aS aZ aV x.x.s.pts x.x.o x.x.cap p x.x.s.rule W (x.hp.below hB3 (Nat.le_refl _)) hp (hE3.below hB3 (Nat.le_refl _)) x.ok.1 hpe x.ok.2
    obtain ⟨⟨z0, z1, z2, z3⟩, hr0, hsz⟩ := id hI
    have cr := cell_oneS hr0
    have fr := froz_oneS hr0
    have HI : Hid (ShI p w.heap.size (w.heap.size + 1) w3.heap.size W) := hI
    clear hI hr0
    cases hh : holdB x.x.s.pts x.x.s.rule p with
    | false =>
      rw [hh] at HO
      have HH : Hid (holdB x.x.s.pts x.x.s.rule p = false) := hh
      clear hh
      gi_wp2_with (refine ⟨trivial, ?_⟩; gi_at_call 31; refine (CallsIn.inRound L (callsIn_wide.2 HO)).mono ?_; rintro e w' ⟨rfl, hb⟩)
      exact ⟨(below_othS hb).from _, KpS.of_below hb (fun j hj => by have h1 := (hT3 j hj).1; omega), HI.out.below hb, bel_more hB hb, bel_more hB3 hb, hn.snoc HH.out⟩
    | true =>
      rw [hh] at HO
      have HH : Hid (holdB x.x.s.pts x.x.s.rule p = true) := hh
      clear hh
      gi_wp2_with (refine ⟨trivial, ?_⟩; gi_at_call 31; refine (CallsIn.inRound L (callsIn_wide.2 HO)).mono ?_; rintro e w' ⟨rfl, hb⟩; have cr' := (hb.cell (cell_lt cr)).trans cr; have fr' := (hb.frozen (cell_lt cr)).trans fr; have x2' := (hb.cell (cell_lt x2)).trans x2)
      have hI' := HI.out.below hb
      exact ⟨((below_othS hb).trans (KeepsOthers.setCell _ _ _)).from _, rfl, pre, x, rfl, hn, HH.out, set_oneS hI'.r _, (bel_more hB hb).setCell (by simp) _⟩
  case done =>
    rintro D ys W hD rfl ⟨hI, hB, hB3, hn⟩ hK
    have hr0 := hI.r
    have cr := cell_oneS hr0
    have fr := froz_oneS hr0
    have hsh : shownM (sP l) p = bDot := by
      unfold shownM
      rw [← HM.out]
      exact shownR_none _ _ hn.pm
    gi_wp2
    have hK' := (KeepsOthers.setCell W ⟨w.heap.size + 1, 0, none⟩ (.string ⟨#[46]⟩)).same D _ hK rfl
    refine ⟨by simp, .inl ⟨_, _, rfl, run_takeDeferred hK', ?_⟩⟩
    have hr2 := set_oneS hr0 (.string ⟨#[46]⟩)
    have hr3 := (World.putObj_heap_other (w := W.setCell ⟨w.heap.size + 1, 0, none⟩ (.string ⟨#[46]⟩)) (o := .deferred none) (show w.heap.size + 1 ≠ D by omega)).trans hr2
    have oc := cell_oneS hr3
    refine ⟨.string ⟨#[46]⟩, ?_, by rw [hsh]; rfl, (hB.setCell (by simp) _).trans (belowK_b (w := w) (Nat.le_refl _) _ D _ _ (by have := bw3.size; omega) hK' rfl rfl)⟩
    simp [results, Tryd.results26, go_sem, oc]
  case stop =>
    rintro D c pre W hD hpre ⟨rfl, pre0, e, rfl, hn, hh, hr0, hB⟩ hK
    have hsh : shownM (sP l) p = e.x.s.fill := by
      unfold shownM
      obtain ⟨rest, hrest⟩ := hpre
      rw [← HM.out, ← hrest, List.map_append, List.map_append, List.append_assoc]
      exact shownR_hit _ _ _ _ hn.pm hh
    gi_wp2
    refine ⟨by simp, .inl ⟨_, _, rfl, run_takeDeferred hK, ?_⟩⟩
    have hr3 := (World.putObj_heap_other (w := W) (o := .deferred none) (show w.heap.size + 1 ≠ D by omega)).trans hr0
    have oc := cell_oneS hr3
    refine ⟨.string e.x.s.fill, ?_, by rw [hsh], hB.trans (belowK_b (w := w) (Nat.le_refl _) W D _ _ (by have := bw3.size; omega) hK rfl rfl)⟩
    simp [results, Tryd.results26, go_sem, oc]
theorem shownAt_any (aB aS aZ aV : Addr) (l : List P5) (o : Option Addr) (cap : Nat) (p : Qt) (w : World) (hl : l.length ≤ 1000) (h : P5sAt w o l) (hP : PtsOf w l) (hk : ∀ x ∈ l, okPm x.s) (hp : PI p) (hpe : errP p = 0) (hE : EP aB aS aZ aV w) :
    Calls Tryd.prog 26 #[.slice o l.length cap, qtV p] w fun e W => e = .returned (.string (shownM (sP l) p)) ∧ Below w.heap.size w W := callsIn_wide.1 (shownAt_in aB aS aZ aV l o cap p w hl h hP hk hp hpe hE)
end Go.Proofs.YtmbdojcljgicaaaDoor

/-
  The walk of package shape's around: how often a shape goes around a point, and how many edges are crossed.
-/
import Derived.Test.YtmbdojcljgicaaaGreatDoorShape7
namespace Go.Proofs.YtmbdojcljgicaaaGreatDoor
open Go.RowKit Go.Shelf

attribute [local go_sem] Oper.semAt_some

/-- the sum of the squares -/
def sq (p : Qt) (a b : Qt) : Int := turnI p a b * turnI p a b
/-- What around answers. -/
def AroundR (l : List Qt) (p : Qt) (e : Ending) : Prop :=
  (okSh l ∧ errP p = 0 ∧ e = .returned (.tuple #[.int .i64 (windE (turnI p) l), .int .i64 (windE (sq p) l), .nilIface])) ∨
  (¬ (okSh l ∧ errP p = 0) ∧ ∃ v, ErrV v ∧ e = .returned (.tuple #[.int .i64 0, .int .i64 0, v]))
theorem edges_any (o : Option Addr) (k cap : Nat) (w : World) : Calls Tryz.prog 70 #[.agg #[.slice o k cap]] w fun e w' => e = .returned (.func (.func 84) #[] #[.pointer (some ⟨w.heap.size, 0, none⟩)]) ∧ w' = w.alloc (.cells #[.slice o k cap] 41) := by
  go_enter Tryz.func70, Tryz.ntmps70
  go_wp2
  go_ret
  exact ⟨rfl, rfl⟩
theorem cell_onew (W : World) (v : Value) (t : TypeId) : (W.alloc (.cells #[v] t)).cell? ⟨W.heap.size, 0, none⟩ = some v ∧ (W.alloc (.cells #[v] t)).frozen? ⟨W.heap.size, 0, none⟩ = false := ⟨by simp, by simp⟩
theorem four_boxes (w : World) (v a b c d x y : Value) (t t' t'' t3 : TypeId) :
    ∀ U, (((w.alloc (.cells #[v] t)).alloc (.cells #[a, b, c, d] t')).alloc (.cells #[x] t'')).alloc (.cells #[y] t3) = U →
    U.cell? ⟨w.heap.size, 0, none⟩ = some v ∧ Four U (w.heap.size + 1) a b c d ∧ (U.cell? ⟨w.heap.size + 1 + 1, 0, none⟩ = some x ∧ U.frozen? ⟨w.heap.size + 1 + 1, 0, none⟩ = false) ∧ (U.cell? ⟨w.heap.size + 1 + 1 + 1, 0, none⟩ = some y ∧ U.frozen? ⟨w.heap.size + 1 + 1 + 1, 0, none⟩ = false) ∧ Below w.heap.size w U ∧ w.heap.size + 1 + 1 + 1 < U.heap.size := by
  rintro U rfl
  have h3 := Below.alloc (Below.refl ((((w.alloc (.cells #[v] t)).alloc (.cells #[a, b, c, d] t')).alloc (.cells #[x] t'')).heap.size) _) (Nat.le_refl _) (.cells #[y] t3)
  have h2 := Below.alloc (Below.refl (((w.alloc (.cells #[v] t)).alloc (.cells #[a, b, c, d] t')).heap.size) _) (Nat.le_refl _) (.cells #[x] t'')
  have h1 := Below.alloc (Below.refl ((w.alloc (.cells #[v] t)).heap.size) _) (Nat.le_refl _) (.cells #[a, b, c, d] t')
  have h0 := mbelow w (.cells #[v] t)
  have k2 := bel_more h2 h3
  have k1 := bel_more h1 k2
  have hz : w.heap.size < (w.alloc (.cells #[v] t)).heap.size := by simp
  have e1 : (w.alloc (.cells #[v] t)).heap.size = w.heap.size + 1 := by simp
  have e2 : ((w.alloc (.cells #[v] t)).alloc (.cells #[a, b, c, d] t')).heap.size = w.heap.size + 1 + 1 := by simp
  have e3 : (((w.alloc (.cells #[v] t)).alloc (.cells #[a, b, c, d] t')).alloc (.cells #[x] t'')).heap.size = w.heap.size + 1 + 1 + 1 := by simp
  have F := Four.new (w.alloc (.cells #[v] t)) a b c d t'
  rw [e1] at F
  have C2 := cell_onew ((w.alloc (.cells #[v] t)).alloc (.cells #[a, b, c, d] t')) x t''
  rw [e2] at C2
  have C3 := cell_onew (((w.alloc (.cells #[v] t)).alloc (.cells #[a, b, c, d] t')).alloc (.cells #[x] t'')) y t3
  rw [e3] at C3
  have hz2 : w.heap.size + 1 + 1 < (((w.alloc (.cells #[v] t)).alloc (.cells #[a, b, c, d] t')).alloc (.cells #[x] t'')).heap.size := by rw [e3]; omega
  exact ⟨(k1.cell (p := ⟨w.heap.size, 0, none⟩) hz).trans (cell_onew w v t).1, F.below k2 (Nat.le_refl _), ⟨(h3.cell (p := ⟨w.heap.size + 1 + 1, 0, none⟩) hz2).trans C2.1, (h3.frozen (p := ⟨w.heap.size + 1 + 1, 0, none⟩) hz2).trans C2.2⟩, C3, bel_more h0 k1, by simp⟩

theorem set_two {V : World} {X Y : Nat} (hne : X ≠ Y) {a b u v : Value} (hx : V.cell? ⟨X, 0, none⟩ = some u) (hy : V.cell? ⟨Y, 0, none⟩ = some v) :
    ((V.setCell ⟨X, 0, none⟩ a).setCell ⟨Y, 0, none⟩ b).cell? ⟨X, 0, none⟩ = some a ∧ ((V.setCell ⟨X, 0, none⟩ a).setCell ⟨Y, 0, none⟩ b).cell? ⟨Y, 0, none⟩ = some b := by
  have h1 : (V.setCell ⟨X, 0, none⟩ a).cell? ⟨X, 0, none⟩ = some a := World.cell?_setCell_same' _ _ _ (by rw [hx]; rfl)
  have h2 : (V.setCell ⟨X, 0, none⟩ a).cell? ⟨Y, 0, none⟩ = some v := by rw [World.cell?_setCell_far _ _ _ _ (by simp; exact hne)]; exact hy
  refine ⟨?_, World.cell?_setCell_same' _ _ _ (by rw [h2]; rfl)⟩
  rw [World.cell?_setCell_far _ _ _ _ (by simp; exact fun e => hne e.symm)]
  exact h1
abbrev prs (xs : List Eg) : List (Qt × Qt) := xs.map (fun e => (e.a, e.b))
theorem egs_of : ∀ L : List (Qt × Qt), (∀ e ∈ L, PB e.1 ∧ PB e.2) → ∃ xs : List Eg, prs xs = L
  | [], _ => ⟨[], rfl⟩
  | e :: L, h => by
    obtain ⟨xs, hx⟩ := egs_of L (fun x hx => h x (List.mem_cons_of_mem _ hx))
    have h0 := h e (List.mem_cons_self ..)
    exact ⟨⟨e.1, e.2, h0.1, h0.2⟩ :: xs, by simp only [prs, List.map_cons] at hx ⊢; rw [hx]⟩
theorem edges_mem {l : List Qt} {e : Qt × Qt} (h : e ∈ edges l) : e.1 ∈ l ∧ e.2 ∈ l := by
  cases l with
  | nil => cases h
  | cons a l =>
    unfold edges at h
    obtain ⟨h1, h2⟩ := List.of_mem_zip (a := e.1) (b := e.2) h
    refine ⟨h1, ?_⟩
    rcases List.mem_append.1 h2 with h3 | h3
    · exact List.mem_cons_of_mem _ h3
    · simp at h3
      rw [h3]
      exact List.mem_cons_self ..
/-- What the round of around holds. -/
structure RdI (p : Qt) (B1 B2 B3 N : Nat) (L : List (Qt × Qt)) (W : World) : Prop where
  f : Four W B1 (.int .i64 p.xn) (.int .i64 p.xd) (.int .i64 p.yn) (.int .i64 p.yd)
  c2 : W.cell? ⟨B2, 0, none⟩ = some (.int .i64 (sumE (turnI p) L))
  f2 : W.frozen? ⟨B2, 0, none⟩ = false
  c3 : W.cell? ⟨B3, 0, none⟩ = some (.int .i64 (sumE (sq p) L))
  f3 : W.frozen? ⟨B3, 0, none⟩ = false
  sz : N ≤ W.heap.size
theorem RdI.kept {p : Qt} {B1 B2 B3 N : Nat} {L : List (Qt × Qt)} {A B : World} {row : Option Nat} (h : RdI p B1 B2 B3 N L A) (hg : A.grownBy B row) (hr : ∀ r, row = some r → ∃ o : Obj, A.heap[r]? = some o ∧ o.isCells = false) : RdI p B1 B2 B3 N L B :=
  ⟨⟨cell_kept h.f.c0 hg hr, cell_kept h.f.c1 hg hr, cell_kept h.f.c2 hg hr, cell_kept h.f.c3 hg hr⟩, cell_kept h.c2 hg hr, (frozen_kept h.c2 hg hr).trans h.f2, cell_kept h.c3 hg hr, (frozen_kept h.c3 hg hr).trans h.f3, Nat.le_trans h.sz hg.size⟩
theorem rdi_own (p : Qt) (B1 B2 B3 N : Nat) : Own (fun (pre : List Eg) W => RdI p B1 B2 B3 N (prs pre) W) := fun _ _ _ _ hs hg hr => RdI.kept hs hg hr
theorem below_othS {W W' : World} (h : Below W.heap.size W W') : KeepsOthers W W' := ⟨h.size, fun k _ hk _ => (h.block k (Array.getElem?_eq_some_iff.1 hk).1).trans hk⟩
theorem KpS.set {T : Nat → Prop} {A : World} {B : Nat} {u : Value} (hT : ∀ k, T k → k ≠ B) : KpS T A (A.setCell ⟨B, 0, none⟩ u) := fun j hj => Below.heap_setCell _ _ _ j (fun e => hT j hj e)
theorem RdI.set {p : Qt} {B1 B2 B3 N : Nat} {L L' : List (Qt × Qt)} {W : World} (h : RdI p B1 B2 B3 N L W) (h12 : B2 ≠ B1) (h13 : B3 ≠ B1) (h23 : B2 ≠ B3) {a b : Int} (ha : sumE (turnI p) L' = a) (hb : sumE (sq p) L' = b) :
    RdI p B1 B2 B3 N L' ((W.setCell ⟨B2, 0, none⟩ (.int .i64 a)).setCell ⟨B3, 0, none⟩ (.int .i64 b)) := by
  obtain ⟨d1, d2⟩ := set_two (V := W) (X := B2) (Y := B3) (a := .int .i64 a) (b := .int .i64 b) h23 h.c2 h.c3
  have far : ∀ o v, W.cell? ⟨B1, o, none⟩ = some v → ((W.setCell ⟨B2, 0, none⟩ (.int .i64 a)).setCell ⟨B3, 0, none⟩ (.int .i64 b)).cell? ⟨B1, o, none⟩ = some v := fun o v hv => by
    rw [World.cell?_setCell_far _ _ _ _ h13, World.cell?_setCell_far _ _ _ _ h12]
    exact hv
  refine ⟨⟨far _ _ h.f.c0, far _ _ h.f.c1, far _ _ h.f.c2, far _ _ h.f.c3⟩, by rw [ha]; exact d1, ?_, by rw [hb]; exact d2, ?_, ?_⟩
  · rw [World.frozen?_setCell, World.frozen?_setCell]; exact h.f2
  · rw [World.frozen?_setCell, World.frozen?_setCell]; exact h.f3
  · have h1 := (grownBy_setCell' W B2 (.int .i64 a)).size
    have h2 := (grownBy_setCell' (W.setCell ⟨B2, 0, none⟩ (.int .i64 a)) B3 (.int .i64 b)).size
    have := h.sz
    omega
theorem RdI.below {p : Qt} {B1 B2 B3 N : Nat} {L : List (Qt × Qt)} {A B : World} (h : RdI p B1 B2 B3 N L A) (hb : Below A.heap.size A B) : RdI p B1 B2 B3 N L B := h.kept (grown_of hb) (fun r e => by cases e)
theorem Four.kept' {b : Nat} {x y z u : Value} {A B : World} {row : Option Nat} (h : Four A b x y z u) (hg : A.grownBy B row) (hr : ∀ r, row = some r → ∃ o : Obj, A.heap[r]? = some o ∧ o.isCells = false) : Four B b x y z u :=
  ⟨cell_kept h.c0 hg hr, cell_kept h.c1 hg hr, cell_kept h.c2 hg hr, cell_kept h.c3 hg hr⟩

set_option maxRecDepth 100000 in
set_option maxHeartbeats 8000000 in
theorem around_in (aB aS aZ : Addr) (l : List Qt) (o : Option Addr) (cap : Nat) (p : Qt) (w : World) (h : PtsAt w o l) (hp : PI p) (hE : E3 aB aS aZ w) :
    CallsIn Fence.wide 9 Tryz.prog 50 #[.agg #[.slice o l.length cap], qtV p] w fun e W => AroundR l p e ∧ Below w.heap.size w W := by
  refine callsIn_of_wp_marks Tryz.func50 rfl trivial ?_ rfl
  simp only [Tryz.ntmps50, List.size_toArray, List.length_cons, List.length_nil, Nat.reduceAdd, Nat.reduceSub, Array.replicate_succ, Array.replicate_zero, List.push_toArray, List.append_toArray, List.nil_append, List.cons_append]
  gi_wp2
  obtain ⟨U, hU⟩ : ∃ U, (((w.alloc (.cells #[.slice o l.length cap] 41)).alloc (.cells #[.int .i64 p.xn, .int .i64 p.xd, .int .i64 p.yn, .int .i64 p.yd] 61)).alloc (.cells #[.int .i64 0] 3)).alloc (.cells #[.int .i64 0] 3) = U := ⟨_, rfl⟩
  obtain ⟨cS, F1, ⟨c2, f2⟩, ⟨c3, f3⟩, hbU, hsU⟩ := four_boxes w _ _ _ _ _ _ _ _ _ _ _ U hU
  rw [hU]
  clear hU
  have CK := Check_sh aB aS aZ l o cap U (h.below hbU (Nat.le_refl _)) (hE.below hbU (Nat.le_refl _))
  refine ⟨trivial, (callsIn_wide.2 CK).mono ?_⟩
  rintro e w1 ⟨hc, b1⟩
  have bw1 := bel_more hbU b1
  have cS1 := (b1.cell (cell_lt cS)).trans cS
  have F11 := F1.below b1 (Nat.le_refl _)
  have c21 := (b1.cell (cell_lt c2)).trans c2
  have c31 := (b1.cell (cell_lt c3)).trans c3
  have f21 := (b1.frozen (cell_lt c2)).trans f2
  have f31 := (b1.frozen (cell_lt c3)).trans f3
  clear CK cS c2 c3 f2 f3
  obtain ⟨g0, g1, g2, g3⟩ := F11
  rcases hc.plain with ⟨hok, rfl⟩ | ⟨hno, v, hv, rfl⟩
  · clear hc
    have CP := checkPoint_any aB aS aZ p w1 hp (hE.below bw1 (Nat.le_refl _))
    by_cases hep : errP p = 0
    · rw [hep] at CP
      have HOK : Hid (okSh l ∧ errP p = 0) := ⟨hok, hep⟩
      clear hok hep
      gi_wp2
      refine ⟨trivial, (callsIn_wide.2 CP).mono ?_⟩
      rintro e w2 ⟨rfl, b2⟩
      simp only [er_0]
      have cS2 := (b2.cell (cell_lt cS1)).trans cS1
      gi_wp2
      refine ⟨trivial, (callsIn_wide.2 (edges_any o l.length cap w2)).mono ?_⟩
      rintro e w3 ⟨rfl, hw3⟩
      have bw2 := bel_more bw1 b2
      have b3 := mbelow w2 (.cells #[.slice o l.length cap] 41)
      have hX : w3.heap[w2.heap.size]? = some (.cells #[.slice o l.length cap] 41) := by rw [hw3]; exact World.alloc_heap_new w2 _
      rw [← hw3] at b3
      clear hw3
      have bw3 := bel_more bw2 b3
      have hlt3 : w2.heap.size < w3.heap.size := (Array.getElem?_eq_some_iff.1 hX).1
      have hb1s := b1.size
      have hb2s := b2.size
      obtain ⟨hokl, hpe⟩ := HOK.out
      obtain ⟨xs, hxs⟩ := egs_of (edges l) (fun e he => ⟨PB.of (hokl.2 _ (edges_mem he).1), PB.of (hokl.2 _ (edges_mem he).2)⟩)
      have hxl : xs.length ≤ 30 := by have h1 := edges_len l; rw [← hxs, List.length_map] at h1; have := hokl.1; omega
      have hl30 := hokl.1
      have hPB := PB.of hpe
      have hP3 := h.below bw3 (Nat.le_refl _)
      have hT3 : ∀ k, edT w2.heap.size o l k → k < w3.heap.size ∧ k ≠ w.heap.size + 1 + 1 ∧ k ≠ w.heap.size + 1 + 1 + 1 := fun k hk => by
        rcases hk with rfl | ⟨hne, off, ho⟩
        · exact ⟨hlt3, by omega, by omega⟩
        · cases l with
          | nil => exact absurd rfl hne
          | cons a l =>
            obtain ⟨b, off', e1, h2⟩ := h 0 a rfl
            rw [ho] at e1
            cases e1
            have hk := cell_lt h2.c0
            simp at hk
            exact ⟨by have := bw3.size; omega, by omega, by omega⟩
      have I0' : RdI p (w.heap.size + 1) (w.heap.size + 1 + 1) (w.heap.size + 1 + 1 + 1) 0 [] w3 := RdI.below (RdI.below ⟨⟨g0, g1, g2, g3⟩, c21, f21, c31, f31, Nat.zero_le _⟩ b2) b3
      have I0 : RdI p (w.heap.size + 1) (w.heap.size + 1 + 1) (w.heap.size + 1 + 1 + 1) w3.heap.size [] w3 := ⟨I0'.f, I0'.c2, I0'.f2, I0'.c3, I0'.f3, Nat.le_refl _⟩
      clear I0'
      clear hpe hokl g0 g1 g2 g3 c21 f21 c31 f31 CP cS1 cS2
      have HXS : Hid (prs xs = edges l) := hxs
      have hseq := edges_seq l xs hxs (by omega) o cap (9 - 1) w2.heap.size w3 hX hP3
      clear hxs
      gi_wp2
      refine wpIn_rangeFunc_ownH rfl (by omega) (gf := 84) (lb := #[.pointer (some ⟨w2.heap.size, 0, none⟩)]) rfl trivial (enters_of Tryz.func84 (by kernel_rfl) rfl)
        hseq KpS.trans (KpS.put (fun k hk => (hT3 k hk).1)) (Below.refl _ _) (fun _ => rfl)
        (fun pre W => RdI p (w.heap.size + 1) (w.heap.size + 1 + 1) (w.heap.size + 1 + 1 + 1) w3.heap.size (prs pre) W ∧ Below w.heap.size w W)
        (fun _ _ _ => False)
        (OwnFrom.and ((rdi_own p _ _ _ _).from _) (ownFrom_below (Nat.le_refl _) bw3.size))
        (fun c => fun s A B row hs hg hr => hs)
        ⟨I0, bw3⟩
        (fun x a' W => ∃ Bx By, Four W Bx (.int .i64 x.a.xn) (.int .i64 x.a.xd) (.int .i64 x.a.yn) (.int .i64 x.a.yd) ∧ Four W By (.int .i64 x.b.xn) (.int .i64 x.b.xd) (.int .i64 x.b.yn) (.int .i64 x.b.yd) ∧ a' = { tmps := #[.agg #[.slice o l.length cap], qtV p, .pointer (some ⟨w.heap.size, 0, none⟩), .pointer (some ⟨w.heap.size + 1, 0, none⟩), .pointer (some ⟨w.heap.size + 1 + 1, 0, none⟩), .pointer (some ⟨w.heap.size + 1 + 1 + 1, 0, none⟩), .nilIface, .nilIface, .nilIface, .pointer (some ⟨Bx, 0, none⟩), .pointer (some ⟨By, 0, none⟩), undef, .agg #[.slice o l.length cap], .nilIface, .nilIface, .bool false, undef, qtV p, .nilIface, .nilIface, .bool false, undef, undef, undef, undef, .agg #[.slice o l.length cap], .func (.func 84) #[] #[.pointer (some ⟨w2.heap.size, 0, none⟩)], qtV x.a, qtV x.b, undef, undef, undef, undef, undef, undef, undef, undef, undef, undef, undef, undef, undef, undef], defers := [] })
        (fun x a' s A B row hs hg hr => by obtain ⟨Bx, By, h1, h2, h3⟩ := hs; exact ⟨Bx, By, h1.kept' hg (fun r e => (hr r e).2), h2.kept' hg (fun r e => (hr r e).2), h3⟩)
        ?assign ?body ?done ?stop
      case assign =>
        rintro L pre x W K ⟨hI, hB⟩ hK
        gi_wp2
        have k1 := mbelow W (.cells #[.int .i64 x.a.xn, .int .i64 x.a.xd, .int .i64 x.a.yn, .int .i64 x.a.yd] 61)
        have k2 := mbelow (W.alloc (.cells #[.int .i64 x.a.xn, .int .i64 x.a.xd, .int .i64 x.a.yn, .int .i64 x.a.yd] 61)) (.cells #[.int .i64 x.b.xn, .int .i64 x.b.xd, .int .i64 x.b.yn, .int .i64 x.b.yd] 61)
        have FA := (Four.new W (.int .i64 x.a.xn) (.int .i64 x.a.xd) (.int .i64 x.a.yn) (.int .i64 x.a.yd) 61).below k2 (Nat.le_refl _)
        have FB := Four.new (W.alloc (.cells #[.int .i64 x.a.xn, .int .i64 x.a.xd, .int .i64 x.a.yn, .int .i64 x.a.yd] 61)) (.int .i64 x.b.xn) (.int .i64 x.b.xd) (.int .i64 x.b.yn) (.int .i64 x.b.yd) 61
        rw [show (W.alloc (.cells #[.int .i64 x.a.xn, .int .i64 x.a.xd, .int .i64 x.a.yn, .int .i64 x.a.yd] 61)).heap.size = W.heap.size + 1 from by simp] at FB
        have k := bel_more k1 k2
        exact hK _ _ (((KeepsOthers.alloc _ _).trans (KeepsOthers.alloc _ _)).from _) (KpS.of_below k (fun j hj => by have h1 := (hT3 j hj).1; have h2 := hI.sz; omega)) ⟨hI.below k, bel_more hB k⟩ ⟨W.heap.size, W.heap.size + 1, FA, FB, rfl⟩
      case body =>
        rintro L pre x a' W hl hr ⟨hI, hB⟩ ⟨Bx, By, ⟨x0, x1, x2, x3⟩, ⟨y0, y1, y2, y3⟩, rfl⟩ hlt
        have TO := turnOf_sh x.a x.b p W x.ha x.hb hPB
        have ho : _ ∧ sumE (turnI p) (prs pre) ≤ sumE (sq p) (prs pre) ∧ - sumE (turnI p) (prs pre) ≤ sumE (sq p) (prs pre) ∧ 0 ≤ sumE (sq p) (prs pre) ∧ sumE (sq p) (prs pre) ≤ ((prs pre).length : Int) ∧ _ ∧ _ := sum_odd (turnI p) (fun a b => turn_three p a b) (prs pre)
        obtain ⟨-, o1, o2, o3, o4, -, -⟩ := ho
        have hpl : (prs pre).length ≤ 30 := by rw [List.length_map]; omega
        have hs2 : sumE (turnI p) (prs (pre ++ [x])) = sumE (turnI p) (prs pre) + turnI p x.a x.b := by rw [prs, List.map_append, sumE_app]; simp [sumE]
        have hs3 : sumE (sq p) (prs (pre ++ [x])) = sumE (sq p) (prs pre) + turnI p x.a x.b * turnI p x.a x.b := by rw [prs, List.map_append, sumE_app]; simp [sumE, sq]
        have hI' := hI
        obtain ⟨⟨z0, z1, z2, z3⟩, c2, f2, c3, f3, hsz⟩ := hI
        have hTb : -1 ≤ turnI p x.a x.b ∧ turnI p x.a x.b ≤ 1 ∧ 0 ≤ turnI p x.a x.b * turnI p x.a x.b ∧ turnI p x.a x.b * turnI p x.a x.b ≤ 1 := by rcases turn_three p x.a x.b with h | h | h <;> rw [h] <;> decide
        have HS2 : Hid _ := hs2
        have HS3 : Hid _ := hs3
        generalize hgT : turnI p x.a x.b = T at TO hTb HS2 HS3
        generalize hg2 : sumE (turnI p) (prs pre) = s2 at c2 o1 o2 o3 o4 HS2
        generalize hg3 : sumE (sq p) (prs pre) = s3 at c3 o1 o2 o3 o4 HS3
        obtain ⟨t1, t2, t3, t4⟩ := hTb
        have HG : Hid (turnI p x.a x.b = T ∧ sumE (turnI p) (prs pre) = s2 ∧ sumE (sq p) (prs pre) = s3) := ⟨hgT, hg2, hg3⟩
        have HI : Hid (RdI p (w.heap.size + 1) (w.heap.size + 1 + 1) (w.heap.size + 1 + 1 + 1) w3.heap.size (prs pre) W) := hI'
        clear hs2 hs3 hgT hg2 hg3 hI'
        gi_wp2_with (refine ⟨trivial, ?_⟩; gi_at_call 71; refine (CallsIn.inRound L (callsIn_wide.2 TO)).mono ?_; rintro e w' ⟨rfl, hb⟩; have c2' := (hb.cell (cell_lt c2)).trans c2; have f2' := (hb.frozen (cell_lt c2)).trans f2; have c3' := (hb.cell (cell_lt c3)).trans c3; have f3' := (hb.frozen (cell_lt c3)).trans f3)
        obtain ⟨e1, e2, e3⟩ := HG.out
        refine ⟨((below_othS hb).trans ((KeepsOthers.setCell _ _ _).trans (KeepsOthers.setCell _ _ _))).from _, ((KpS.of_below hb (fun j hj => by have h1 := (hT3 j hj).1; omega)).trans (KpS.set (fun k hk => (hT3 k hk).2.1))).trans (KpS.set (fun k hk => (hT3 k hk).2.2)), RdI.set (HI.out.below hb) (by omega) (by omega) (by omega) HS2.out HS3.out, ?_⟩
        exact ((bel_more hB hb).setCell (by simp; omega) _).setCell (by simp; omega) _
      case done =>
        rintro D ys W hD rfl ⟨hI, hB⟩ hK
        obtain ⟨-, c2, f2, c3, f3, hsz⟩ := hI
        rw [HXS.out] at c2 c3
        have c2' : W.drew.cell? ⟨w.heap.size + 1 + 1, 0, none⟩ = some (.int .i64 (sumE (turnI p) (edges l))) := c2
        have c3' : W.drew.cell? ⟨w.heap.size + 1 + 1 + 1, 0, none⟩ = some (.int .i64 (sumE (sq p) (edges l))) := c3
        have hwd : windE (turnI p) l = sumE (turnI p) (edges l) := rfl
        have hcr : windE (sq p) l = sumE (sq p) (edges l) := rfl
        have HW : Hid (windE (turnI p) l = sumE (turnI p) (edges l) ∧ windE (sq p) l = sumE (sq p) (edges l)) := ⟨hwd, hcr⟩
        clear hwd hcr
        generalize sumE (turnI p) (edges l) = s2 at c2 c2' HW
        generalize sumE (sq p) (edges l) = s3 at c3 c3' HW
        gi_wp2
        have hK' := ((KeepsOthers.setCell W ⟨w.heap.size + 1 + 1, 0, none⟩ (.int .i64 s2)).trans (KeepsOthers.setCell _ ⟨w.heap.size + 1 + 1 + 1, 0, none⟩ (.int .i64 s3))).same D _ hK rfl
        have hK2 : ((W.setCell ⟨w.heap.size + 1 + 1, 0, none⟩ (.int .i64 s2)).setCell ⟨w.heap.size + 1 + 1 + 1, 0, none⟩ (.int .i64 s3)).drew.heap[D]? = some (.deferred (some [])) := hK'
        obtain ⟨d1, d2⟩ := set_two (V := W) (X := w.heap.size + 1 + 1) (Y := w.heap.size + 1 + 1 + 1) (a := .int .i64 s2) (b := .int .i64 s3) (by omega) c2 c3
        have d1' : ((W.setCell ⟨w.heap.size + 1 + 1, 0, none⟩ (.int .i64 s2)).setCell ⟨w.heap.size + 1 + 1 + 1, 0, none⟩ (.int .i64 s3)).drew.cell? ⟨w.heap.size + 1 + 1, 0, none⟩ = some (.int .i64 s2) := d1
        have d2' : ((W.setCell ⟨w.heap.size + 1 + 1, 0, none⟩ (.int .i64 s2)).setCell ⟨w.heap.size + 1 + 1 + 1, 0, none⟩ (.int .i64 s3)).drew.cell? ⟨w.heap.size + 1 + 1 + 1, 0, none⟩ = some (.int .i64 s3) := d2
        have bz := ((hB.setCell (p := ⟨w.heap.size + 1 + 1, 0, none⟩) (by simp; omega) (.int .i64 s2)).setCell (p := ⟨w.heap.size + 1 + 1 + 1, 0, none⟩) (by simp; omega) (.int .i64 s3)).drew
        gi_region
        all_goals
          gi_wp2
          clear d1 d2
          generalize ((W.setCell ⟨w.heap.size + 1 + 1, 0, none⟩ (.int .i64 s2)).setCell ⟨w.heap.size + 1 + 1 + 1, 0, none⟩ (.int .i64 s3)).drew = Z at hK2 d1' d2' bz ⊢
          refine ⟨by simp, .inl ⟨_, _, rfl, run_takeDeferred hK2, ?_⟩⟩
          have hc5 := cell_kept d1' (grownBy_putObj' _ D (.deferred none)) (fun r e => by cases e; exact ⟨_, hK2, rfl⟩)
          have hc6 := cell_kept d2' (grownBy_putObj' _ D (.deferred none)) (fun r e => by cases e; exact ⟨_, hK2, rfl⟩)
          refine ⟨.tuple #[.int .i64 s2, .int .i64 s3, .nilIface], ?_, .inl ⟨HOK.out.1, HOK.out.2, by rw [HW.out.1, HW.out.2]⟩, bz.trans (belowK_b (w := w) (Nat.le_refl _) Z D _ _ (by have := bw3.size; omega) hK2 rfl rfl)⟩
          simp [results, Tryz.results50, go_sem, hc5, hc6]
      case stop => exact fun D c pre W hD hpre hf => hf.elim
    · have hno : ¬ (okSh l ∧ errP p = 0) := fun h => hep h.2
      obtain ⟨ad, hea⟩ := er_cases aB aS aZ (show errP p = 2 ∨ errP p = 3 by have := errP_cases p; omega)
      rw [hea] at CP
      clear hea hep hok
      gi_wp2
      refine ⟨trivial, (callsIn_wide.2 CP).mono ?_⟩
      rintro e w2 ⟨rfl, b2⟩
      have c22 := (b2.cell (cell_lt c21)).trans c21
      have c32 := (b2.cell (cell_lt c31)).trans c31
      have f22 := (b2.frozen (cell_lt c21)).trans f21
      have f32 := (b2.frozen (cell_lt c31)).trans f31
      have k22 := fun o => cell_kept c22 (World.grownBy_alloc w2 o none) (fun r e => by cases e)
      have k32 := fun o => cell_kept c32 (World.grownBy_alloc w2 o none) (fun r e => by cases e)
      have j22 := fun o => (frozen_kept c22 (World.grownBy_alloc w2 o none) (fun r e => by cases e)).trans f22
      have j32 := fun o => (frozen_kept c32 (World.grownBy_alloc w2 o none) (fun r e => by cases e)).trans f32
      gi_wp2
      obtain ⟨d1, d2⟩ := set_two (V := w2.alloc (.cells #[.int .i64 30, .iface 165 (.pointer (some ad))] 72)) (X := w.heap.size + 1 + 1) (Y := w.heap.size + 1 + 1 + 1) (a := .int .i64 0) (b := .int .i64 0) (by omega) (k22 _) (k32 _)
      exact ⟨.tuple #[.int .i64 0, .int .i64 0, .iface 69 (.pointer (some ⟨w2.heap.size, 0, none⟩))], by simp [results, Tryz.results50, go_sem, d1, d2], .inr ⟨hno, _, .inr ⟨_, rfl⟩, rfl⟩, (((bel_more bw1 b2).alloc (bel_more bw1 b2).size _).setCell (by simp; omega) _).setCell (by simp; omega) _⟩
  · clear hc
    have hno' : ¬ (okSh l ∧ errP p = 0) := fun h => hno h.1
    obtain ⟨d1, d2⟩ := set_two (V := w1) (X := w.heap.size + 1 + 1) (Y := w.heap.size + 1 + 1 + 1) (a := .int .i64 0) (b := .int .i64 0) (by omega) c21 c31
    have bz := (bw1.setCell (p := ⟨w.heap.size + 1 + 1, 0, none⟩) (by simp; omega) (.int .i64 0)).setCell (p := ⟨w.heap.size + 1 + 1 + 1, 0, none⟩) (by simp; omega) (.int .i64 0)
    rcases hv with ⟨a, rfl⟩ | ⟨a, rfl⟩
    · gi_wp2
      exact ⟨.tuple #[.int .i64 0, .int .i64 0, .iface 165 (.pointer (some a))], by simp [results, Tryz.results50, go_sem, d1, d2], .inr ⟨hno', _, .inl ⟨a, rfl⟩, rfl⟩, bz⟩
    · gi_wp2
      exact ⟨.tuple #[.int .i64 0, .int .i64 0, .iface 69 (.pointer (some a))], by simp [results, Tryz.results50, go_sem, d1, d2], .inr ⟨hno', _, .inr ⟨a, rfl⟩, rfl⟩, bz⟩
end Go.Proofs.YtmbdojcljgicaaaGreatDoor

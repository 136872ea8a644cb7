/-
  What fits, step by step over all elements (leadlightref1), as plain mathematics; rows of truths in memory.
-/
import Derived.Test.YtnoecobddhmhlaaGreatDoorJ31
import Derived.OwnWalk
import Derived.Test.YtnoecobddhmhlaaGreatDoorJ29
namespace Go.Proofs.YtnoecobddhmhlaaGreatDoor
open Go.RowKit

/-- Those above, from p on. -/
def upL (M : Dm) (p : Int) : List Int := if p < 0 then [] else p :: aboveM M 11 p
theorem above_fuel {M : Dm} {r : Int → Nat} (h : Wd M r) : ∀ (k : Nat) (i : Int) (e : Elm), M i = some e → r i ≤ k → aboveM M k i = aboveM M (k + 1) i := by
  intro k
  induction k with
  | zero => intro i e he hr; have := (h.rb i e he).1; omega
  | succ k ih =>
    intro i e he hr
    rw [aboveM, aboveM, he]
    by_cases h0 : i = 0
    · subst h0
      obtain ⟨e', he', hp⟩ := h.root
      rw [he] at he'
      injection he' with he'
      subst he'
      show (if e.parent < 0 then [] else _) = if e.parent < 0 then [] else _
      rw [if_pos (by omega), if_pos (by omega)]
    · obtain ⟨q, hq, -, hr2⟩ := h.up i e he h0
      show (if e.parent < 0 then [] else e.parent :: aboveM M k e.parent) = if e.parent < 0 then [] else e.parent :: aboveM M (k + 1) e.parent
      rw [ih e.parent q hq (by omega)]
theorem above_up {M : Dm} {r : Int → Nat} (h : Wd M r) {i : Int} {e : Elm} (he : M i = some e) : aboveM M 11 i = upL M e.parent := by
  rw [aboveM, he]
  show (if e.parent < 0 then [] else e.parent :: aboveM M 10 e.parent) = _
  unfold upL
  by_cases hp : e.parent < 0
  · rw [if_pos hp, if_pos hp]
  · rw [if_neg hp, if_neg hp]
    have h0 : i ≠ 0 := fun h0 => by
      subst h0
      obtain ⟨e', he', hp'⟩ := h.root
      rw [he] at he'
      injection he' with he'
      subst he'
      omega
    obtain ⟨q, hq, -, hr2⟩ := h.up i e he h0
    have := (h.rb i e he).2
    rw [above_fuel h 10 e.parent q hq (by omega)]
theorem fitR_none {M : Dm} : ∀ (l : List (Bs × Bool)) (n : Int), M n = none → fitR M l n = false
  | [], n, _ => rfl
  | [(b, f)], n, h => by rw [fitR, fitSt, h]
  | (b, f) :: y :: l, n, h => by rw [fitR, fitSt, h]; rfl
/-- A row of truths. -/
def BT (w : World) (b m : Nat) (f : Nat → Bool) : Prop := ∃ cur, w.heap[b]? = some (.cells cur 4) ∧ cur.size = m ∧ ∀ j, j < m → cur[j]? = some (.bool (f j))
theorem BT.cell {w : World} {b m : Nat} {f : Nat → Bool} (h : BT w b m f) {j : Nat} (hj : j < m) : w.cell? ⟨b, j, none⟩ = some (.bool (f j)) := by
  obtain ⟨cur, h1, -, h3⟩ := h
  exact bcell h1 j _ (h3 j hj)
theorem BT.froz {w : World} {b m : Nat} {f : Nat → Bool} (h : BT w b m f) (j : Nat) : w.frozen? ⟨b, j, none⟩ = false := by
  obtain ⟨cur, h1, -⟩ := h
  exact froz_at h1 j
theorem BT.lt {w : World} {b m : Nat} {f : Nat → Bool} (h : BT w b m f) : b < w.heap.size := by
  obtain ⟨cur, h1, -⟩ := h
  exact heapD_lt h1
theorem BT.below {w w' : World} {b m : Nat} {f : Nat → Bool} (h : BT w b m f) (hb : Below w.heap.size w w') : BT w' b m f := by
  have hl := h.lt
  obtain ⟨cur, h1, h2⟩ := h
  exact ⟨cur, (hb.block b hl).trans h1, h2⟩
theorem BT.set {w : World} {b m : Nat} {f g : Nat → Bool} (h : BT w b m f) (i : Nat) (v : Bool) (hg : ∀ j, j < m → g j = if j = i then v else f j) : BT (w.setCell ⟨b, i, none⟩ (.bool v)) b m g := by
  obtain ⟨cur, h1, h2, h3⟩ := h
  refine ⟨cur.setIfInBounds i (.bool v), heap_setCell_same w b i _ _ _ h1, by simpa using h2, fun j hj => ?_⟩
  rw [Array.getElem?_setIfInBounds, hg j hj]
  by_cases hij : i = j
  · subst hij
    rw [if_pos rfl, if_pos (by omega), if_pos rfl]
  · rw [if_neg hij, if_neg (fun e => hij e.symm)]
    exact h3 j hj
theorem BT.far {w : World} {b m c : Nat} {f : Nat → Bool} (h : BT w b m f) (hc : c ≠ b) (i : Nat) (v : Value) : BT (w.setCell ⟨c, i, none⟩ v) b m f := by
  obtain ⟨cur, h1, h2⟩ := h
  exact ⟨cur, (Below.heap_setCell w ⟨c, i, none⟩ v b (fun e => hc (by first | exact e | exact e.symm))).trans h1, h2⟩
theorem BT.re {w : World} {b m : Nat} {f g : Nat → Bool} (h : BT w b m f) (hg : ∀ j, j < m → g j = f j) : BT w b m g := by
  obtain ⟨cur, h1, h2, h3⟩ := h
  exact ⟨cur, h1, h2, fun j hj => by rw [hg j hj]; exact h3 j hj⟩
theorem infoBool : (Tryz.prog.info? 4).map (fun i => (i.zero, i.size, i.bytes)) = some (some (.bool false), 1, 1) := by kernel_rfl
theorem BT.made {w : World} {b m : Nat} {B : Nat} (h : w.ownsRow B 4 1 (.slice (some ⟨b, 0, none⟩) m m) m (madeCells (Value.bool false).cells (m * 1)).toList) : BT w b m (fun _ => false) := by
  rcases h.2 with ⟨h1, -⟩ | ⟨g, cap, cur, h1, -, h3, -, -, h6, h7⟩
  · cases h1
  · cases h1
    rw [Nat.mul_one] at h6 h7
    refine ⟨cur, h3, h6, fun j hj => ?_⟩
    have h8 : (cur.toList.take m)[j]? = some (.bool false) := by
      rw [h7]
      simp [madeCells, Value.cells, hj, Nat.mod_one]
    rw [List.getElem?_take, if_pos hj, Array.getElem?_toList] at h8
    exact h8
theorem S3At.get {w : World} {o : Option Addr} {m : List S3} {l : List (Bs × Bool)} (_h : S3At w o m) (hm : Mt m l) {i : Nat} {s : S3} (hs : m[i]? = some s) : ∃ t, l[i]? = some t ∧ stR t.1 = some (s.a, s.ws) ∧ s.r = t.2 := by
  clear _h
  induction m generalizing i l with
  | nil => simp at hs
  | cons y m ih =>
    cases l with
    | nil => exact hm.elim
    | cons t l =>
      cases i with
      | zero =>
        simp at hs
        subst hs
        exact ⟨t, rfl, hm.1⟩
      | succ i =>
        obtain ⟨t', h1, h2⟩ := ih hm.2 (by simpa using hs)
        exact ⟨t', by simpa using h1, h2⟩
theorem stR_short {s a : Bs} {ws : List Bs} (h : stR s = some (a, ws)) : ∀ u ∈ ws, u.length ≤ 1000 := fun u hu => by
  have hst : isStM s = true := by rw [← (stR_st s).1, h]; rfl
  have hp := (stR_st s).2 a ws h
  obtain ⟨m, r, rfl, hm, hr⟩ := stR_wk h u hu
  unfold isStM at hst
  rw [Bool.and_eq_true] at hst
  have hx := okPts_all hst.1 (m, r) (by rw [hp]; refine List.mem_cons_of_mem _ (List.mem_map.2 ⟨m :: r, hu, rfl⟩))
  have hn : isNm r = true := by
    unfold isPt at hx
    have h0 : (m == 0) = false := beq_false_of_ne (mk_not0 hm)
    simp only [h0, Bool.false_and, Bool.false_or] at hx
    exact hx
  rw [List.length_cons]
  have hl := isNm_len hn
  omega
theorem take_rev {l : List (Bs × Bool)} {i : Nat} {t : Bs × Bool} (h : l[i]? = some t) : (l.take (i + 1)).reverse = t :: (l.take i).reverse := by
  rw [List.take_add_one, h]
  simp
end Go.Proofs.YtnoecobddhmhlaaGreatDoor

namespace Go.Proofs.YtnoecobddhmhlaaGreatDoor
open Go.RowKit

/-- What Fitting answers. -/
def FitO (w : World) (N : Nat) (F : Nat → Bool) (v : Value) (W : World) : Prop := ∃ g, v = .slice (some ⟨g, 0, none⟩) N N ∧ w.heap.size ≤ g ∧ BT W g N F ∧ Below w.heap.size w W
/-- What is asked of the elements. -/
def OkRE (M : Dm) (l : List RE) : Prop := ∀ (j : Nat) (x : RE), l[j]? = some x → M j = some ⟨x.nm, x.ats, x.par, x.kids⟩ ∧ x.ins = true ∧ x.nm ≠ [] ∧ x.ats.length ≤ 1000 ∧ (∀ p ∈ x.ats, p.2.length ≤ 1000) ∧ x.par < j ∧ -1 ≤ x.par
theorem bel_set {w W : World} {B b : Nat} (h : Below B w W) (hb : B ≤ b) (i : Nat) (v : Value) : Below B w (W.setCell ⟨b, i, none⟩ v) := h.setCell (p := ⟨b, i, none⟩) hb v
theorem far_cell {W : World} {c i : Nat} {v u : Value} {p : Addr} (h : W.cell? p = some u) (hne : p.block < c) : (W.setCell ⟨c, i, none⟩ v).cell? p = some u := (World.cell?_of_block (Below.heap_setCell W ⟨c, i, none⟩ v p.block (by show p.block ≠ c; omega))).trans h
theorem upL_cons {M : Dm} {r : Int → Nat} (h : Wd M r) {p : Nat} {e : Elm} (he : M p = some e) : upL M p = (p : Int) :: upL M e.parent := by
  rw [← above_up h he]
  unfold upL
  rw [if_neg (by omega)]
set_option maxRecDepth 20000 in
set_option maxHeartbeats 16000000 in
theorem Fitting_ref (l : List RE) (D : Nat) (o : Option Addr) (cap : Nat) (w : World) (h : RDoc w D o cap l) (M : Dm) (r : Int → Nat) (hw : Wd M r) (hM : OkRE M l) (hl1 : 0 < l.length) (hl : l.length ≤ 1000) (so : Option Addr) (sc : Nat) (m : List S3) (L : List (Bs × Bool)) (hS : S3At w so m) (hW : WsOf w m) (hm : Mt m L) (hm5 : m.length ≤ 5) (hm1 : 0 < m.length) :
    Calls Tryz.prog 34 #[.pointer (some ⟨D, 0, none⟩), .slice so m.length sc] w fun e W => ∃ v, e = .returned v ∧ FitO w l.length (fun j => fitR M L.reverse j) v W := by
  obtain ⟨ib, hib, hyb0, hyb1, hyb2⟩ := info_parts infoBool
  obtain ⟨ob, ooff, rfl⟩ : ∃ b off, o = some ⟨b, off, none⟩ := by
    obtain ⟨b, off, h1, -⟩ := h.at_ 0 _ (List.getElem?_eq_getElem hl1)
    exact ⟨b, off, h1⟩
  obtain ⟨sb, soff, rfl⟩ : ∃ b off, so = some ⟨b, off, none⟩ := by
    obtain ⟨b, off, h1, -⟩ := hS 0 _ (List.getElem?_eq_getElem hm1)
    exact ⟨b, off, h1⟩
  have hobw : ob < w.heap.size := by
    obtain ⟨b, off, h1, h2, -⟩ := h.at_ 0 _ (List.getElem?_eq_getElem hl1)
    cases h1
    exact cell_lt3 h2
  have hsbw : sb < w.heap.size := by
    obtain ⟨b, off, h1, h2, -⟩ := hS 0 _ (List.getElem?_eq_getElem hm1)
    cases h1
    exact cell_lt3 h2
  have cD := h.c
  go_enter Tryz.func34, Tryz.ntmps34
  go_upto_region 2 with (at_make; refine wpList_make_full _ rfl _ _ 80 rfl w.heap.size 4 ib (.bool false) 1 Tryz.underlying80 hib hyb0 hyb1 _ _ _ _ l.length rfl rfl rfl rfl (by rw [hyb2]; omega) (by rw [maxLen_eq]; omega) (Nat.le_refl _) ?_; intro w1 ow1 gr1)
  have br1 := BT.made ow1
  have b1 : Below w.heap.size w w1 := (Below.refl _ w).grown gr1 (Nat.le_refl _) (fun k hk => by cases hk)
  clear ow1 gr1
  go_wp2_with fail
  go_loopw [5, 6] (fun v i wr => ∃ q : Nat, q ≤ m.length ∧ i = .int .i64 q ∧ FitO w l.length (fun j => fitR M (L.take q).reverse j) v wr) (fun _ i _ => m.length - (intOf i).toNat)
  case atStart => exact ⟨0, Nat.zero_le _, rfl, w.heap.size, rfl, Nat.le_refl _, br1.re (fun j _ => rfl), b1⟩
  case round =>
    obtain ⟨q, hq, rfl, g, rfl, hg, hbt, hb⟩ := hrel
    clear br1 b1
    have hwr := hb.size
    by_cases hlq : q < m.length
    · have hlq' : (q : Int) < (m.length : Int) := by omega
      obtain ⟨s, hs⟩ : ∃ s, m[q]? = some s := ⟨_, List.getElem?_eq_getElem hlq⟩
      obtain ⟨t, ht, hst, hsr⟩ := hS.get hm hs
      have hrev := take_rev ht
      have cDr := (hb.cell (cell_lt3 cD)).trans cD
      go_upto_region 6 with (at_make; refine wpList_make_full _ rfl _ _ 80 rfl wr.heap.size 4 ib (.bool false) 1 Tryz.underlying80 hib hyb0 hyb1 _ _ _ _ l.length rfl rfl rfl rfl (by rw [hyb2]; omega) (by rw [maxLen_eq]; omega) (Nat.le_refl _) ?_; intro w2 ow2 gr2)
      have br2 := BT.made ow2
      have bl2 : Below wr.heap.size wr w2 := (Below.refl _ wr).grown gr2 (Nat.le_refl _) (fun k hk => by cases hk)
      have b2 : Below w.heap.size w w2 := hb.trans (bl2.mono hwr)
      have hbt2 := hbt.below bl2
      have hgn : g ≠ wr.heap.size := Nat.ne_of_lt hbt.lt
      obtain ⟨gn, hgn2⟩ : ∃ gn, wr.heap.size = gn := ⟨_, rfl⟩
      rw [hgn2] at br2 hgn hwr ⊢
      clear ow2 gr2 bl2 hgn2 hbt hb cDr
      go_wp2_with fail
      go_loopw [8] (fun i wx => ∃ n : Nat, n ≤ l.length ∧ i = .int .i64 n ∧ BT wx gn l.length (fun j => decide (j < n) && fitR M (L.take (q + 1)).reverse j) ∧ BT wx g l.length (fun j => fitR M (L.take q).reverse j) ∧ Below w.heap.size w wx) (fun i _ => l.length - (intOf i).toNat)
      case atStart => exact ⟨0, Nat.zero_le _, rfl, br2.re (fun j _ => by simp), hbt2, b2⟩
      case round =>
        obtain ⟨n, hn, rfl, hbn, hbg, hbx⟩ := hrel
        clear br2 hbt2 b2
        have hRx := h.below hbx
        have cDx := hRx.c
        by_cases hln : n < l.length
        · have hln' : (n : Int) < (l.length : Int) := by omega
          obtain ⟨x, hx⟩ : ∃ x, l[n]? = some x := ⟨_, List.getElem?_eq_getElem hln⟩
          obtain ⟨hMx, hin, hne, ha, hav, hp1, hp2⟩ := hM n x hx
          obtain ⟨b, off, hbo, -, -, e2, -, e4⟩ := hRx.at_ n x hx
          cases hbo
          rw [hin] at e4
          obtain ⟨sb', so', hso, s0, s1, s2⟩ := (hS.below hbx) q s hs
          cases hso
          have hWs := (hW.below hbx) s (List.mem_of_getElem? hs)
          have SF := stepFits_ref l D _ cap n x s.a s.o s.ws s.cap s.r wr hRx hx hin ha hav hWs (stR_few hst).2 (stR_wk hst) (stR_short hst)
          obtain ⟨fs, hfs⟩ : ∃ fs, fitS x.nm x.ats s.a s.ws = fs := ⟨_, rfl⟩
          have hfit : fitSt M t.1 n = fs := by rw [fitSt_S hMx hne hst]; exact hfs
          rw [hfs] at SF
          have hbn' : gn < wr.heap.size := hbn.lt
          have hTn : fitR M (L.take (q + 1)).reverse n = (fs && (if q = 0 then true else if s.r then fitR M (L.take q).reverse x.par else (upL M x.par).any (fitR M (L.take q).reverse))) := by
            rw [hrev]
            by_cases hq0 : q = 0
            · subst hq0
              rw [if_pos rfl, Bool.and_true]
              exact hfit
            · rw [if_neg hq0]
              have hne2 : (L.take q).reverse ≠ [] := fun he => by
                have h1 := congrArg List.length he
                rw [List.length_reverse, List.length_take, List.length_nil] at h1
                have h2 := (List.getElem?_eq_some_iff.1 ht).1
                omega
              obtain ⟨tb, tf⟩ := t
              rw [fitR_cons hne2, ← above_up hw hMx, hsr]
              have hpar : parM M n = x.par := by unfold parM; rw [hMx]
              rw [hpar]
              congr 1
          have HTN : Hid (fitR M (L.take (q + 1)).reverse n = (fs && (if q = 0 then true else if s.r then fitR M (L.take q).reverse x.par else (upL M x.par).any (fitR M (L.take q).reverse)))) := hTn
          clear hTn hfit hfs hrev hst hsr ht
          go_upto_region 10 with (go_at_call 91; refine SF.mono ?_; rintro e w5 ⟨rfl, b5⟩)
          have hbn5 := hbn.below b5
          have hbg5 := hbg.below b5
          have hbx5 : Below w.heap.size w w5 := hbx.trans (b5.mono hbx.size)
          clear SF hbn hbg e2 e4 s0 s1 s2 cDx hRx
          have hR5 := h.below hbx5
          have cD5 := hR5.c
          obtain ⟨b', off', hbo', -, -, e25, -, -⟩ := hR5.at_ n x hx
          cases hbo'
          obtain ⟨sb', so2, hso2, -, -, s25⟩ := (hS.below hbx5) q s hs
          cases hso2
          cases fs with
          | false =>
            go_wp2_with fail
            go_roundw
            case rel =>
              refine ⟨n + 1, by omega, by go_num, hbn5.re (fun j hj => ?_), hbg5, hbx5⟩
              by_cases hjn : j = n
              · subst hjn
                rw [HTN.out]
                simp
              · have e : decide (j < n + 1) = decide (j < n) := by rw [decide_eq_decide]; omega
                rw [e]
            case measure => simp [intOf]; omega
          | true =>
            by_cases hq0 : q = 0
            · have hqb : ((q : Int) == 0) = true := by rw [hq0]; rfl
              have HQ : Hid (fitR M (L.take (q + 1)).reverse n = true) := by
                have e : fitR M (L.take (q + 1)).reverse n = true := by rw [HTN.out, if_pos hq0]; rfl
                exact e
              have cn := hbn5.cell hln
              have fn := hbn5.froz n
              clear hq0
              go_wp2_with fail
              go_roundw
              case rel =>
                refine ⟨n + 1, by omega, by go_num, hbn5.set n true (fun j hj => ?_), hbg5.far (fun e => hgn e.symm) _ _, bel_set hbx5 (by omega) _ _⟩
                by_cases hjn : j = n
                · subst hjn
                  rw [if_pos rfl, HQ.out]
                  simp
                · have e : decide (j < n + 1) = decide (j < n) := by rw [decide_eq_decide]; omega
                  rw [if_neg hjn, e]
              case measure => simp [intOf]; omega
            · have hqb : ((q : Int) == 0) = false := by simp; omega
              have HQ : Hid (fitR M (L.take (q + 1)).reverse n = if s.r then fitR M (L.take q).reverse x.par else (upL M x.par).any (fitR M (L.take q).reverse)) := by
                have e : fitR M (L.take (q + 1)).reverse n = if s.r then fitR M (L.take q).reverse x.par else (upL M x.par).any (fitR M (L.take q).reverse) := by rw [HTN.out, if_neg hq0, Bool.true_and]
                exact e
              clear hq0
              obtain ⟨T, hT⟩ : ∃ T : Nat → Bool, (fun j : Nat => fitR M (L.take (q + 1)).reverse j) = T := ⟨_, rfl⟩
              have hT' : ∀ j : Nat, fitR M (L.take (q + 1)).reverse j = T j := fun j => congrFun hT j
              obtain ⟨F, hF⟩ : ∃ F : Int → Bool, fitR M (L.take q).reverse = F := ⟨_, rfl⟩
              have hFN : ∀ p : Int, p < 0 → F p = false := fun p hp => by rw [← hF]; exact fitR_none _ p (hw.neg p hp)
              have HQ' : Hid (T n = if s.r then F x.par else (upL M x.par).any F) := by
                have e := HQ.out
                rw [hT', hF] at e
                exact e
              have CLOSE : ∀ (wx : World) (acc : Bool), acc = T n → BT wx gn l.length (fun j => if j = n then acc else (decide (j < n) && T j)) → BT wx gn l.length (fun j => decide (j < n + 1) && fitR M (L.take (q + 1)).reverse j) := fun wx acc ha hbt => hbt.re (fun j hj => by
                rw [hT']
                by_cases hjn : j = n
                · subst hjn
                  rw [if_pos rfl, ha]
                  simp
                · have e : decide (j < n + 1) = decide (j < n) := by rw [decide_eq_decide]; omega
                  rw [if_neg hjn, e])
              have hbn6 : BT w5 gn l.length (fun j => if j = n then false else (decide (j < n) && T j)) := hbn5.re (fun j hj => by
                rw [hT']
                by_cases hjn : j = n
                · subst hjn
                  simp
                · rw [if_neg hjn])
              have hbg6 : BT w5 g l.length (fun j => F j) := hbg5.re (fun j _ => by rw [hF])
              have CLOSEG : ∀ wx, BT wx g l.length (fun j => F j) → BT wx g l.length (fun j => fitR M (L.take q).reverse j) := fun wx h => h.re (fun j _ => by rw [hF])
              have HCL : Hid (∀ (wx : World) (acc : Bool), acc = T n → BT wx gn l.length (fun j => if j = n then acc else (decide (j < n) && T j)) → BT wx gn l.length (fun j => decide (j < n + 1) && fitR M (L.take (q + 1)).reverse j)) := CLOSE
              have HCG : Hid (∀ wx, BT wx g l.length (fun j => F j) → BT wx g l.length (fun j => fitR M (L.take q).reverse j)) := CLOSEG
              clear CLOSE CLOSEG HQ hT hT' hF hbn5 hbg5 HTN
              have hgw : w.heap.size ≤ gn := by omega
              cases hsr : s.r with
              | true =>
                have HQ2 : Hid (T n = F x.par) := by
                  have e := HQ'.out
                  rw [hsr, if_pos rfl] at e
                  exact e
                rw [hsr] at s25
                by_cases hpn : x.par < 0
                · have hpn' : ¬ 0 ≤ x.par := by omega
                  have HQ3 : Hid (false = T n) := by
                    have e : false = T n := by rw [HQ2.out, hFN _ hpn]
                    exact e
                  go_wp2_with fail
                  go_loopw [10] (fun p wx => p = .int .i64 x.par ∧ wx = w5) (fun _ _ => 0)
                  case atStart => exact ⟨rfl, rfl⟩
                  case round =>
                    obtain ⟨rfl, hwx⟩ := hrel
                    subst hwx
                    go_wp2_with fail
                    go_roundw
                    case rel => exact ⟨n + 1, by omega, by go_num, HCL.out _ false HQ3.out hbn6, HCG.out _ hbg6, hbx5⟩
                    case measure => simp [intOf]; omega
                · have hpn' : 0 ≤ x.par := by omega
                  obtain ⟨pn, hpe⟩ : ∃ pn : Nat, x.par = pn := ⟨x.par.toNat, by omega⟩
                  have hpl : pn < l.length := by omega
                  have hpl' : (pn : Int) < (l.length : Int) := by omega
                  have cg := hbg6.cell hpl
                  have cn := hbn6.cell hln
                  have fn := hbn6.froz n
                  rw [hpe] at e25 HQ2
                  go_wp2_with fail
                  go_loopw [10] (fun p wx => p = .int .i64 pn ∧ wx = w5) (fun _ _ => 0)
                  case atStart => exact ⟨rfl, rfl⟩
                  case round =>
                    obtain ⟨rfl, hwx⟩ := hrel
                    subst hwx
                    cases hf : F pn with
                    | true =>
                      rw [hf] at cg
                      have HQ3 : Hid (true = T n) := by
                        have e : true = T n := by rw [HQ2.out, hf]
                        exact e
                      have s26 := far_cell (c := gn) (i := n) (v := .bool true) s25 (Nat.lt_of_lt_of_le hsbw hgw)
                      clear hf
                      go_wp2_with fail
                      go_roundw
                      case rel => exact ⟨n + 1, by omega, by go_num, HCL.out _ true HQ3.out (hbn6.set n true (fun j hj => by by_cases hjn : j = n <;> simp [hjn])), HCG.out _ (hbg6.far (fun e => hgn e.symm) _ _), bel_set hbx5 hgw _ _⟩
                      case measure => simp [intOf]; omega
                    | false =>
                      rw [hf] at cg
                      have HQ3 : Hid (false = T n) := by
                        have e : false = T n := by rw [HQ2.out, hf]
                        exact e
                      clear hf
                      go_wp2_with fail
                      go_roundw
                      case rel => exact ⟨n + 1, by omega, by go_num, HCL.out _ false HQ3.out hbn6, HCG.out _ hbg6, hbx5⟩
                      case measure => simp [intOf]; omega
              | false =>
                have HQ2 : Hid (T n = (upL M x.par).any F) := by
                  have e := HQ'.out
                  rw [hsr] at e
                  exact e
                rw [hsr] at s25
                go_wp2_with fail
                go_loopw [10] (fun sp wx => ∃ (p : Int) (acc : Bool), sp = .int .i64 p ∧ -1 ≤ p ∧ p < n ∧ (acc || (upL M p).any F) = T n ∧ BT wx gn l.length (fun j => if j = n then acc else (decide (j < n) && T j)) ∧ BT wx g l.length (fun j => F j) ∧ Below w.heap.size w wx) (fun sp _ => (intOf sp + 1).toNat)
                case atStart => exact ⟨x.par, false, rfl, hp2, hp1, by rw [HQ2.out]; rfl, hbn6, hbg6, hbx5⟩
                case round =>
                  obtain ⟨p, acc, rfl, hp3, hp4, hacc, hbn7, hbg7, hbx7⟩ := hrel
                  have HACC : Hid ((acc || (upL M p).any F) = T n) := hacc
                  clear hacc hbn6 hbg6 s25
                  by_cases hpn : p < 0
                  · have hpn' : ¬ 0 ≤ p := by omega
                    have HQ3 : Hid (acc = T n) := by
                      have e : acc = T n := by
                        have := HACC.out
                        unfold upL at this
                        rw [if_pos hpn] at this
                        simpa using this
                      exact e
                    go_wp2_with fail
                    go_roundw
                    case rel => exact ⟨n + 1, by omega, by go_num, HCL.out _ acc HQ3.out hbn7, HCG.out _ hbg7, hbx7⟩
                    case measure => simp [intOf]; omega
                  · have hpn' : 0 ≤ p := by omega
                    obtain ⟨pn, rfl⟩ : ∃ pn : Nat, p = pn := ⟨p.toNat, by omega⟩
                    have hpl : pn < l.length := by omega
                    have hpl' : (pn : Int) < (l.length : Int) := by omega
                    obtain ⟨y, hy⟩ : ∃ y, l[pn]? = some y := ⟨_, List.getElem?_eq_getElem hpl⟩
                    obtain ⟨hMy, -, -, -, -, hy1, hy2⟩ := hM pn y hy
                    have hup := upL_cons hw hMy
                    have hR7 := h.below hbx7
                    have cD7 := hR7.c
                    obtain ⟨b', off', hbo', -, -, e27, -, -⟩ := hR7.at_ pn y hy
                    cases hbo'
                    obtain ⟨sb', so2, hso2, -, -, s27⟩ := (hS.below hbx7) q s hs
                    cases hso2
                    rw [hsr] at s27
                    have cg := hbg7.cell hpl
                    have cn := hbn7.cell hln
                    have fn := hbn7.froz n
                    cases hf : F pn with
                    | true =>
                      rw [hf] at cg
                      have HQ3 : Hid ((true || (upL M y.par).any F) = T n) := by
                        have e : (true || (upL M y.par).any F) = T n := by
                          have := HACC.out
                          rw [hup, List.any_cons, hf] at this
                          simpa using this
                        exact e
                      have s28 := far_cell (c := gn) (i := n) (v := .bool true) s27 (Nat.lt_of_lt_of_le hsbw hgw)
                      have cD8 := far_cell (c := gn) (i := n) (v := .bool true) cD7 (Nat.lt_of_lt_of_le (cell_lt3 cD) hgw)
                      have e28 := far_cell (c := gn) (i := n) (v := .bool true) e27 (Nat.lt_of_lt_of_le hobw hgw)
                      clear hf hup
                      go_wp2_with fail
                      go_roundw
                      case rel => exact ⟨y.par, true, rfl, hy2, by omega, HQ3.out, hbn7.set n true (fun j hj => by by_cases hjn : j = n <;> simp [hjn]), hbg7.far (fun e => hgn e.symm) _ _, bel_set hbx7 hgw _ _⟩
                      case measure => simp [intOf]; omega
                    | false =>
                      rw [hf] at cg
                      have HQ3 : Hid ((acc || (upL M y.par).any F) = T n) := by
                        have e : (acc || (upL M y.par).any F) = T n := by
                          have := HACC.out
                          rw [hup, List.any_cons, hf, Bool.false_or] at this
                          exact this
                        exact e
                      clear hf hup
                      go_wp2_with fail
                      go_roundw
                      case rel => exact ⟨y.par, acc, rfl, hy2, by omega, HQ3.out, hbn7, hbg7, hbx7⟩
                      case measure => simp [intOf]; omega
        · have hln' : ¬ (n : Int) < (l.length : Int) := by omega
          obtain rfl : n = l.length := by omega
          go_wp2_with fail
          go_roundw
          case rel => exact ⟨q + 1, by omega, by go_num, gn, rfl, by omega, hbn.re (fun j hj => by simp [hj]), hbx⟩
          case measure => simp [intOf]; omega
    · have hlq' : ¬ (q : Int) < (m.length : Int) := by omega
      have hall : L.take q = L := List.take_of_length_le (by rw [← hm.len]; omega)
      rw [hall] at hbt
      go_wp2_with fail
      go_ret
      exact ⟨_, rfl, g, rfl, hg, hbt, hb⟩
end Go.Proofs.YtnoecobddhmhlaaGreatDoor

namespace Go.Proofs.YtnoecobddhmhlaaGreatDoor
open Go.RowKit

def lenW : Value → Nat
  | .slice _ n _ => n
  | _ => 0
/-- A row of numbers of one's own. -/
def OwnI (W : World) (base : Nat) (v : Value) (l : List Int) : Prop := W.ownsRow base 3 1 v l.length (intsV l)
theorem OwnI.snoc {W : World} {base : Nat} {v : Value} {l : List Int} {n : Int} (h : W.ownsRow base 3 1 v (l.length + 1) (intsV l ++ [.int .i64 n])) : OwnI W base v (l ++ [n]) := by
  unfold OwnI
  rw [List.length_append, intsV_app]
  exact h
theorem OwnI.app {W : World} {base : Nat} {v : Value} {l m : List Int} (h : W.ownsRow base 3 1 v (l.length + m.length) (intsV l ++ intsV m)) : OwnI W base v (l ++ m) := by
  unfold OwnI
  rw [List.length_append, intsV_app]
  exact h
structure Todo (M : Dm) (W : World) (base : Nat) (vo vt : Value) (out todo : List Int) : Prop where
  ow : OwnI W base vo out
  td : OwnI W base vt todo
  apart : vo.ownBlock = none ∨ vo.ownBlock ≠ vt.ownBlock
  all : out ++ todo.flatMap (allP M) = allP M 0
  ins : ∀ x ∈ todo, ∃ q, M x = some q
theorem own_lt {W : World} {base : Nat} {e : TypeId} {k : Nat} {v : Value} {n : Nat} {xs : List Value} (h : W.ownsRow base e k v n xs) : v.ownBlock ≠ some W.heap.size := fun he => by
  have := (h.lt _ he).2
  omega
set_option maxRecDepth 20000 in
set_option maxHeartbeats 8000000 in
theorem All_ref (base : Nat) (w : World) (D : Nat) (v : Value) (l : List RE) (h : RO base w D v l) (M : Dm) (r : Int → Nat) (hw : Wd M r) (hM : ∀ (i : Int) (e : Elm), M i = some e → ∃ (j : Nat) (x : RE), i = j ∧ l[j]? = some x ∧ x.kids = e.kids) (hl : (allP M 0).length ≤ 1000) (hk : ∀ x ∈ l, x.kids.length ≤ 1000) :
    Calls Tryz.prog 35 #[.pointer (some ⟨D, 0, none⟩)] w fun e W => (∃ u, e = .returned u ∧ OwnI W w.heap.size u (allP M 0)) ∧ Below w.heap.size w W := by
  obtain ⟨i0, hi, hz0, hz1, hz2⟩ := info_parts intInfo
  obtain ⟨e0, he0, -⟩ := hw.root
  have b0 : Below w.heap.size w (w.alloc (.cells #[.int .i64 0] 3)) := (Below.refl _ w).alloc (Nat.le_refl _) _
  have t0 : OwnI (w.alloc (.cells #[.int .i64 0] 3)) w.heap.size (.slice (some ⟨w.heap.size, 0, none⟩) 1 1) [0] := World.ownsRow_lit (e := 3) (size := 1) w #[.int .i64 0] 1 (Nat.le_refl _) (by decide) rfl
  go_enter Tryz.func35, Tryz.ntmps35
  go_wp2_with fail
  go_loopw [3, 4] (fun vo vt wr => ∃ out todo, Todo M wr w.heap.size vo vt out todo ∧ Below w.heap.size w wr) (fun vo _ _ => (allP M 0).length - lenW vo)
  case atStart => exact ⟨[], [0], ⟨World.ownsRow_nil _ _ _ _, t0, .inl rfl, by simp, fun x hx => by simp at hx; subst hx; exact ⟨e0, he0⟩⟩, b0⟩
  case round =>
    obtain ⟨out, todo, hT, hb⟩ := hrel
    clear b0 t0
    obtain ⟨oo, co, rfl⟩ := own_slice hT.ow
    obtain ⟨ot, ct, rfl⟩ := own_slice hT.td
    cases todo with
    | nil =>
      have hall : out = allP M 0 := by have := hT.all; simpa using this
      have HA : Hid (OwnI wr w.heap.size (.slice oo out.length co) (allP M 0)) := by rw [← hall]; exact hT.ow
      clear hall hT
      go_wp2_with fail
      go_ret
      exact ⟨⟨_, rfl, HA.out⟩, hb⟩
    | cons i t =>
      obtain ⟨q, hq⟩ := hT.ins i (List.mem_cons_self ..)
      obtain ⟨j, x, rfl, hx, hxk⟩ := hM i q hq
      have hless := hw.all_less hq hT.all
      have hstep := (hw.all_step hq out t).symm.trans hT.all
      have hins := hw.todo_step hq (todo := t) fun y hy => hT.ins y (List.mem_cons_of_mem _ hy)
      have HS : Hid ((out ++ [(j : Int)]) ++ (x.kids ++ t).flatMap (allP M) = allP M 0 ∧ ∀ y ∈ x.kids ++ t, ∃ q, M y = some q) := by rw [hxk]; exact ⟨hstep, hins⟩
      have htl : t.length ≤ 1000 := by
        have := congrArg List.length hT.all
        rw [List.length_append, List.flatMap_cons, List.length_append] at this
        have h2 : t.length ≤ (t.flatMap (allP M)).length := by
          have hpos : ∀ y ∈ t, 1 ≤ (allP M y).length := fun y hy => by
            obtain ⟨q', hq'⟩ := hT.ins y (List.mem_cons_of_mem _ hy)
            rw [hw.allP_kids hq']
            simp
          clear hT hstep hins HS this hless
          induction t with
          | nil => simp
          | cons y t ih =>
            rw [List.flatMap_cons, List.length_append, List.length_cons]
            have := hpos y (List.mem_cons_self ..)
            have := ih (fun z hz => hpos z (List.mem_cons_of_mem _ hz))
            omega
        omega
      have hxl := hk x (List.mem_of_getElem? hx)
      obtain ⟨g, ct', hot, hct, hct2⟩ : ∃ g c, Value.slice ot (t.length + 1) ct = .slice (some ⟨g, 0, none⟩) (t.length + 1) c ∧ t.length + 1 ≤ c ∧ c ≤ maxLen := by
        rcases hT.td.2 with ⟨h1, -⟩ | ⟨g, c, cur, h1, -, -, h2, h3, -⟩
        · cases h1
        · exact ⟨g, c, h1, h2, h3⟩
      injection hot with hot _ hct3
      subst hot hct3
      have hlt : j < l.length := (List.getElem?_eq_some_iff.1 hx).1
      have hlt' : (j : Int) < (l.length : Int) := by omega
      obtain ⟨gl, cl, rfl⟩ : ∃ gl cl, v = .slice (some ⟨gl, 0, none⟩) l.length cl := by
        rcases h.row.2 with ⟨-, h1⟩ | ⟨gl, cl, cur, h1, -⟩
        · omega
        · exact ⟨gl, cl, h1⟩
      have hrow : w.ownsRow base 62 5 (.slice (some ⟨gl, 0, none⟩) l.length cl) l.length (cellsE l) := h.row
      have c3 : w.cell? ⟨gl, j * 5 + 3, none⟩ = some (.slice x.ok x.kids.length x.ck) := by
        rw [World.ownsRow.cellAt hrow (j * 5 + 3) (by omega)]
        exact (cellsE_get l j x hx).2.2.2.1
      have cD : w.cell? ⟨D, 0, none⟩ = some (.slice (some ⟨gl, 0, none⟩) l.length cl) := bcell h.doc 0 _ rfl
      have CN : ∀ V, Below w.heap.size w V → V.cell? ⟨D, 0, none⟩ = some (.slice (some ⟨gl, 0, none⟩) l.length cl) ∧ V.cell? ⟨gl, j * 5 + 3, none⟩ = some (.slice x.ok x.kids.length x.ck) := fun V hV => ⟨(hV.cell (cell_lt3 cD)).trans cD, (hV.cell (cell_lt3 c3)).trans c3⟩
      have hkid := h.kids x (List.mem_of_getElem? hx)
      have KN : ∀ V, Below w.heap.size w V → (x.ok = none → x.kids.length = 0 ∧ x.ck = 0) ∧ ∀ ad, x.ok = some ad → ∀ p u, (intsV x.kids)[p]? = some u → V.cell? (ad.add p) = some u := fun V hV => by
        have hkV := ownB_below hkid hV
        refine ⟨fun hn => ?_, fun ad had p u hp => ?_⟩
        · rcases hkid.2 with ⟨h1, h2⟩ | ⟨_, _, _, h1, -⟩
          · injection h1 with _ _ h3
            exact ⟨h2, h3⟩
          · rw [hn] at h1; cases h1
        · rcases hkV.2 with ⟨h1, h2⟩ | ⟨g3, c3, cur, h1, -⟩
          · rw [had] at h1; cases h1
          · have h1' := h1
            rw [had] at h1'
            injection h1' with h1'
            injection h1' with h1'
            subst h1'
            rw [h1] at hkV
            exact row_news hkV 0 p u hp
      have c0 : wr.cell? ⟨g, 0, none⟩ = some (.int .i64 j) := by
        obtain ⟨g2, hg2, hc⟩ := row_get hT.td 0 (.int .i64 j) rfl
        cases hg2
        exact hc
      obtain ⟨hTo, hTt, hTa, -, -⟩ := hT
      have hTo' : wr.ownsRow w.heap.size 3 1 (.slice oo out.length co) out.length (intsV out) := hTo
      have hwr := hb.size
      have HL : Hid (∀ V, Below w.heap.size w V → (x.ok = none → x.kids.length = 0 ∧ x.ck = 0) ∧ ∀ ad, x.ok = some ad → ∀ p u, (intsV x.kids)[p]? = some u → V.cell? (ad.add p) = some u) := KN
      have hol : out.length ≤ 1000 := by omega
      clear h hkid hrow KN hw hM he0 hstep hins hq hxk hx hk
      go_upto_region 6 with (at_builtin; refine wpList_append_own_at _ rfl _ _ 60 rfl w.heap.size 3 i0 (.int .i64 0) 1 8 Tryz.underlying60 hi hz0 hz1 hz2 rfl (by decide) _ _ _ rfl (World.ownsRow.alloc hTo' _) ⟨wr.heap.size, 0, none⟩ 1 1 [.int .i64 j] rfl rfl (cell_one_new _ _ _) (fun u hu => by simp at hu; subst hu; rfl) (by simp only [maxLen]; omega) (by omega) (by simp; omega) ?_; intro v1 w1 ow1 gr1 _ at1)
      have hsz1 : wr.heap.size + 1 ≤ w1.heap.size := by have := gr1.size; rwa [World.size_alloc] at this
      have b1 : Below w.heap.size w w1 := (hb.alloc hwr _).grown gr1 (by rw [World.size_alloc]; omega) (fun r hr => (hTo'.lt r hr).1)
      have hTt' : wr.ownsRow w.heap.size 3 1 (.slice (some ⟨g, 0, none⟩) (t.length + 1) ct) (t.length + 1) (intsV ((j : Int) :: t)) := hTt
      have hg := (hTt'.lt g rfl).2
      have hng : (Value.slice oo out.length co).ownBlock ≠ some g := fun he => by
        rcases hTa with h1 | h1
        · rw [h1] at he; cases he
        · exact h1 he
      have hTt1 : w1.ownsRow w.heap.size 3 1 (.slice (some ⟨g, 0, none⟩) (t.length + 1) ct) (t.length + 1) (intsV ((j : Int) :: t)) := (hTt'.alloc _).kept gr1 (.inr fun he => hng he.symm)
      have hat1 : v1.ownBlock ≠ some g := fun he => by
        rcases at1 with h1 | h1
        · exact hng (h1.symm.trans he)
        · rw [h1] at he
          injection he with he
          rw [World.size_alloc] at he
          omega
      obtain ⟨hno, hnews⟩ := HL.out w1 b1
      obtain ⟨cD1, cK1⟩ := CN w1 b1
      have hw1 := b1.size
      clear at1 gr1 hTo hTo' hTt hTt' hTa hng hb c0 HL
      go_upto_region 8 with (at_builtin; refine append_any _ rfl _ _ 60 rfl w.heap.size 3 i0 (.int .i64 0) 1 8 Tryz.underlying60 hi hz0 hz1 hz2 rfl (by decide) _ _ _ rfl (World.ownsRow_nil _ _ _ _) x.ok x.kids.length x.ck (intsV x.kids) rfl (by rw [intsV_len, Nat.mul_one]) hno hnews (intsV_one _) (by simp only [maxLen]; omega) (by omega) hw1 ?_; intro v2 w2 ow2 gr2 at2)
      have bl2 : Below w1.heap.size w1 w2 := (Below.refl _ w1).grown gr2 (Nat.le_refl _) (fun r hr => by cases hr)
      have b2 : Below w.heap.size w w2 := b1.trans (bl2.mono hw1)
      have ow1' := ownB_below ow1 bl2
      have hTt2 := ownB_below hTt1 bl2
      have hat2 : v2.ownBlock = none ∨ v2.ownBlock = some w1.heap.size := at2
      have hv12 : v1.ownBlock = none ∨ v1.ownBlock ≠ v2.ownBlock := by
        cases hv : v1.ownBlock with
        | none => exact .inl rfl
        | some q =>
          refine .inr fun he => ?_
          have hq := (ow1.lt q hv).2
          rcases hat2 with h1 | h1
          · rw [h1] at he; cases he
          · rw [h1] at he; injection he with he; omega
      have hw2 := b2.size
      have ow2' : w2.ownsRow w.heap.size 3 1 v2 x.kids.length (intsV x.kids) := by rw [Nat.zero_add, List.nil_append] at ow2; exact ow2
      have FIN : ∀ v3 w3, w3.ownsRow w.heap.size 3 1 v3 (x.kids.length + t.length) (intsV x.kids ++ intsV t) → w2.grownBy w3 v2.ownBlock → (v3.ownBlock = v2.ownBlock ∨ v3.ownBlock = some w2.heap.size) → Todo M w3 w.heap.size v1 v3 (out ++ [(j : Int)]) (x.kids ++ t) ∧ Below w.heap.size w w3 := fun v3 w3 ow3 gr3 at3 => by
        refine ⟨⟨OwnI.snoc (ow1'.kept gr3 hv12), OwnI.app ow3, ?_, HS.out.1, HS.out.2⟩, b2.grown gr3 hw2 (fun r hr => (ow2'.lt r hr).1)⟩
        rcases at3 with h1 | h1
        · rw [h1]; exact hv12
        · rw [h1]
          exact .inr (own_lt ow1')
      obtain ⟨o1, c1, rfl⟩ := own_slice ow1
      have HFIN : Hid (∀ v3 w3, w3.ownsRow w.heap.size 3 1 v3 (x.kids.length + t.length) (intsV x.kids ++ intsV t) → w2.grownBy w3 v2.ownBlock → (v3.ownBlock = v2.ownBlock ∨ v3.ownBlock = some w2.heap.size) → Todo M w3 w.heap.size (.slice o1 (out.length + 1) c1) v3 (out ++ [(j : Int)]) (x.kids ++ t) ∧ Below w.heap.size w w3) := FIN
      have HN : Hid (∀ p u, (intsV t)[p]? = some u → w2.cell? ((⟨g, 1, none⟩ : Addr).add p) = some u) := fun p u hp => row_news hTt2 1 p u hp
      clear FIN ow1 ow1' ow2 at2 hat2 hv12 HS bl2 gr2 hTt1 hTt2 hno hnews hat1
      by_cases hc1 : ct = 1
      · obtain rfl : t = [] := List.length_eq_zero_iff.1 (by omega)
        subst hc1
        go_wp2_with (at_builtin; refine wpList_append_own_at _ rfl _ _ 60 rfl w.heap.size 3 i0 (.int .i64 0) 1 8 Tryz.underlying60 hi hz0 hz1 hz2 rfl (by decide) _ _ _ rfl ow2' ⟨g, 0, none⟩ 0 0 [] rfl rfl (fun j u hj => by simp at hj) (fun u hu => by cases hu) (by simp only [maxLen]; omega) (by omega) hw2 ?_; intro v3 w3 ow3 gr3 _ at3)
        go_roundw
        case rel => exact ⟨_, _, HFIN.out v3 w3 ow3 gr3 at3⟩
        case measure => simp [lenW]; omega
      · have hc1' : 1 < ct := by omega
        have hc1i : (1 : Int) < (ct : Int) := by omega
        have hct1 : ¬ ct - 1 = 0 := by omega
        go_wp2_with (at_builtin; refine wpList_append_own_at _ rfl _ _ 60 rfl w.heap.size 3 i0 (.int .i64 0) 1 8 Tryz.underlying60 hi hz0 hz1 hz2 rfl (by decide) _ _ _ rfl ow2' ⟨g, 1, none⟩ t.length (ct - 1) (intsV t) rfl (by rw [intsV_len, Nat.mul_one]) HN.out (intsV_one _) (by simp only [maxLen]; omega) (by omega) hw2 ?_; intro v3 w3 ow3 gr3 _ at3)
        go_roundw
        case rel => exact ⟨_, _, HFIN.out v3 w3 ow3 gr3 at3⟩
        case measure => simp [lenW]; omega
end Go.Proofs.YtnoecobddhmhlaaGreatDoor

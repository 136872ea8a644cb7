/-
  A document: Remove.
-/
import Derived.Test.YtnoecobddhmhlaaGreatDoorJ12
import Derived.Test.YtnoecobddhmhlaaGreatDoorJ14
namespace Go.Proofs.YtnoecobddhmhlaaGreatDoor
open Go.RowKit

theorem cutE_nil (M : Dm) : cutE M [] = M := by funext i; simp [cutE]
set_option maxHeartbeats 2000000 in
/-- The root is not removed. -/
theorem Remove_root {E : Nat → Addr} {B : Nat} {tg : Tags} {W : World} {DB MB : Nat} {p : Int → Option Nat} {M : Dm} {nx c : Nat} (hE : DE E W) (hd : DocW B tg W DB MB p M nx c) (e : Elm) (hn : M 0 = some e) :
    Calls Tryz.prog 15 #[.pointer (some ⟨DB, 0, none⟩), .int .i64 0] W fun r w' => r = .returned (eV (E 3)) ∧ w' = W := by
  obtain ⟨EB, va, vk, hpn, he⟩ := hd.els 0 e hn
  have d0 := hd.d0
  have c3 := hE.c3
  unfold eV
  go_enter Tryz.func15, Tryz.ntmps15
  go_wp2_with (at_lookup; refine look_yes _ rfl _ _ 100 rfl Tryz.underlying3 Tryz.underlying100 (zeroEl _) rfl hd.map 0 rfl (by decide) EB hpn ?_)
  go_ret
  exact ⟨rfl, rfl⟩

set_option maxRecDepth 20000 in
set_option maxHeartbeats 4000000 in
theorem Remove_doc {B : Nat} {tg : Tags} {W : World} {DB MB : Nat} {p : Int → Option Nat} {M : Dm} {nx c : Nat} (hd : DocW B tg W DB MB p M nx c) (n : Int) (e q : Elm) (hn : M n = some e) (hn0 : n ≠ 0) (hq : M e.parent = some q) (hk : q.kids ≠ []) (f : Nat) (hf : f ≤ 900000) (L : List Int)
    (hp : Dp (putE M e.parent ⟨q.name, q.ats, q.parent, woL q.kids n⟩) f n) (hL : fromL (putE M e.parent ⟨q.name, q.ats, q.parent, woL q.kids n⟩) f n = L) (hin : ∀ k ∈ L, putE M e.parent ⟨q.name, q.ats, q.parent, woL q.kids n⟩ k ≠ none) (hnd : L.Nodup) (hll : L.length ≤ 1000000) :
    Calls Tryz.prog 15 #[.pointer (some ⟨DB, 0, none⟩), .int .i64 n] W fun r w' => r = .returned .nilIface ∧ KT tg W w' ∧ ∃ tg' p', (∀ x, x < W.heap.size → tg' x = tg x) ∧ DocW B tg' w' DB MB p' (cutE (putE M e.parent ⟨q.name, q.ats, q.parent, woL q.kids n⟩) L) nx (c - L.length) := by
  obtain ⟨EB, va, vk, hpn, he⟩ := hd.els n e hn
  have hwn := hd.i64 hn
  have d0 := hd.d0
  have TO := takeOut_doc hd n e q hn hq hk
  have hn0' : (n == 0) = false := by rw [beq_eq_false_iff_ne]; exact hn0
  obtain ⟨M1, hM1⟩ : ∃ M1, putE M e.parent ⟨q.name, q.ats, q.parent, woL q.kids n⟩ = M1 := ⟨_, rfl⟩
  rw [hM1] at TO hp hL hin ⊢
  clear hM1
  go_enter Tryz.func15, Tryz.ntmps15
  go_upto_region 7 with (first | (at_lookup; refine look_yes _ rfl _ _ 100 rfl Tryz.underlying3 Tryz.underlying100 (zeroEl _) rfl hd.map n rfl hwn EB hpn ?_) | (go_at_call 62; refine TO.mono ?_; rintro r w1 ⟨rfl, kt1, tg1, tk1, d1⟩))
  have FR := from_doc d1 f n hf hp hwn (by rw [hL]; exact hll)
  rw [hL] at FR
  have HIN : Hid (∀ k ∈ L, M1 k ≠ none) := hin
  have HND : Hid L.Nodup := hnd
  have HKT : Hid (KT tg W w1 ∧ ∀ x, x < W.heap.size → tg1 x = tg x) := ⟨kt1, tk1⟩
  have hll' : (L.length : Int) ≤ 1000000 := by omega
  clear hin hnd TO hp hL
  go_wp2_with (go_at_call 63; refine FR.mono ?_; rintro r w2 ⟨o2, k2, rfl, b2, ow2⟩)
  have d2 := d1.below b2
  have HD2 : Hid (DocW B tg1 w2 DB MB p M1 nx c) := d2
  have lM : MB < w1.heap.size := d1.map.lt
  have HB2 : Hid (Below w1.heap.size w1 w2) := b2
  clear d1 d2 b2 FR d0 kt1 tk1
  go_loopw [33] (fun y wr => ∃ (i : Nat) (p' : Int → Option Nat), i ≤ L.length ∧ y = .int .i64 i ∧ w2.grownBy wr (some MB) ∧ DocW B tg1 wr DB MB p' (cutE M1 (L.take i)) nx (c - i)) (fun y _ => L.length - (intOf y).toNat)
  case atStart => exact ⟨0, p, Nat.zero_le _, rfl, ⟨rfl, rfl, rfl, Nat.le_refl _, fun _ _ _ => rfl⟩, by rw [List.take_zero, cutE_nil]; exact HD2.out⟩
  case round =>
    obtain ⟨i, p', hi, rfl, hg, hdi⟩ := hrel
    by_cases hlt : i < L.length
    · have hlt' : (i : Int) < (L.length : Int) := by omega
      obtain ⟨k, hx, -⟩ := drop_at hlt
      obtain ⟨g, hgb, hc⟩ := row_get ow2 i _ (intsV_get hx)
      have hov : o2 = some ⟨g, 0, none⟩ := by
        obtain ⟨o', cap', h1, -, -, -, h2⟩ := row_slice ow2
        cases h1
        exact h2 g hgb
      subst hov
      have hgM : g ≠ MB := by have := (ow2.lt g hgb).1; omega
      have hcw := (World.cell?_of_block (a := ⟨g, i, none⟩) (hg.block g (ow2.lt g hgb).2 (fun e1 => hgM (Option.some.inj e1)))).trans hc
      have hkm : k ∈ L := List.mem_of_getElem? hx
      have hnk : k ∉ L.take i := fun hm => by
        have := HND.out
        rw [← List.take_append_drop i L] at this
        exact (List.nodup_append.1 this).2.2 k hm k (by
          obtain ⟨y, hy, hdr⟩ := drop_at hlt
          rw [hx] at hy
          cases hy
          rw [hdr]
          simp) rfl
      obtain ⟨fk, hfk⟩ : ∃ fk, cutE M1 (L.take i) k = some fk := by
        unfold cutE
        rw [if_neg hnk]
        cases hm : M1 k with
        | none => exact absurd hm (HIN.out k hkm)
        | some fk => exact ⟨fk, rfl⟩
      obtain ⟨kb, ka, kk, hpk, -⟩ := hdi.els k fk hfk
      have hwk := hdi.i64 hfk
      have d0 := hdi.d0
      have htk : cutE M1 (L.take (i + 1)) = delE (cutE M1 (L.take i)) k := by
        rw [List.take_add_one, hx]
        exact cutE_snoc _ _ _
      have HTK : Hid (cutE M1 (L.take (i + 1)) = delE (cutE M1 (L.take i)) k) := htk
      clear htk hx hkm hnk hc hgb
      go_wp2_with (at_delete; refine strike_it _ rfl _ _ 100 3 rfl Tryz.underlying3 Tryz.underlying100 rfl hdi.map k rfl hwk kb hpk ?_; intro w3 pm3 ht3)
      have HD3 : Hid (DocW B tg1 w3 DB MB (fun j => if j = k then none else p' j) (cutE M1 (L.take (i + 1))) nx (c - (i + 1))) := (by rw [HTK.out, Nat.sub_add_eq]; exact hdi.cut pm3 ht3 : DocW B tg1 w3 DB MB (fun j => if j = k then none else p' j) (cutE M1 (L.take (i + 1))) nx (c - (i + 1)))
      have hg3 : w2.grownBy w3 (some MB) := hg.trans ht3.grown
      go_roundw
      case rel => exact ⟨i + 1, _, by omega, by go_num, hg3, HD3.out⟩
      case measure => simp [intOf]; omega
    · obtain rfl : i = L.length := by omega
      have hge : ¬ (L.length : Int) < (L.length : Int) := by omega
      rw [List.take_length] at hdi
      go_wp2_with fail
      go_ret
      refine ⟨rfl, ?_, tg1, HKT.out.2, p', hdi⟩
      have kt := HKT.out.1
      have bb := HB2.out
      refine kt.trans (tg' := tg1) ⟨hg.os.trans bb.os, hg.tape.trans bb.tape, hg.output.trans bb.output, Nat.le_trans bb.size hg.size, fun b hb ht => ?_⟩ HKT.out.2
      exact (hg.block b (Nat.lt_of_lt_of_le hb bb.size) (fun e1 => by have e2 := Option.some.inj e1; rw [e2, hdi.mtag] at ht; cases ht)).trans (bb.block b hb)

end Go.Proofs.YtnoecobddhmhlaaGreatDoor

namespace Go.Proofs.YtnoecobddhmhlaaGreatDoor
open Go.RowKit

def putL : Array Value → Nat → List Value → Array Value
  | cur, _, [] => cur
  | cur, o, v :: r => putL (cur.setIfInBounds o v) (o + 1) r
theorem putL_size : ∀ (vs : List Value) (cur : Array Value) (o : Nat), (putL cur o vs).size = cur.size
  | [], _, _ => rfl
  | v :: r, cur, o => by rw [putL, putL_size r]; simp
theorem putL_get : ∀ (vs : List Value) (cur : Array Value) (o j : Nat), o + vs.length ≤ cur.size → (putL cur o vs)[j]? = if o ≤ j ∧ j < o + vs.length then vs[j - o]? else cur[j]?
  | [], cur, o, j, _ => by rw [putL, if_neg (by simp only [List.length_nil]; omega)]
  | v :: r, cur, o, j, h => by
    rw [List.length_cons] at h
    rw [putL, putL_get r _ _ _ (by simp; omega)]
    by_cases h1 : o + 1 ≤ j ∧ j < o + 1 + r.length
    · rw [if_pos h1, if_pos (by rw [List.length_cons]; omega), show j - o = (j - (o + 1)) + 1 from by omega]
      simp
    · rw [if_neg h1, Array.getElem?_setIfInBounds]
      by_cases h2 : o = j
      · subst h2
        rw [if_pos rfl, if_pos (by omega), if_pos (by rw [List.length_cons]; omega)]
        simp
      · rw [if_neg h2, if_neg (by rw [List.length_cons]; omega)]
theorem setCells_at : ∀ (vs : List Value) (w : World) (g o : Nat) (cur : Array Value) (t : TypeId), w.heap[g]? = some (.cells cur t) → (w.setCells g o vs).heap[g]? = some (.cells (putL cur o vs) t)
  | [], _, _, _, _, _, h => h
  | v :: r, w, g, o, cur, t, h => by
    rw [World.setCells, putL]
    exact setCells_at r _ g (o + 1) _ t (heap_setCell_same w g o cur t v h)
theorem setCells_far : ∀ (vs : List Value) (w : World) (g o x : Nat), x ≠ g → (w.setCells g o vs).heap[x]? = w.heap[x]?
  | [], _, _, _, _, _ => rfl
  | v :: r, w, g, o, x, h => by
    rw [World.setCells, setCells_far r _ g (o + 1) x h]
    exact Below.heap_setCell _ _ _ x h
theorem setCells_kept : ∀ (vs : List Value) (w : World) (g o : Nat), w.grownBy (w.setCells g o vs) (some g)
  | [], w, g, o => ⟨rfl, rfl, rfl, Nat.le_refl _, fun _ _ _ => rfl⟩
  | v :: r, w, g, o => by
    rw [World.setCells]
    have h1 := setCells_kept r (w.setCell ⟨g, o, none⟩ v) g (o + 1)
    have h2 := (Below.refl g w).setCell (p := ⟨g, o, none⟩) (Nat.le_refl _) v
    have h3 : w.grownBy (w.setCell ⟨g, o, none⟩ v) (some g) := ⟨h2.os, h2.tape, h2.output, h2.size, fun x _ hx => Below.heap_setCell _ _ _ x (fun e => hx (by rw [e]))⟩
    exact h3.trans h1
/-- With one more at a place. -/
def insAt (L : List Int) (i : Nat) (k : Int) : List Int := L.take i ++ k :: L.drop i
theorem insAt_len (L : List Int) (i : Nat) (k : Int) (h : i ≤ L.length) : (insAt L i k).length = L.length + 1 := by
  unfold insAt
  simp
  omega
theorem insAt_get (L : List Int) (i j : Nat) (k : Int) (h : i ≤ L.length) : (intsV (insAt L i k))[j]? = if j < i then (intsV L)[j]? else if j = i then some (.int .i64 k) else (intsV L)[j - 1]? := by
  unfold insAt intsV
  rw [List.getElem?_map, List.getElem?_map, List.getElem?_map]
  by_cases h1 : j < i
  · rw [if_pos h1, List.getElem?_append_left (by simp; omega), List.getElem?_take, if_pos h1]
  · rw [if_neg h1, List.getElem?_append_right (by simp; omega), List.length_take, Nat.min_eq_left h]
    by_cases h2 : j = i
    · subst h2
      rw [if_pos rfl, Nat.sub_self]
      rfl
    · rw [if_neg h2, show j - i = (j - i - 1) + 1 from by omega, List.getElem?_cons_succ, List.getElem?_drop, show i + (j - i - 1) = j - 1 from by omega]
theorem take_is {cur : Array Value} {xs : List Value} {n : Nat} (hn : xs.length = n) (h : ∀ j, j < n → cur[j]? = xs[j]?) : cur.toList.take (n * 1) = xs := by
  apply List.ext_getElem?
  intro j
  rw [Nat.mul_one, List.getElem?_take]
  by_cases hj : j < n
  · rw [if_pos hj, Array.getElem?_toList]; exact h j hj
  · rw [if_neg hj, List.getElem?_eq_none (by omega)]
theorem grown_drew {w w' : World} {r : Option Nat} {k : Nat} (h : (w.drewN k).grownBy w' r) : w.grownBy w' r := ⟨h.os, h.tape, h.output, h.size, h.block⟩

theorem own_make {w : World} {B g cap n : Nat} {cur : Array Value} {xs : List Value} (hB : B ≤ g) (hg : w.heap[g]? = some (.cells cur 3)) (h1 : xs.length = n) (h2 : n ≤ cap) (h3 : cap ≤ maxLen) (h4 : cur.size = cap) (h5 : ∀ j, j < n → cur[j]? = xs[j]?) : w.ownsRow B 3 1 (.slice (some ⟨g, 0, none⟩) n cap) n xs :=
  ⟨by rw [h1, Nat.mul_one], .inr ⟨g, cap, cur, rfl, hB, hg, h2, h3, by rw [h4, Nat.mul_one], take_is h1 h5⟩⟩
theorem two_sizes (w : World) (o : Obj) (g i j : Nat) (a b : List Value) : w.heap.size ≤ ((((w.alloc o).drew.setCells g i a).drew).setCells g j b).heap.size := by
  have h1 : w.heap.size ≤ (w.alloc o).heap.size := (mal w o).size
  have h2 : (w.alloc o).heap.size ≤ ((w.alloc o).drew.setCells g i a).heap.size := (setCells_kept a ((w.alloc o).drew) g i).size
  have h3 : ((w.alloc o).drew.setCells g i a).heap.size ≤ ((((w.alloc o).drew.setCells g i a).drew).setCells g j b).heap.size := (setCells_kept b (((w.alloc o).drew.setCells g i a).drew) g j).size
  omega
theorem zero_size (n : Nat) : (Builtin.zeroCells (Value.int .i64 0).cells n).size = n := by
  simp [Builtin.zeroCells, Value.cells]

set_option maxHeartbeats 2000000 in
theorem InsE {B : Nat} {w : World} {v : Value} {L : List Int} {k : Int} {i vb : Nat} (ho : w.ownsRow B 3 1 v L.length (intsV L)) (hi : i ≤ L.length) (hb : L.length ≤ 1000000) (hv : w.heap[vb]? = some (.cells #[.int .i64 k] 3)) (hne : v.ownBlock ≠ some vb) (hB : B ≤ w.heap.size) :
    Calls Tryz.prog 59 #[v, .int .i64 i, .slice (some ⟨vb, 0, none⟩) 1 1] w fun e w' => ∃ o c, e = .returned (.slice o (L.length + 1) c) ∧ w'.ownsRow B 3 1 (.slice o (L.length + 1) c) (L.length + 1) (intsV (insAt L i k)) ∧ w.grownBy w' v.ownBlock ∧ ((Value.slice o (L.length + 1) c).ownBlock = v.ownBlock ∨ ∀ g, (Value.slice o (L.length + 1) c).ownBlock = some g → w.heap.size ≤ g) := by
  have hlen : (intsV L).length = L.length := intsV_len L
  have hil : (intsV (insAt L i k)).length = L.length + 1 := (intsV_len _).trans (insAt_len L i k hi)
  have hvs : ∀ j u, [Value.int .i64 k][j]? = some u → w.cell? ⟨vb, 0 + j, none⟩ = some u := fun j u hu => by
    rw [Nat.zero_add]
    exact bcell hv j u (by simpa using hu)
  have h1v : ∀ u ∈ [Value.int .i64 k], u.oneCell' = true := fun u hu => by simp at hu; rw [hu]; rfl
  have h1c : ∀ u ∈ intsV L, u.oneCell' = true := fun u hu => by
    obtain ⟨x, -, rfl⟩ := List.mem_map.1 hu
    rfl
  have fresh : ∀ (o : Option Addr) (c : Nat), (∀ a, o = some a → ∀ j u, (intsV L)[j]? = some u → w.cell? (a.add j) = some u) → (o = none → L.length = 0) → L.length ≤ c → c < L.length + 1 → i = L.length →
      Calls Tryz.prog 59 #[.slice o L.length c, .int .i64 i, .slice (some ⟨vb, 0, none⟩) 1 1] w fun e w' => ∃ o' c', e = .returned (.slice o' (L.length + 1) c') ∧ w'.ownsRow B 3 1 (.slice o' (L.length + 1) c') (L.length + 1) (intsV (insAt L i k)) ∧ (∀ r, w.grownBy w' r) ∧ ∀ g, (Value.slice o' (L.length + 1) c').ownBlock = some g → w.heap.size ≤ g := fun o c hc hz h3 h4 h5 => by
    subst h5
    have H := Any2.slices_Insert_int_end_grow Tryz.lays2x21 o L.length c vb 0 1 1 (intsV L) [.int .i64 k] w (by decide) h3 (by omega) (by omega) hlen rfl hz hc hvs h1v
    refine H.mono fun e w' ⟨he, hw⟩ => ⟨_, _, he, ?_, fun r => ?_, fun g hg => by cases hg; exact Nat.le_refl _⟩
    · rw [hw]
      have hcg := grownCap_ge w (L.length + 1) c (Tryz.lays2x21_ren.t 3)
      refine own_make hB (mbox w.drew _ _) hil hcg (grownCap_le_maxLen _ _ _ _ (by rw [maxLen_eq]; omega)) ?_ fun j hj => ?_
      · rw [Array.size_append, zero_size]
        simp [hlen]
        omega
      · rw [Array.getElem?_append_left (by simp [hlen]; omega), List.getElem?_toArray, insAt_get L _ j k (Nat.le_refl _)]
        by_cases h6 : j < L.length
        · rw [if_pos h6, List.getElem?_append_left (by omega)]
        · rw [if_neg h6, if_pos (by omega), List.getElem?_append_right (by omega), show j - (intsV L).length = 0 from by omega]
          rfl
    · rw [hw]
      exact ⟨rfl, rfl, rfl, (mal w _).size, fun x hx _ => (mal w _).block x hx⟩
  obtain ⟨h1, h2⟩ := ho
  rcases h2 with ⟨rfl, h2⟩ | ⟨g, cap, cur, rfl, h3, h4, h5, h6, h7, h8⟩
  · have H := fresh none 0 (fun a ha => by cases ha) (fun _ => h2) (by omega) (by omega) (by omega)
    rw [h2] at H
    rw [h2]
    exact H.mono fun e w' ⟨o', c', r1, r2, r3, r4⟩ => ⟨o', c', r1, r2, r3 _, .inr r4⟩
  rw [Nat.mul_one] at h7 h8
  have hgv : vb ≠ g := fun e => hne (by rw [e]; rfl)
  have hcur : ∀ j, j < L.length → cur[j]? = (intsV L)[j]? := fun j hj => by
    rw [← h8, List.getElem?_take, if_pos hj, Array.getElem?_toList]
  have hcs : ∀ j u, (intsV L)[j]? = some u → w.cell? ⟨g, 0 + j, none⟩ = some u := fun j u hu => by
    have hj : j < L.length := by rw [← hlen]; exact (List.getElem?_eq_some_iff.1 hu).1
    rw [Nat.zero_add]
    exact bcell h4 j u ((hcur j hj).trans hu)
  rw [maxLen_eq] at h6
  have hin : ∀ j, j < cap → (w.cell? ⟨g, 0 + j, none⟩).isSome = true := fun j hj => by
    rw [Nat.zero_add, bcell h4 j _ (Array.getElem?_eq_getElem (by omega))]
    rfl
  by_cases hroom : L.length + 1 ≤ cap
  · by_cases hil2 : i < L.length
    · have H := Any2.slices_Insert_int_shift Tryz.lays2x21 g 0 L.length cap i vb 0 1 1 (intsV L) [.int .i64 k] w hil2 (by decide) hroom (by omega) hgv hlen rfl hcs (fun j hj => hin j (by omega)) (fun j _ => froz_at h4 _) hvs h1c h1v 3 3 1 cap (by unfold World.shape?; rw [hv]; rfl) (by unfold World.shape?; rw [h4]; simp [h7]) (by omega) (froz_at hv _) (froz_at hv _)
      refine H.mono fun e w' ⟨he, hw⟩ => ⟨_, _, he, ?_, ?_, .inl rfl⟩
      · rw [hw, Nat.zero_add, Nat.zero_add]
        refine own_make h3 (setCells_at _ _ g i _ _ (setCells_at _ w.drew g (i + 1) cur _ h4)) hil hroom (by rw [maxLen_eq]; omega) (by rw [putL_size, putL_size, h7]) fun j hj => ?_
        rw [putL_get _ _ _ _ (by rw [putL_size]; simp; omega), putL_get _ _ _ _ (by rw [List.length_drop]; omega), insAt_get L i j k hi]
        by_cases h9 : j < i
        · rw [if_pos h9, if_neg (by simp; omega), if_neg (by omega)]
          exact hcur j (by omega)
        · rw [if_neg h9]
          by_cases h10 : j = i
          · subst h10
            rw [if_pos rfl, if_pos (by simp), Nat.sub_self]
            rfl
          · rw [if_neg h10, if_neg (by simp; omega), if_pos (by rw [List.length_drop]; omega), List.getElem?_drop, show i + (j - (i + 1)) = j - 1 from by omega]
      · rw [hw]
        exact grown_drew (k := 1) ((setCells_kept _ w.drew g _).trans (setCells_kept _ _ g _))
    · obtain rfl : i = L.length := by omega
      have H := Any2.slices_Insert_int_end_room Tryz.lays2x21 g 0 L.length cap vb 0 1 1 [.int .i64 k] w (by decide) hroom (by omega) rfl (fun j hj => by rw [show 0 + L.length + j = 0 + (L.length + j) from by omega]; exact hin _ (by omega)) (fun j _ => froz_at h4 _) hvs h1v
      refine H.mono fun e w' ⟨he, hw⟩ => ⟨_, _, he, ?_, ?_, .inl rfl⟩
      · rw [hw, Nat.zero_add]
        refine own_make h3 (setCells_at _ w g L.length cur _ h4) hil hroom (by rw [maxLen_eq]; omega) (by rw [putL_size, h7]) fun j hj => ?_
        rw [putL_get _ _ _ _ (by simp; omega), insAt_get L _ j k (Nat.le_refl _)]
        by_cases h9 : j < L.length
        · rw [if_pos h9, if_neg (by omega)]
          exact hcur j h9
        · obtain rfl : j = L.length := by omega
          rw [if_pos ⟨Nat.le_refl _, by simp⟩, if_neg (Nat.lt_irrefl _), if_pos rfl, Nat.sub_self]
          rfl
      · rw [hw]
        exact setCells_kept _ w g _
  · by_cases hil2 : i < L.length
    · have H := Any2.slices_Insert_int_grow Tryz.lays2x21 g 0 L.length cap i vb 0 1 1 (intsV L) [.int .i64 k] w hil2 (by decide) h5 (by omega) (by omega) hlen rfl hcs hvs h1c h1v
      have hcg := grownCap_ge w (L.length + 1) cap (Tryz.lays2x21_ren.t 3)
      refine H.mono fun e w' ⟨he, hw⟩ => ⟨_, _, he, ?_, ?_, .inr fun g' hg' => by cases hg'; exact Nat.le_refl _⟩
      · rw [hw]
        have hs0 : ((intsV L).take i).toArray.size = i := by simp [hlen]; omega
        refine own_make hB (setCells_at _ _ w.heap.size (i + 1) _ _ (setCells_at _ _ w.heap.size i _ _ (mbox w _ _))) hil hcg (grownCap_le_maxLen _ _ _ _ (by rw [maxLen_eq]; omega)) ?_ fun j hj => ?_
        · rw [putL_size, putL_size, Array.size_append, Array.size_append, zero_size, zero_size, hs0]
          omega
        · rw [putL_get _ _ _ _ (by rw [putL_size, Array.size_append, Array.size_append, zero_size, zero_size, hs0, List.length_drop]; omega), putL_get _ _ _ _ (by rw [Array.size_append, Array.size_append, zero_size, zero_size, hs0]; simp; omega), insAt_get L i j k hi]
          by_cases h9 : j < i
          · rw [if_pos h9, if_neg (by omega), if_neg (by simp; omega), Array.getElem?_append_left (by rw [Array.size_append, hs0]; omega), Array.getElem?_append_left (by omega), List.getElem?_toArray, List.getElem?_take, if_pos h9]
          · rw [if_neg h9]
            by_cases h10 : j = i
            · subst h10
              rw [if_pos rfl, if_neg (by omega), if_pos (by simp), Nat.sub_self]
              rfl
            · rw [if_neg h10, if_pos (by rw [List.length_drop]; omega), List.getElem?_drop, show i + (j - (i + 1)) = j - 1 from by omega]
      · rw [hw]
        refine ⟨?_, ?_, ?_, ?_, fun x hx hne2 => ?_⟩
        · exact (setCells_kept _ _ _ _).os.trans (setCells_kept _ ((w.alloc _).drew) _ _).os
        · exact (setCells_kept _ _ _ _).tape.trans (setCells_kept _ ((w.alloc _).drew) _ _).tape
        · exact (setCells_kept _ _ _ _).output.trans (setCells_kept _ ((w.alloc _).drew) _ _).output
        · exact two_sizes w _ _ _ _ _ _
        · rw [setCells_far _ _ _ _ x (by omega)]
          refine Eq.trans (setCells_far _ _ _ _ x (by omega)) ((mal w _).block x hx)
    · obtain rfl : i = L.length := by omega
      have H := fresh (some ⟨g, 0, none⟩) cap (fun a ha j u hu => by
        cases ha
        have hadd : (⟨g, 0, none⟩ : Addr).add j = ⟨g, j, none⟩ := by unfold Addr.add; split <;> simp_all
        rw [hadd]
        have := hcs j u hu
        rw [Nat.zero_add] at this
        exact this) (fun h => by cases h) h5 (by omega) rfl
      exact H.mono fun e w' ⟨o', c', r1, r2, r3, r4⟩ => ⟨o', c', r1, r2, r3 _, .inr r4⟩

end Go.Proofs.YtnoecobddhmhlaaGreatDoor

namespace Go.Proofs.YtnoecobddhmhlaaGreatDoor
open Go.RowKit

/-- So many elements lie from one up to the root. -/
def Up (M : Dm) : Int → Nat → Prop
  | i, 0 => M i = none
  | i, d + 1 => ∃ e, M i = some e ∧ Up M e.parent d
def ptrO (o : Option Nat) : Value := .pointer (o.map fun b => ⟨b, 0, none⟩)
set_option maxRecDepth 20000 in
set_option maxHeartbeats 4000000 in
theorem deep_doc {B : Nat} {tg : Tags} {W : World} {DB MB : Nat} {p : Int → Option Nat} {M : Dm} {nx c : Nat} (hd : DocW B tg W DB MB p M nx c) (n : Int) (d : Nat) (hn : Wf64 n) (hu : Up M n d) (hdl : d ≤ 1000000) :
    Calls Tryz.prog 58 #[.pointer (some ⟨DB, 0, none⟩), .int .i64 n] W fun r w' => r = .returned (.int .i64 d) ∧ Below W.heap.size W w' := by
  have d0 := hd.d0
  have hdl' : (d : Int) ≤ 1000000 := by omega
  have HD : Hid (DocW B tg W DB MB p M nx c) := hd
  go_enter Tryz.func58, Tryz.ntmps58
  go_wp2_with (at_lookup; refine look_one _ rfl _ _ 100 rfl Tryz.underlying3 Tryz.underlying100 (zeroEl _) rfl hd.map n rfl hn ?_)
  go_loopw [5, 6] (fun y z wr => ∃ (j r : Nat) (i : Int), j + r = d ∧ y = .int .i64 j ∧ z = .pointer ((p i).map fun b => ⟨b, 0, none⟩) ∧ Up M i r ∧ Below W.heap.size W wr) (fun y _ _ => d - (intOf y).toNat)
  case atStart => exact ⟨0, d, n, by omega, rfl, rfl, hu, Below.refl _ _⟩
  case round =>
    obtain ⟨j, r, i, hjr, rfl, rfl, hup, hb⟩ := hrel
    have hdw := HD.out.below hb
    cases r with
    | zero =>
      have hpi := HD.out.non i hup
      rw [hpi]
      obtain rfl : j = d := by omega
      go_wp2_with fail
      go_ret
      exact ⟨rfl, hb⟩
    | succ r =>
      obtain ⟨e, hm, hup'⟩ := hup
      obtain ⟨b, va, vk, hpi, he⟩ := hdw.els i e hm
      have hwp := (hdw.wf i e hm).1
      rw [hpi]
      have x0 := hdw.d0
      have x2 := he.c2
      have g1 : (Instr.lookup 100 (.map (some MB)) (.int .i64 e.parent) false).run Tryz.prog wr.drew = .ok (.pointer ((p e.parent).map fun b => ⟨b, 0, none⟩)) wr.drew := by
        cases hpp : p e.parent with
        | none => exact PMap.run_non (w := wr.drew) (hdw.map.same rfl) Tryz.underlying3 Tryz.underlying100 (zeroEl _) hwp hpp
        | some b' => exact PMap.run_get (w := wr.drew) (hdw.map.same rfl) Tryz.underlying3 Tryz.underlying100 (zeroEl _) hwp hpp
      have hj : (j : Int) < 1000000 := by omega
      have HUP : Hid (Up M e.parent r) := hup'
      clear hup' hm he
      go_wp2_with fail
      go_region
      go_wp2_with fail
      go_roundw
      case rel => exact ⟨j + 1, r, e.parent, by omega, by go_num, rfl, HUP.out, mdrew 1 hb⟩
      case measure => simp [intOf]; omega

set_option maxRecDepth 20000 in
set_option maxHeartbeats 4000000 in
/-- An element is added. -/
theorem Add_doc {B : Nat} {tg : Tags} {W : World} {DB MB : Nat} {p : Int → Option Nat} {M : Dm} {nx c : Nat} (hd : DocW B tg W DB MB p M nx c) (par : Int) (a : Nat) (name : Bs) (q : Elm) (hq : M par = some q) (ha : a ≤ q.kids.length) (hnm : isNm name = true) (d : Nat) (hu : Up M par d) (hdl : d < 10) (hc : c < 100) (hnx : nx < 1000000) (hkl : q.kids.length ≤ 1000000) (hB : B ≤ W.heap.size) :
    Calls Tryz.prog 12 #[.pointer (some ⟨DB, 0, none⟩), .int .i64 par, .int .i64 a, .string ⟨name.toArray⟩] W fun r w' => r = .returned (.tuple #[.int .i64 nx, .nilIface]) ∧ KT tg W w' ∧ ∃ tg' p', (∀ x, x < W.heap.size → tg' x = tg x) ∧ DocW B tg' w' DB MB p' (putE (putE M nx ⟨name, [], par, []⟩) par ⟨q.name, q.ats, q.parent, insAt q.kids a nx⟩) (nx + 1) (c + 1) := by
  obtain ⟨QB, qa, qk, hpq, hq1⟩ := hd.els par q hq
  obtain ⟨oq, kq, rfl⟩ := own_slice hq1.kids
  have hwp := hd.i64 hq
  have d0 := hd.d0
  have y3 := hq1.c3
  have hnl := isNm_len hnm
  have ha0 : ¬ (a : Int) < 0 := by omega
  have hak : ¬ (q.kids.length : Int) < (a : Int) := by omega
  have hkl' : (q.kids.length : Int) ≤ 1000000 := by omega
  have IN := fun w => IsName_any ⟨name.toArray⟩ (by rw [strV_size]; omega) w
  have hin : isNm (⟨name.toArray⟩ : ByteArray).data.toList = true := by simpa using hnm
  rw [hin] at IN
  have DD := deep_doc hd par d hwp hu (by omega)
  have hd10 : ¬ (10 : Int) ≤ (d : Int) := by omega
  have hc100 : ¬ (100 : Int) ≤ (c : Int) := by omega
  have hpn : par ≠ (nx : Int) := by have := hd.dom par q hq; omega
  have HD : Hid (DocW B tg W DB MB p M nx c) := hd
  have HQ1 : Hid (ElW B tg W par QB q qa (.slice oq q.kids.length kq)) := hq1
  go_enter Tryz.func12, Tryz.ntmps12
  go_upto_region 12 with (first | (at_lookup; refine look_yes _ rfl _ _ 100 rfl Tryz.underlying3 Tryz.underlying100 (zeroEl _) rfl hd.map par rfl hwp QB hpq ?_) | (go_at_call 57; refine (IN _).mono ?_; rintro r w0 ⟨rfl, rfl⟩) | (go_at_call 58; refine DD.mono ?_; rintro r w1 ⟨rfl, b1⟩; have CT := Count_doc (HD.out.below b1)) | (go_at_call 44; refine CT.mono ?_; rintro r w2 ⟨rfl, rfl⟩))
  have hd2 := HD.out.below b1
  have E0 := mbox w2 #[.string ⟨name.toArray⟩, .slice none 0 0, .int .i64 par, .slice none 0 0] 107
  have bE := mal w2 (.cells #[.string ⟨name.toArray⟩, .slice none 0 0, .int .i64 par, .slice none 0 0] 107)
  have NE : NewE B tg (w2.alloc (.cells #[.string ⟨name.toArray⟩, .slice none 0 0, .int .i64 par, .slice none 0 0] 107)) w2.heap.size ⟨name, [], par, []⟩ (.slice none 0 0) (.slice none 0 0) := ⟨E0, Nat.le_trans hB b1.size, hd2.new (Nat.le_refl _), World.ownsRow_nil _ _ _ _, fun g hg => absurd hg (by simp [Value.ownBlock]), World.ownsRow_nil _ _ _ _, fun g hg => absurd hg (by simp [Value.ownBlock])⟩
  have KE := keep_doc B tg _ DB MB p M nx c w2.heap.size ⟨name, [], par, []⟩ (.slice none 0 0) (.slice none 0 0) (hd2.below bE) NE ⟨hwp, by simp⟩ hnx
  go_upto_region 13 with (go_at_call 51; refine KE.mono ?_; rintro r w3 ⟨rfl, k3, d3⟩)
  have hU := mbel b1 bE
  have tgo : ∀ x t, tg x = some t → tagE tg nx w2.heap.size (.slice none 0 0) (.slice none 0 0) x = some t := fun x t ht => tagE_old ht (hd2.new (Nat.le_refl _)) (fun g hg => by cases hg) (fun g hg => by cases hg)
  have tgn : ∀ x, x < w0.heap.size → tagE tg nx w2.heap.size (.slice none 0 0) (.slice none 0 0) x = tg x := fun x hx => tagE_none (by have := b1.size; omega) (by simp [Value.ownBlock]) (by simp [Value.ownBlock])
  have hq3 : ElW B (tagE tg nx w2.heap.size (.slice none 0 0) (.slice none 0 0)) w3 par QB q qa (.slice oq q.kids.length kq) := HQ1.out.turn fun g t ht hk => by
    have hne : g ≠ DB ∧ g ≠ MB := ⟨fun e1 => (by have h1 := HD.out.dtag; rw [← e1, ht] at h1; cases h1; rcases hk with hk | hk | hk <;> cases hk), fun e1 => (by have h1 := HD.out.mtag; rw [← e1, ht] at h1; cases h1; rcases hk with hk | hk | hk <;> cases hk)⟩
    have hgl := (HD.out.low g t ht).2
    exact ⟨tgo g t ht, (k3.block g (by have := hU.size; omega) hne.1 hne.2).trans (hU.block g hgl)⟩
  obtain ⟨T3, hT3⟩ : ∃ T, tagE tg nx w2.heap.size (.slice none 0 0) (.slice none 0 0) = T := ⟨_, rfl⟩
  rw [hT3] at d3 tgo tgn hq3
  have HT3 : Hid (∀ x, x < w0.heap.size → T3 x = tg x) := tgn
  have b4 := mal w3 (.cells #[.int .i64 nx] 3)
  have H4 := mbox w3 #[.int .i64 nx] 3
  have d4 := d3.below b4
  have hq4 := hq3.turn (tg' := T3) (w' := w3.alloc (.cells #[.int .i64 nx] 3)) fun g t ht _ => ⟨ht, b4.block g (d3.low g t ht).2⟩
  have y4 := hq4.c3
  have z3 := hq3.c3
  have IE := InsE (k := nx) (i := a) hq4.kids ha hkl H4 (fun e1 => by have h1 := hq3.ktag _ e1; rw [d3.new (Nat.le_refl _)] at h1; cases h1) (by have h1 := hU.size; have h2 := k3.size; have h3 := b4.size; omega)
  have neQ : some QB ≠ (Value.slice oq q.kids.length kq).ownBlock := fun e1 => by have h1 := hq3.ktag QB e1.symm; rw [hq3.tag] at h1; cases h1
  have lQ := heap_lt hq4.cells
  have cQ := hq4.cells
  have HF : Hid (K2 DB MB (w2.alloc (.cells #[.string ⟨name.toArray⟩, .slice none 0 0, .int .i64 par, .slice none 0 0] 107)) w3) := k3
  clear KE NE E0 hd2 hT3 k3 tgo tgn
  go_wp2_with (go_at_call 59; refine IE.mono ?_; rintro r w5 ⟨o5, k5, rfl, ow5, gr5, lc5⟩; have e5 := (gr5.block QB lQ neQ).trans cQ; have c5 := bcell e5 3 _ rfl; have f5 := froz_at e5)
  have hL : (insAt q.kids a (nx : Int)).length = q.kids.length + 1 := insAt_len _ _ _ ha
  rw [← hL] at ow5
  have hMp : putE M nx ⟨name, [], par, []⟩ par = some q := by unfold putE; rw [if_neg hpn]; exact hq
  obtain ⟨r1, r2, r3⟩ := d4.kids hMp (by simp only [if_neg hpn]; exact hpq) hq4 (fun k hk => by
    unfold insAt at hk
    rcases List.mem_append.1 hk with hk | hk
    · exact (HD.out.wf par q hq).2 k (List.mem_of_mem_take hk)
    · rcases List.mem_cons.1 hk with rfl | hk
      · exact WalkArith.wf_i64 (by omega)
      · exact (HD.out.wf par q hq).2 k (List.mem_of_mem_drop hk)) ow5 gr5 (by rw [hL]; exact lc5)
  rw [hL] at r1 r2 r3
  go_ret2
  refine ⟨rfl, ?_, _, _, fun x hx => ?_, r1⟩
  · have hk := HF.out
    have ktu : KT tg w0 w3 := KT.trans (KT.of_below hU) (tg' := tg) (KT.of_K2 (HD.out.below hU) hk) (fun _ _ => rfl)
    exact ktu.trans (tg' := T3) (KT.trans (KT.of_below b4) r3 (fun _ _ => rfl)) HT3.out
  · have h1 := hU.size
    have h2 := HF.out.size
    have h3 := b4.size
    rw [r2 x (by omega)]
    exact HT3.out x hx

end Go.Proofs.YtnoecobddhmhlaaGreatDoor

/-
  Package pick: does a part of a step, does a step fit an element?
-/
import Derived.Test.YtnoecobddhmhlaaGreatDoorJ5
import Derived.Test.YtnoecobddhmhlaaGreatDoorAttr1
import Derived.Test.YtnoecobddhmhlaaGreatDoorShelfS
namespace Go.Proofs.YtnoecobddhmhlaaGreatDoor
open Go.RowKit Go.Shelf

attribute [local go_sem] Oper.semAt_some

set_option maxHeartbeats 1000000 in
/-- strings.Split at one blank. -/
theorem split_blank (s : ByteArray) (hs : s.size < 4294967281) (W : World) :
    Calls Tryz.prog 150 #[.string s, .string ⟨#[32]⟩] W fun e w' => e = .returned (.slice (some ⟨W.heap.size, 0, none⟩) (Lib.countB s ⟨#[32]⟩ + 1) (Lib.countB s ⟨#[32]⟩ + 1)) ∧ w' = W.alloc (.cells ((Lib.splitB ⟨#[32]⟩ 0 (Lib.countB s ⟨#[32]⟩) s).map Value.string).toArray 9) := by
  have h1 : 1 ≤ (⟨#[32]⟩ : ByteArray).size := by decide
  have hle := Lib.countB_le ⟨#[32]⟩ h1 s.size s (Nat.le_refl _)
  have hlen := Lib.splitB_all ⟨#[32]⟩ h1 0 _ s rfl
  have c := Any.strings_genSplit_core Tryz.lays221 (by kernel_rfl) s ⟨#[32]⟩ 0 (-1) (Lib.countB s ⟨#[32]⟩ + 1) W hs h1 (Nat.zero_le _)
    (fun x c _ => (Any.strings_Index_one Tryz.lays143 x 32 _).mono fun e w' ⟨he, hw⟩ => ⟨by rw [he, ← Lib.index_one], hw⟩)
    ((Any.strings_Count_one Tryz.lays138 s 32 W).mono fun e w' ⟨he, hw⟩ => ⟨by rw [he]; show _ = Ending.returned (Value.int .i64 ((Lib.count s.data.toList [32] : Nat) : Int)); rw [Lib.count_one]; rfl, hw⟩)
    (by decide) (by decide) (by rw [if_pos (by decide)]; omega)
  rw [Nat.add_sub_cancel, hlen] at c
  have e2 : Lib.cellsOf (Lib.splitB ⟨#[32]⟩ 0 (Lib.countB s ⟨#[32]⟩) s) (Lib.countB s ⟨#[32]⟩ + 1) = ((Lib.splitB ⟨#[32]⟩ 0 (Lib.countB s ⟨#[32]⟩) s).map Value.string).toArray := by rw [← hlen]; exact Lib.cellsOf_full _
  rw [e2] at c
  go_enter Tryz.func150, Tryz.ntmps150
  go_wp2_with (go_at_call 165; refine c.mono ?_; rintro e w' ⟨rfl, hw⟩; rw [hw])
  go_ret
  exact ⟨rfl, rfl⟩
/-- One of the parts between blanks? -/
theorem class_any (v nm : Bs) (hv : v.length ≤ 1000000) (W : World) :
    Calls Tryz.prog 149 #[.slice (some ⟨W.heap.size, 0, none⟩) (Lib.countB ⟨v.toArray⟩ ⟨#[32]⟩ + 1) (Lib.countB ⟨v.toArray⟩ ⟨#[32]⟩ + 1), .string ⟨nm.toArray⟩] (W.alloc (.cells ((Lib.splitB ⟨#[32]⟩ 0 (Lib.countB ⟨v.toArray⟩ ⟨#[32]⟩) ⟨v.toArray⟩).map Value.string).toArray 9)) fun e w' => e = .returned (.bool (clsM v nm)) ∧ w' = W.alloc (.cells ((Lib.splitB ⟨#[32]⟩ 0 (Lib.countB ⟨v.toArray⟩ ⟨#[32]⟩) ⟨v.toArray⟩).map Value.string).toArray 9) := by
  have h1 : 1 ≤ (⟨#[32]⟩ : ByteArray).size := by decide
  have hlen := Lib.splitB_all ⟨#[32]⟩ h1 0 _ (⟨v.toArray⟩ : ByteArray) rfl
  have hle := Lib.countB_le ⟨#[32]⟩ h1 (⟨v.toArray⟩ : ByteArray).size ⟨v.toArray⟩ (Nat.le_refl _)
  rw [ba_size] at hle
  have h := Tryz.slices_Contains_string W.heap.size 0 (Lib.countB ⟨v.toArray⟩ ⟨#[32]⟩ + 1) (Lib.countB ⟨v.toArray⟩ ⟨#[32]⟩ + 1) (Lib.splitB ⟨#[32]⟩ 0 (Lib.countB ⟨v.toArray⟩ ⟨#[32]⟩) ⟨v.toArray⟩) ⟨nm.toArray⟩ (W.alloc (.cells ((Lib.splitB ⟨#[32]⟩ 0 (Lib.countB ⟨v.toArray⟩ ⟨#[32]⟩) ⟨v.toArray⟩).map Value.string).toArray 9)) (by rw [hlen]; exact Nat.le_refl _) (by omega) (fun j hj => by
    have hb := World.alloc_heap_new W (.cells ((Lib.splitB ⟨#[32]⟩ 0 (Lib.countB ⟨v.toArray⟩ ⟨#[32]⟩) ⟨v.toArray⟩).map Value.string).toArray 9)
    refine bcell hb (0 + j) _ ?_
    rw [Nat.zero_add, List.getElem?_toArray, List.getElem?_map, List.getElem?_eq_getElem hj]
    simp [hj])
  rw [List.take_of_length_le (by rw [hlen]; exact Nat.le_refl _)] at h
  exact h
section
variable {B : Nat} {tg : Tags} {W : World} {DB MB : Nat} {p : Int → Option Nat} {M : Dm} {nx c : Nat}
set_option maxHeartbeats 4000000 in
theorem partFits_doc (h : DocW B tg W DB MB p M nx c) (n : Int) (e : Elm) (he : M n = some e) (hva : ∀ a ∈ e.ats, a.2.length ≤ 1000000) (k : UInt8) (nm : Bs) :
    Calls Tryz.prog 126 #[.int .u8 k.toNat, bV nm, .pointer (some ⟨DB, 0, none⟩), .int .i64 n] W fun r w' => r = .returned (.bool (fitPt e (k, nm))) ∧ Below W.heap.size W w' := by
  have hn := h.i64 he
  have hatt : ∀ x, attD M n x = atOf e.ats x := fun x => by unfold attD; rw [he]
  have hal : ∀ x, ((atOf e.ats x).getD []).length ≤ 1000000 := fun x => by
    rcases atOf_fI e.ats x 0 with ⟨-, h2⟩ | ⟨i, y, -, h2, h3⟩
    · rw [h2]; exact Nat.zero_le _
    · rw [h3]; exact hva y (List.mem_of_getElem? h2)
  have h1 : ((k.toNat : Int) == 35) = (k == 35) := u8_eq k 35
  have h2 : ((k.toNat : Int) == 46) = (k == 46) := u8_eq k 46
  have h3 : ((k.toNat : Int) == 91) = (k == 91) := u8_eq k 91
  unfold fitPt
  simp only
  by_cases k1 : k = 35
  · have e1 : (k == 35) = true := by rw [k1]; rfl
    rw [e1] at h1
    rw [if_pos k1]
    have AT : Calls Tryz.prog 23 #[.pointer (some ⟨DB, 0, none⟩), .int .i64 n, .string ⟨#[105, 100]⟩] W _ := Attr_doc h n hn [105, 100]
    rw [hatt] at AT
    obtain ⟨v, hv⟩ : ∃ v, (atOf e.ats [105, 100]).getD [] = v := ⟨_, rfl⟩
    rw [hv] at AT ⊢
    have hcm : ((⟨v.toArray⟩ : ByteArray).toList == (⟨nm.toArray⟩ : ByteArray).toList) = (v == nm) := by rw [ByteArray.toList_eq, ByteArray.toList_eq]
    clear k1 h2 h3 hal hv
    go_enter Tryz.func126, Tryz.ntmps126
    go_wp2_with (go_at_call 23; refine AT.mono ?_; rintro r w1 ⟨rfl, hb1⟩)
    go_ret
    exact ⟨rfl, hb1⟩
  have e1 : (k == 35) = false := by rw [beq_eq_false_iff_ne]; exact k1
  rw [e1] at h1
  rw [if_neg k1]
  by_cases k2 : k = 46
  · have e2 : (k == 46) = true := by rw [k2]; rfl
    rw [e2] at h2
    rw [if_pos k2]
    have AT : Calls Tryz.prog 23 #[.pointer (some ⟨DB, 0, none⟩), .int .i64 n, .string ⟨#[99, 108, 97, 115, 115]⟩] W _ := Attr_doc h n hn [99, 108, 97, 115, 115]
    rw [hatt] at AT
    have hvl := hal [99, 108, 97, 115, 115]
    obtain ⟨v, hv⟩ : ∃ v, (atOf e.ats [99, 108, 97, 115, 115]).getD [] = v := ⟨_, rfl⟩
    rw [hv] at AT hvl ⊢
    have SP := fun V => split_blank ⟨v.toArray⟩ (by rw [ba_size]; omega) V
    have CL := fun V => class_any v nm hvl V
    clear k1 k2 h3 hal hv hvl
    go_enter Tryz.func126, Tryz.ntmps126
    go_wp2_with (first | (go_at_call 149; refine (CL _).mono ?_; rintro r w3 ⟨rfl, h3⟩; rw [h3]; clear h3) | (go_at_call 150; refine (SP _).mono ?_; rintro r w2 ⟨rfl, h2⟩; rw [h2]; clear h2) | (go_at_call 23; refine AT.mono ?_; rintro r w1 ⟨rfl, hb1⟩))
    go_ret
    exact ⟨rfl, hb1.alloc hb1.size _⟩
  have e2 : (k == 46) = false := by rw [beq_eq_false_iff_ne]; exact k2
  rw [e2] at h2
  rw [if_neg k2]
  by_cases k3 : k = 91
  · have e3 : (k == 91) = true := by rw [k3]; rfl
    rw [e3] at h3
    rw [if_pos k3]
    have AT := Attr_doc h n hn nm
    rw [hatt] at AT
    clear k1 k2 k3 hal
    go_enter Tryz.func126, Tryz.ntmps126
    go_wp2_with (go_at_call 23; refine AT.mono ?_; rintro r w1 ⟨rfl, hb1⟩)
    go_ret
    exact ⟨rfl, hb1⟩
  have e3 : (k == 91) = false := by rw [beq_eq_false_iff_ne]; exact k3
  rw [e3] at h3
  rw [if_neg k3]
  have FA := fitsAny_any nm W
  have NA : Calls Tryz.prog 46 #[.pointer (some ⟨DB, 0, none⟩), .int .i64 n] W fun r w' => r = .returned (bV e.name) ∧ w' = W := by
    have h4 := Name_doc h n hn
    rw [he] at h4
    exact h4
  clear k1 k2 k3 hal hatt
  cases ha : anyNm nm with
  | true =>
    rw [ha] at FA
    go_enter Tryz.func126, Tryz.ntmps126
    go_wp2_with (go_at_call 123; refine FA.mono ?_; rintro r w1 ⟨rfl, h⟩; rw [h]; clear h)
    go_ret
    exact ⟨rfl, Below.refl _ _⟩
  | false =>
    rw [ha] at FA
    have hcm : ((⟨e.name.toArray⟩ : ByteArray).toList == (⟨nm.toArray⟩ : ByteArray).toList) = (e.name == nm) := by rw [ByteArray.toList_eq, ByteArray.toList_eq]
    go_enter Tryz.func126, Tryz.ntmps126
    go_wp2_with (first | (go_at_call 123; refine FA.mono ?_; rintro r w1 ⟨rfl, h⟩; rw [h]; clear h) | (go_at_call 46; refine NA.mono ?_; rintro r w1 ⟨rfl, h⟩; rw [h]; clear h))
    go_ret
    exact ⟨by simp, Below.refl _ _⟩
set_option maxRecDepth 100000 in
set_option maxHeartbeats 8000000 in
theorem stepFits_in (h : DocW B tg W DB MB p M nx c) (n : Int) (hn : Wf64 n) (e : Elm) (he : M n = some e) (hne : e.name ≠ []) (hva : ∀ a ∈ e.ats, a.2.length ≤ 1000000) (s : Bs) (hs : s.length ≤ 1000000) :
    CallsIn Fence.wide 9 Tryz.prog 86 #[bV s, .pointer (some ⟨DB, 0, none⟩), .int .i64 n] W fun r w' => r = .returned (.bool ((ptsOf s).all (fitPt e))) ∧ Below W.heap.size W w' := by
  obtain ⟨hP0, hN0, hR0, hB0, hsz0, b0⟩ := four_blocks W (.cells #[.pointer (some ⟨DB, 0, none⟩)] 30) (.cells #[.int .i64 n] 3) (.cells #[.bool false] 4) (.cells #[bV s] 9)
  obtain ⟨-, -, -, -, b3⟩ := three_blocks W (.cells #[.pointer (some ⟨DB, 0, none⟩)] 30) (.cells #[.int .i64 n] 3) (.cells #[.bool false] 4)
  have NA : Calls Tryz.prog 46 #[.pointer (some ⟨DB, 0, none⟩), .int .i64 n] (((W.alloc (.cells #[.pointer (some ⟨DB, 0, none⟩)] 30)).alloc (.cells #[.int .i64 n] 3)).alloc (.cells #[.bool false] 4)) fun r w' => r = .returned (bV e.name) ∧ w' = (((W.alloc (.cells #[.pointer (some ⟨DB, 0, none⟩)] 30)).alloc (.cells #[.int .i64 n] 3)).alloc (.cells #[.bool false] 4)) := by
    have h4 := Name_doc (h.below b3) n hn
    rw [he] at h4
    exact h4
  have hem : e.name.isEmpty = false := by
    cases hq : e.name with
    | nil => exact absurd hq hne
    | cons _ _ => rfl
  refine callsIn_of_wp_marks Tryz.func86 rfl trivial ?_ rfl
  simp only [Tryz.ntmps86, List.size_toArray, List.length_cons, List.length_nil, Nat.reduceAdd, Nat.reduceSub, Array.replicate_succ, Array.replicate_zero, List.push_toArray, List.append_toArray, List.nil_append, List.cons_append]
  gi_wp2_with (first | (refine ⟨trivial, ?_⟩; gi_at_call 46; refine (callsIn_wide.2 NA).mono ?_; rintro r w1 ⟨rfl, h1⟩; rw [h1]; clear h1) | (refine ⟨trivial, ?_⟩; gi_at_call 82; refine (callsIn_wide.2 (partsOf_any s _)).mono ?_; rintro r w1 ⟨rfl, h1⟩; rw [h1]; clear h1))
  obtain ⟨U, hU⟩ : ∃ U, ((((W.alloc (.cells #[.pointer (some ⟨DB, 0, none⟩)] 30)).alloc (.cells #[.int .i64 n] 3)).alloc (.cells #[.bool false] 4)).alloc (.cells #[bV s] 9)) = U := ⟨_, rfl⟩
  rw [hU] at b0 hP0 hN0 hR0 hB0 hsz0 ⊢
  clear hU NA b3
  refine wpIn_rangeFunc_ownF rfl (by omega) (gf := 120) (lb := #[.pointer (some ⟨W.heap.size + 1 + 1 + 1, 0, none⟩)]) rfl trivial (enters_of Tryz.func120 (by kernel_rfl) rfl)
    (encs := ptV) (Kp := KpB (W.heap.size + 1 + 1 + 1)) (S := fun xs => ptL xs = pts 0 s) (Sp := fun p => ptL p <+: pts 0 s) (N := (pts 0 s).length) (w0 := U)
    (parts_seq s hs _ _ U hB0) KpB.trans (fun X l o o' hl h1 h2 h3 => KpB.put (w := U) (by omega) X l o o' hl h1 h2 h3) (Below.refl _ _) (fun _ => rfl)
    (fun pre X => X.heap[W.heap.size]? = some (.cells #[.pointer (some ⟨DB, 0, none⟩)] 30) ∧ X.heap[W.heap.size + 1]? = some (.cells #[.int .i64 n] 3) ∧ X.heap[W.heap.size + 1 + 1]? = some (.cells #[.bool false] 4) ∧ Below W.heap.size W X ∧ (ptL pre).all (fitPt e) = true ∧ U.heap.size ≤ X.heap.size)
    (fun c pre X => c = .ret ∧ (ptL pre).all (fitPt e) = false ∧ X.heap[W.heap.size + 1 + 1]? = some (.cells #[.bool false] 4) ∧ Below W.heap.size W X)
    (fun pre A C row hs hg hr => ⟨blk_own hs.1 (by omega) hg hr, blk_own hs.2.1 (by omega) hg hr, blk_own hs.2.2.1 (by omega) hg hr, bel_own hs.2.2.2.1 (by omega) hg hr, hs.2.2.2.2.1, Nat.le_trans hs.2.2.2.2.2 hg.size⟩)
    (fun c pre A C row hs hg hr => ⟨hs.1, hs.2.1, blk_own hs.2.2.1 (by omega) hg hr, bel_own hs.2.2.2 (by omega) hg hr⟩)
    ⟨hP0, hN0, hR0, b0, rfl, Nat.le_refl _⟩
    (fun x => { tmps := #[bV s, .pointer (some ⟨DB, 0, none⟩), .int .i64 n, undef, .pointer (some ⟨W.heap.size, 0, none⟩), .pointer (some ⟨W.heap.size + 1, 0, none⟩), .pointer (some ⟨W.heap.size + 1 + 1, 0, none⟩), .int .u8 x.1.1.toNat, bV x.1.2, .pointer (some ⟨DB, 0, none⟩), .int .i64 n, bV e.name, .bool false, bV s, .func (.func 120) #[] #[.pointer (some ⟨W.heap.size + 1 + 1 + 1, 0, none⟩)], .int .u8 x.1.1.toNat, bV x.1.2, undef, undef, undef, undef, undef, undef], defers := [] })
    ?assign ?body ?done ?stop
  case assign =>
    intro l x X K hK
    gi_wp2
    exact hK
  case body =>
    rintro l pre x X ⟨hP, hN, hR, hb, hok, hu⟩ hlen
    obtain ⟨⟨k, nm⟩, hnl⟩ := x
    have c1 := cell_one hP
    have c2 := cell_one hN
    have hpe : ptL (pre ++ [⟨(k, nm), hnl⟩]) = ptL pre ++ [(k, nm)] := by simp
    have PF := partFits_doc (h.below hb) n e he hva k nm
    cases hp : fitPt e (k, nm) with
    | true =>
      rw [hp] at PF
      gi_wp2_with (refine ⟨trivial, ?_⟩; gi_at_call 126; refine (CallsIn.inRound l (callsIn_wide.2 PF)).mono ?_; rintro r w2 ⟨rfl, b2⟩)
      exact ⟨below_oth b2, b2.block _ (by omega), bel_blk b2 hP, bel_blk b2 hN, bel_blk b2 hR, hb.trans (b2.mono hb.size), by rw [hpe, List.all_append, hok]; simp [hp], Nat.le_trans hu b2.size⟩
    | false =>
      rw [hp] at PF
      gi_wp2_with (refine ⟨trivial, ?_⟩; gi_at_call 126; refine (CallsIn.inRound l (callsIn_wide.2 PF)).mono ?_; rintro r w2 ⟨rfl, b2⟩; have c3 := cell_one (bel_blk b2 hR); have f3 := froz_one (bel_blk b2 hR))
      exact ⟨(below_oth b2).trans (KeepsOthers.setCell _ _ _), rfl, by rw [hpe, List.all_append]; simp [hp], set_one (bel_blk b2 hR) _, (hb.trans (b2.mono hb.size)).setCell (by simp only; omega) _⟩
  case done =>
    rintro D xs X hD hS ⟨hP, hN, hR, hb, hok, -⟩ hK
    rw [hS] at hok
    have c3 := cell_one hR
    have f3 := froz_one hR
    gi_wp2
    have hK' := (KeepsOthers.setCell X ⟨W.heap.size + 1 + 1, 0, none⟩ (.bool true)).same D _ hK rfl
    refine ⟨by simp, .inl ⟨_, _, rfl, run_takeDeferred hK', ?_⟩⟩
    have hr2 := set_one hR (.bool true)
    have hr3 := (World.putObj_heap_other (w := X.setCell ⟨W.heap.size + 1 + 1, 0, none⟩ (.bool true)) (o := .deferred none) (show W.heap.size + 1 + 1 ≠ D by omega)).trans hr2
    have oc := cell_one hr3
    refine ⟨.bool true, ?_, by rw [show ptsOf s = pts 0 s from rfl, hok], (hb.setCell (p := ⟨W.heap.size + 1 + 1, 0, none⟩) (by simp only; omega) _).trans (belowK_b (w := W) (Nat.le_refl _) _ D _ _ (by omega) hK' rfl rfl)⟩
    simp [results, Tryz.results86, go_sem, oc]
  case stop =>
    rintro D c pre X hD hpre ⟨rfl, hbad, hR, hb⟩ hK
    have hv : (ptsOf s).all (fitPt e) = false := by
      obtain ⟨rest, hrest⟩ := hpre
      rw [show ptsOf s = pts 0 s from rfl, ← hrest, List.all_append, hbad]
      rfl
    gi_wp2
    refine ⟨by simp, .inl ⟨_, _, rfl, run_takeDeferred hK, ?_⟩⟩
    have hr3 := (World.putObj_heap_other (w := X) (o := .deferred none) (show W.heap.size + 1 + 1 ≠ D by omega)).trans hR
    have oc := cell_one hr3
    refine ⟨.bool false, ?_, by rw [hv], hb.trans (belowK_b (w := W) (Nat.le_refl _) X D _ _ (by omega) hK rfl rfl)⟩
    simp [results, Tryz.results86, go_sem, oc]
/-- What a document must be for steps to be tried: names, and values that are not too long. -/
def FitD (M : Dm) : Prop := ∀ n e, M n = some e → e.name ≠ [] ∧ ∀ a ∈ e.ats, a.2.length ≤ 1000000
theorem stepFits_doc (h : DocW B tg W DB MB p M nx c) (hF : FitD M) (n : Int) (hn : Wf64 n) (s : Bs) (hs : s.length ≤ 1000000) :
    Calls Tryz.prog 86 #[bV s, .pointer (some ⟨DB, 0, none⟩), .int .i64 n] W fun r w' => r = .returned (.bool (fitSt M s n)) ∧ Below W.heap.size W w' := by
  unfold fitSt
  cases he : M n with
  | none =>
    obtain ⟨-, -, hR0, hsz0, b3⟩ := three_blocks W (.cells #[.pointer (some ⟨DB, 0, none⟩)] 30) (.cells #[.int .i64 n] 3) (.cells #[.bool false] 4)
    have NA : Calls Tryz.prog 46 #[.pointer (some ⟨DB, 0, none⟩), .int .i64 n] (((W.alloc (.cells #[.pointer (some ⟨DB, 0, none⟩)] 30)).alloc (.cells #[.int .i64 n] 3)).alloc (.cells #[.bool false] 4)) fun r w' => r = .returned (.string ⟨#[]⟩) ∧ w' = (((W.alloc (.cells #[.pointer (some ⟨DB, 0, none⟩)] 30)).alloc (.cells #[.int .i64 n] 3)).alloc (.cells #[.bool false] 4)) := by
      have h4 := Name_doc (h.below b3) n hn
      rw [he] at h4
      exact h4
    refine (callsIn_wide (n := 9)).1 ?_
    refine callsIn_of_wp_marks Tryz.func86 rfl trivial ?_ rfl
    simp only [Tryz.ntmps86, List.size_toArray, List.length_cons, List.length_nil, Nat.reduceAdd, Nat.reduceSub, Array.replicate_succ, Array.replicate_zero, List.push_toArray, List.append_toArray, List.nil_append, List.cons_append]
    gi_wp2_with (refine ⟨trivial, ?_⟩; gi_at_call 46; refine (callsIn_wide.2 NA).mono ?_; rintro r w1 ⟨rfl, h1⟩; rw [h1]; clear h1)
    have oc := cell_one hR0
    refine ⟨.bool false, ?_, rfl, b3⟩
    simp [results, Tryz.results86, go_sem, oc]
  | some e =>
    obtain ⟨h1, h2⟩ := hF n e he
    refine (callsIn_wide.1 (stepFits_in h n hn e he h1 h2 s hs)).mono fun r w' hr => ⟨?_, hr.2⟩
    rw [hr.1]
    simp [h1]
end

end Go.Proofs.YtnoecobddhmhlaaGreatDoor

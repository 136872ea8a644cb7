/-
  Package pick: Fits and All of no document.
-/
import Derived.Test.YtnoecobddhmhlaaGreatDoorJ25
import Derived.Test.YtnoecobddhmhlaaGreatDoorJ22
import Derived.Test.YtnoecobddhmhlaaGreatDoorJ32
import Derived.Test.YtnoecobddhmhlaaGreatDoorLast1
import Derived.Test.YtnoecobddhmhlaaGreatDoorJ20
namespace Go.Proofs.YtnoecobddhmhlaaGreatDoor
open Go.RowKit

set_option maxRecDepth 20000 in
set_option maxHeartbeats 4000000 in
theorem Fits_nil (s : ByteArray) (n : Int) (w : World) :
    Calls Tryz.prog 31 #[.agg #[.string s], .pointer none, .int .i64 n] w fun e w' => e = .returned (.bool false) ∧ Below w.heap.size w w' := by
  have b0 : Below w.heap.size w (w.alloc (.cells #[.string s] 69)) := (Below.refl _ _).alloc (Nat.le_refl _) _
  have b1 : Below w.heap.size w ((w.alloc (.cells #[.string s] 69)).alloc (.cells #[.pointer none] 30)) := b0.alloc (by rw [World.size_alloc]; exact Nat.le_succ _) _
  go_enter Tryz.func31, Tryz.ntmps31
  go_wp2_with fail
  go_ret
  exact ⟨rfl, b1⟩
set_option maxRecDepth 20000 in
set_option maxHeartbeats 4000000 in
theorem All_nil (s : ByteArray) (w : World) :
    Calls Tryz.prog 33 #[.pointer none, .agg #[.string s]] w fun e w' => e = .returned (.slice none 0 0) ∧ Below w.heap.size w w' := by
  have b0 : Below w.heap.size w (w.alloc (.cells #[.pointer none] 30)) := (Below.refl _ _).alloc (Nat.le_refl _) _
  have b1 : Below w.heap.size w ((w.alloc (.cells #[.pointer none] 30)).alloc (.cells #[.string s] 69)) := b0.alloc (by rw [World.size_alloc]; exact Nat.le_succ _) _
  go_enter Tryz.func33, Tryz.ntmps33
  go_wp2_with fail
  go_ret
  exact ⟨rfl, b1⟩
end Go.Proofs.YtnoecobddhmhlaaGreatDoor

namespace Go.Proofs.YtnoecobddhmhlaaGreatDoor
open Go.RowKit Go.Shelf

section
variable {B : Nat} {tg : Tags} {W : World} {DB MB : Nat} {p : Int → Option Nat} {M : Dm} {nx c : Nat} {r : Int → Nat}
/-- A row of numbers that a call answers. -/
def RowA (W : World) (base : Nat) (v : Value) (L : List Int) : Prop := ∃ b k, v = .slice (some ⟨b, 0, none⟩) L.length k ∧ RwN W base b k L.length L
set_option maxHeartbeats 4000000 in
theorem All_sel (h : DocS B tg W DB MB p M nx c r) (hF : FitD M) (s : Bs) (hs : s.length ≤ 1000000) (hs0 : s ≠ []) :
    Calls Tryz.prog 33 #[.pointer (some ⟨DB, 0, none⟩), .agg #[bV s]] W fun e w' => (∃ v, e = .returned v ∧ RowA w' W.heap.size v ((fromL M 11 0).filter (fitsM M s))) ∧ Below W.heap.size W w' := by
  have n0 := World.alloc_heap_new W (.cells #[.pointer (some ⟨DB, 0, none⟩)] 30)
  have n1 := World.alloc_heap_new (W.alloc (.cells #[.pointer (some ⟨DB, 0, none⟩)] 30)) (.cells #[bV s] 69)
  rw [World.size_alloc] at n1
  have n0' : ((W.alloc (.cells #[.pointer (some ⟨DB, 0, none⟩)] 30)).alloc (.cells #[bV s] 69)).heap[W.heap.size]? = some (.cells #[.pointer (some ⟨DB, 0, none⟩)] 30) := (Below.heap_alloc _ _ _ (by rw [World.size_alloc]; omega)).trans n0
  have b0 : Below W.heap.size W ((W.alloc (.cells #[.pointer (some ⟨DB, 0, none⟩)] 30)).alloc (.cells #[bV s] 69)) := ((Below.refl _ W).alloc (Nat.le_refl _) _).alloc (by rw [World.size_alloc]; omega) _
  have hll := h.alll
  have hin : ∀ y ∈ fromL M 11 0, ∃ e, M y = some e := fun y hy => ((h.d.mem h.d.dp0).1 hy).in_
  have hpos : 0 < (fromL M 11 0).length := by
    obtain ⟨e0, he0, -⟩ := h.d.root
    have h1 : fromL M 11 0 = allP M 0 := rfl
    rw [h1, h.d.allP_kids he0]
    simp
  have AL := fun U (hb : Below W.heap.size W U) => All_doc (h.below hb).w 11 (by omega) (h.below hb).d.dp0 (by omega)
  obtain ⟨L, hL⟩ : ∃ L, fromL M 11 0 = L := ⟨_, rfl⟩
  simp only [hL] at AL hin hll hpos ⊢
  clear n0 hL
  go_enter Tryz.func33, Tryz.ntmps33
  go_upto_region 1 with fail
  obtain ⟨U, hU⟩ : ∃ U, (W.alloc (.cells #[.pointer (some ⟨DB, 0, none⟩)] 30)).alloc (.cells #[bV s] 69) = U := ⟨_, rfl⟩
  rw [hU] at n0' n1 b0 ⊢
  clear hU
  have hd := h.below b0
  have AL := AL U b0
  have c1 := cell_one n0'
  have c2 := cell_one n1
  have AK : AskA U.heap.size (W.heap.size + 1) W.heap.size U L (fun x => !fitsM M s x) := fun m hm V hx2 => by
    obtain ⟨e, he⟩ := hin m hm
    have hd2 := hd.below hx2
    exact AllF_any hd2.w hd2.d hF s hs hs0 m (hd2.w.i64 he) (W.heap.size + 1) W.heap.size ((hx2.cell (cell_lt3 c2)).trans c2) ((hx2.cell (cell_lt3 c1)).trans c1)
  have hfil : (L.filter fun x => !(fun x => !fitsM M s x) x) = L.filter (fitsM M s) := by
    congr 1
    funext x
    simp
  have DF : ∀ V o k, Below U.heap.size U V → V.ownsRow (U.heap.size + 1) 3 1 (.slice o L.length k) L.length (intsV L) → Calls Tryz.prog 89 #[.slice o L.length k, .func (.func 90) #[] #[.pointer (some ⟨W.heap.size + 1, 0, none⟩), .pointer (some ⟨W.heap.size, 0, none⟩)]] V fun e w' => (∃ v, e = .returned v ∧ RowA w' W.heap.size v (L.filter (fitsM M s))) ∧ Below U.heap.size U w' := fun V o k hv ow => by
    obtain ⟨g, hg⟩ : ∃ g, o = some ⟨g, 0, none⟩ := by
      rcases ow.2 with ⟨h1, h2⟩ | ⟨g, c, cur, h1, -⟩
      · omega
      · injection h1 with h1; exact ⟨g, h1⟩
    subst hg
    have hr : RwN V (U.heap.size + 1) g k L.length L := ow
    have hlt := hr.lt
    have DN := DeleteN U.heap.size (W.heap.size + 1) W.heap.size (fun x => !fitsM M s x) L (U.heap.size + 1) g k U V (by omega) hr (by omega) hv AK
    rw [hfil] at DN
    refine DN.mono ?_
    rintro e w' ⟨rfl, h1, h2⟩
    have hb1 := b0.size
    refine ⟨⟨_, rfl, g, k, rfl, ?_⟩, h2⟩
    refine ⟨h1.1, ?_⟩
    rcases h1.2 with h3 | ⟨g', c, cur, h3, h4, h5⟩
    · exact .inl h3
    · exact .inr ⟨g', c, cur, h3, by omega, h5⟩
  clear AK hin hfil
  go_wp2_with (first | (go_at_call 73; refine AL.mono ?_; rintro e w1 ⟨o1, k1, rfl, b1, ow1⟩) | (go_at_call 89; refine (DF _ _ _ b1 ow1).mono ?_; rintro e w2 ⟨⟨v2, rfl, hv2⟩, b2⟩))
  go_ret
  exact ⟨⟨_, rfl, hv2⟩, b0.trans (b2.mono b0.size)⟩
end
mutual
theorem fl12 : ∀ (n : Nd) (k : Nat) (p : Int) (d : Nat), lowN n → ∀ f ∈ flN k p d n, f.attrs.length ≤ 12
  | .mk nm ats ks, k, p, d, h, f, hf => by
    unfold lowN at h
    rw [flN] at hf
    rcases List.mem_cons.1 hf with rfl | hf
    · exact h.1
    · exact fl12L ks _ _ _ h.2 f hf
theorem fl12L : ∀ (l : List Nd) (k : Nat) (p : Int) (d : Nat), lowL l → ∀ f ∈ flL k p d l, f.attrs.length ≤ 12
  | [], _, _, _, _, f, hf => by rw [flL] at hf; cases hf
  | n :: l, k, p, d, h, f, hf => by
    unfold lowL at h
    rw [flL] at hf
    rcases List.mem_append.1 hf with hf | hf
    · exact fl12 n _ _ _ h.1 f hf
    · exact fl12L l _ _ _ h.2 f hf
end
theorem newD_el {n : Nd} {j : Nat} {e : Elm} (h : (elN 0 (-1) n)[j]? = some e) : newD n j = some e := by
  have h1 := InN.ext (fun _ => none) 0 (-1) n j e h
  have e0 : ((0 : Nat) : Int) + (j : Int) = (j : Int) := by omega
  rw [e0] at h1
  exact h1
theorem newD_in {n : Nd} {i : Int} {e : Elm} (h : newD n i = some e) : ∃ j : Nat, i = j ∧ (elN 0 (-1) n)[j]? = some e := by
  unfold newD extE at h
  split at h
  · rename_i hi
    refine ⟨i.toNat, by omega, ?_⟩
    have e0 : (i - ((0 : Nat) : Int)).toNat = i.toNat := by congr 1; omega
    rw [e0] at h
    exact h
  · cases h
theorem okRE_new {n : Nd} {l : List RE} (hc : (ckN n 1 0).1 = 0) (h : RelE (elN 0 (-1) n) (szN n) l) : OkRE (newD n) l := fun j x hx => by
  obtain ⟨e, he, h1, h2, h3, h4, h5⟩ := h.made j x hx
  have hm := newD_el he
  have hk := ckN_ok n 1 0 hc
  have hmem := List.mem_of_getElem? he
  have hF := FitD.new n hc j e hm
  have hat : x.ats.length ≤ 12 := by
    have hlow := lowN_of n 1 0 hc
    have h6 := congrArg (fun t => t[j]?) (elN_fl n 0 (-1) 1)
    simp only [List.getElem?_map, he] at h6
    cases hq : (flN 0 (-1) 1 n)[j]? with
    | none => rw [hq] at h6; cases h6
    | some f =>
      rw [hq] at h6
      simp at h6
      rw [h2, h6.2.1]
      exact fl12 n 0 (-1) 1 hlow f (List.mem_of_getElem? hq)
  refine ⟨by rw [hm, h1, h2, h3, h4], h5, by rw [h1]; exact hF.1, by omega, fun q hq => ?_, ?_, ?_⟩
  · rw [h2] at hq
    have h7 := elN_va n 0 (-1) hk e hmem q hq
    unfold isVal at h7
    simp only [Bool.and_eq_true, decide_eq_true_eq] at h7
    omega
  · rw [h3]
    have := elN_lt n 0 (-1) j e he (by omega)
    omega
  · rw [h3]
    rcases elN_par n 0 (-1) j e he with ⟨-, h8⟩ | ⟨-, h8, -⟩
    · omega
    · omega
theorem all_new {n : Nd} {l : List RE} (h : RelE (elN 0 (-1) n) (szN n) l) : ∀ (i : Int) (e : Elm), newD n i = some e → ∃ (j : Nat) (x : RE), i = j ∧ l[j]? = some x ∧ x.kids = e.kids := fun i e he => by
  obtain ⟨j, rfl, hj⟩ := newD_in he
  have hlt : j < l.length := by
    rw [h.1, ← elN_len n 0 (-1)]
    exact (List.getElem?_eq_some_iff.1 hj).1
  refine ⟨j, l[j], rfl, List.getElem?_eq_getElem hlt, ?_⟩
  obtain ⟨e', he', -, -, -, h4, -⟩ := h.made j _ (List.getElem?_eq_getElem hlt)
  rw [hj] at he'
  injection he' with he'
  rw [h4, he']
theorem Text_any (s : ByteArray) (V : World) : Calls Tryz.prog 29 #[.agg #[.string s]] V fun e w' => e = .returned (.string s) ∧ Below V.heap.size V w' := by
  go_enter Tryz.func29, Tryz.ntmps29
  go_wp2_with fail
  go_ret
  exact ⟨rfl, by first | exact Below.refl _ _ | exact (Below.refl _ _).alloc (Nat.le_refl _) _⟩
end Go.Proofs.YtnoecobddhmhlaaGreatDoor

namespace Go.Proofs.YtnoecobddhmhlaaGreatDoor
open Go.RowKit Go.Shelf

theorem EE.ceF {E : Nat → Addr} {w : World} (h : EE E w) : CE E w := ⟨h.c4, h.c6, h.c7, h.c8, h.c10⟩
theorem wf_small (k : Nat) (h : k ≤ 1000000) : Wf64 (k : Int) := by
  show (Lit.int .i64 (k : Int)).wf = true
  simp [Lit.wf, IntKind.min, IntKind.max, IntKind.signed, IntKind.bits]
  omega
theorem nums_len0 (N : Nat) : (nums 0 N).length = N := by simp [nums]
theorem nums_get {N k : Nat} (h : k < N) : (nums 0 N)[k]? = some (k : Int) := by
  unfold nums
  rw [List.getElem?_map, List.getElem?_range' h]
  simp
theorem nums_more (k : Nat) : nums 0 (k + 1) = nums 0 k ++ [(k : Int)] := by
  rw [nums_add]
  have : nums (0 + k) 1 = [(k : Int)] := by rw [nums_succ, nums_zero, Nat.zero_add]
  rw [this]
theorem fil_yes {M : Dm} {y : Bs} {k : Nat} (h : fitsM M y k = true) : (nums 0 (k + 1)).filter (fitsM M y) = (nums 0 k).filter (fitsM M y) ++ [(k : Int)] := by
  rw [nums_more, List.filter_append]
  simp [h]
theorem fil_no {M : Dm} {y : Bs} {k : Nat} (h : fitsM M y k = false) : (nums 0 (k + 1)).filter (fitsM M y) = (nums 0 k).filter (fitsM M y) := by
  rw [nums_more, List.filter_append]
  simp [h]
theorem fits_out {M : Dm} {y : Bs} {i : Int} (h : M i = none) : fitsM M y i = false := by
  rw [← fitR_fits M y.length y (Nat.le_refl _) i]
  exact fitR_none _ i h
theorem wt_none : wtM [] = 0 := by decide +kernel
set_option maxRecDepth 20000 in
set_option maxHeartbeats 16000000 in
theorem pickfits_any (E : Nat → Addr) (n : Nd) (a0 a1 a2 : Value) (s : Bs) (W : World) (hE : EE E W) (ha : NdC W a0 a1 a2 n) :
    Calls Tryz.prog 4 #[.agg #[a0, a1, a2], bV s] W fun e w' => e = .returned (.bool true) ∧ Below W.heap.size W w' := by
  obtain ⟨na', oa, na, ka, oa', nb', ka', rfl, rfl, rfl⟩ : ∃ (sa : ByteArray) (oa : Option Addr) (na ka : Nat) (oa' : Option Addr) (na' ka' : Nat), a0 = .string sa ∧ a1 = .slice oa na ka ∧ a2 = .slice oa' na' ka' := by
    obtain ⟨nm, ats, ks⟩ := n
    unfold NdC at ha
    obtain ⟨rfl, -, ⟨o, cap, rfl, -⟩, ok, capk, rfl, -⟩ := ha
    exact ⟨_, _, _, _, _, _, _, rfl, rfl, rfl⟩
  have A0 : NB W.heap.size (.string na') (.slice oa na ka) (.slice oa' nb' ka') (W.alloc (.cells #[.string na', .slice oa na ka, .slice oa' nb' ka'] 25)) := mbox W #[.string na', .slice oa na ka, .slice oa' nb' ka'] 25
  have bV0 := mal W (.cells #[.string na', .slice oa na ka, .slice oa' nb' ka'] 25)
  go_enter Tryz.func4, Tryz.ntmps4
  go_upto_region 1 with fail
  obtain ⟨V, hV⟩ : ∃ V, W.alloc (.cells #[.string na', .slice oa na ka, .slice oa' nb' ka'] 25) = V := ⟨_, rfl⟩
  rw [hV] at A0 bV0 ⊢
  clear hV
  have HE : Hid (EE E V) := hE.below bV0 (Nat.le_refl _)
  have HA : Hid (NdC V (.string na') (.slice oa na ka) (.slice oa' nb' ka') n) := NdC.below bV0 n ha
  clear hE ha
  have DK := picked_any V (E 1) HE.out.c1
  go_upto_region 2 with (go_at_call 26; refine DK.mono ?_; rintro e w1 ⟨rfl, B1⟩)
  clear DK
  have FA := FlatsOf_fit n _ _ _ w1 (NdC.below B1 n HA.out)
  have A1 := (B1.block _ (heap_lt A0)).trans A0
  have x0 := NB.c0 A1
  have x1 := NB.c1 A1
  have x2 := NB.c2 A1
  go_upto_region 3 with (go_at_call 7; refine FA.mono ?_; rintro e w2 ⟨b2, va, rfl, fa⟩)
  clear x0 x1 x2 FA
  have B2 := mbel B1 b2
  have BW2 := mbel bV0 B2
  rcases fa with ⟨-, rfl⟩ | ⟨-, Mx, g, cap, rfl, hM0, hM1, hM2, hM3, hM4⟩
  · go_wp2_with fail
    go_ret
    exact ⟨rfl, BW2⟩
  have hM0' : ((Mx.length : Int) == 0) = false := by rw [beq_eq_false_iff_ne]; omega
  have hszM : szN n = Mx.length := by rw [← flN_len n 0 (-1) 1]; exact hM4.len.symm
  have HSZ : Hid (szN n = Mx.length) := hszM
  have HROW : Hid (RowF w2 g Mx ∧ FlRs w1 Mx (flN 0 (-1) 1 n)) := ⟨hM3, hM4⟩
  clear hszM hM3 hM4
  by_cases hb60 : 60 < Mx.length
  · have hb60' : 60 < (Mx.length : Int) := by omega
    go_wp2_with fail
    go_ret
    exact ⟨rfl, BW2⟩
  have hb60' : ¬ 60 < (Mx.length : Int) := by omega
  by_cases hs200 : 200 < s.length
  · have hs200' : 200 < (s.length : Int) := by omega
    go_wp2_with fail
    go_ret
    exact ⟨rfl, BW2⟩
  have hs200' : ¬ 200 < (s.length : Int) := by omega
  have R1 := Read_rd s (by omega) w2 (E 1) ((B2.cell (cell_lt3 HE.out.c1)).trans HE.out.c1)
  go_upto_region 6 with (go_at_call 27; refine R1.mono ?_; rintro e w4 ⟨y, ev, rfl, hr, b4⟩)
  have n4 := mbox w4 #[bV y] 69
  have c4 := b4.alloc b4.size (.cells #[bV y] 69)
  obtain ⟨U4, hU4⟩ : ∃ U, w4.alloc (.cells #[bV y] 69) = U := ⟨_, rfl⟩
  obtain ⟨P1, hP1⟩ : ∃ P, w4.heap.size = P := ⟨_, rfl⟩
  rw [hU4] at n4 c4 ⊢
  rw [hP1] at n4 ⊢
  clear hU4 hP1 R1 b4
  have B4 := mbel B2 c4
  have SO := StepsOf_any ⟨s.toArray⟩ U4 (by rw [ba_size]; omega)
  have esd : (⟨s.toArray⟩ : ByteArray).data.toList = s := by simp
  rw [esd] at SO
  clear esd
  rcases hr with ⟨hsel, rfl, rfl⟩ | ⟨hsel, rfl, rfl⟩
  · obtain ⟨l, hl, h5⟩ := (sel_iff y).1 hsel
    have hy0 := sel_ne hsel
    obtain ⟨hlk, -⟩ := sel_steps hl
    have SO2 : Calls Tryz.prog 28 #[.string ⟨y.toArray⟩] U4 fun e X => (∃ o c m, e = .returned (.tuple #[.slice o m.length c, .bool true]) ∧ S3At X o m ∧ WsOf X m ∧ Mt m l) ∧ Below U4.heap.size U4 X := SO.mono (by
      rintro e X ⟨v, rfl, hv, hb⟩
      rw [hl] at hv
      obtain ⟨r, m, rfl, h1, h2, h3⟩ := hv
      obtain ⟨o, c, rfl, h4⟩ := S3At.of h1
      exact ⟨⟨o, c, m, by rw [decide_eq_true h5], h4, h2, h3⟩, hb⟩)
    have HLK : Hid (l = lnk y) := hlk
    clear SO hsel hl hlk
    go_upto_region 10 with (go_at_call 28; refine SO2.mono ?_; rintro e w5 ⟨⟨so, sc, m, rfl, hS, hWs, hMt⟩, b5⟩)
    clear SO2
    have B5 := mbel B4 b5
    have n5 := bel_blk b5 n4
    have p5 := cell_one n5
    have HML : Hid (m.length = l.length) := hMt.len
    have WO : ∀ X, Below w5.heap.size w5 X → Calls Tryz.prog 32 #[.slice so m.length sc] X fun e w' => e = .returned (.int .i64 (wtM y : Nat)) ∧ w' = X := fun X hX => by
      have h := WeightOf_any m so sc X (by have := HML.out; omega) hMt.few (hS.below hX) (hWs.below hX)
      rw [wS_sum hMt, HLK.out, wt_lnk] at h
      exact h
    have HST : Hid (S3At w5 so m ∧ WsOf w5 m ∧ Mt m l) := ⟨hS, hWs, hMt⟩
    clear hS hWs hMt
    go_upto_region 12 with (first | (go_at_call 33; refine (All_nil _ _).mono ?_; rintro e w9 ⟨rfl, b9⟩; have n9 := bel_blk b9 n8) | (go_at_call 31; refine (Fits_nil _ _ _).mono ?_; rintro e w8 ⟨rfl, b8⟩; have n8 := bel_blk b8 n7; have p8 := cell_one n8) | (go_at_call 32; refine (WO _ (mbel b6 b7)).mono ?_; rintro e w7' ⟨rfl, hw7⟩; subst hw7) | (go_at_call 30; refine (Weight_any y (by omega) _).mono ?_; rintro e w7 ⟨rfl, b7⟩; have n7 := bel_blk b7 n6; have p7 := cell_one n7) | (go_at_call 29; refine (Text_any _ _).mono ?_; rintro e w6 ⟨rfl, b6⟩; have n6 := bel_blk b6 n5; have p6 := cell_one n6))
    have B9 := mbel B5 (mbel b6 (mbel b7 (mbel b8 b9)))
    have BW9 := mbel bV0 B9
    have b59 := mbel b6 (mbel b7 (mbel b8 b9))
    have A9 := (B9.block _ (heap_lt A0)).trans A0
    have x0 := NB.c0 A9
    have x1 := NB.c1 A9
    have x2 := NB.c2 A9
    have E9 := HE.out.below B9 (Nat.le_refl _)
    clear n4 n5 p5 n6 p6 n7 p7 n8 p8 WO b6 b7 b8
    by_cases hc : (ckN n 1 0).1 = 0
    · have NW := New_S E n _ _ _ w9 E9.ceF (NdC.below B9 n HA.out) (by have := HSZ.out; omega) hc
      have HF : Hid (FitD (newD n)) := FitD.new n hc
      have HOK : Hid (∀ lR, RelE (elN 0 (-1) n) (szN n) lR → OkRE (newD n) lR) := fun lR h => okRE_new hc h
      have H12 : Hid (∀ f ∈ flN 0 (-1) 1 n, f.attrs.length ≤ 12) := fl12 n 0 (-1) 1 (lowN_of n 1 0 hc)
      rw [HSZ.out] at NW
      clear hc
      go_upto_region 15 with (go_at_call 8; refine NW.mono ?_; rintro e w10 ⟨b10, DB, MB, tg, p, rfl, d10⟩)
      clear x0 x1 x2 NW A9
      have n10 := bel_blk b10 n9
      have HD : Hid (DocS w9.heap.size tg w10 DB MB p (newD n) Mx.length Mx.length (rkD n)) := d10
      have HAL : Hid (allP (newD n) 0 = nums 0 Mx.length) := by
        have h := allP_new d10.d (InN.ext (fun _ => none) 0 (-1) n)
        rw [HSZ.out] at h
        exact h
      have b210 : Below w2.heap.size w2 w10 := mbel c4 (mbel b5 (mbel b59 b10))
      have DO := DocOf_any n w1 w10 Mx g cap (mbel b2 b210) (HROW.out.1.below b210) HROW.out.2 (by omega) H12.out
      clear d10
      go_upto_region 16 with (go_at_call 11; refine DO.mono ?_; rintro e w11 ⟨rfl, hDR⟩)
      clear DO
      obtain ⟨dv, lR, hRO, hRel, b11⟩ := hDR
      have hRel' : RelE (elN 0 (-1) n) (szN n) lR := by rw [HSZ.out]; exact hRel
      have hlR : lR.length = Mx.length := hRel.1
      obtain ⟨ro, rc, rfl, hRD⟩ := hRO.rdoc
      have b511 := mbel b59 (mbel b10 b11)
      have FT := Fitting_ref lR w10.heap.size ro rc w11 hRD (newD n) (rkD n) HD.out.d (HOK.out lR hRel') (by omega) (by omega) so sc m l (HST.out.1.below b511) (HST.out.2.1.below b511) HST.out.2.2 (by have := HML.out; omega) (by
        have h1 := HML.out
        have h2 := List.length_pos_iff.2 (lnk_ne y)
        rw [← HLK.out] at h2
        omega)
      have HFR : Hid (∀ k : Nat, fitR (newD n) l.reverse k = fitsM (newD n) y k) := fun k => by
        rw [HLK.out]
        exact fitR_fits (newD n) y.length y (Nat.le_refl _) k
      rw [hlR] at FT
      have HRO : Hid (RO w10.heap.size w11 w10.heap.size (.slice ro lR.length rc) lR) := hRO
      have HRE : Hid (RelE (elN 0 (-1) n) (szN n) lR) := hRel'
      have HLR : Hid (lR.length = Mx.length) := hlR
      clear hRO hRel hRel' hRD hlR
      go_upto_region 17 with (go_at_call 34; refine FT.mono ?_; rintro e w12 ⟨v12, rfl, hFO⟩)
      clear FT
      obtain ⟨gf, rfl, hgf, hBT, b12⟩ := hFO
      have AL := All_ref w10.heap.size w12 w10.heap.size _ lR (HRO.out.below b12) (newD n) (rkD n) HD.out.d (all_new HRE.out) (by rw [HAL.out]; simp [nums]; omega) (fun x hx => by
        obtain ⟨j, hj⟩ := List.getElem?_of_mem hx
        have := HRE.out.few hj
        have := HSZ.out
        omega)
      rw [HAL.out] at AL
      go_upto_region 18 with (go_at_call 35; refine AL.mono ?_; rintro e w13 ⟨⟨u, rfl, hU⟩, b13⟩)
      clear AL
      obtain ⟨ga, ca, rfl⟩ : ∃ ga ca, u = .slice (some ⟨ga, 0, none⟩) Mx.length ca := by
        rcases hU.2 with ⟨-, h1⟩ | ⟨ga, ca, cur, h1, -⟩
        · rw [nums_len0] at h1; omega
        · rw [nums_len0] at h1; exact ⟨ga, ca, h1⟩
      have HCA : Hid (∀ k, k < Mx.length → w13.cell? ⟨ga, k, none⟩ = some (.int .i64 k)) := fun k hk => by
        obtain ⟨g2, hg2, hcc⟩ := row_get hU k _ (intsV_get (nums_get hk))
        cases hg2
        exact hcc
      have n13 := bel_blk (mbel b11 (mbel b12 b13)) n10
      have p13 := cell_one n13
      have b1013 := mbel b11 (mbel b12 b13)
      have HD13 := HD.out.below b1013
      have hN : newD n (Mx.length : Int) = none := by
        cases hq : newD n (Mx.length : Int) with
        | none => rfl
        | some e =>
          obtain ⟨j, hj, hj2⟩ := newD_in hq
          have h1 := (List.getElem?_eq_some_iff.1 hj2).1
          rw [elN_len, HSZ.out] at h1
          omega
      obtain ⟨M, hMe⟩ : ∃ M, newD n = M := ⟨_, rfl⟩
      obtain ⟨rk, hre⟩ : ∃ r, rkD n = r := ⟨_, rfl⟩
      have hBT' : BT w12 gf Mx.length (fun k => fitsM M y k) := hBT.re (fun k _ => by rw [← hMe]; exact (HFR.out k).symm)
      have hBT13 := hBT'.below b13
      rw [hMe] at HD13 HF hN HAL
      rw [hre] at HD13
      have HDS : Hid (DocS w9.heap.size tg w13 DB MB p M Mx.length Mx.length rk) := HD13
      have HBT : Hid (BT w13 gf Mx.length (fun k => fitsM M y k)) := hBT13
      have HNN : Hid (M (Mx.length : Int) = none) := hN
      have BW13 : Below W.heap.size W w13 := mbel BW9 (mbel b10 b1013)
      clear hMe hre HD13 hBT13 hBT' hBT hU HD HFR HOK HRO HRE HLR HST hN n13 n10 n9
      obtain ⟨i0, hi, hz0, hz1, hz2⟩ := info_parts intInfo
      go_wp2_with fail
      go_loopw [16, 17] (fun vw i wr => ∃ k : Nat, k ≤ Mx.length ∧ i = .int .i64 k ∧ OwnI wr w13.heap.size vw ((nums 0 k).filter (fitsM M y)) ∧ Below w13.heap.size w13 wr) (fun _ i _ => Mx.length - (intOf i).toNat)
      case atStart => exact ⟨0, Nat.zero_le _, rfl, World.ownsRow_nil _ _ _ _, Below.refl _ _⟩
      case round =>
        obtain ⟨k, hk, rfl, hown, hb⟩ := hrel
        have hDr := HDS.out.below hb
        have pr := (hb.cell (cell_lt3 p13)).trans p13
        have hwr := hb.size
        by_cases hlt : k < Mx.length
        · have hlt' : (k : Int) < (Mx.length : Int) := by omega
          have cA := (hb.cell (cell_lt3 (HCA.out k hlt))).trans (HCA.out k hlt)
          have cF := (HBT.out.below hb).cell hlt
          have FF := fun X (hx : Below wr.heap.size wr X) => Fits_doc (hDr.below hx).w hDr.d HF.out y (by omega) hy0 (k : Int) (wf_small k (by omega))
          obtain ⟨fb, hfb⟩ : ∃ b, fitsM M y k = b := ⟨_, rfl⟩
          have HFB : Hid (fitsM M y k = fb) := hfb
          simp only [hfb] at FF cF
          clear hfb
          have f1 : ∀ d os, Calls Tryz.prog 31 #[.agg #[bV y], .pointer (some ⟨DB, 0, none⟩), .int .i64 k] (Go.Sort.grow (redrawn wr d) os) fun e w'' => e = .returned (.bool fb) ∧ ∃ p : Regrown, w'' = Go.Sort.grow (redrawn wr p.d) p.os := fun d os => Calls.regrown_of (FF _ (below_regrown wr d os))
          have r0 := cell_regrown pr
          have r1 := cell_regrown cA
          have r2 := cell_regrown cF
          clear FF
          go_upto_region 22 with fail
          refine wp_region_quiet_below (by kernel_rfl) (by kernel_rfl) ?_
          repeat (go_big_quiet_step ((go_at_call 31; exact f1 _ _)))
          refine wpQuiet_nil ?_
          intro _ hw'
          obtain ⟨pp, hw''⟩ := hw'
          subst hw''
          have b24 := below_regrown wr pp.d pp.os
          generalize Go.Sort.grow (redrawn wr pp.d) pp.os = w24 at b24 ⊢
          have hown24 := own_bel hown b24
          have hb24 := hb.trans (b24.mono hwr)
          have cA4 := (b24.cell (cell_lt3 cA)).trans cA
          have cF4 := (b24.cell (cell_lt3 cF)).trans cF
          have hneq : (fb != fb) = false := by cases fb <;> rfl
          clear r0 r1 r2 f1
          have hlf : ((nums 0 k).filter (fitsM M y)).length ≤ 60 := by
            have h1 := List.length_filter_le (fitsM M y) (nums 0 k)
            rw [nums_len0] at h1
            omega
          cases fb with
          | true =>
            have HY : Hid ((nums 0 (k + 1)).filter (fitsM M y) = (nums 0 k).filter (fitsM M y) ++ [(k : Int)]) := fil_yes HFB.out
            go_wp2_with (at_builtin; refine wpList_append_own_at _ rfl _ _ 60 rfl w13.heap.size 3 i0 (.int .i64 0) 1 8 Tryz.underlying60 hi hz0 hz1 hz2 rfl (by decide) _ _ _ rfl (World.ownsRow.alloc hown24 _) ⟨w24.heap.size, 0, none⟩ 1 1 [.int .i64 k] rfl rfl (cell_one_new _ _ _) (fun u hu => by simp at hu; subst hu; rfl) (by simp only [maxLen]; omega) (by omega) (by simp; have := hb24.size; omega) ?_; intro v25 w25 ow25 gr25 _ _)
            have b25 : Below w13.heap.size w13 w25 := (hb24.alloc hb24.size _).grown gr25 (by simp; have := hb24.size; omega) (fun r e => (hown24.lt r e).1)
            go_roundw
            case rel => exact ⟨k + 1, by omega, by go_num, by rw [HY.out]; exact OwnI.snoc ow25, b25⟩
            case measure => simp [intOf]; omega
          | false =>
            have HY : Hid ((nums 0 (k + 1)).filter (fitsM M y) = (nums 0 k).filter (fitsM M y)) := fil_no HFB.out
            go_wp2_with fail
            go_roundw
            case rel => exact ⟨k + 1, by omega, by go_num, by rw [HY.out]; exact hown24, hb24⟩
            case measure => simp [intOf]; omega
        · have hge : ¬ (k : Int) < (Mx.length : Int) := by omega
          obtain rfl : k = Mx.length := by omega
          have AS := All_sel hDr HF.out y (by omega) hy0
          have efr : fromL M 11 0 = nums 0 Mx.length := HAL.out
          rw [efr] at AS
          clear efr
          obtain ⟨L, hL⟩ : ∃ L, (nums 0 Mx.length).filter (fitsM M y) = L := ⟨_, rfl⟩
          have hLl : L.length ≤ 60 := by
            have h1 := List.length_filter_le (fitsM M y) (nums 0 Mx.length)
            rw [nums_len0, hL] at h1
            omega
          rw [hL] at AS hown
          clear hL
          obtain ⟨ow, cw, rfl⟩ := own_slice hown
          have HOWN : Hid (OwnI wr w13.heap.size (.slice ow L.length cw) L) := hown
          have FN : ∀ X, Below wr.heap.size wr X → ∀ i : Int, M i = none → Wf64 i → Calls Tryz.prog 31 #[.agg #[bV y], .pointer (some ⟨DB, 0, none⟩), .int .i64 i] X fun e w' => e = .returned (.bool false) ∧ Below X.heap.size X w' := fun X hx i hi hwi => by
            have h := Fits_doc (hDr.below hx).w hDr.d HF.out y (by omega) hy0 i hwi
            rw [fits_out hi] at h
            exact h
          have SI : ∀ X b kk, Below wr.heap.size wr X → RwN X wr.heap.size b kk L.length L → Calls Tryz.prog 36 #[.slice (some ⟨b, 0, none⟩) L.length kk, .slice ow L.length cw] X fun e w' => e = .returned (.bool true) ∧ Below X.heap.size X w' := fun X b kk hx hr => SameInts_same X (some ⟨b, 0, none⟩) ow kk cw L hr (own_bel HOWN.out hx) (by omega)
          have hwN := wf_small Mx.length (by omega)
          have hneg := hDr.d.neg (-1) (by decide)
          clear hown
          go_upto_region 26 with fail
          go_wp2_with (first | (go_at_call 36; refine (SI _ _ _ b26 hrw).mono ?_; rintro e w27 ⟨rfl, b27⟩; have p27 := (b27.cell (cell_lt3 p26)).trans p26) | (go_at_call 33; refine AS.mono ?_; rintro e w26 ⟨⟨v26, rfl, b26', kk26, rfl, hrw⟩, b26⟩; have p26 := (b26.cell (cell_lt3 pr)).trans pr))
          refine (FN _ (mbel b26 b27) _ HNN.out hwN).mono ?_
          rintro e w28 ⟨rfl, b28⟩
          have p28 := (b28.cell (cell_lt3 p27)).trans p27
          go_wp2_with (go_at_call 31; refine (FN _ (mbel b26 (mbel b27 b28)) (-1) hneg (by decide)).mono ?_; rintro e w29 ⟨rfl, b29⟩)
          go_ret
          exact ⟨rfl, mbel BW13 (mbel hb (mbel b26 (mbel b27 (mbel b28 b29))))⟩
    · have NW := New_no E n _ _ _ w9 E9.ceF (NdC.below B9 n HA.out) (by have := HSZ.out; omega) hc
      clear hc
      go_wp2_with (go_at_call 8; refine NW.mono ?_; rintro e w10 ⟨b10, pb, rfl⟩)
      go_ret
      exact ⟨rfl, mbel BW9 b10⟩
  · have SO2 : Calls Tryz.prog 28 #[.string ⟨s.toArray⟩] U4 fun e X => (∃ rv, e = .returned (.tuple #[rv, .bool false])) ∧ Below U4.heap.size U4 X := SO.mono (by
      rintro e X ⟨v, rfl, hv, hb⟩
      cases hq : sR true (pcs s) with
      | none =>
        rw [hq] at hv
        obtain ⟨r, rfl⟩ := hv
        exact ⟨⟨r, rfl⟩, hb⟩
      | some l =>
        rw [hq] at hv
        obtain ⟨r, m, rfl, -⟩ := hv
        have hl : ¬ l.length ≤ 5 := fun h5 => by
          rw [(sel_iff s).2 ⟨l, hq, h5⟩] at hsel
          cases hsel
        exact ⟨⟨r, by rw [decide_eq_false hl]⟩, hb⟩)
    clear SO hsel
    go_upto_region 8 with (go_at_call 28; refine SO2.mono ?_; rintro e w5 ⟨⟨rv, rfl⟩, b5⟩)
    clear SO2
    have B5 := mbel B4 b5
    have n5 := bel_blk b5 n4
    have z5 := mbox w5 #[.string ⟨#[]⟩] 69
    have d5 := mal w5 (.cells #[.string ⟨#[]⟩] 69)
    go_upto_region 9 with fail
    obtain ⟨U5, hU5⟩ : ∃ U, w5.alloc (.cells #[.string ⟨#[]⟩] 69) = U := ⟨_, rfl⟩
    obtain ⟨P2, hP2⟩ : ∃ P, w5.heap.size = P := ⟨_, rfl⟩
    rw [hU5] at z5 d5 ⊢
    rw [hP2] at z5 ⊢
    clear hU5 hP2
    have n6 := bel_blk d5 n5
    have B6 := mbel B5 d5
    have CO := coded_at 1 (by decide) (by decide) U5 (HE.out.below B6 (Nat.le_refl _))
    have WT : ∀ V, Calls Tryz.prog 30 #[.agg #[.string ⟨#[]⟩]] V fun e w' => e = .returned (.int .i64 0) ∧ Below V.heap.size V w' := fun V => by
      have h := Weight_any [] (by decide) V
      rw [wt_none] at h
      exact h
    go_wp2_with (first | (go_at_call 31; refine (Fits_nil _ _ _).mono ?_; rintro e w9 ⟨rfl, b9⟩) | (go_at_call 30; refine (WT _).mono ?_; rintro e w8 ⟨rfl, b8⟩; have z9 := cell_one (bel_blk b8 z8)) | (go_at_call 29; refine (Text_any _ _).mono ?_; rintro e w7 ⟨rfl, b7⟩; have n8 := cell_one (bel_blk b7 n7); have z8 := bel_blk b7 z7) | (go_at_call 14; refine CO.mono ?_; rintro e w6 ⟨rfl, b6⟩; have n7 := bel_blk b6 n6; have z7 := bel_blk b6 z5; have p7 := cell_one n7))
    go_ret
    exact ⟨rfl, mbel bV0 (mbel B6 (mbel b6 (mbel b7 (mbel b8 b9))))⟩
theorem pickf_ba (E : Nat → Addr) (n : Nd) (a0 a1 a2 : Value) (s1 : ByteArray) (W : World) (hE : EE E W) (ha : NdC W a0 a1 a2 n) :
    Calls Tryz.prog 4 #[.agg #[a0, a1, a2], .string s1] W fun e w' => e = .returned (.bool true) ∧ Below W.heap.size W w' := by
  have h := pickfits_any E n a0 a1 a2 s1.data.toList W hE ha
  have e1 : (⟨s1.data.toList.toArray⟩ : ByteArray) = s1 := by cases s1; simp
  unfold bV at h
  rw [e1] at h
  exact h
end Go.Proofs.YtnoecobddhmhlaaGreatDoor

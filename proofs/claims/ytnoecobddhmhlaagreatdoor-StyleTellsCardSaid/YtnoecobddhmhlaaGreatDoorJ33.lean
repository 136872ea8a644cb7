/-
  PickLast: the walk.
-/
import Derived.Test.YtnoecobddhmhlaaGreatDoorJ22
import Derived.Lib.QuietBelow
import Derived.Deep.QuietTactic
import Derived.BigQuiet
import Derived.Test.YtnoecobddhmhlaaGreatDoorJ25
import Derived.Test.YtnoecobddhmhlaaGreatDoorJ32
import Derived.Test.YtnoecobddhmhlaaGreatDoorJ20
namespace Go.Proofs.YtnoecobddhmhlaaGreatDoor
open Go.RowKit Go.Shelf

mutual
theorem elN_va : ∀ (n : Nd) (k : Nat) (p : Int), okN n → ∀ e ∈ elN k p n, ∀ a ∈ e.ats, isVal a.2 = true
  | .mk nm ats ks, k, p, h, e, he => by
    unfold okN at h
    rw [elN] at he
    rcases List.mem_cons.1 he with rfl | he
    · exact fun a ha => (h.2.1 a ha).2
    · exact elL_va ks _ _ h.2.2 e he
theorem elL_va : ∀ (l : List Nd) (k : Nat) (p : Int), okL l → ∀ e ∈ elL k p l, ∀ a ∈ e.ats, isVal a.2 = true
  | [], _, _, _, e, he => by simp [elL] at he
  | n :: l, k, p, h, e, he => by
    unfold okL at h
    rw [elL] at he
    rcases List.mem_append.1 he with he | he
    · exact elN_va n _ _ h.1 e he
    · exact elL_va l _ _ h.2 e he
end
theorem FitD.new (n : Nd) (hc : (ckN n 1 0).1 = 0) : FitD (newD n) := fun j e he => by
  have hk := ckN_ok n 1 0 hc
  unfold newD extE at he
  split at he
  · have hm := List.mem_of_getElem? he
    refine ⟨?_, fun a ha => ?_⟩
    · obtain ⟨c, r, h1, -⟩ := isNm_head (elN_nm n 0 (-1) hk e hm)
      rw [h1]
      simp
    · have h1 := elN_va n 0 (-1) hk e hm a ha
      unfold isVal at h1
      simp only [Bool.and_eq_true, decide_eq_true_eq] at h1
      omega
  · cases he
/-- What pick.Read answers of a text: it is a selector, or it is none. -/
def RdR (s x : Bs) (ev : Value) (ea : Addr) : Prop := (isSelM s = true ∧ x = s ∧ ev = .nilIface) ∨ (isSelM s = false ∧ x = [] ∧ ev = .iface 245 (.pointer (some ea)))
theorem Read_rd (s : Bs) (hs : s.length ≤ 1000000) (W : World) (ea : Addr) (hE : W.cell? ⟨8, 0, none⟩ = some (.iface 245 (.pointer (some ea)))) :
    Calls Tryz.prog 27 #[bV s] W fun e w' => ∃ x ev, e = .returned (.tuple #[.agg #[bV x], ev]) ∧ RdR s x ev ea ∧ Below W.heap.size W w' := (Read_any s hs W ea hE).mono fun e w' h => by
  obtain ⟨h1, h2⟩ := h
  cases hs : isSelM s with
  | true => rw [hs] at h1; exact ⟨s, .nilIface, h1, .inl ⟨hs, rfl, rfl⟩, h2⟩
  | false => rw [hs] at h1; exact ⟨[], _, h1, .inr ⟨hs, rfl, rfl⟩, h2⟩
theorem ba_cat (a b : Bs) : (⟨a.toArray⟩ : ByteArray) ++ (⟨b.toArray⟩ : ByteArray) = ⟨(a ++ b).toArray⟩ := by
  apply ByteArray.ext
  simp
theorem sel_ne {s : Bs} (h : isSelM s = true) : s ≠ [] := fun e => by
  subst e
  exact absurd h (by decide +kernel)
end Go.Proofs.YtnoecobddhmhlaaGreatDoor

namespace Go.Proofs.YtnoecobddhmhlaaGreatDoor
open Go.RowKit

set_option maxRecDepth 20000 in
set_option maxHeartbeats 4000000 in
theorem Fits_nil (s : ByteArray) (n : Int) (w : World) :
    Calls Tryz.prog 31 #[.agg #[.string s], .pointer none, .int .i64 n] w fun e w' => e = .returned (.bool false) ∧ Below w.heap.size w w' := by
  have b0 : Below w.heap.size w (w.alloc (.cells #[.string s] 69)) := (Below.refl _ _).alloc (Nat.le_refl _) _
  have b1 : Below w.heap.size w ((w.alloc (.cells #[.string s] 69)).alloc (.cells #[.pointer none] 30)) := b0.alloc (by rw [World.size_alloc]; exact Nat.le_succ _) _
  go_enter Tryz.func31, Tryz.ntmps31
  go_wp2_with fail
  go_ret
  exact ⟨rfl, b1⟩
set_option maxRecDepth 20000 in
set_option maxHeartbeats 4000000 in
theorem All_nil (s : ByteArray) (w : World) :
    Calls Tryz.prog 33 #[.pointer none, .agg #[.string s]] w fun e w' => e = .returned (.slice none 0 0) ∧ Below w.heap.size w w' := by
  have b0 : Below w.heap.size w (w.alloc (.cells #[.pointer none] 30)) := (Below.refl _ _).alloc (Nat.le_refl _) _
  have b1 : Below w.heap.size w ((w.alloc (.cells #[.pointer none] 30)).alloc (.cells #[.string s] 69)) := b0.alloc (by rw [World.size_alloc]; exact Nat.le_succ _) _
  go_enter Tryz.func33, Tryz.ntmps33
  go_wp2_with fail
  go_ret
  exact ⟨rfl, b1⟩
end Go.Proofs.YtnoecobddhmhlaaGreatDoor

namespace Go.Proofs.YtnoecobddhmhlaaGreatDoor
open Go.RowKit Go.Shelf

section
variable {B : Nat} {tg : Tags} {W : World} {DB MB : Nat} {p : Int → Option Nat} {M : Dm} {nx c : Nat} {r : Int → Nat}
/-- A row of numbers that a call answers. -/
def RowA (W : World) (base : Nat) (v : Value) (L : List Int) : Prop := ∃ b k, v = .slice (some ⟨b, 0, none⟩) L.length k ∧ RwN W base b k L.length L
set_option maxHeartbeats 4000000 in
theorem All_sel (h : DocS B tg W DB MB p M nx c r) (hF : FitD M) (s : Bs) (hs : s.length ≤ 1000000) (hs0 : s ≠ []) :
    Calls Tryz.prog 33 #[.pointer (some ⟨DB, 0, none⟩), .agg #[bV s]] W fun e w' => (∃ v, e = .returned v ∧ RowA w' W.heap.size v ((fromL M 11 0).filter (fitsM M s))) ∧ Below W.heap.size W w' := by
  have n0 := World.alloc_heap_new W (.cells #[.pointer (some ⟨DB, 0, none⟩)] 30)
  have n1 := World.alloc_heap_new (W.alloc (.cells #[.pointer (some ⟨DB, 0, none⟩)] 30)) (.cells #[bV s] 69)
  rw [World.size_alloc] at n1
  have n0' : ((W.alloc (.cells #[.pointer (some ⟨DB, 0, none⟩)] 30)).alloc (.cells #[bV s] 69)).heap[W.heap.size]? = some (.cells #[.pointer (some ⟨DB, 0, none⟩)] 30) := (Below.heap_alloc _ _ _ (by rw [World.size_alloc]; omega)).trans n0
  have b0 : Below W.heap.size W ((W.alloc (.cells #[.pointer (some ⟨DB, 0, none⟩)] 30)).alloc (.cells #[bV s] 69)) := ((Below.refl _ W).alloc (Nat.le_refl _) _).alloc (by rw [World.size_alloc]; omega) _
  have hll := h.alll
  have hin : ∀ y ∈ fromL M 11 0, ∃ e, M y = some e := fun y hy => ((h.d.mem h.d.dp0).1 hy).in_
  have hpos : 0 < (fromL M 11 0).length := by
    obtain ⟨e0, he0, -⟩ := h.d.root
    have h1 : fromL M 11 0 = allP M 0 := rfl
    rw [h1, h.d.allP_kids he0]
    simp
  have AL := fun U (hb : Below W.heap.size W U) => All_doc (h.below hb).w 11 (by omega) (h.below hb).d.dp0 (by omega)
  obtain ⟨L, hL⟩ : ∃ L, fromL M 11 0 = L := ⟨_, rfl⟩
  simp only [hL] at AL hin hll hpos ⊢
  clear n0 hL
  go_enter Tryz.func33, Tryz.ntmps33
  go_upto_region 1 with fail
  obtain ⟨U, hU⟩ : ∃ U, (W.alloc (.cells #[.pointer (some ⟨DB, 0, none⟩)] 30)).alloc (.cells #[bV s] 69) = U := ⟨_, rfl⟩
  rw [hU] at n0' n1 b0 ⊢
  clear hU
  have hd := h.below b0
  have AL := AL U b0
  have c1 := cell_one n0'
  have c2 := cell_one n1
  have AK : AskA U.heap.size (W.heap.size + 1) W.heap.size U L (fun x => !fitsM M s x) := fun m hm V hx2 => by
    obtain ⟨e, he⟩ := hin m hm
    have hd2 := hd.below hx2
    exact AllF_any hd2.w hd2.d hF s hs hs0 m (hd2.w.i64 he) (W.heap.size + 1) W.heap.size ((hx2.cell (cell_lt3 c2)).trans c2) ((hx2.cell (cell_lt3 c1)).trans c1)
  have hfil : (L.filter fun x => !(fun x => !fitsM M s x) x) = L.filter (fitsM M s) := by
    congr 1
    funext x
    simp
  have DF : ∀ V o k, Below U.heap.size U V → V.ownsRow (U.heap.size + 1) 3 1 (.slice o L.length k) L.length (intsV L) → Calls Tryz.prog 89 #[.slice o L.length k, .func (.func 90) #[] #[.pointer (some ⟨W.heap.size + 1, 0, none⟩), .pointer (some ⟨W.heap.size, 0, none⟩)]] V fun e w' => (∃ v, e = .returned v ∧ RowA w' W.heap.size v (L.filter (fitsM M s))) ∧ Below U.heap.size U w' := fun V o k hv ow => by
    obtain ⟨g, hg⟩ : ∃ g, o = some ⟨g, 0, none⟩ := by
      rcases ow.2 with ⟨h1, h2⟩ | ⟨g, c, cur, h1, -⟩
      · omega
      · injection h1 with h1; exact ⟨g, h1⟩
    subst hg
    have hr : RwN V (U.heap.size + 1) g k L.length L := ow
    have hlt := hr.lt
    have DN := DeleteN U.heap.size (W.heap.size + 1) W.heap.size (fun x => !fitsM M s x) L (U.heap.size + 1) g k U V (by omega) hr (by omega) hv AK
    rw [hfil] at DN
    refine DN.mono ?_
    rintro e w' ⟨rfl, h1, h2⟩
    have hb1 := b0.size
    refine ⟨⟨_, rfl, g, k, rfl, ?_⟩, h2⟩
    refine ⟨h1.1, ?_⟩
    rcases h1.2 with h3 | ⟨g', c, cur, h3, h4, h5⟩
    · exact .inl h3
    · exact .inr ⟨g', c, cur, h3, by omega, h5⟩
  clear AK hin hfil
  go_wp2_with (first | (go_at_call 73; refine AL.mono ?_; rintro e w1 ⟨o1, k1, rfl, b1, ow1⟩) | (go_at_call 89; refine (DF _ _ _ b1 ow1).mono ?_; rintro e w2 ⟨⟨v2, rfl, hv2⟩, b2⟩))
  go_ret
  exact ⟨⟨_, rfl, hv2⟩, b0.trans (b2.mono b0.size)⟩
end
mutual
theorem fl12 : ∀ (n : Nd) (k : Nat) (p : Int) (d : Nat), lowN n → ∀ f ∈ flN k p d n, f.attrs.length ≤ 12
  | .mk nm ats ks, k, p, d, h, f, hf => by
    unfold lowN at h
    rw [flN] at hf
    rcases List.mem_cons.1 hf with rfl | hf
    · exact h.1
    · exact fl12L ks _ _ _ h.2 f hf
theorem fl12L : ∀ (l : List Nd) (k : Nat) (p : Int) (d : Nat), lowL l → ∀ f ∈ flL k p d l, f.attrs.length ≤ 12
  | [], _, _, _, _, f, hf => by rw [flL] at hf; cases hf
  | n :: l, k, p, d, h, f, hf => by
    unfold lowL at h
    rw [flL] at hf
    rcases List.mem_append.1 hf with hf | hf
    · exact fl12 n _ _ _ h.1 f hf
    · exact fl12L l _ _ _ h.2 f hf
end
theorem newD_el {n : Nd} {j : Nat} {e : Elm} (h : (elN 0 (-1) n)[j]? = some e) : newD n j = some e := by
  have h1 := InN.ext (fun _ => none) 0 (-1) n j e h
  have e0 : ((0 : Nat) : Int) + (j : Int) = (j : Int) := by omega
  rw [e0] at h1
  exact h1
theorem newD_in {n : Nd} {i : Int} {e : Elm} (h : newD n i = some e) : ∃ j : Nat, i = j ∧ (elN 0 (-1) n)[j]? = some e := by
  unfold newD extE at h
  split at h
  · rename_i hi
    refine ⟨i.toNat, by omega, ?_⟩
    have e0 : (i - ((0 : Nat) : Int)).toNat = i.toNat := by congr 1; omega
    rw [e0] at h
    exact h
  · cases h
theorem okRE_new {n : Nd} {l : List RE} (hc : (ckN n 1 0).1 = 0) (h : RelE (elN 0 (-1) n) (szN n) l) : OkRE (newD n) l := fun j x hx => by
  obtain ⟨e, he, h1, h2, h3, h4, h5⟩ := h.made j x hx
  have hm := newD_el he
  have hk := ckN_ok n 1 0 hc
  have hmem := List.mem_of_getElem? he
  have hF := FitD.new n hc j e hm
  have hat : x.ats.length ≤ 12 := by
    have hlow := lowN_of n 1 0 hc
    have h6 := congrArg (fun t => t[j]?) (elN_fl n 0 (-1) 1)
    simp only [List.getElem?_map, he] at h6
    cases hq : (flN 0 (-1) 1 n)[j]? with
    | none => rw [hq] at h6; cases h6
    | some f =>
      rw [hq] at h6
      simp at h6
      rw [h2, h6.2.1]
      exact fl12 n 0 (-1) 1 hlow f (List.mem_of_getElem? hq)
  refine ⟨by rw [hm, h1, h2, h3, h4], h5, by rw [h1]; exact hF.1, by omega, fun q hq => ?_, ?_, ?_⟩
  · rw [h2] at hq
    have h7 := elN_va n 0 (-1) hk e hmem q hq
    unfold isVal at h7
    simp only [Bool.and_eq_true, decide_eq_true_eq] at h7
    omega
  · rw [h3]
    have := elN_lt n 0 (-1) j e he (by omega)
    omega
  · rw [h3]
    rcases elN_par n 0 (-1) j e he with ⟨-, h8⟩ | ⟨-, h8, -⟩
    · omega
    · omega
theorem all_new {n : Nd} {l : List RE} (h : RelE (elN 0 (-1) n) (szN n) l) : ∀ (i : Int) (e : Elm), newD n i = some e → ∃ (j : Nat) (x : RE), i = j ∧ l[j]? = some x ∧ x.kids = e.kids := fun i e he => by
  obtain ⟨j, rfl, hj⟩ := newD_in he
  have hlt : j < l.length := by
    rw [h.1, ← elN_len n 0 (-1)]
    exact (List.getElem?_eq_some_iff.1 hj).1
  refine ⟨j, l[j], rfl, List.getElem?_eq_getElem hlt, ?_⟩
  obtain ⟨e', he', -, -, -, h4, -⟩ := h.made j _ (List.getElem?_eq_getElem hlt)
  rw [hj] at he'
  injection he' with he'
  rw [h4, he']
theorem Text_any (s : ByteArray) (V : World) : Calls Tryz.prog 29 #[.agg #[.string s]] V fun e w' => e = .returned (.string s) ∧ Below V.heap.size V w' := by
  go_enter Tryz.func29, Tryz.ntmps29
  go_wp2_with fail
  go_ret
  exact ⟨rfl, by first | exact Below.refl _ _ | exact (Below.refl _ _).alloc (Nat.le_refl _) _⟩
end Go.Proofs.YtnoecobddhmhlaaGreatDoor

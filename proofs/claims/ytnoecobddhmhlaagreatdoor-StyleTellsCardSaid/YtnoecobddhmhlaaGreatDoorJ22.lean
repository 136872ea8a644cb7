/-
  A document: an element's attribute.
-/
import Derived.Test.YtnoecobddhmhlaaGreatDoorJ10
import Derived.Test.YtnoecobddhmhlaaGreatDoorJ7
import Derived.Test.YtnoecobddhmhlaaGreatDoorJ1
import Derived.Test.YtnoecobddhmhlaaGreatDoorJ5
import Derived.Test.YtnoecobddhmhlaaGreatDoorShelfS
import Derived.Test.YtnoecobddhmhlaaGreatDoorJ21
import Derived.Test.YtnoecobddhmhlaaGreatDoorJ12
import Derived.Test.YtnoecobddhmhlaaGreatDoorJ17
namespace Go.Proofs.YtnoecobddhmhlaaGreatDoor
open Go.RowKit

theorem cellsA_at : ∀ {l : List (Bs × Bs)} {i : Nat} {x : Bs × Bs}, l[i]? = some x → (cellsA l)[i * 2]? = some (.string ⟨x.1.toArray⟩) ∧ (cellsA l)[i * 2 + 1]? = some (.string ⟨x.2.toArray⟩)
  | [], _, _, h => by simp at h
  | y :: l, 0, x, h => by
    simp at h
    subst h
    exact ⟨rfl, rfl⟩
  | y :: l, i + 1, x, h => by
    have h1 := cellsA_at (l := l) (i := i) (x := x) (by simpa using h)
    rw [show (i + 1) * 2 = i * 2 + 1 + 1 from by omega]
    exact ⟨by simpa [cellsA] using h1.1, by simpa [cellsA] using h1.2⟩
theorem atOf_fI : ∀ (l : List (Bs × Bs)) (nm : Bs) (k : Nat), (fI nm k l = -1 ∧ atOf l nm = none) ∨ ∃ i x, fI nm k l = ((k + i : Nat) : Int) ∧ l[i]? = some x ∧ atOf l nm = some x.2
  | [], _, _ => .inl ⟨rfl, rfl⟩
  | x :: l, nm, k => by
    unfold fI atOf
    rw [List.find?_cons]
    cases hx : (x.1 == nm) with
    | true => exact .inr ⟨0, x, by simp, rfl, rfl⟩
    | false =>
      rcases atOf_fI l nm (k + 1) with ⟨h1, h2⟩ | ⟨i, y, h1, h2, h3⟩
      · exact .inl ⟨by simpa using h1, h2⟩
      · exact .inr ⟨i + 1, y, by rw [if_neg (by simp), h1]; congr 1; omega, by simpa using h2, h3⟩
set_option maxHeartbeats 1000000 in
theorem sameAt_any (x : Bs × Bs) (nm : Bs) (B : Nat) (W : World) (hB : W.cell? ⟨B, 0, none⟩ = some (strV nm)) :
    Calls Tryz.prog 115 #[atV x, .pointer (some ⟨B, 0, none⟩)] W fun e w' => e = .returned (.bool (x.1 == nm)) ∧ Below W.heap.size W w' := by
  have hB' := fun o => mcell_al o hB
  unfold atV strV at *
  go_enter Tryz.func115, Tryz.ntmps115
  go_wp2
  go_ret
  exact ⟨rfl, (Below.refl _ W).alloc (Nat.le_refl _) _⟩
set_option maxHeartbeats 2000000 in
theorem PlaceF_any (ats : List (Bs × Bs)) (nm : Bs) (B B0 : Nat) (v : Value) (W : World) (h : W.ownsRow B0 59 2 v ats.length (cellsA ats)) (hB : W.cell? ⟨B, 0, none⟩ = some (strV nm)) :
    Calls Tryz.prog 114 #[v, .func (.func 115) #[] #[.pointer (some ⟨B, 0, none⟩)]] W fun e w' => e = .returned (.int .i64 (fI nm 0 ats)) ∧ Below W.heap.size W w' := by
  obtain ⟨o, cap, hvo, h1, h2, h3, h5⟩ := row_slice h
  have hlen : (ats.length : Int) ≤ 9223372036854775807 := by rw [maxLen_eq] at h2; omega
  by_cases h0 : ats.length = 0
  · obtain rfl : ats = [] := List.length_eq_zero_iff.1 h0
    subst hvo
    clear h h5
    go_enter Tryz.func114, Tryz.ntmps114
    go_wp2_with fail
    go_loopw [8] (fun y wr => y = .int .i64 0 ∧ wr = W) (fun _ _ => 0)
    case atStart => exact ⟨rfl, rfl⟩
    case round =>
      obtain ⟨rfl, rfl⟩ := hrel
      go_wp2_with fail
      go_ret
      exact ⟨rfl, Below.refl _ _⟩
  · obtain ⟨x0, hx0, -⟩ := drop_at (l := ats) (k := 0) (by omega)
    obtain ⟨g, hg, -⟩ := row_get h _ _ (cellsA_at hx0).1
    have hog := h5 g hg
    subst hvo hog
    have H4 : Hid (∀ k x, ats[k]? = some x → W.cell? ⟨g, k * 2, none⟩ = some (.string ⟨x.1.toArray⟩) ∧ W.cell? ⟨g, k * 2 + 1, none⟩ = some (.string ⟨x.2.toArray⟩)) := (fun k x hx => by
      obtain ⟨g1, hg1, c1⟩ := row_get h _ _ (cellsA_at hx).1
      obtain ⟨g2, hg2, c2⟩ := row_get h _ _ (cellsA_at hx).2
      rw [hg] at hg1 hg2
      cases hg1
      cases hg2
      exact ⟨c1, c2⟩ : ∀ k x, ats[k]? = some x → W.cell? ⟨g, k * 2, none⟩ = some (.string ⟨x.1.toArray⟩) ∧ W.cell? ⟨g, k * 2 + 1, none⟩ = some (.string ⟨x.2.toArray⟩))
    clear h hx0 h3 h5 x0 hg
    have hcap : (ats.length : Int) ≤ (cap : Int) := by omega
    go_enter Tryz.func114, Tryz.ntmps114
    go_wp2_with fail
    go_loopw [8] (fun y wr => ∃ k : Nat, k ≤ ats.length ∧ y = .int .i64 k ∧ fI nm 0 ats = fI nm k (ats.drop k) ∧ Below W.heap.size W wr) (fun y _ => ats.length - (intOf y).toNat)
    case atStart => exact ⟨0, Nat.zero_le _, rfl, rfl, Below.refl _ _⟩
    case round =>
      obtain ⟨k, hk, rfl, hf, hb⟩ := hrel
      by_cases hlt : k < ats.length
      · have hlt' : (k : Int) < (ats.length : Int) := by omega
        obtain ⟨x, hx, hd⟩ := drop_at hlt
        obtain ⟨c0, c1⟩ := H4.out k x hx
        have k0 := (hb.cell (cell_lt3 c0)).trans c0
        have k1 := (hb.cell (cell_lt3 c1)).trans c1
        have hB1 := (hb.cell (cell_lt3 hB)).trans hB
        have HS := sameAt_any x nm B wr hB1
        unfold atV strV at HS
        rw [hd] at hf
        clear c0 c1 hx hd
        cases hs : (x.1 == nm) with
        | true =>
          rw [hs] at HS
          have hf' : Hid (fI nm 0 ats = k) := (by rw [hf]; unfold fI; rw [if_pos hs] : fI nm 0 ats = k)
          clear hf hs
          go_wp2_with (go_at_call 115; refine HS.mono ?_; rintro e w1 ⟨rfl, hb1⟩)
          go_ret
          exact ⟨by rw [hf'.out]; rfl, mbel hb hb1⟩
        | false =>
          rw [hs] at HS
          have hf0 : fI nm k (x :: ats.drop (k + 1)) = fI nm (k + 1) (ats.drop (k + 1)) := by rw [fI, if_neg (by rw [hs]; simp)]
          have hf' : Hid (fI nm 0 ats = fI nm (k + 1) (ats.drop (k + 1))) := hf.trans hf0
          clear hf0
          clear hf hs
          go_wp2_with (go_at_call 115; refine HS.mono ?_; rintro e w1 ⟨rfl, hb1⟩)
          go_roundw
          case rel => exact ⟨k + 1, by omega, by go_num, hf'.out, mbel hb hb1⟩
          case measure => simp [intOf]; omega
      · obtain rfl : k = ats.length := by omega
        have hf' : Hid (fI nm 0 ats = -1) := (by rw [hf, List.drop_length]; rfl : fI nm 0 ats = -1)
        clear hf
        go_wp2_with fail
        go_ret
        exact ⟨by rw [hf'.out]; rfl, hb⟩
section
variable {B : Nat} {tg : Tags} {W : World} {DB MB : Nat} {p : Int → Option Nat} {M : Dm} {nx c : Nat}
set_option maxHeartbeats 2000000 in
theorem placeOf_any {i : Int} {b : Nat} {e : Elm} {va vk : Value} (he : ElW B tg W i b e va vk) (nm : Bs) :
    Calls Tryz.prog 71 #[.pointer (some ⟨b, 0, none⟩), .string ⟨nm.toArray⟩] W fun r w' => r = .returned (.int .i64 (fI nm 0 e.ats)) ∧ Below W.heap.size W w' := by
  have b1 := (Below.refl W.heap.size W).alloc (Nat.le_refl _) (.cells #[.string ⟨nm.toArray⟩] 9)
  have x1 := (b1.cell (cell_lt3 he.c1)).trans he.c1
  have hats := own_bel he.ats b1
  have hB : (W.alloc (.cells #[.string ⟨nm.toArray⟩] 9)).cell? ⟨W.heap.size, 0, none⟩ = some (strV nm) := bcell (mbox W #[.string ⟨nm.toArray⟩] 9) 0 _ rfl
  obtain ⟨ov, kv, rfl⟩ := own_slice he.ats
  have PF := PlaceF_any e.ats nm W.heap.size B _ _ hats hB
  go_enter Tryz.func71, Tryz.ntmps71
  go_wp2_with (go_at_call 114; refine PF.mono ?_; rintro r w1 ⟨rfl, hb1⟩)
  go_ret
  exact ⟨rfl, mbel b1 hb1⟩
/-- An element's attribute. -/
def attD (M : Dm) (n : Int) (nm : Bs) : Option Bs := match M n with | none => none | some e => atOf e.ats nm
set_option maxHeartbeats 2000000 in
theorem Attr_doc (h : DocW B tg W DB MB p M nx c) (n : Int) (hn : Wf64 n) (nm : Bs) :
    Calls Tryz.prog 23 #[.pointer (some ⟨DB, 0, none⟩), .int .i64 n, .string ⟨nm.toArray⟩] W fun r w' => r = .returned (.tuple #[.string ⟨((attD M n nm).getD []).toArray⟩, .bool (attD M n nm).isSome]) ∧ Below W.heap.size W w' := by
  have d0 := h.d0
  unfold attD
  cases hm : M n with
  | none =>
    have hp := h.non n hm
    go_enter Tryz.func23, Tryz.ntmps23
    go_wp2_with (at_lookup; refine look_no _ rfl _ _ 100 rfl Tryz.underlying3 Tryz.underlying100 (zeroEl _) rfl h.map n rfl hn hp ?_)
    refine bodyPost_ret (v := .tuple #[.string ⟨#[]⟩, .bool false]) (by simp [results, Tryz.results23, go_sem]) rfl ⟨rfl, Below.refl _ _⟩
  | some e =>
    obtain ⟨b, va, vk, hp, he⟩ := h.els n e hm
    have PO := placeOf_any he nm
    simp only
    rcases atOf_fI e.ats nm 0 with ⟨h1, h2⟩ | ⟨i, x, h1, h2, h3⟩
    · rw [h1] at PO
      rw [h2]
      go_enter Tryz.func23, Tryz.ntmps23
      go_wp2_with (first | (at_lookup; refine look_yes _ rfl _ _ 100 rfl Tryz.underlying3 Tryz.underlying100 (zeroEl _) rfl h.map n rfl hn b hp ?_) | (go_at_call 71; refine PO.mono ?_; rintro r w1 ⟨rfl, hb1⟩))
      refine bodyPost_ret (v := .tuple #[.string ⟨#[]⟩, .bool false]) (by simp [results, Tryz.results23, go_sem]) rfl ⟨rfl, hb1⟩
    · rw [Nat.zero_add] at h1
      rw [h1] at PO
      rw [h3]
      obtain ⟨g, hg, c2⟩ := row_get he.ats _ _ (cellsA_at h2).2
      obtain ⟨o, cap, hvo, q1, q2, q3, q5⟩ := row_slice he.ats
      have hog := q5 g hg
      subst hvo hog
      have hil := (List.getElem?_eq_some_iff.1 h2).1
      have hil' : (i : Int) < (e.ats.length : Int) := by omega
      have x1 := he.c1
      have HC : Hid (W.cell? ⟨g, i * 2 + 1, none⟩ = some (.string ⟨x.2.toArray⟩)) := c2
      clear c2 hg q5
      go_enter Tryz.func23, Tryz.ntmps23
      go_wp2_with (first | (at_lookup; refine look_yes _ rfl _ _ 100 rfl Tryz.underlying3 Tryz.underlying100 (zeroEl _) rfl h.map n rfl hn b hp ?_) | (go_at_call 71; refine PO.mono ?_; rintro r w1 ⟨rfl, hb1⟩; have k1 := (hb1.cell (cell_lt3 x1)).trans x1; have k2 := (hb1.cell (cell_lt3 HC.out)).trans HC.out))
      refine bodyPost_ret (v := .tuple #[.string ⟨x.2.toArray⟩, .bool true]) (by simp [results, Tryz.results23, go_sem]) rfl ⟨rfl, hb1⟩
end

end Go.Proofs.YtnoecobddhmhlaaGreatDoor

namespace Go.Proofs.YtnoecobddhmhlaaGreatDoor
open Go.RowKit Go.Shelf

attribute [local go_sem] Oper.semAt_some

set_option maxHeartbeats 1000000 in
/-- strings.Split at one blank. -/
theorem split_blank (s : ByteArray) (hs : s.size < 4294967281) (W : World) :
    Calls Tryz.prog 150 #[.string s, .string ⟨#[32]⟩] W fun e w' => e = .returned (.slice (some ⟨W.heap.size, 0, none⟩) (Lib.countB s ⟨#[32]⟩ + 1) (Lib.countB s ⟨#[32]⟩ + 1)) ∧ w' = W.alloc (.cells ((Lib.splitB ⟨#[32]⟩ 0 (Lib.countB s ⟨#[32]⟩) s).map Value.string).toArray 9) := by
  have h1 : 1 ≤ (⟨#[32]⟩ : ByteArray).size := by decide
  have hle := Lib.countB_le ⟨#[32]⟩ h1 s.size s (Nat.le_refl _)
  have hlen := Lib.splitB_all ⟨#[32]⟩ h1 0 _ s rfl
  have c := Any.strings_genSplit_core Tryz.lays221 (by kernel_rfl) s ⟨#[32]⟩ 0 (-1) (Lib.countB s ⟨#[32]⟩ + 1) W hs h1 (Nat.zero_le _)
    (fun x c _ => (Any.strings_Index_one Tryz.lays143 x 32 _).mono fun e w' ⟨he, hw⟩ => ⟨by rw [he, ← Lib.index_one], hw⟩)
    ((Any.strings_Count_one Tryz.lays138 s 32 W).mono fun e w' ⟨he, hw⟩ => ⟨by rw [he]; show _ = Ending.returned (Value.int .i64 ((Lib.count s.data.toList [32] : Nat) : Int)); rw [Lib.count_one]; rfl, hw⟩)
    (by decide) (by decide) (by rw [if_pos (by decide)]; omega)
  rw [Nat.add_sub_cancel, hlen] at c
  have e2 : Lib.cellsOf (Lib.splitB ⟨#[32]⟩ 0 (Lib.countB s ⟨#[32]⟩) s) (Lib.countB s ⟨#[32]⟩ + 1) = ((Lib.splitB ⟨#[32]⟩ 0 (Lib.countB s ⟨#[32]⟩) s).map Value.string).toArray := by rw [← hlen]; exact Lib.cellsOf_full _
  rw [e2] at c
  go_enter Tryz.func150, Tryz.ntmps150
  go_wp2_with (go_at_call 165; refine c.mono ?_; rintro e w' ⟨rfl, hw⟩; rw [hw])
  go_ret
  exact ⟨rfl, rfl⟩
/-- One of the parts between blanks? -/
theorem class_any (v nm : Bs) (hv : v.length ≤ 1000000) (W : World) :
    Calls Tryz.prog 149 #[.slice (some ⟨W.heap.size, 0, none⟩) (Lib.countB ⟨v.toArray⟩ ⟨#[32]⟩ + 1) (Lib.countB ⟨v.toArray⟩ ⟨#[32]⟩ + 1), .string ⟨nm.toArray⟩] (W.alloc (.cells ((Lib.splitB ⟨#[32]⟩ 0 (Lib.countB ⟨v.toArray⟩ ⟨#[32]⟩) ⟨v.toArray⟩).map Value.string).toArray 9)) fun e w' => e = .returned (.bool (clsM v nm)) ∧ w' = W.alloc (.cells ((Lib.splitB ⟨#[32]⟩ 0 (Lib.countB ⟨v.toArray⟩ ⟨#[32]⟩) ⟨v.toArray⟩).map Value.string).toArray 9) := by
  have h1 : 1 ≤ (⟨#[32]⟩ : ByteArray).size := by decide
  have hlen := Lib.splitB_all ⟨#[32]⟩ h1 0 _ (⟨v.toArray⟩ : ByteArray) rfl
  have hle := Lib.countB_le ⟨#[32]⟩ h1 (⟨v.toArray⟩ : ByteArray).size ⟨v.toArray⟩ (Nat.le_refl _)
  rw [ba_size] at hle
  have h := Tryz.slices_Contains_string W.heap.size 0 (Lib.countB ⟨v.toArray⟩ ⟨#[32]⟩ + 1) (Lib.countB ⟨v.toArray⟩ ⟨#[32]⟩ + 1) (Lib.splitB ⟨#[32]⟩ 0 (Lib.countB ⟨v.toArray⟩ ⟨#[32]⟩) ⟨v.toArray⟩) ⟨nm.toArray⟩ (W.alloc (.cells ((Lib.splitB ⟨#[32]⟩ 0 (Lib.countB ⟨v.toArray⟩ ⟨#[32]⟩) ⟨v.toArray⟩).map Value.string).toArray 9)) (by rw [hlen]; exact Nat.le_refl _) (by omega) (fun j hj => by
    have hb := World.alloc_heap_new W (.cells ((Lib.splitB ⟨#[32]⟩ 0 (Lib.countB ⟨v.toArray⟩ ⟨#[32]⟩) ⟨v.toArray⟩).map Value.string).toArray 9)
    refine bcell hb (0 + j) _ ?_
    rw [Nat.zero_add, List.getElem?_toArray, List.getElem?_map, List.getElem?_eq_getElem hj]
    simp [hj])
  rw [List.take_of_length_le (by rw [hlen]; exact Nat.le_refl _)] at h
  exact h
section
variable {B : Nat} {tg : Tags} {W : World} {DB MB : Nat} {p : Int → Option Nat} {M : Dm} {nx c : Nat}
set_option maxHeartbeats 4000000 in
theorem partFits_doc (h : DocW B tg W DB MB p M nx c) (n : Int) (e : Elm) (he : M n = some e) (hva : ∀ a ∈ e.ats, a.2.length ≤ 1000000) (k : UInt8) (nm : Bs) :
    Calls Tryz.prog 126 #[.int .u8 k.toNat, bV nm, .pointer (some ⟨DB, 0, none⟩), .int .i64 n] W fun r w' => r = .returned (.bool (fitPt e (k, nm))) ∧ Below W.heap.size W w' := by
  have hn := h.i64 he
  have hatt : ∀ x, attD M n x = atOf e.ats x := fun x => by unfold attD; rw [he]
  have hal : ∀ x, ((atOf e.ats x).getD []).length ≤ 1000000 := fun x => by
    rcases atOf_fI e.ats x 0 with ⟨-, h2⟩ | ⟨i, y, -, h2, h3⟩
    · rw [h2]; exact Nat.zero_le _
    · rw [h3]; exact hva y (List.mem_of_getElem? h2)
  have h1 : ((k.toNat : Int) == 35) = (k == 35) := u8_eq k 35
  have h2 : ((k.toNat : Int) == 46) = (k == 46) := u8_eq k 46
  have h3 : ((k.toNat : Int) == 91) = (k == 91) := u8_eq k 91
  unfold fitPt
  simp only
  by_cases k1 : k = 35
  · have e1 : (k == 35) = true := by rw [k1]; rfl
    rw [e1] at h1
    rw [if_pos k1]
    have AT : Calls Tryz.prog 23 #[.pointer (some ⟨DB, 0, none⟩), .int .i64 n, .string ⟨#[105, 100]⟩] W _ := Attr_doc h n hn [105, 100]
    rw [hatt] at AT
    obtain ⟨v, hv⟩ : ∃ v, (atOf e.ats [105, 100]).getD [] = v := ⟨_, rfl⟩
    rw [hv] at AT ⊢
    have hcm : ((⟨v.toArray⟩ : ByteArray).toList == (⟨nm.toArray⟩ : ByteArray).toList) = (v == nm) := by rw [ByteArray.toList_eq, ByteArray.toList_eq]
    clear k1 h2 h3 hal hv
    go_enter Tryz.func126, Tryz.ntmps126
    go_wp2_with (go_at_call 23; refine AT.mono ?_; rintro r w1 ⟨rfl, hb1⟩)
    go_ret
    exact ⟨rfl, hb1⟩
  have e1 : (k == 35) = false := by rw [beq_eq_false_iff_ne]; exact k1
  rw [e1] at h1
  rw [if_neg k1]
  by_cases k2 : k = 46
  · have e2 : (k == 46) = true := by rw [k2]; rfl
    rw [e2] at h2
    rw [if_pos k2]
    have AT : Calls Tryz.prog 23 #[.pointer (some ⟨DB, 0, none⟩), .int .i64 n, .string ⟨#[99, 108, 97, 115, 115]⟩] W _ := Attr_doc h n hn [99, 108, 97, 115, 115]
    rw [hatt] at AT
    have hvl := hal [99, 108, 97, 115, 115]
    obtain ⟨v, hv⟩ : ∃ v, (atOf e.ats [99, 108, 97, 115, 115]).getD [] = v := ⟨_, rfl⟩
    rw [hv] at AT hvl ⊢
    have SP := fun V => split_blank ⟨v.toArray⟩ (by rw [ba_size]; omega) V
    have CL := fun V => class_any v nm hvl V
    clear k1 k2 h3 hal hv hvl
    go_enter Tryz.func126, Tryz.ntmps126
    go_wp2_with (first | (go_at_call 149; refine (CL _).mono ?_; rintro r w3 ⟨rfl, h3⟩; rw [h3]; clear h3) | (go_at_call 150; refine (SP _).mono ?_; rintro r w2 ⟨rfl, h2⟩; rw [h2]; clear h2) | (go_at_call 23; refine AT.mono ?_; rintro r w1 ⟨rfl, hb1⟩))
    go_ret
    exact ⟨rfl, hb1.alloc hb1.size _⟩
  have e2 : (k == 46) = false := by rw [beq_eq_false_iff_ne]; exact k2
  rw [e2] at h2
  rw [if_neg k2]
  by_cases k3 : k = 91
  · have e3 : (k == 91) = true := by rw [k3]; rfl
    rw [e3] at h3
    rw [if_pos k3]
    have AT := Attr_doc h n hn nm
    rw [hatt] at AT
    clear k1 k2 k3 hal
    go_enter Tryz.func126, Tryz.ntmps126
    go_wp2_with (go_at_call 23; refine AT.mono ?_; rintro r w1 ⟨rfl, hb1⟩)
    go_ret
    exact ⟨rfl, hb1⟩
  have e3 : (k == 91) = false := by rw [beq_eq_false_iff_ne]; exact k3
  rw [e3] at h3
  rw [if_neg k3]
  have FA := fitsAny_any nm W
  have NA : Calls Tryz.prog 46 #[.pointer (some ⟨DB, 0, none⟩), .int .i64 n] W fun r w' => r = .returned (bV e.name) ∧ w' = W := by
    have h4 := Name_doc h n hn
    rw [he] at h4
    exact h4
  clear k1 k2 k3 hal hatt
  cases ha : anyNm nm with
  | true =>
    rw [ha] at FA
    go_enter Tryz.func126, Tryz.ntmps126
    go_wp2_with (go_at_call 123; refine FA.mono ?_; rintro r w1 ⟨rfl, h⟩; rw [h]; clear h)
    go_ret
    exact ⟨rfl, Below.refl _ _⟩
  | false =>
    rw [ha] at FA
    have hcm : ((⟨e.name.toArray⟩ : ByteArray).toList == (⟨nm.toArray⟩ : ByteArray).toList) = (e.name == nm) := by rw [ByteArray.toList_eq, ByteArray.toList_eq]
    go_enter Tryz.func126, Tryz.ntmps126
    go_wp2_with (first | (go_at_call 123; refine FA.mono ?_; rintro r w1 ⟨rfl, h⟩; rw [h]; clear h) | (go_at_call 46; refine NA.mono ?_; rintro r w1 ⟨rfl, h⟩; rw [h]; clear h))
    go_ret
    exact ⟨by simp, Below.refl _ _⟩
set_option maxRecDepth 100000 in
set_option maxHeartbeats 8000000 in
theorem stepFits_in (h : DocW B tg W DB MB p M nx c) (n : Int) (hn : Wf64 n) (e : Elm) (he : M n = some e) (hne : e.name ≠ []) (hva : ∀ a ∈ e.ats, a.2.length ≤ 1000000) (s : Bs) (hs : s.length ≤ 1000000) :
    CallsIn Fence.wide 9 Tryz.prog 86 #[bV s, .pointer (some ⟨DB, 0, none⟩), .int .i64 n] W fun r w' => r = .returned (.bool ((ptsOf s).all (fitPt e))) ∧ Below W.heap.size W w' := by
  obtain ⟨hP0, hN0, hR0, hB0, hsz0, b0⟩ := four_blocks W (.cells #[.pointer (some ⟨DB, 0, none⟩)] 30) (.cells #[.int .i64 n] 3) (.cells #[.bool false] 4) (.cells #[bV s] 9)
  obtain ⟨-, -, -, -, b3⟩ := three_blocks W (.cells #[.pointer (some ⟨DB, 0, none⟩)] 30) (.cells #[.int .i64 n] 3) (.cells #[.bool false] 4)
  have NA : Calls Tryz.prog 46 #[.pointer (some ⟨DB, 0, none⟩), .int .i64 n] (((W.alloc (.cells #[.pointer (some ⟨DB, 0, none⟩)] 30)).alloc (.cells #[.int .i64 n] 3)).alloc (.cells #[.bool false] 4)) fun r w' => r = .returned (bV e.name) ∧ w' = (((W.alloc (.cells #[.pointer (some ⟨DB, 0, none⟩)] 30)).alloc (.cells #[.int .i64 n] 3)).alloc (.cells #[.bool false] 4)) := by
    have h4 := Name_doc (h.below b3) n hn
    rw [he] at h4
    exact h4
  have hem : e.name.isEmpty = false := by
    cases hq : e.name with
    | nil => exact absurd hq hne
    | cons _ _ => rfl
  refine callsIn_of_wp_marks Tryz.func86 rfl trivial ?_ rfl
  simp only [Tryz.ntmps86, List.size_toArray, List.length_cons, List.length_nil, Nat.reduceAdd, Nat.reduceSub, Array.replicate_succ, Array.replicate_zero, List.push_toArray, List.append_toArray, List.nil_append, List.cons_append]
  gi_wp2_with (first | (refine ⟨trivial, ?_⟩; gi_at_call 46; refine (callsIn_wide.2 NA).mono ?_; rintro r w1 ⟨rfl, h1⟩; rw [h1]; clear h1) | (refine ⟨trivial, ?_⟩; gi_at_call 82; refine (callsIn_wide.2 (partsOf_any s _)).mono ?_; rintro r w1 ⟨rfl, h1⟩; rw [h1]; clear h1))
  obtain ⟨U, hU⟩ : ∃ U, ((((W.alloc (.cells #[.pointer (some ⟨DB, 0, none⟩)] 30)).alloc (.cells #[.int .i64 n] 3)).alloc (.cells #[.bool false] 4)).alloc (.cells #[bV s] 9)) = U := ⟨_, rfl⟩
  rw [hU] at b0 hP0 hN0 hR0 hB0 hsz0 ⊢
  clear hU NA b3
  refine wpIn_rangeFunc_ownF rfl (by omega) (gf := 120) (lb := #[.pointer (some ⟨W.heap.size + 1 + 1 + 1, 0, none⟩)]) rfl trivial (enters_of Tryz.func120 (by kernel_rfl) rfl)
    (encs := ptV) (Kp := KpB (W.heap.size + 1 + 1 + 1)) (S := fun xs => ptL xs = pts 0 s) (Sp := fun p => ptL p <+: pts 0 s) (N := (pts 0 s).length) (w0 := U)
    (parts_seq s hs _ _ U hB0) KpB.trans (fun X l o o' hl h1 h2 h3 => KpB.put (w := U) (by omega) X l o o' hl h1 h2 h3) (Below.refl _ _) (fun _ => rfl)
    (fun pre X => X.heap[W.heap.size]? = some (.cells #[.pointer (some ⟨DB, 0, none⟩)] 30) ∧ X.heap[W.heap.size + 1]? = some (.cells #[.int .i64 n] 3) ∧ X.heap[W.heap.size + 1 + 1]? = some (.cells #[.bool false] 4) ∧ Below W.heap.size W X ∧ (ptL pre).all (fitPt e) = true ∧ U.heap.size ≤ X.heap.size)
    (fun c pre X => c = .ret ∧ (ptL pre).all (fitPt e) = false ∧ X.heap[W.heap.size + 1 + 1]? = some (.cells #[.bool false] 4) ∧ Below W.heap.size W X)
    (fun pre A C row hs hg hr => ⟨blk_own hs.1 (by omega) hg hr, blk_own hs.2.1 (by omega) hg hr, blk_own hs.2.2.1 (by omega) hg hr, bel_own hs.2.2.2.1 (by omega) hg hr, hs.2.2.2.2.1, Nat.le_trans hs.2.2.2.2.2 hg.size⟩)
    (fun c pre A C row hs hg hr => ⟨hs.1, hs.2.1, blk_own hs.2.2.1 (by omega) hg hr, bel_own hs.2.2.2 (by omega) hg hr⟩)
    ⟨hP0, hN0, hR0, b0, rfl, Nat.le_refl _⟩
    (fun x => { tmps := #[bV s, .pointer (some ⟨DB, 0, none⟩), .int .i64 n, undef, .pointer (some ⟨W.heap.size, 0, none⟩), .pointer (some ⟨W.heap.size + 1, 0, none⟩), .pointer (some ⟨W.heap.size + 1 + 1, 0, none⟩), .int .u8 x.1.1.toNat, bV x.1.2, .pointer (some ⟨DB, 0, none⟩), .int .i64 n, bV e.name, .bool false, bV s, .func (.func 120) #[] #[.pointer (some ⟨W.heap.size + 1 + 1 + 1, 0, none⟩)], .int .u8 x.1.1.toNat, bV x.1.2, undef, undef, undef, undef, undef, undef], defers := [] })
    ?assign ?body ?done ?stop
  case assign =>
    intro l x X K hK
    gi_wp2
    exact hK
  case body =>
    rintro l pre x X ⟨hP, hN, hR, hb, hok, hu⟩ hlen
    obtain ⟨⟨k, nm⟩, hnl⟩ := x
    have c1 := cell_one hP
    have c2 := cell_one hN
    have hpe : ptL (pre ++ [⟨(k, nm), hnl⟩]) = ptL pre ++ [(k, nm)] := by simp
    have PF := partFits_doc (h.below hb) n e he hva k nm
    cases hp : fitPt e (k, nm) with
    | true =>
      rw [hp] at PF
      gi_wp2_with (refine ⟨trivial, ?_⟩; gi_at_call 126; refine (CallsIn.inRound l (callsIn_wide.2 PF)).mono ?_; rintro r w2 ⟨rfl, b2⟩)
      exact ⟨below_oth b2, b2.block _ (by omega), bel_blk b2 hP, bel_blk b2 hN, bel_blk b2 hR, hb.trans (b2.mono hb.size), by rw [hpe, List.all_append, hok]; simp [hp], Nat.le_trans hu b2.size⟩
    | false =>
      rw [hp] at PF
      gi_wp2_with (refine ⟨trivial, ?_⟩; gi_at_call 126; refine (CallsIn.inRound l (callsIn_wide.2 PF)).mono ?_; rintro r w2 ⟨rfl, b2⟩; have c3 := cell_one (bel_blk b2 hR); have f3 := froz_one (bel_blk b2 hR))
      exact ⟨(below_oth b2).trans (KeepsOthers.setCell _ _ _), rfl, by rw [hpe, List.all_append]; simp [hp], set_one (bel_blk b2 hR) _, (hb.trans (b2.mono hb.size)).setCell (by simp only; omega) _⟩
  case done =>
    rintro D xs X hD hS ⟨hP, hN, hR, hb, hok, -⟩ hK
    rw [hS] at hok
    have c3 := cell_one hR
    have f3 := froz_one hR
    gi_wp2
    have hK' := (KeepsOthers.setCell X ⟨W.heap.size + 1 + 1, 0, none⟩ (.bool true)).same D _ hK rfl
    refine ⟨by simp, .inl ⟨_, _, rfl, run_takeDeferred hK', ?_⟩⟩
    have hr2 := set_one hR (.bool true)
    have hr3 := (World.putObj_heap_other (w := X.setCell ⟨W.heap.size + 1 + 1, 0, none⟩ (.bool true)) (o := .deferred none) (show W.heap.size + 1 + 1 ≠ D by omega)).trans hr2
    have oc := cell_one hr3
    refine ⟨.bool true, ?_, by rw [show ptsOf s = pts 0 s from rfl, hok], (hb.setCell (p := ⟨W.heap.size + 1 + 1, 0, none⟩) (by simp only; omega) _).trans (belowK_b (w := W) (Nat.le_refl _) _ D _ _ (by omega) hK' rfl rfl)⟩
    simp [results, Tryz.results86, go_sem, oc]
  case stop =>
    rintro D c pre X hD hpre ⟨rfl, hbad, hR, hb⟩ hK
    have hv : (ptsOf s).all (fitPt e) = false := by
      obtain ⟨rest, hrest⟩ := hpre
      rw [show ptsOf s = pts 0 s from rfl, ← hrest, List.all_append, hbad]
      rfl
    gi_wp2
    refine ⟨by simp, .inl ⟨_, _, rfl, run_takeDeferred hK, ?_⟩⟩
    have hr3 := (World.putObj_heap_other (w := X) (o := .deferred none) (show W.heap.size + 1 + 1 ≠ D by omega)).trans hR
    have oc := cell_one hr3
    refine ⟨.bool false, ?_, by rw [hv], hb.trans (belowK_b (w := W) (Nat.le_refl _) X D _ _ (by omega) hK rfl rfl)⟩
    simp [results, Tryz.results86, go_sem, oc]
/-- What a document must be for steps to be tried: names, and values that are not too long. -/
def FitD (M : Dm) : Prop := ∀ n e, M n = some e → e.name ≠ [] ∧ ∀ a ∈ e.ats, a.2.length ≤ 1000000
theorem stepFits_doc (h : DocW B tg W DB MB p M nx c) (hF : FitD M) (n : Int) (hn : Wf64 n) (s : Bs) (hs : s.length ≤ 1000000) :
    Calls Tryz.prog 86 #[bV s, .pointer (some ⟨DB, 0, none⟩), .int .i64 n] W fun r w' => r = .returned (.bool (fitSt M s n)) ∧ Below W.heap.size W w' := by
  unfold fitSt
  cases he : M n with
  | none =>
    obtain ⟨-, -, hR0, hsz0, b3⟩ := three_blocks W (.cells #[.pointer (some ⟨DB, 0, none⟩)] 30) (.cells #[.int .i64 n] 3) (.cells #[.bool false] 4)
    have NA : Calls Tryz.prog 46 #[.pointer (some ⟨DB, 0, none⟩), .int .i64 n] (((W.alloc (.cells #[.pointer (some ⟨DB, 0, none⟩)] 30)).alloc (.cells #[.int .i64 n] 3)).alloc (.cells #[.bool false] 4)) fun r w' => r = .returned (.string ⟨#[]⟩) ∧ w' = (((W.alloc (.cells #[.pointer (some ⟨DB, 0, none⟩)] 30)).alloc (.cells #[.int .i64 n] 3)).alloc (.cells #[.bool false] 4)) := by
      have h4 := Name_doc (h.below b3) n hn
      rw [he] at h4
      exact h4
    refine (callsIn_wide (n := 9)).1 ?_
    refine callsIn_of_wp_marks Tryz.func86 rfl trivial ?_ rfl
    simp only [Tryz.ntmps86, List.size_toArray, List.length_cons, List.length_nil, Nat.reduceAdd, Nat.reduceSub, Array.replicate_succ, Array.replicate_zero, List.push_toArray, List.append_toArray, List.nil_append, List.cons_append]
    gi_wp2_with (refine ⟨trivial, ?_⟩; gi_at_call 46; refine (callsIn_wide.2 NA).mono ?_; rintro r w1 ⟨rfl, h1⟩; rw [h1]; clear h1)
    have oc := cell_one hR0
    refine ⟨.bool false, ?_, rfl, b3⟩
    simp [results, Tryz.results86, go_sem, oc]
  | some e =>
    obtain ⟨h1, h2⟩ := hF n e he
    refine (callsIn_wide.1 (stepFits_in h n hn e he h1 h2 s hs)).mono fun r w' hr => ⟨?_, hr.2⟩
    rw [hr.1]
    simp [h1]
end

end Go.Proofs.YtnoecobddhmhlaaGreatDoor

namespace Go.Proofs.YtnoecobddhmhlaaGreatDoor
open Go.RowKit Go.Shelf

section
variable {B : Nat} {tg : Tags} {W : World} {DB MB : Nat} {p : Int → Option Nat} {M : Dm} {nx c : Nat} {r : Int → Nat}
theorem above_some {M : Dm} {k : Nat} {m : Int} {e : Elm} (he : M m = some e) : aboveM M (k + 1) m = if e.parent < 0 then [] else e.parent :: aboveM M k e.parent := by
  rw [aboveM, he]
theorem above_any (g : Int → Bool) {k : Nat} {m : Int} {e : Elm} (he : M m = some e) : (aboveM M (k + 1) m).any g = (decide (0 ≤ e.parent) && (g e.parent || (aboveM M k e.parent).any g)) := by
  rw [above_some he]
  by_cases hp : e.parent < 0
  · rw [if_pos hp, decide_eq_false (by omega)]
    rfl
  · rw [if_neg hp, decide_eq_true (by omega)]
    simp
def mz (r : Int → Nat) (x : Int) : Nat := if 0 ≤ x then r x + 1 else 0
theorem mz_pos {r : Int → Nat} {x : Int} (h : 0 ≤ x) : mz r x = r x + 1 := by unfold mz; rw [if_pos h]
theorem mz_neg {r : Int → Nat} {x : Int} (h : ¬ 0 ≤ x) : mz r x = 0 := by unfold mz; rw [if_neg h]
set_option maxRecDepth 20000 in
set_option maxHeartbeats 4000000 in
theorem someAbove_doc (h : DocW B tg W DB MB p M nx c) (hw : Wd M r) (n : Int) (hn : Wf64 n) (g : Int → Bool) (lb : Array Value) (PT PA : Nat) (hlb : lb = #[.pointer (some ⟨PT, 0, none⟩), .pointer (some ⟨PA, 0, none⟩)])
    (hg : ∀ m V, Wf64 m → Below W.heap.size W V → Calls Tryz.prog 88 #[.int .i64 m, .pointer (some ⟨PT, 0, none⟩), .pointer (some ⟨PA, 0, none⟩)] V fun e w' => e = .returned (.bool (g m)) ∧ Below V.heap.size V w') :
    Calls Tryz.prog 87 #[.pointer (some ⟨DB, 0, none⟩), .int .i64 n, .func (.func 88) #[] lb] W fun e w' => e = .returned (.bool ((aboveM M 11 n).any g)) ∧ Below W.heap.size W w' := by
  subst hlb
  have PN := Parent_par h n hn
  have HW : Hid (Wd M r) := hw
  have HG : Hid (∀ m V, Wf64 m → Below W.heap.size W V → Calls Tryz.prog 88 #[.int .i64 m, .pointer (some ⟨PT, 0, none⟩), .pointer (some ⟨PA, 0, none⟩)] V fun e w' => e = .returned (.bool (g m)) ∧ Below V.heap.size V w') := hg
  have HH : Hid (DocW B tg W DB MB p M nx c) := h
  have hwp : Wf64 (parD M n) := by
    unfold parD
    cases hm : M n with
    | none => exact WalkArith.wf_i64 (by decide)
    | some e => exact (h.wf n e hm).1
  have h0 : (aboveM M 11 n).any g = (decide (0 ≤ parD M n) && (g (parD M n) || (aboveM M 10 (parD M n)).any g)) ∧ (0 ≤ parD M n → ∃ e, M (parD M n) = some e ∧ r (parD M n) ≤ 10) := by
    unfold parD
    cases hm : M n with
    | none =>
      refine ⟨?_, fun hh => absurd hh (by decide)⟩
      rw [aboveM, hm]
      rfl
    | some e =>
      refine ⟨above_any g hm, fun hh => ?_⟩
      by_cases hn0 : n = 0
      · subst hn0
        obtain ⟨e0, h1, h2⟩ := hw.root
        rw [hm] at h1
        cases h1
        have hh' : 0 ≤ e.parent := hh
        omega
      · obtain ⟨q, hq, -, -⟩ := hw.up n e hm hn0
        exact ⟨q, hq, (hw.rb _ q hq).2⟩
  obtain ⟨T, hT⟩ : ∃ T, (aboveM M 11 n).any g = T := ⟨_, rfl⟩
  rw [hT] at h0 ⊢
  have HT0 : Hid (T = (decide (0 ≤ parD M n) && (g (parD M n) || (aboveM M 10 (parD M n)).any g)) ∧ (0 ≤ parD M n → ∃ e, M (parD M n) = some e ∧ r (parD M n) ≤ 10)) := h0
  clear hT h0 hg hw h
  go_enter Tryz.func87, Tryz.ntmps87
  go_wp2_with (go_at_call 45; refine PN.mono ?_; rintro e w1 ⟨rfl, h1⟩; rw [h1]; clear h1)
  go_loopw [1] (fun y wr => ∃ (m : Int) (k : Nat), y = .int .i64 m ∧ T = (decide (0 ≤ m) && (g m || (aboveM M k m).any g)) ∧ (0 ≤ m → ∃ e, M m = some e ∧ r m ≤ k) ∧ Wf64 m ∧ Below W.heap.size W wr) (fun y _ => mz r (intOf y))
  case atStart => exact ⟨parD M n, 10, rfl, HT0.out.1, HT0.out.2, hwp, Below.refl _ _⟩
  case round =>
    obtain ⟨m, k, rfl, hT, hk, hwm, hb⟩ := hrel
    by_cases hm0 : 0 ≤ m
    · obtain ⟨e, he, hrk⟩ := hk hm0
      have hrb := (HW.out.rb m e he).1
      obtain ⟨k', rfl⟩ : ∃ k', k = k' + 1 := ⟨k - 1, by omega⟩
      have GM := HG.out m wr hwm hb
      have hdoc := HH.out.below hb
      have PM := fun V (hv : Below wr.heap.size wr V) => Parent_par (hdoc.below hv) m hwm
      have hpe : parD M m = e.parent := by unfold parD; rw [he]
      rw [hpe] at PM
      have hwe := (hdoc.wf m e he).1
      rw [decide_eq_true hm0, above_any g he] at hT
      have hup : 0 ≤ e.parent → ∃ q, M e.parent = some q ∧ r e.parent ≤ k' ∧ r e.parent < r m := fun hh => by
        by_cases hz : m = 0
        · subst hz
          obtain ⟨e0, h1, h2⟩ := HW.out.root
          rw [he] at h1
          cases h1
          omega
        · obtain ⟨q, hq, -, hr⟩ := HW.out.up m e he hz
          exact ⟨q, hq, by omega, by omega⟩
      have HUP : Hid (0 ≤ e.parent → ∃ q, M e.parent = some q ∧ r e.parent ≤ k' ∧ r e.parent < r m) := hup
      cases hgm : g m with
      | true =>
        rw [hgm] at GM hT
        have HT : Hid (T = true) := (by rw [hT]; rfl : T = true)
        clear hT hk hup
        go_wp2_with (go_at_call 88; refine GM.mono ?_; rintro e' w2 ⟨rfl, b2⟩)
        go_ret
        exact ⟨by rw [HT.out]; rfl, mbel hb b2⟩
      | false =>
        rw [hgm] at GM hT
        have HT : Hid (T = (decide (0 ≤ e.parent) && (g e.parent || (aboveM M k' e.parent).any g))) := (by rw [hT]; simp : T = (decide (0 ≤ e.parent) && (g e.parent || (aboveM M k' e.parent).any g)))
        clear hT hk hup hpe
        go_wp2_with (first | (go_at_call 88; refine GM.mono ?_; rintro e' w2 ⟨rfl, b2⟩) | (go_at_call 45; refine (PM _ b2).mono ?_; rintro e' w3 ⟨rfl, h3⟩; rw [h3]; clear h3))
        go_roundw
        case rel => exact ⟨e.parent, k', rfl, HT.out, fun hh => by obtain ⟨q, h1, h2, -⟩ := HUP.out hh; exact ⟨q, h1, h2⟩, hwe, mbel hb b2⟩
        case measure =>
          show mz r e.parent < mz r m
          rw [mz_pos hm0]
          by_cases hpp : 0 ≤ e.parent
          · obtain ⟨q, -, -, h3⟩ := HUP.out hpp
            rw [mz_pos hpp]
            omega
          · rw [mz_neg hpp]
            omega
    · rw [decide_eq_false hm0] at hT
      have HT : Hid (T = false) := (by rw [hT]; rfl : T = false)
      clear hT hk
      go_wp2_with fail
      go_ret
      exact ⟨by rw [HT.out]; rfl, hb⟩
end

end Go.Proofs.YtnoecobddhmhlaaGreatDoor

namespace Go.Proofs.YtnoecobddhmhlaaGreatDoor
open Go.RowKit Go.Shelf

abbrev tryV (PD PT : Nat) : Value := .func (.func 84) #[] #[.pointer (some ⟨PD, 0, none⟩), .pointer (some ⟨PT, 0, none⟩)]
/-- What must be so beside the last step. -/
def restM (M : Dm) (f : Nat) (a : Bs) (n : Int) : Lk → Bool
  | .no => true
  | .right => fitM M f a (parD M n)
  | .below => (aboveM M 11 n).any (fitM M f a)
theorem fitM_succ (M : Dm) (f : Nat) {t a b : Bs} {k : Lk} (h : cutM t = (a, k, b)) (n : Int) : fitM M (f + 1) t n = (fitSt M b n && restM M f a n k) := by
  rw [fitM, h]
  cases k <;> rfl
section
variable {B : Nat} {tg : Tags} {W : World} {DB MB : Nat} {p : Int → Option Nat} {M : Dm} {nx c : Nat} {r : Int → Nat}
set_option maxHeartbeats 2000000 in
theorem inner_any (PD PT PA : Nat) (a : Bs) (m : Int) (V : World) (res : Bool) (h1 : V.cell? ⟨PT, 0, none⟩ = some (tryV PD PT)) (h2 : V.cell? ⟨PA, 0, none⟩ = some (bV a))
    (IH : Calls Tryz.prog 84 #[bV a, .int .i64 m, .pointer (some ⟨PD, 0, none⟩), .pointer (some ⟨PT, 0, none⟩)] V fun e w' => e = .returned (.bool res) ∧ Below V.heap.size V w') :
    Calls Tryz.prog 88 #[.int .i64 m, .pointer (some ⟨PT, 0, none⟩), .pointer (some ⟨PA, 0, none⟩)] V fun e w' => e = .returned (.bool res) ∧ Below V.heap.size V w' := by
  go_enter Tryz.func88, Tryz.ntmps88
  go_wp2_with (go_at_call 84; refine IH.mono ?_; rintro e w1 ⟨rfl, hb1⟩)
  go_ret
  exact ⟨rfl, hb1⟩
set_option maxRecDepth 20000 in
set_option maxHeartbeats 4000000 in
theorem try_doc (h : DocW B tg W DB MB p M nx c) (hw : Wd M r) (hF : FitD M) (PD PT : Nat) (h1 : W.cell? ⟨PD, 0, none⟩ = some (.pointer (some ⟨DB, 0, none⟩))) (h2 : W.cell? ⟨PT, 0, none⟩ = some (tryV PD PT)) :
    ∀ (f : Nat) (t : Bs) (n : Int) (V : World), t.length < f → t.length ≤ 1000000 → Wf64 n → Below W.heap.size W V →
    Calls Tryz.prog 84 #[bV t, .int .i64 n, .pointer (some ⟨PD, 0, none⟩), .pointer (some ⟨PT, 0, none⟩)] V fun e w' => e = .returned (.bool (fitM M f t n)) ∧ Below V.heap.size V w'
  | 0, _, _, _, hf, _, _, _ => by omega
  | f + 1, t, n, V, hf, htl, hn, hb => by
    have HIH : Hid (∀ (t : Bs) (n : Int) (V : World), t.length < f → t.length ≤ 1000000 → Wf64 n → Below W.heap.size W V → Calls Tryz.prog 84 #[bV t, .int .i64 n, .pointer (some ⟨PD, 0, none⟩), .pointer (some ⟨PT, 0, none⟩)] V fun e w' => e = .returned (.bool (fitM M f t n)) ∧ Below V.heap.size V w') := try_doc h hw hF PD PT h1 h2 f
    obtain ⟨a, k, b, hc⟩ : ∃ a k b, cutM t = (a, k, b) := ⟨_, _, _, rfl⟩
    have hbl : b.length ≤ 1000000 := Nat.le_trans (cutM_step hc) htl
    have CU := cut_any t a b k hc htl V
    rw [fitM_succ M f hc]
    have HH : Hid (DocW B tg W DB MB p M nx c) := h
    have SF := fun X (hx : Below W.heap.size W X) => stepFits_doc (HH.out.below hx) hF n hn b hbl
    obtain ⟨fs, hfs⟩ : ∃ fs, fitSt M b n = fs := ⟨_, rfl⟩
    rw [hfs] at SF ⊢
    have HAL : Hid (k ≠ .no → a.length < f ∧ a.length ≤ 1000000) := (fun hk => by have := cutM_len hc hk; omega : k ≠ .no → a.length < f ∧ a.length ≤ 1000000)
    have HB : Hid (Below W.heap.size W V) := hb
    clear hfs hc h hb
    cases fs with
    | false =>
      go_enter Tryz.func84, Tryz.ntmps84
      go_wp2_with (first | (go_at_call 85; refine CU.mono ?_; rintro e w1 ⟨rfl, b1⟩; have b2 := b1.alloc b1.size (.cells #[bV a] 9); have B2 := HB.out.trans (b2.mono HB.out.size); have q1 := (B2.cell (cell_lt3 h1)).trans h1) | (go_at_call 86; refine (SF _ B2).mono ?_; rintro e w2 ⟨rfl, b3⟩))
      go_ret
      exact ⟨rfl, mbel b2 b3⟩
    | true =>
      go_enter Tryz.func84, Tryz.ntmps84
      go_upto_region 4 with (first | (go_at_call 85; refine CU.mono ?_; rintro e w1 ⟨rfl, b1⟩; have b2 := b1.alloc b1.size (.cells #[bV a] 9); have B2 := HB.out.trans (b2.mono HB.out.size); have q1 := (B2.cell (cell_lt3 h1)).trans h1) | (go_at_call 86; refine (SF _ B2).mono ?_; rintro e w2 ⟨rfl, b3⟩))
      have hA := World.alloc_heap_new w1 (.cells #[bV a] 9)
      have hA2 := bel_blk b3 hA
      have cA := cell_one hA2
      have b4 := mbel b2 b3
      have B4 := HB.out.trans (b4.mono HB.out.size)
      have q2 := (B4.cell (cell_lt3 h1)).trans h1
      have q3 := (B4.cell (cell_lt3 h2)).trans h2
      obtain ⟨PA, hPA⟩ : ∃ PA, w1.heap.size = PA := ⟨_, rfl⟩
      rw [hPA] at cA ⊢
      clear hA hA2 hPA b3 q1
      cases k with
      | no =>
        go_wp2_with fail
        go_ret
        exact ⟨rfl, b4⟩
      | right =>
        have PN := fun X (hx : Below W.heap.size W X) => Parent_par (HH.out.below hx) n hn
        have hwp : Wf64 (parD M n) := by
          unfold parD
          cases hm : M n with
          | none => exact WalkArith.wf_i64 (by decide)
          | some e => exact (HH.out.wf n e hm).1
        have hal := HAL.out (by simp)
        have PW := PN w2.drew B4.drew
        have IH := HIH.out a (parD M n) w2.drew hal.1 hal.2 hwp B4.drew
        go_upto_region 6 with fail
        go_region_with ((first | (go_at_call 45; refine PW.mono ?_; rintro e w3 ⟨rfl, h3⟩; rw [h3]; clear h3) | (go_at_call 84; refine IH.mono ?_; rintro e w4 ⟨rfl, b5⟩)))
        all_goals go_wp2_with fail
        all_goals go_ret
        all_goals exact ⟨by rw [Bool.true_and]; rfl, mbel b4.drew b5⟩
      | below =>
        have hal := HAL.out (by simp)
        have SA := someAbove_doc (HH.out.below B4) hw n hn (fitM M f a) _ PT PA rfl (fun m X hm hx => inner_any PD PT PA a m X _ ((hx.cell (cell_lt3 q3)).trans q3) ((hx.cell (cell_lt3 cA)).trans cA) (HIH.out a m X hal.1 hal.2 hm (B4.trans (hx.mono B4.size))))
        go_wp2_with (go_at_call 87; refine SA.mono ?_; rintro e w3 ⟨rfl, b5⟩)
        go_ret
        exact ⟨by rw [Bool.true_and]; rfl, mbel b4 b5⟩
end

end Go.Proofs.YtnoecobddhmhlaaGreatDoor

namespace Go.Proofs.YtnoecobddhmhlaaGreatDoor
open Go.RowKit Go.Shelf

theorem run_store_fn (P : Program) (w : World) (a : Addr) (f : Fn) (x y : Array Value) (m : Mode) : (store a (.func f x y) m).run P w = stored P w a (.func f x y) m := run_store P w a _ m rfl
attribute [local go_sem] run_store_fn
section
variable {B : Nat} {tg : Tags} {W : World} {DB MB : Nat} {p : Int → Option Nat} {M : Dm} {nx c : Nat} {r : Int → Nat}
set_option maxRecDepth 20000 in
set_option maxHeartbeats 4000000 in
theorem Fits_doc (h : DocW B tg W DB MB p M nx c) (hw : Wd M r) (hF : FitD M) (s : Bs) (hs : s.length ≤ 1000000) (hs0 : s ≠ []) (n : Int) (hn : Wf64 n) :
    Calls Tryz.prog 31 #[.agg #[bV s], .pointer (some ⟨DB, 0, none⟩), .int .i64 n] W fun e w' => e = .returned (.bool (fitsM M s n)) ∧ Below W.heap.size W w' := by
  have hem : s.isEmpty = false := by
    cases s with
    | nil => exact absurd rfl hs0
    | cons _ _ => rfl
  obtain ⟨hS0, hD0, hT0, hsz0, b0⟩ := three_blocks W (.cells #[bV s] 69) (.cells #[.pointer (some ⟨DB, 0, none⟩)] 30) (.cells #[.nilFunc] 140)
  go_enter Tryz.func31, Tryz.ntmps31
  go_upto_region 4 with fail
  obtain ⟨U, hU⟩ : ∃ U, (((W.alloc (.cells #[bV s] 69)).alloc (.cells #[.pointer (some ⟨DB, 0, none⟩)] 30)).alloc (.cells #[.nilFunc] 140)) = U := ⟨_, rfl⟩
  rw [hU] at hS0 hD0 hT0 hsz0 b0 ⊢
  clear hU
  have c1 := cell_one hT0
  have f1 := froz_one hT0
  have hT1 := set_one hT0 (tryV (W.heap.size + 1) (W.heap.size + 1 + 1))
  have hD1 : (U.setCell ⟨W.heap.size + 1 + 1, 0, none⟩ (tryV (W.heap.size + 1) (W.heap.size + 1 + 1))).heap[W.heap.size + 1]? = some (.cells #[.pointer (some ⟨DB, 0, none⟩)] 30) := (Below.heap_setCell _ _ _ _ (by simp only; omega)).trans hD0
  have hS1 : (U.setCell ⟨W.heap.size + 1 + 1, 0, none⟩ (tryV (W.heap.size + 1) (W.heap.size + 1 + 1))).heap[W.heap.size]? = some (.cells #[bV s] 69) := (Below.heap_setCell _ _ _ _ (by simp only; omega)).trans hS0
  have b1 : Below W.heap.size W (U.setCell ⟨W.heap.size + 1 + 1, 0, none⟩ (tryV (W.heap.size + 1) (W.heap.size + 1 + 1))) := b0.setCell (by simp only; omega) _
  go_upto_region 5 with fail
  obtain ⟨U1, hU1⟩ : ∃ U1, U.setCell ⟨W.heap.size + 1 + 1, 0, none⟩ (tryV (W.heap.size + 1) (W.heap.size + 1 + 1)) = U1 := ⟨_, rfl⟩
  rw [hU1] at hT1 hD1 hS1 b1 ⊢
  clear hU1
  have d1 := cell_one hT1
  have d2 := cell_one hD1
  have d3 := cell_one hS1
  have TR := try_doc (h.below b1) hw hF (W.heap.size + 1) (W.heap.size + 1 + 1) d2 d1 (s.length + 1) s n U1 (by omega) hs hn (Below.refl _ _)
  go_wp2_with (go_at_call 84; refine TR.mono ?_; rintro e w2 ⟨rfl, b2⟩)
  go_ret
  exact ⟨rfl, mbel b1 b2⟩
set_option maxHeartbeats 2000000 in
/-- A row of numbers: where none is to be struck, it is looked through. -/
theorem IndexNone (L : List Int) (B0 PS PD : Nat) (v : Value) (W : World) (h : W.ownsRow B0 3 1 v L.length (intsV L))
    (hg : ∀ m V, m ∈ L → Below W.heap.size W V → Calls Tryz.prog 90 #[.int .i64 m, .pointer (some ⟨PS, 0, none⟩), .pointer (some ⟨PD, 0, none⟩)] V fun e w' => e = .returned (.bool false) ∧ Below V.heap.size V w') :
    Calls Tryz.prog 127 #[v, .func (.func 90) #[] #[.pointer (some ⟨PS, 0, none⟩), .pointer (some ⟨PD, 0, none⟩)]] W fun e w' => e = .returned (.int .i64 (-1)) ∧ Below W.heap.size W w' := by
  obtain ⟨o, cap, hvo, h1, h2, h3, h5⟩ := row_slice h
  have hlen : (L.length : Int) ≤ 9223372036854775807 := by rw [maxLen_eq] at h2; omega
  have hcap : (L.length : Int) ≤ (cap : Int) := by omega
  have HR : Hid (W.ownsRow B0 3 1 v L.length (intsV L)) := h
  have HG : Hid (∀ m V, m ∈ L → Below W.heap.size W V → Calls Tryz.prog 90 #[.int .i64 m, .pointer (some ⟨PS, 0, none⟩), .pointer (some ⟨PD, 0, none⟩)] V fun e w' => e = .returned (.bool false) ∧ Below V.heap.size V w') := hg
  have H5 : Hid (∀ g, v.ownBlock = some g → o = some ⟨g, 0, none⟩) := h5
  subst hvo
  clear h hg h5 h3
  go_enter Tryz.func127, Tryz.ntmps127
  go_wp2_with fail
  go_loopw [8] (fun y wr => ∃ k : Nat, k ≤ L.length ∧ y = .int .i64 k ∧ Below W.heap.size W wr) (fun y _ => L.length - (intOf y).toNat)
  case atStart => exact ⟨0, Nat.zero_le _, rfl, Below.refl _ _⟩
  case round =>
    obtain ⟨k, hk, rfl, hb⟩ := hrel
    by_cases hlt : k < L.length
    · have hlt' : (k : Int) < (L.length : Int) := by omega
      obtain ⟨x, hx⟩ : ∃ x, L[k]? = some x := ⟨_, List.getElem?_eq_getElem hlt⟩
      obtain ⟨g, hg, hc⟩ := row_get (own_bel HR.out hb) k _ (intsV_get hx)
      have hog := H5.out g hg
      subst hog
      have GM := HG.out x wr (List.mem_of_getElem? hx) hb
      clear hg hx
      go_wp2_with (go_at_call 90; refine GM.mono ?_; rintro e w1 ⟨rfl, hb1⟩)
      go_roundw
      case rel => exact ⟨k + 1, by omega, by go_num, mbel hb hb1⟩
      case measure => simp [intOf]; omega
    · have hge : ¬ (k : Int) < (L.length : Int) := by omega
      go_wp2_with fail
      go_ret
      exact ⟨rfl, hb⟩
end

end Go.Proofs.YtnoecobddhmhlaaGreatDoor

namespace Go.Proofs.YtnoecobddhmhlaaGreatDoor
open Go.RowKit Go.Shelf

theorem star_cut : cutM [42] = ([], .no, [42]) := rfl
theorem star_fits {M : Dm} {n : Int} {e : Elm} (he : M n = some e) (hn : e.name ≠ []) : fitsM M [42] n = true := by
  rw [fitsM_no star_cut]
  unfold fitSt
  rw [he]
  show (e.name != [] && (ptsOf [42]).all (fitPt e)) = true
  rw [show ptsOf [42] = [(0, [42])] from rfl]
  simp [hn, fitPt, anyNm]
section
variable {B : Nat} {tg : Tags} {W : World} {DB MB : Nat} {p : Int → Option Nat} {M : Dm} {nx c : Nat} {r : Int → Nat}
set_option maxHeartbeats 2000000 in
theorem AllF_any (h : DocW B tg W DB MB p M nx c) (hw : Wd M r) (hF : FitD M) (s : Bs) (hs : s.length ≤ 1000000) (hs0 : s ≠ []) (n : Int) (hn : Wf64 n) (PS PD : Nat) (h1 : W.cell? ⟨PS, 0, none⟩ = some (bV s)) (h2 : W.cell? ⟨PD, 0, none⟩ = some (.pointer (some ⟨DB, 0, none⟩))) :
    Calls Tryz.prog 90 #[.int .i64 n, .pointer (some ⟨PS, 0, none⟩), .pointer (some ⟨PD, 0, none⟩)] W fun e w' => e = .returned (.bool (!fitsM M s n)) ∧ Below W.heap.size W w' := by
  have FD := Fits_doc h hw hF s hs hs0 n hn
  go_enter Tryz.func90, Tryz.ntmps90
  go_wp2_with (go_at_call 31; refine FD.mono ?_; rintro e w1 ⟨rfl, b1⟩)
  go_ret
  exact ⟨rfl, b1⟩
set_option maxHeartbeats 4000000 in
theorem All_star (h : DocS B tg W DB MB p M nx c r) (hF : FitD M) :
    Calls Tryz.prog 33 #[.pointer (some ⟨DB, 0, none⟩), .agg #[.string ⟨#[42]⟩]] W fun e w' => ∃ o k, e = .returned (.slice o c k) ∧ Below W.heap.size W w' := by
  obtain ⟨hD0, hS0, -, -, -⟩ := three_blocks W (.cells #[.pointer (some ⟨DB, 0, none⟩)] 30) (.cells #[.string ⟨#[42]⟩] 69) (.cells #[] 3)
  have n0 := World.alloc_heap_new W (.cells #[.pointer (some ⟨DB, 0, none⟩)] 30)
  have n1 := World.alloc_heap_new (W.alloc (.cells #[.pointer (some ⟨DB, 0, none⟩)] 30)) (.cells #[.string ⟨#[42]⟩] 69)
  rw [World.size_alloc] at n1
  have n0' : ((W.alloc (.cells #[.pointer (some ⟨DB, 0, none⟩)] 30)).alloc (.cells #[.string ⟨#[42]⟩] 69)).heap[W.heap.size]? = some (.cells #[.pointer (some ⟨DB, 0, none⟩)] 30) := (Below.heap_alloc _ _ _ (by rw [World.size_alloc]; omega)).trans n0
  have b0 : Below W.heap.size W ((W.alloc (.cells #[.pointer (some ⟨DB, 0, none⟩)] 30)).alloc (.cells #[.string ⟨#[42]⟩] 69)) := ((Below.refl _ W).alloc (Nat.le_refl _) _).alloc (by rw [World.size_alloc]; omega) _
  have hll := h.alll
  obtain ⟨La, hLa, hlen, -⟩ := h.all
  have hin : ∀ y ∈ fromL M 11 0, ∃ e, M y = some e := fun y hy => ((h.d.mem h.d.dp0).1 hy).in_
  rw [← hLa] at hlen
  clear hD0 hS0 n0 hLa La
  go_enter Tryz.func33, Tryz.ntmps33
  go_upto_region 1 with fail
  obtain ⟨U, hU⟩ : ∃ U, (W.alloc (.cells #[.pointer (some ⟨DB, 0, none⟩)] 30)).alloc (.cells #[.string ⟨#[42]⟩] 69) = U := ⟨_, rfl⟩
  rw [hU] at n0' n1 b0 ⊢
  clear hU
  have hd := h.below b0
  have AL := All_doc hd.w 11 (by omega) hd.d.dp0 (by omega)
  obtain ⟨L, hL⟩ : ∃ L, fromL M 11 0 = L := ⟨_, rfl⟩
  rw [hL] at AL hin hlen hll
  clear hL
  have c1 := cell_one n0'
  have c2 := cell_one n1
  have HLN : Hid (L.length = c) := hlen
  clear hlen
  have DF : ∀ V o k, Below U.heap.size U V → V.ownsRow (U.heap.size + 1) 3 1 (.slice o L.length k) L.length (intsV L) → Calls Tryz.prog 89 #[.slice o L.length k, .func (.func 90) #[] #[.pointer (some ⟨W.heap.size + 1, 0, none⟩), .pointer (some ⟨W.heap.size, 0, none⟩)]] V fun e w' => e = .returned (.slice o L.length k) ∧ Below V.heap.size V w' := fun V o k hv ow => by
    have IN := IndexNone L (U.heap.size + 1) (W.heap.size + 1) W.heap.size _ V ow (fun m X hm hx => by
      obtain ⟨e, he⟩ := hin m hm
      have hx2 := hv.trans (hx.mono hv.size)
      have hd2 := hd.below hx2
      have h9 := AllF_any hd2.w hd2.d hF [42] (by decide) (by decide) m (hd2.w.i64 he) (W.heap.size + 1) W.heap.size ((hx2.cell (cell_lt3 c2)).trans c2) ((hx2.cell (cell_lt3 c1)).trans c1)
      rw [star_fits he (hF m e he).1] at h9
      exact h9)
    go_enter Tryz.func89, Tryz.ntmps89
    go_wp2_with (go_at_call 127; refine IN.mono ?_; rintro e w1 ⟨rfl, b1⟩)
    go_ret
    exact ⟨rfl, b1⟩
  go_wp2_with (first | (go_at_call 73; refine AL.mono ?_; rintro e w1 ⟨o1, k1, rfl, b1, ow1⟩) | (go_at_call 89; refine (DF _ _ _ b1 ow1).mono ?_; rintro e w2 ⟨rfl, b2⟩))
  go_ret
  exact ⟨o1, k1, by rw [← HLN.out]; rfl, mbel b0 (mbel b1 b2)⟩
end
set_option maxHeartbeats 2000000 in
theorem picked_any (W : World) (ea : Addr) (hE : W.cell? ⟨8, 0, none⟩ = some (.iface 245 (.pointer (some ea)))) :
    Calls Tryz.prog 26 #[] W fun e w' => e = .returned (.bool true) ∧ Below W.heap.size W w' := by
  have RD : Calls Tryz.prog 27 #[.string ⟨#[97, 32, 62, 32, 98, 46, 99]⟩] W fun e w' => e = .returned (.tuple #[.agg #[.string ⟨#[97, 32, 62, 32, 98, 46, 99]⟩], .nilIface]) ∧ Below W.heap.size W w' := by
    have h := Read_any [97, 32, 62, 32, 98, 46, 99] (by decide) W ea hE
    rw [show isSelM [97, 32, 62, 32, 98, 46, 99] = true from by decide +kernel] at h
    exact h
  have WT : ∀ V, Calls Tryz.prog 30 #[.agg #[.string ⟨#[97, 32, 62, 32, 98, 46, 99]⟩]] V fun e w' => e = .returned (.int .i64 12) ∧ Below V.heap.size V w' := fun V => by
    have h := Weight_any [97, 32, 62, 32, 98, 46, 99] (by decide) V
    rw [show wtM [97, 32, 62, 32, 98, 46, 99] = 12 from by decide +kernel] at h
    exact h
  have TX : ∀ V, Calls Tryz.prog 29 #[.agg #[.string ⟨#[97, 32, 62, 32, 98, 46, 99]⟩]] V fun e w' => e = .returned (.string ⟨#[97, 32, 62, 32, 98, 46, 99]⟩) ∧ Below V.heap.size V w' := fun V => by
    go_enter Tryz.func29, Tryz.ntmps29
    go_wp2
    go_ret
    exact ⟨rfl, (Below.refl _ V).alloc (Nat.le_refl _) _⟩
  go_enter Tryz.func26, Tryz.ntmps26
  go_upto_region 2 with (go_at_call 27; refine RD.mono ?_; rintro e w1 ⟨rfl, b1⟩)
  have n1 := World.alloc_heap_new w1 (.cells #[.string ⟨#[97, 32, 62, 32, 98, 46, 99]⟩] 69)
  have b2 := b1.alloc b1.size (.cells #[.string ⟨#[97, 32, 62, 32, 98, 46, 99]⟩] 69)
  obtain ⟨U, hU⟩ : ∃ U, w1.alloc (.cells #[.string ⟨#[97, 32, 62, 32, 98, 46, 99]⟩] 69) = U := ⟨_, rfl⟩
  rw [hU] at n1 b2 ⊢
  clear hU
  have c1 := cell_one n1
  go_wp2_with (first | (go_at_call 29; refine (TX _).mono ?_; rintro e w2 ⟨rfl, b3⟩; have c2 := (b3.cell (cell_lt3 c1)).trans c1) | (go_at_call 30; refine (WT _).mono ?_; rintro e w3 ⟨rfl, b4⟩))
  go_ret
  exact ⟨rfl, mbel b2 (mbel b3 b4)⟩

end Go.Proofs.YtnoecobddhmhlaaGreatDoor

namespace Go.Proofs.YtnoecobddhmhlaaGreatDoor
open Go.RowKit Go.Shelf

abbrev afV (PS PD : Nat) : Value := .func (.func 90) #[] #[.pointer (some ⟨PS, 0, none⟩), .pointer (some ⟨PD, 0, none⟩)]
/-- The function that is asked, in every world behind. -/
def AskA (base PS PD : Nat) (w : World) (l : List Int) (q : Int → Bool) : Prop := ∀ x ∈ l, ∀ V, Below base w V → Calls Tryz.prog 90 #[.int .i64 x, .pointer (some ⟨PS, 0, none⟩), .pointer (some ⟨PD, 0, none⟩)] V fun e W => e = .returned (.bool (q x)) ∧ Below V.heap.size V W
/-- A row of numbers that is struck from. -/
def RwN (w : World) (base b cap n : Nat) (l : List Int) : Prop := w.ownsRow base 3 1 (.slice (some ⟨b, 0, none⟩) n cap) n (intsV l)
theorem RwN.cell {w : World} {base b cap n : Nat} {l : List Int} (h : RwN w base b cap n l) {i : Nat} {x : Int} (hx : l[i]? = some x) : w.cell? ⟨b, i, none⟩ = some (.int .i64 x) := by
  obtain ⟨g, hg, hc⟩ := row_get h i _ (intsV_get hx)
  cases hg
  exact hc
theorem RwN.len {w : World} {base b cap n : Nat} {l : List Int} (h : RwN w base b cap n l) : l.length = n := by
  have := h.1
  rw [intsV_len, Nat.mul_one] at this
  exact this
theorem RwN.lt {w : World} {base b cap n : Nat} {l : List Int} (h : RwN w base b cap n l) : base ≤ b ∧ b < w.heap.size := World.ownsRow.lt h b rfl
theorem RwN.below {w w' : World} {base b cap n : Nat} {l : List Int} (h : RwN w base b cap n l) (hb : Below w.heap.size w w') : RwN w' base b cap n l := own_bel h hb
theorem RwN.set {w : World} {base b cap n : Nat} {l : List Int} (h : RwN w base b cap n l) (i : Nat) (x : Int) : RwN (w.setCell ⟨b, i, none⟩ (.int .i64 x)) base b cap n (l.set i x) := by
  unfold RwN
  have e : intsV (l.set i x) = (intsV l).set i (.int .i64 x) := by unfold intsV; rw [List.map_set]
  rw [e]
  exact (World.ownsRow.stored h i _).1
theorem RwN.zero {w : World} {base b cap n : Nat} {l : List Int} (h : RwN w base b cap n l) : ∀ (m o : Nat), ∃ l' : List Int, RwN (w.setCells b o (List.replicate m (.int .i64 0))) base b cap n l' ∧ l'.take o = l.take o
  | 0, o => ⟨l, h, rfl⟩
  | m + 1, o => by
    have h1 := h.set o 0
    obtain ⟨l', h2, h3⟩ := RwN.zero h1 m (o + 1)
    refine ⟨l', h2, ?_⟩
    have h4 := congrArg (List.take o) h3
    rw [List.take_take, List.take_take, Nat.min_eq_left (by omega), List.take_set_of_le (Nat.le_refl _)] at h4
    exact h4
theorem RwN.cut {w : World} {base b cap n : Nat} {l : List Int} (h : RwN w base b cap n l) {k : Nat} (hk : k ≤ n) : RwN w base b cap k (l.take k) := by
  have hl := h.len
  rcases h.2 with ⟨h1, -⟩ | ⟨g, c, cur, h1, h2, h3, h4, h5, h6, h7⟩
  · cases h1
  · cases h1
    refine ⟨by rw [intsV_len, List.length_take]; omega, .inr ⟨b, cap, cur, rfl, h2, h3, by omega, h5, h6, ?_⟩⟩
    have e : intsV (l.take k) = (intsV l).take k := by unfold intsV; rw [List.map_take]
    rw [e, ← h7, List.take_take]
    congr 1
    omega
theorem below_setCellsN {B b : Nat} {a : World} (hb : B ≤ b) : ∀ (vs : List Value) (o : Nat) (w : World), Below B a w → Below B a (w.setCells b o vs)
  | [], _, _, h => h
  | _ :: vs, _, _, h => below_setCellsN hb vs _ _ (h.setCell hb _)
/-- What IndexFunc answers. -/
def IdxN (q : Int → Bool) (l : List Int) (n : Int) : Prop := ((∀ x ∈ l, q x = false) ∧ n = -1) ∨ ∃ (k : Nat) (x : Int), l[k]? = some x ∧ (∀ y ∈ l.take k, q y = false) ∧ q x = true ∧ n = k
set_option maxRecDepth 20000 in
set_option maxHeartbeats 4000000 in
theorem IndexN (base PS PD : Nat) (q : Int → Bool) (l : List Int) (bb b cap : Nat) (w0 w : World) (h : RwN w bb b cap l.length l) (hb0 : Below base w0 w) (hbase : base ≤ w.heap.size) (hl : l.length ≤ 1000000) (hq : AskA base PS PD w0 l q) :
    Calls Tryz.prog 127 #[.slice (some ⟨b, 0, none⟩) l.length cap, afV PS PD] w fun e W => (∃ n : Int, e = .returned (.int .i64 n) ∧ IdxN q l n) ∧ Below w.heap.size w W := by
  go_enter Tryz.func127, Tryz.ntmps127
  go_wp2
  go_loopw [8] (fun i wr => ∃ k : Nat, k ≤ l.length ∧ i = .int .i64 k ∧ (∀ x ∈ l.take k, q x = false) ∧ Below w.heap.size w wr) (fun i _ => l.length - (intOf i).toNat)
  case atStart => exact ⟨0, Nat.zero_le _, rfl, (fun a ha => by simp at ha), Below.refl _ _⟩
  case round =>
    obtain ⟨k, hk, rfl, hrt, hb⟩ := hrel
    have HRT : Hid (∀ x ∈ l.take k, q x = false) := hrt
    clear hrt
    by_cases hlt : k < l.length
    · have hlt' : (k : Int) < (l.length : Int) := by omega
      obtain ⟨x, hx⟩ : ∃ x, l[k]? = some x := ⟨_, List.getElem?_eq_getElem hlt⟩
      have hmem : x ∈ l := List.mem_of_getElem? hx
      have c0 := (h.below hb).cell hx
      have AQ := hq x hmem wr (hb0.trans (hb.mono hbase))
      have HX : Hid (l[k]? = some x) := hx
      clear hx
      cases hqx : q x with
      | false =>
        rw [hqx] at AQ
        go_wp2_with (go_at_call 90; refine AQ.mono ?_; rintro e w1 ⟨rfl, b1⟩)
        go_roundw
        case rel => exact ⟨k + 1, by omega, by go_num, fun y hy => by rw [List.take_add_one, HX.out] at hy; rcases List.mem_append.1 hy with hy | hy; exact HRT.out y hy; simp at hy; subst hy; exact hqx, mbel hb b1⟩
        case measure => simp [intOf]; omega
      | true =>
        rw [hqx] at AQ
        go_wp2_with (go_at_call 90; refine AQ.mono ?_; rintro e w1 ⟨rfl, b1⟩)
        go_ret
        exact ⟨⟨k, rfl, .inr ⟨k, x, HX.out, HRT.out, hqx, rfl⟩⟩, mbel hb b1⟩
    · have hge : ¬ (k : Int) < (l.length : Int) := by omega
      have h1 := HRT.out
      rw [List.take_of_length_le (by omega)] at h1
      have H1 : Hid (∀ x ∈ l, q x = false) := h1
      clear h1
      go_wp2_with fail
      go_ret
      exact ⟨⟨-1, rfl, .inl ⟨H1.out, rfl⟩⟩, hb⟩
theorem run_clear_ints (w : World) (ty : TypeId) (b o n c : Nat) (hn : 0 < n) (hc : ∀ j, j < n → (w.cell? ⟨b, o + j, none⟩).isSome = true) (hf : ∀ j, j < n → w.frozen? ⟨b, o + j, none⟩ = false) :
    (Builtin.clear_ #[60] ty #[.slice (some ⟨b, o, none⟩) n c]).run Tryz.prog w = .ok (.tuple #[]) (w.setCells b o (List.replicate n (.int .i64 0))) := by
  have hv : ∀ w, (zeroValue 3).run Tryz.prog w = .ok (.int .i64 0) w := fun w => by kernel_rfl
  have hz : (Builtin.zeroCells (Value.int .i64 0).cells n).toList = List.replicate n (.int .i64 0) := by
    apply List.ext_getElem?
    intro j
    by_cases hj : j < n
    · simp [Builtin.zeroCells, Value.cells, hj, Nat.mod_one]
    · simp [Builtin.zeroCells, Value.cells, hj]
  have hst := run_storeCells_cells (P := Tryz.prog) b o (List.replicate n (.int .i64 0)) 0 w (by rw [List.length_replicate]; simpa using hc) (by rw [List.length_replicate]; simpa using hf) (fun v hv => by rw [List.eq_of_mem_replicate hv]; rfl)
  simp only [Nat.add_zero] at hst
  rw [← hz] at hst
  obtain ⟨m, rfl⟩ : ∃ m, n = m + 1 := ⟨n - 1, by omega⟩
  rw [← hz]
  simp [Builtin.clear_, run_underlying Tryz.underlying60, hv, hst]
/-- What is kept so far. -/
structure DelN (q : Int → Bool) (l : List Int) (bb b cap base : Nat) (w0 : World) (i j : Nat) (l' : List Int) (w : World) : Prop where
  lt : i < j
  le : j ≤ l.length
  kept : l'.take i = (l.take j).filter fun x => !q x
  rest : l'.drop j = l.drop j
  row : RwN w bb b cap l.length l'
  bel : Below base w0 w
theorem filter_noN {q : Int → Bool} {l : List Int} (h : ∀ x ∈ l, q x = false) : (l.filter fun x => !q x) = l := List.filter_eq_self.2 (fun x hx => by rw [h x hx]; rfl)
theorem DelN.skip {q : Int → Bool} {l : List Int} {bb b cap base : Nat} {w0 : World} {i j : Nat} {l' : List Int} {w w' : World} {x : Int} (h : DelN q l bb b cap base w0 i j l' w) (hx : l[j]? = some x) (hq : q x = true) (hb : Below w.heap.size w w') (hbase : base ≤ w.heap.size) : DelN q l bb b cap base w0 i (j + 1) l' w' := by
  have hj : j < l.length := (List.getElem?_eq_some_iff.1 hx).1
  refine ⟨by have := h.lt; omega, hj, ?_, ?_, h.row.below hb, h.bel.trans (hb.mono hbase)⟩
  · rw [h.kept, List.take_add_one, hx, List.filter_append]
    simp [hq]
  · rw [← List.drop_drop, h.rest, List.drop_drop]
theorem DelN.keep {q : Int → Bool} {l : List Int} {bb b cap base : Nat} {w0 : World} {i j : Nat} {l' : List Int} {w w' : World} {x : Int} (h : DelN q l bb b cap base w0 i j l' w) (hx : l[j]? = some x) (hq : q x = false) (hb : Below w.heap.size w w') (hbase : base ≤ w.heap.size) (hbb : base ≤ b) : DelN q l bb b cap base w0 (i + 1) (j + 1) (l'.set i x) (w'.setCell ⟨b, i, none⟩ (.int .i64 x)) := by
  have hj : j < l.length := (List.getElem?_eq_some_iff.1 hx).1
  have hl := h.row.len
  have hi : i < l'.length := by have := h.lt; have := h.le; omega
  have hbl := h.bel.trans (hb.mono hbase)
  refine ⟨by have := h.lt; omega, hj, ?_, ?_, (h.row.below hb).set i x, hbl.setCell (p := ⟨b, i, none⟩) hbb _⟩
  · rw [List.take_add_one, List.take_set_of_le (Nat.le_refl _), h.kept, List.getElem?_set_self hi, List.take_add_one, hx, List.filter_append]
    simp [hq]
  · rw [List.drop_set_of_lt (by have := h.lt; omega), ← List.drop_drop, h.rest, List.drop_drop]
theorem DelN.start {q : Int → Bool} {l : List Int} {bb b cap base : Nat} {w0 w : World} {k : Nat} {x : Int} (hr : RwN w bb b cap l.length l) (hb : Below base w0 w) (hx : l[k]? = some x) (hall : ∀ y ∈ l.take k, q y = false) (hq : q x = true) : DelN q l bb b cap base w0 k (k + 1) l w := by
  have hk : k < l.length := (List.getElem?_eq_some_iff.1 hx).1
  refine ⟨by omega, hk, ?_, rfl, hr, hb⟩
  rw [List.take_add_one, hx, List.filter_append, filter_noN hall]
  simp [hq]
set_option maxRecDepth 20000 in
set_option maxHeartbeats 4000000 in
theorem DeleteN (base PS PD : Nat) (q : Int → Bool) (l : List Int) (bb b cap : Nat) (w0 w : World) (hl : l.length ≤ 1000000) (hr : RwN w bb b cap l.length l) (hbb : base ≤ b) (hb0 : Below base w0 w) (hq : AskA base PS PD w0 l q) :
    Calls Tryz.prog 89 #[.slice (some ⟨b, 0, none⟩) l.length cap, afV PS PD] w fun e W => e = .returned (.slice (some ⟨b, 0, none⟩) (l.filter fun x => !q x).length cap) ∧ RwN W bb b cap (l.filter fun x => !q x).length (l.filter fun x => !q x) ∧ Below base w0 W := by
  have hbw := hr.lt.2
  have hbase : base ≤ w.heap.size := by omega
  have hcap : l.length ≤ cap := by
    rcases hr.2 with ⟨h1, -⟩ | ⟨g, c, cur, h1, h2, h3, h4, -⟩
    · cases h1
    · cases h1; exact h4
  have IX := IndexN base PS PD q l bb b cap w0 w hr hb0 hbase hl hq
  go_enter Tryz.func89, Tryz.ntmps89
  go_upto_region 2 with (go_at_call 127; refine IX.mono ?_; rintro e w1 ⟨⟨n, rfl, hn⟩, b1⟩)
  clear IX
  have hr1 := hr.below b1
  have hb1 := hb0.trans (b1.mono hbase)
  rcases hn with ⟨hall, rfl⟩ | ⟨k, x, hx, hall, hqx, rfl⟩
  · have HA : Hid ((l.filter fun x => !q x) = l) := filter_noN hall
    clear hall
    go_wp2_with fail
    go_ret
    rw [HA.out]
    exact ⟨rfl, hr1, hb1⟩
  · have D0 := DelN.start hr1 hb1 hx hall hqx
    have hk : k < l.length := (List.getElem?_eq_some_iff.1 hx).1
    have hne : ((k : Int) == -1) = false := beq_eq_false_iff_ne.2 (by omega)
    clear hx hall hqx hr1 hb1 hr
    go_wp2_with fail
    go_loopw [5, 6] (fun u v wr => ∃ (i j : Nat) (l' : List Int), u = .int .i64 i ∧ v = .int .i64 j ∧ DelN q l bb b cap base w0 i j l' wr) (fun _ v _ => l.length - (intOf v).toNat)
    case atStart => exact ⟨k, k + 1, l, rfl, by go_num, D0⟩
    case round =>
      obtain ⟨i, j, l', rfl, rfl, hD⟩ := hrel
      have hij := hD.lt
      have hjl := hD.le
      have hll := hD.row.len
      have hwb : base ≤ wr.heap.size := by have := hD.row.lt; omega
      by_cases hlt : j < l.length
      · have hlt' : (j : Int) < (l.length : Int) := by omega
        have hil' : (i : Int) < (l.length : Int) := by omega
        obtain ⟨x, hx⟩ : ∃ x, l[j]? = some x := ⟨_, List.getElem?_eq_getElem hlt⟩
        have hmem : x ∈ l := List.mem_of_getElem? hx
        have hx' : l'[j]? = some x := by
          have h1 : (l'.drop j)[0]? = some x := by rw [hD.rest, List.getElem?_drop]; exact hx
          rw [List.getElem?_drop] at h1
          exact h1
        have c0 := hD.row.cell hx'
        have AQ := hq x hmem wr hD.bel
        have HX : Hid (l[j]? = some x) := hx
        clear hx hx'
        cases hqx : q x with
        | true =>
          rw [hqx] at AQ
          go_wp2_with (go_at_call 90; refine AQ.mono ?_; rintro e w2 ⟨rfl, b3⟩)
          go_roundw
          case rel => exact ⟨i, j + 1, l', rfl, by go_num, hD.skip HX.out hqx b3 hwb⟩
          case measure => simp [intOf]; omega
        | false =>
          rw [hqx] at AQ
          obtain ⟨old, hold⟩ : ∃ old, l'[i]? = some old := ⟨_, List.getElem?_eq_getElem (by omega)⟩
          have ci := hD.row.cell hold
          go_upto_region 9 with (go_at_call 90; refine AQ.mono ?_; rintro e w2 ⟨rfl, b3⟩)
          have ci2 := (b3.cell (cell_lt3 ci)).trans ci
          have fi2 := World.ownsRow.frozenAt (hD.row.below b3) i
          have K := hD.keep HX.out hqx b3 hwb hbb
          clear hold
          go_wp2_with fail
          go_roundw
          case rel => exact ⟨i + 1, j + 1, _, by go_num, by go_num, K⟩
          case measure => simp [intOf]; omega
      · have hge : j = l.length := by omega
        have hlt' : ¬ (j : Int) < (l.length : Int) := by omega
        have hni : 0 < l.length - i := by omega
        have hcl : ∀ ty, (Builtin.clear_ #[60] ty #[.slice (some ⟨b, i, none⟩) (l.length - i) (cap - i)]).run Tryz.prog wr = .ok (.tuple #[]) (wr.setCells b i (List.replicate (l.length - i) (.int .i64 0))) := fun ty => run_clear_ints wr ty b i (l.length - i) (cap - i) hni (fun m hm => by
          obtain ⟨y, hy⟩ : ∃ y, l'[i + m]? = some y := ⟨_, List.getElem?_eq_getElem (by omega)⟩
          rw [hD.row.cell hy]
          rfl) (fun m _ => World.ownsRow.frozenAt hD.row _)
        have hic : (i : Int) < (cap : Int) := by omega
        have hil : (i : Int) < (l.length : Int) := by omega
        have hicn : ¬ cap - i = 0 := by omega
        have hkept : l'.take i = l.filter fun x => !q x := by
          have h1 := hD.kept
          rw [hge, List.take_length] at h1
          exact h1
        have hfl : (l.filter fun x => !q x).length = i := by
          rw [← hkept, List.length_take]
          omega
        obtain ⟨l2, hz, hz2⟩ := hD.row.zero (l.length - i) i
        have K : RwN (wr.setCells b i (List.replicate (l.length - i) (.int .i64 0))) bb b cap (l.filter fun x => !q x).length (l.filter fun x => !q x) := by
          have h1 := hz.cut (k := i) (by omega)
          rw [hz2, hkept] at h1
          rw [hfl]
          exact h1
        have HF : Hid ((l.filter fun x => !q x).length = i) := hfl
        have hB2 := below_setCellsN hbb (List.replicate (l.length - i) (.int .i64 0)) i wr hD.bel
        clear hfl hkept hz hz2 hge
        go_wp2_with fail
        go_ret
        exact ⟨by rw [HF.out]; rfl, K, hB2⟩
end Go.Proofs.YtnoecobddhmhlaaGreatDoor

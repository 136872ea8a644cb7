/-
  A node as text: what the walk writes.
-/
import Derived.Test.YtdebekonggnckabDoorMark11
namespace Go.Proofs.YtdebekonggnckabDoor
open Go.RowKit

mutual
/-- Names are names and values are values, all the way down. -/
def okN : Nd → Prop
  | .mk nm ats ks => isNm nm = true ∧ (∀ a ∈ ats, isNm a.1 = true ∧ isVal a.2 = true) ∧ okL ks
def okL : List Nd → Prop
  | [] => True
  | k :: l => okN k ∧ okL l
end
theorem okL_mem : ∀ {l : List Nd} {k : Nd}, okL l → k ∈ l → okN k
  | [], _, _, h => by simp at h
  | a :: l, k, h, hk => by
    unfold okL at h
    rcases List.mem_cons.1 hk with rfl | hk
    · exact h.1
    · exact okL_mem h.2 hk
mutual
theorem okN_gd : ∀ n, okN n → gd n
  | .mk nm ats ks, h => by
    unfold okN at h
    unfold gd
    exact ⟨h.1, fun a ha => (h.2.1 a ha).1, okL_gd ks h.2.2⟩
theorem okL_gd : ∀ l, okL l → gdL l
  | [], _ => by unfold gdL; trivial
  | k :: l, h => by
    unfold okL at h
    unfold gdL
    exact ⟨okN_gd k h.1, okL_gd l h.2⟩
end
theorem ckL_ok : ∀ (ats pre : List (Bs × Bs)), ckL pre ats = 0 → ∀ a ∈ ats, isNm a.1 = true ∧ isVal a.2 = true
  | [], _, _, a, ha => by simp at ha
  | x :: r, pre, h, a, ha => by
    unfold ckL at h
    split at h
    · rename_i h0
      rcases List.mem_cons.1 ha with rfl | ha
      · unfold ckA at h0
        split at h0
        · rename_i h1
          split at h0
          · cases h0
          · split at h0
            · rename_i h3; exact ⟨h1, h3⟩
            · cases h0
        · cases h0
      · exact ckL_ok r _ h a ha
    · rename_i h0; exact (h0 h).elim
theorem ck1_ok {nm : Bs} {ats : List (Bs × Bs)} {deep ahead : Nat} (h : ck1 nm ats deep ahead = 0) : isNm nm = true ∧ ats.length ≤ 12 ∧ ∀ a ∈ ats, isNm a.1 = true ∧ isVal a.2 = true := by
  unfold ck1 at h
  split at h
  · cases h
  · split at h
    · cases h
    · split at h
      · rename_i hn
        split at h
        · cases h
        · exact ⟨hn, by omega, ckL_ok ats [] h⟩
      · cases h
mutual
theorem ckN_ok : ∀ (n : Nd) (deep ahead : Nat), (ckN n deep ahead).1 = 0 → okN n
  | .mk nm ats ks, deep, ahead, h => by
    unfold ckN at h
    split at h
    · rename_i h1
      unfold okN
      exact ⟨(ck1_ok h1).1, (ck1_ok h1).2.2, ckK_ok ks _ _ h⟩
    · rename_i h1; exact (h1 h).elim
theorem ckK_ok : ∀ (l : List Nd) (deep ahead : Nat), (ckK l deep ahead).1 = 0 → okL l
  | [], _, _, _ => by unfold okL; trivial
  | k :: l, deep, ahead, h => by
    unfold ckK at h
    split at h
    · rename_i h1
      unfold okL
      exact ⟨ckN_ok k _ _ h1, ckK_ok l _ _ h⟩
    · rename_i h1; exact (h1 h).elim
end

theorem Bd.al {B b : Nat} {l : Bs} {w : World} (h : Bd B b l w) (o : Obj) : Bd B b l (w.alloc o) := Lib.IsBuilderF.alloc h o
theorem Bd.lt {B b : Nat} {l : Bs} {w : World} (h : Bd B b l w) : B ≤ b ∧ b < w.heap.size := by
  rcases h with ⟨h1, v, h2, _⟩ | ⟨h1, v, h2, _⟩
  · exact ⟨h1, heap_lt h2⟩
  · exact ⟨h1, heap_lt h2⟩
theorem BKp.al {B b : Nat} (w : World) (o : Obj) (hB : B ≤ w.heap.size) : BKp B b w (w.alloc o) := ⟨(Below.refl B w).alloc hB o, (Lib.OthersKept.refl _ _ w).alloc o⟩
theorem BKp.box {B b : Nat} {w w' : World} (h : BKp B b w w') {N : Nat} {cs : Array Value} {t : TypeId} (hN : w.heap[N]? = some (.cells cs t)) (hne : N ≠ b) (ht : t ≠ 5) : w'.heap[N]? = some (.cells cs t) :=
  h.oth N _ hN (fun e => hne (Option.some.inj e)) (fun c fz e => by cases e; exact ht rfl)
theorem mbox (w : World) (cs : Array Value) (t : TypeId) : (w.alloc (.cells cs t)).heap[w.heap.size]? = some (.cells cs t) := by show (w.heap.push (.cells cs t))[w.heap.size]? = _; simp
theorem bcell {w : World} {N : Nat} {cs : Array Value} {t : TypeId} (h : w.heap[N]? = some (.cells cs t)) (i : Nat) (v : Value) (hv : cs[i]? = some v) : w.cell? ⟨N, i, none⟩ = some v := by
  unfold World.cell?
  simp only [h]
  simpa using hv

theorem cat1 (a c : Bs) : (⟨a.toArray⟩ ++ ⟨c.toArray⟩ : ByteArray) = ⟨(a ++ c).toArray⟩ := by
  apply ByteArray.ext
  simp [ByteArray.data_append]
theorem isNm_len {s : Bs} (h : isNm s = true) : s.length ≤ 12 := by
  cases s with
  | nil => simp
  | cons c r => simp only [isNm, Bool.and_eq_true, decide_eq_true_eq] at h; exact h.1.1
theorem isVal_len {s : Bs} (h : isVal s = true) : s.length ≤ 200 := by
  simp only [isVal, Bool.and_eq_true, decide_eq_true_eq] at h
  exact h.1
theorem atsT_append : ∀ a c : List (Bs × Bs), atsT (a ++ c) = atsT a ++ atsT c
  | [], _ => rfl
  | x :: a, c => by simp [atsT, atsT_append a c]
theorem atsT_more {ats : List (Bs × Bs)} {k : Nat} {x : Bs × Bs} (hx : ats[k]? = some x) : atsT (ats.take (k + 1)) = atsT (ats.take k) ++ atT x := by
  rw [List.take_add_one, hx, atsT_append]; simp [atsT]
theorem atsT_le (ats : List (Bs × Bs)) (k : Nat) : (atsT (ats.take k)).length ≤ (atsT ats).length := by
  have := congrArg List.length (atsT_append (ats.take k) (ats.drop k))
  rw [List.take_append_drop, List.length_append] at this
  omega
theorem txtL_append : ∀ a c : List Nd, txtL (a ++ c) = txtL a ++ txtL c
  | [], _ => by simp [txtL]
  | x :: a, c => by simp [txtL, txtL_append a c]
theorem txtL_more {ks : List Nd} {k : Nat} {x : Nd} (hx : ks[k]? = some x) : txtL (ks.take (k + 1)) = txtL (ks.take k) ++ txt x := by
  rw [List.take_add_one, hx, txtL_append]; simp [txtL]
theorem txtL_le (ks : List Nd) (k : Nat) : (txtL (ks.take k)).length ≤ (txtL ks).length := by
  have := congrArg List.length (txtL_append (ks.take k) (ks.drop k))
  rw [List.take_append_drop, List.length_append] at this
  omega
/-- What is written ahead of a node's end. -/
theorem txt_len (nm : Bs) (ats : List (Bs × Bs)) (ks : List Nd) : 1 + nm.length + (atsT ats).length + (txtL ks).length ≤ (txt (.mk nm ats ks)).length := by
  cases ks with
  | nil => rw [txt_nil]; simp [txtL]; omega
  | cons k r => rw [txt_cons]; simp; omega

/-- What writing a node with all below does. -/
def Wr (W0 : World) (b : Nat) (n : Nd) : Prop := ∀ (c0 c1 c2 : Value) (l : Bs) (W : World), NdC W0 c0 c1 c2 n → okN n → Below W0.heap.size W0 W → Bd W0.heap.size b l W → l.length + (txt n).length ≤ 100000000 →
  Calls Tryd.prog 34 #[.pointer (some ⟨b, 0, none⟩), .agg #[c0, c1, c2]] W fun e w' => e = .returned (.tuple #[]) ∧ Bd W0.heap.size b (l ++ txt n) w' ∧ BKp W0.heap.size b W w'

set_option maxRecDepth 20000 in
set_option maxHeartbeats 8000000 in
theorem writeNode_any (W0 : World) (b : Nat) : ∀ n, Wr W0 b n := by
  refine Nd.ind fun nm ats ks ih => ?_
  intro c0 c1 c2 l W hn hok hb hbd hlen
  unfold NdC at hn
  obtain ⟨rfl, hl, ⟨o1, cap1, rfl, h1c, h1m, h10, h14⟩, ok, capk, rfl, hkc, hkm, hk0, hks⟩ := hn
  unfold okN at hok
  obtain ⟨hnm, hats, hkk⟩ := hok
  have hB := hb.size
  have hbl := hbd.lt
  have hx0 := mbox W #[.string ⟨nm.toArray⟩, .slice o1 ats.length cap1, .slice ok ks.length capk] 40
  have n0 := bcell hx0 0 (.string ⟨nm.toArray⟩) rfl
  have k0 := BKp.al (B := W0.heap.size) (b := b) W (.cells #[.string ⟨nm.toArray⟩, .slice o1 ats.length cap1, .slice ok ks.length capk] 40) hB
  have hbd1 := hbd.al (.cells #[.string ⟨nm.toArray⟩, .slice o1 ats.length cap1, .slice ok ks.length capk] 40)
  have hnl := isNm_len hnm
  have hs1 : 1 + nm.length ≤ 9223372036854775807 := by omega
  have htl := txt_len nm ats ks
  have h1m' : (ats.length : Int) ≤ 9223372036854775807 := by rw [maxLen_eq] at h1m; omega
  have hkm' : (ks.length : Int) ≤ 9223372036854775807 := by rw [maxLen_eq] at hkm; omega
  have hNb : W.heap.size ≠ b := by omega
  have H14 : Hid (AtsAt W0 o1 ats) := h14
  have HKS : Hid (KdsAt W0 ok 0 ks) := hks
  have IH : Hid (∀ k ∈ ks, Wr W0 b k) := ih
  have HATS : Hid (∀ a ∈ ats, isNm a.1 = true ∧ isVal a.2 = true) := hats
  have HKK : Hid (okL ks) := hkk
  clear h14 hks ih hats hkk
  unfold strV
  go_enter Tryd.func34, Tryd.ntmps34
  go_wp2_with (go_at_call 56; rw [cat1]; refine (WriteString_any W0.heap.size b l ([60] ++ nm) _ hbd1 (by simp; omega) (Nat.le_trans hB k0.low.size)).mono ?_; rintro e w1 ⟨rfl, hbd2, hk2⟩; have hx1 := hk2.box hx0 hNb (by decide); have m1 := bcell hx1 1 (.slice o1 ats.length cap1) rfl)
  obtain ⟨V0, hV0⟩ : ∃ V, W.alloc (.cells #[.string ⟨nm.toArray⟩, .slice o1 ats.length cap1, .slice ok ks.length capk] 40) = V := ⟨_, rfl⟩
  rw [hV0] at k0 hk2 hx0
  clear n0 hbd1 hV0 m1
  have K1 := k0.trans hk2
  have HB2 : Hid (Bd W0.heap.size b (l ++ ([60] ++ nm)) w1) := hbd2
  clear hbd2
  go_loopw [16] (fun y wr => ∃ k : Nat, k ≤ ats.length ∧ y = .int .i64 k ∧ Bd W0.heap.size b (l ++ ([60] ++ nm) ++ atsT (ats.take k)) wr ∧ BKp W0.heap.size b w1 wr) (fun y _ => ats.length - (intOf y).toNat)
  case atStart => exact ⟨0, Nat.zero_le _, rfl, by simpa [atsT] using HB2.out, BKp.refl _ _ _⟩
  case round =>
    obtain ⟨k, hk, rfl, hbdk, hkk⟩ := hrel
    have HBk : Hid (Bd W0.heap.size b (l ++ ([60] ++ nm) ++ atsT (ats.take k)) wr) := hbdk
    clear hbdk
    have hBr : W0.heap.size ≤ wr.heap.size := Nat.le_trans (Nat.le_trans hB K1.low.size) hkk.low.size
    have bR : Below W0.heap.size W0 wr := (hb.trans K1.low).trans hkk.low
    have hx2 := hkk.box hx1 hNb (by decide)
    by_cases hlt : k < ats.length
    · have hlt' : (k : Int) < (ats.length : Int) := by omega
      obtain ⟨x, hx, -⟩ := drop_at hlt
      obtain ⟨b', off', rfl, c0, c1, -, -⟩ := H14.out k x hx
      obtain ⟨hxn, hxv⟩ := HATS.out x (List.mem_of_getElem? hx)
      have hx1l := isNm_len hxn
      have hx2l := isVal_len hxv
      have hle := atsT_le ats (k + 1)
      rw [atsT_more hx, List.length_append] at hle
      have hat : (atT x).length = 1 + (x.1.length + (2 + ((escV x.2).length + 1))) := by simp [atT]; omega
      have HM : Hid (atsT (ats.take (k + 1)) = atsT (ats.take k) ++ atT x) := atsT_more hx
      have j0 := (bR.cell (cell_lt3 c0)).trans c0
      have j1 := (bR.cell (cell_lt3 c1)).trans c1
      unfold strV at j0 j1
      clear c0 c1 hx hxn hxv
      have y0 := mbox wr #[.string ⟨x.1.toArray⟩, .string ⟨x.2.toArray⟩] 77
      have u0 := bcell y0 0 (.string ⟨x.1.toArray⟩) rfl
      have kA := BKp.al (B := W0.heap.size) (b := b) wr (.cells #[.string ⟨x.1.toArray⟩, .string ⟨x.2.toArray⟩] 77) hBr
      have hbdA := HBk.out.al (.cells #[.string ⟨x.1.toArray⟩, .string ⟨x.2.toArray⟩] 77)
      have hMb : wr.heap.size ≠ b := by have := HBk.out.lt; omega
      have hs2 : 1 + x.1.length ≤ 9223372036854775807 := by omega
      have hs3 : 1 + x.1.length + 2 ≤ 9223372036854775807 := by omega
      have hlP : (l ++ ([60] ++ nm) ++ atsT (ats.take k)).length = l.length + (1 + nm.length) + (atsT (ats.take k)).length := by simp; omega
      have z0 := kA.low.size
      go_wp2_with (first | (go_at_call 56; rw [cat1, cat1]; refine (WriteString_any W0.heap.size b _ ([32] ++ x.1 ++ [61, 34]) _ hbdA (by rw [hlP]; simp; omega) (by omega)).mono ?_; rintro e w2 ⟨rfl, hbd3, hk3⟩; have y1 := hk3.box y0 hMb (by decide); have u1 := bcell y1 1 (.string ⟨x.2.toArray⟩) rfl; have z1 := hk3.low.size) | (go_at_call 57; refine (writeValue_any W0.heap.size b _ ⟨x.2.toArray⟩ _ hbd3 (by rw [List.length_append, hlP]; simp; omega) (by rw [strV_size]; omega) (by omega)).mono ?_; rintro e w3 ⟨rfl, hbd4, hk4⟩; have z2 := hk4.low.size) | (go_at_call 56; refine (WriteString_any W0.heap.size b _ [34] _ hbd4 (by rw [List.length_append, List.length_append, hlP]; simp; omega) (by omega)).mono ?_; rintro e w4 ⟨rfl, hbd5, hk5⟩))
      go_roundw
      case rel => exact ⟨k + 1, by omega, by go_num, by rw [HM.out]; simpa [atT] using hbd5, (((hkk.trans kA).trans hk3).trans hk4).trans hk5⟩
      case measure => simp [intOf]; omega
    · obtain rfl : k = ats.length := by omega
      have HB3 : Hid (Bd W0.heap.size b (l ++ ([60] ++ nm) ++ atsT ats) wr) := (by have := HBk.out; rwa [List.take_length] at this : Bd W0.heap.size b (l ++ ([60] ++ nm) ++ atsT ats) wr)
      have m2 := bcell hx2 2 (.slice ok ks.length capk) rfl
      have hlP : (l ++ ([60] ++ nm) ++ atsT ats).length = l.length + (1 + nm.length) + (atsT ats).length := by simp; omega
      by_cases hz : ks.length = 0
      · obtain rfl : ks = [] := List.length_eq_zero_iff.1 hz
        have HT : Hid (txt (.mk nm ats []) = ([60] ++ nm) ++ atsT ats ++ [47, 62]) := (by rw [txt_nil]; simp : txt (.mk nm ats []) = ([60] ++ nm) ++ atsT ats ++ [47, 62])
        go_wp2_with (go_at_call 56; refine (WriteString_any W0.heap.size b _ [47, 62] _ HB3.out (by rw [hlP]; simp; omega) hBr).mono ?_; rintro e w2 ⟨rfl, hbd3, hk3⟩)
        refine bodyPost_ret (v := .tuple #[]) (by simp [results, Tryd.results34, go_sem]) rfl ⟨rfl, ?_, (K1.trans hkk).trans hk3⟩
        rw [HT.out]
        simpa using hbd3
      · obtain ⟨kf, kr, hkf⟩ : ∃ kf kr, ks = kf :: kr := by
          cases ks with
          | nil => simp at hz
          | cons kf kr => exact ⟨kf, kr, rfl⟩
        have HT : Hid (txt (.mk nm ats ks) = ([60] ++ nm) ++ atsT ats ++ [62] ++ txtL ks ++ ([60, 47] ++ nm ++ [62])) := (by rw [hkf, txt_cons]; simp : txt (.mk nm ats ks) = ([60] ++ nm) ++ atsT ats ++ [62] ++ txtL ks ++ ([60, 47] ++ nm ++ [62]))
        have hTl : (txt (.mk nm ats ks)).length = 1 + nm.length + (atsT ats).length + 1 + (txtL ks).length + (2 + nm.length + 1) := by rw [HT.out]; simp; omega
        clear hkf
        have hz' : ¬ (ks.length : Int) = 0 := by omega
        go_wp2_with (go_at_call 56; refine (WriteString_any W0.heap.size b _ [62] _ HB3.out (by rw [hlP]; simp; omega) hBr).mono ?_; rintro e w5 ⟨rfl, hbd6, hk6⟩; have hx3 := hk6.box hx2 hNb (by decide); have p2 := bcell hx3 2 (.slice ok ks.length capk) rfl)
        have K6 := (K1.trans hkk).trans hk6
        have HB6 : Hid (Bd W0.heap.size b (l ++ ([60] ++ nm) ++ atsT ats ++ [62]) w5) := hbd6
        clear hbd6 p2 m2
        go_loopw [44] (fun y wq => ∃ q : Nat, q ≤ ks.length ∧ y = .int .i64 q ∧ Bd W0.heap.size b (l ++ ([60] ++ nm) ++ atsT ats ++ [62] ++ txtL (ks.take q)) wq ∧ BKp W0.heap.size b w5 wq) (fun y _ => ks.length - (intOf y).toNat)
        case atStart => exact ⟨0, Nat.zero_le _, rfl, by simpa [txtL] using HB6.out, BKp.refl _ _ _⟩
        case round =>
          obtain ⟨q, hq, rfl, hbdq, hkq⟩ := hrel
          have HBq : Hid (Bd W0.heap.size b (l ++ ([60] ++ nm) ++ atsT ats ++ [62] ++ txtL (ks.take q)) wr) := hbdq
          clear hbdq
          have hBq : W0.heap.size ≤ wr.heap.size := Nat.le_trans (Nat.le_trans hB K6.low.size) hkq.low.size
          have bQ : Below W0.heap.size W0 wr := (hb.trans K6.low).trans hkq.low
          have hx4 := hkq.box hx3 hNb (by decide)
          have hlQ : (l ++ ([60] ++ nm) ++ atsT ats ++ [62] ++ txtL (ks.take q)).length = l.length + (1 + nm.length) + (atsT ats).length + 1 + (txtL (ks.take q)).length := by simp; omega
          by_cases hlq : q < ks.length
          · have hlq' : (q : Int) < (ks.length : Int) := by omega
            obtain ⟨kid, hx, -⟩ := drop_at hlq
            obtain ⟨b', off', d0, d1, d2, rfl, e0, e1, e2, hkid⟩ := HKS.out.get hx
            rw [Nat.zero_add] at e0 e1 e2
            have hmem : kid ∈ ks := List.mem_of_getElem? hx
            have hle := txtL_le ks (q + 1)
            rw [txtL_more hx, List.length_append] at hle
            have HM : Hid (txtL (ks.take (q + 1)) = txtL (ks.take q) ++ txt kid) := txtL_more hx
            have HI := IH.out kid hmem
            have hok := okL_mem HKK.out hmem
            have hkid' := hkid
            obtain ⟨nm', ats', ks'⟩ := kid
            unfold NdC at hkid'
            obtain ⟨rfl, -, ⟨o', cap', rfl, -⟩, ok', capk', rfl, -⟩ := hkid'
            have j0 := (bQ.cell (cell_lt3 e0)).trans e0
            have j1 := (bQ.cell (cell_lt3 e1)).trans e1
            have j2 := (bQ.cell (cell_lt3 e2)).trans e2
            unfold strV at j0 j1 j2 hkid
            clear e0 e1 e2 hmem hx
            have y0 := mbox wr #[.string ⟨nm'.toArray⟩, .slice o' ats'.length cap', .slice ok' ks'.length capk'] 40
            have u0 := bcell y0 0 (.string ⟨nm'.toArray⟩) rfl
            have u1 := bcell y0 1 (.slice o' ats'.length cap') rfl
            have u2 := bcell y0 2 (.slice ok' ks'.length capk') rfl
            have kA := BKp.al (B := W0.heap.size) (b := b) wr (.cells #[.string ⟨nm'.toArray⟩, .slice o' ats'.length cap', .slice ok' ks'.length capk'] 40) hBq
            have hbdA := HBq.out.al (.cells #[.string ⟨nm'.toArray⟩, .slice o' ats'.length cap', .slice ok' ks'.length capk'] 40)
            have HC := HI _ _ _ _ _ hkid hok (bQ.trans kA.low) hbdA (by rw [hlQ]; omega)
            clear HI hok hkid hbdA y0
            go_wp2_with (go_at_call 34; refine HC.mono ?_; rintro e w7 ⟨rfl, hbd7, hk7⟩)
            go_roundw
            case rel => exact ⟨q + 1, by omega, by go_num, by rw [HM.out, ← List.append_assoc]; exact hbd7, (hkq.trans kA).trans hk7⟩
            case measure => simp [intOf]; omega
          · obtain rfl : q = ks.length := by omega
            have HB8 : Hid (Bd W0.heap.size b (l ++ ([60] ++ nm) ++ atsT ats ++ [62] ++ txtL ks) wr) := (by have := HBq.out; rwa [List.take_length] at this : Bd W0.heap.size b (l ++ ([60] ++ nm) ++ atsT ats ++ [62] ++ txtL ks) wr)
            have m0 := bcell hx4 0 (.string ⟨nm.toArray⟩) rfl
            have hs4 : 2 + nm.length ≤ 9223372036854775807 := by omega
            have hs5 : 2 + nm.length + 1 ≤ 9223372036854775807 := by omega
            rw [List.take_length] at hlQ
            go_wp2_with (go_at_call 56; rw [cat1, cat1]; refine (WriteString_any W0.heap.size b _ ([60, 47] ++ nm ++ [62]) _ HB8.out (by rw [hlQ]; simp; omega) hBq).mono ?_; rintro e w8 ⟨rfl, hbd8, hk8⟩)
            go_end0
            refine ⟨rfl, ?_, (K6.trans hkq).trans hk8⟩
            rw [HT.out]
            simpa using hbd8

end Go.Proofs.YtdebekonggnckabDoor

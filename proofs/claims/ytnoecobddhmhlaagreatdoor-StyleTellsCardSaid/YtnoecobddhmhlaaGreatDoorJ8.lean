/-
  The check of one node, without its children.
-/
import Derived.Test.YtnoecobddhmhlaaGreatDoorJ7
import Derived.Deep.QuietTactic
import Derived.BigQuiet
import Derived.Lib.QuietBelow
import Derived.Deep.Cut
import Derived.Deep.CutRange
namespace Go.Proofs.YtnoecobddhmhlaaGreatDoor
open Go.RowKit

/-- What the check of attributes tells; pre: those ahead. -/
def ckL : List (Bs × Bs) → List (Bs × Bs) → Nat
  | _, [] => 0
  | pre, a :: r => if ckA pre a = 0 then ckL (pre ++ [a]) r else ckA pre a
/-- What the check of one node tells. -/
def ck1 (nm : Bs) (ats : List (Bs × Bs)) (deep ahead : Nat) : Nat := if 10 < deep then 8 else if 100 ≤ ahead then 7 else if isNm nm = true then (if 12 < ats.length then 7 else ckL [] ats) else 4
theorem ckL_step {ats : List (Bs × Bs)} {k : Nat} {x : Bs × Bs} (hx : ats[k]? = some x) (hd : ats.drop k = x :: ats.drop (k + 1)) (h : ckA (ats.take k) x = 0) : ckL (ats.take k) (ats.drop k) = ckL (ats.take (k + 1)) (ats.drop (k + 1)) := by
  rw [hd, ckL, if_pos h, List.take_add_one, hx]; rfl
theorem AtsIn.take {w : World} {b off cap : Nat} {ats : List (Bs × Bs)} (k : Nat) (hk : k ≤ ats.length) (hc : ats.length ≤ cap) (hm : cap ≤ maxLen) (h : AtsAt w (some ⟨b, off, none⟩) ats) : AtsIn w (.slice (some ⟨b, off, none⟩) k cap) (ats.take k) :=
  ⟨some ⟨b, off, none⟩, cap, by rw [List.length_take, Nat.min_eq_left hk], by rw [List.length_take]; omega, hm, (fun e => nomatch e), fun i x hx => h i x (by rw [List.getElem?_take] at hx; split at hx; exact hx; cases hx)⟩

set_option maxRecDepth 20000 in
set_option maxHeartbeats 4000000 in
theorem attrs_any (E : Nat → Addr) (nm : Bs) (ats : List (Bs × Bs)) (nk capk cap b off : Nat) (ok : Option Addr) (deep ahead : Nat) (W : World) (hE : CE E W) (h4 : AtsAt W (some ⟨b, off, none⟩) ats) (hc : ats.length ≤ cap) (hm : cap ≤ maxLen) (hl : nm.length ≤ maxLen)
    (hd : deep ≤ 10) (ha : ahead < 100) (hn : isNm nm = true) (h12 : ats.length ≤ 12) :
    Calls Tryz.prog 102 #[.agg #[strV nm, .slice (some ⟨b, off, none⟩) ats.length cap, .slice ok nk capk], .int .i64 deep, .int .i64 ahead] W fun e w' => e = .returned (errV E (ckL [] ats)) ∧ Below W.heap.size W w' := by
  have b0 := mal W (.cells #[.string ⟨nm.toArray⟩, .slice (some ⟨b, off, none⟩) ats.length cap, .slice ok nk capk] 25)
  have n0 := mnew W #[.string ⟨nm.toArray⟩, .slice (some ⟨b, off, none⟩) ats.length cap, .slice ok nk capk] 25 0 (.string ⟨nm.toArray⟩) rfl
  have n1 := mnew W #[.string ⟨nm.toArray⟩, .slice (some ⟨b, off, none⟩) ats.length cap, .slice ok nk capk] 25 1 (.slice (some ⟨b, off, none⟩) ats.length cap) rfl
  have HN := IsName_any ⟨nm.toArray⟩ (by rw [strV_size, ← maxLen_eq]; exact hl) (W.alloc (.cells #[.string ⟨nm.toArray⟩, .slice (some ⟨b, off, none⟩) ats.length cap, .slice ok nk capk] 25))
  rw [show isNm (⟨nm.toArray⟩ : ByteArray).data.toList = true from hn] at HN
  have hd' : (deep : Int) ≤ 10 := by omega
  have ha' : (ahead : Int) < 100 := by omega
  have h12' : (ats.length : Int) ≤ 12 := by omega
  have hm' : (cap : Int) ≤ 9223372036854775807 := by rw [maxLen_eq] at hm; omega
  have H4 : Hid (AtsAt W (some ⟨b, off, none⟩) ats) := h4
  have HE : Hid (CE E W) := hE
  clear h4 hE hn
  unfold strV
  go_enter Tryz.func102, Tryz.ntmps102
  go_wp2_with (go_at_call 57; refine HN.mono ?_; rintro e w1 ⟨rfl, rfl⟩)
  clear HN
  obtain ⟨W1, hW1⟩ : ∃ V, W.alloc (.cells #[.string ⟨nm.toArray⟩, .slice (some ⟨b, off, none⟩) ats.length cap, .slice ok nk capk] 25) = V := ⟨_, rfl⟩
  rw [hW1] at b0 n0 n1 ⊢
  clear hW1
  go_loopw [33] (fun y wr => ∃ k : Nat, k ≤ ats.length ∧ y = .int .i64 k ∧ ckL [] ats = ckL (ats.take k) (ats.drop k) ∧ Below W1.heap.size W1 wr) (fun y _ => ats.length - (intOf y).toNat)
  case atStart => exact ⟨0, Nat.zero_le _, rfl, rfl, Below.refl _ _⟩
  case round =>
    obtain ⟨k, hk, rfl, hf, hb⟩ := hrel
    have HF : Hid (ckL [] ats = ckL (ats.take k) (ats.drop k)) := hf
    clear hf
    by_cases hlt : k < ats.length
    · have hlt' : (k : Int) < (ats.length : Int) := by omega
      have hkc : (k : Int) ≤ (cap : Int) := by omega
      obtain ⟨x, hx, hdr⟩ := drop_at hlt
      obtain ⟨b', off', e, c0, c1, l1, l2⟩ := H4.out k x hx
      simp only [Option.some.injEq, Addr.mk.injEq, and_true] at e
      obtain ⟨rfl, rfl⟩ := e
      have bw := mbel b0 hb
      have k0 := (bw.cell (cell_lt3 c0)).trans c0
      have k1 := (bw.cell (cell_lt3 c1)).trans c1
      have m1 := (hb.cell (cell_lt3 n1)).trans n1
      clear c0 c1
      unfold strV at k0 k1
      have HX : Hid (ats[k]? = some x ∧ ats.drop k = x :: ats.drop (k + 1)) := ⟨hx, hdr⟩
      clear hx hdr
      have q0 := mnew wr #[.string ⟨x.1.toArray⟩, .string ⟨x.2.toArray⟩] 59 0 (.string ⟨x.1.toArray⟩) rfl
      have q1 := mnew wr #[.string ⟨x.1.toArray⟩, .string ⟨x.2.toArray⟩] 59 1 (.string ⟨x.2.toArray⟩) rfl
      have q2 := mcell_al (.cells #[.string ⟨x.1.toArray⟩, .string ⟨x.2.toArray⟩] 59) m1
      have bU := mal wr (.cells #[.string ⟨x.1.toArray⟩, .string ⟨x.2.toArray⟩] 59)
      go_upto_region 12 with fail
      obtain ⟨U, hU⟩ : ∃ V, wr.alloc (.cells #[.string ⟨x.1.toArray⟩, .string ⟨x.2.toArray⟩] 59) = V := ⟨_, rfl⟩
      rw [hU] at q0 q1 q2 bU ⊢
      clear hU k0 k1 m1
      have hl1 := l1
      have hl2 := l2
      by_cases hz : ckA (ats.take k) x = 0
      · have qA : ∀ d os, Calls Tryz.prog 135 #[.agg #[.string ⟨x.1.toArray⟩, .string ⟨x.2.toArray⟩], .slice (some ⟨b, off, none⟩) k cap] (Go.Sort.grow (redrawn U d) os) fun e w'' => e = .returned .nilIface ∧ ∃ p : Regrown, w'' = Go.Sort.grow (redrawn U p.d) p.os := fun d os => by
          have := checkAttr_any E x (ats.take k) (.slice (some ⟨b, off, none⟩) k cap) (Go.Sort.grow (redrawn U d) os) (HE.out.below (mbel (mbel bw bU) (below_regrown U d os))) (AtsIn.take k hk hc hm (H4.out.below (mbel (mbel bw bU) (below_regrown U d os)))) hl1 hl2
          rw [hz, errV_zero] at this
          exact Calls.regrown_of this
        have HZ : Hid (ckL [] ats = ckL (ats.take (k + 1)) (ats.drop (k + 1))) := HF.out.trans (ckL_step HX.out.1 HX.out.2 hz)
        clear hz l1 l2 hl1 hl2
        have r0 := cell_regrown q0
        have r1 := cell_regrown q1
        have r2 := cell_regrown q2
        refine wp_region_quiet_below (by kernel_rfl) (by kernel_rfl) ?_
        repeat (quiet_step (first | (go_at_call 135; exact qA _ _)))
        refine wpQuiet_nil ?_
        intro _ hw'
        obtain ⟨pq, hw''⟩ := hw'
        subst hw''
        clear r0 r1 r2 qA q0 q1 q2
        have hbV := mbel (mbel hb bU) (below_regrown U pq.d pq.os)
        generalize Go.Sort.grow (redrawn U pq.d) pq.os = V at hbV ⊢
        go_wp2_with fail
        go_roundw
        case rel => exact ⟨k + 1, by omega, by go_num, HZ.out, hbV⟩
        case measure => simp [intOf]; omega
      · have qA : ∀ d os, Calls Tryz.prog 135 #[.agg #[.string ⟨x.1.toArray⟩, .string ⟨x.2.toArray⟩], .slice (some ⟨b, off, none⟩) k cap] (Go.Sort.grow (redrawn U d) os) fun e w'' => e = .returned (.iface 245 (.pointer (some (E (ckA (ats.take k) x))))) ∧ ∃ p : Regrown, w'' = Go.Sort.grow (redrawn U p.d) p.os := fun d os => by
          have := checkAttr_any E x (ats.take k) (.slice (some ⟨b, off, none⟩) k cap) (Go.Sort.grow (redrawn U d) os) (HE.out.below (mbel (mbel bw bU) (below_regrown U d os))) (AtsIn.take k hk hc hm (H4.out.below (mbel (mbel bw bU) (below_regrown U d os)))) hl1 hl2
          rw [errV_pos E hz] at this
          exact Calls.regrown_of this
        have HZ : Hid (ckL [] ats = ckA (ats.take k) x) := (by rw [HF.out, HX.out.2, ckL, if_neg hz] : ckL [] ats = ckA (ats.take k) x)
        have HP : Hid (ckA (ats.take k) x ≠ 0) := hz
        clear hz l1 l2 hl1 hl2
        generalize ckA (ats.take k) x = z at qA HZ HP
        have r0 := cell_regrown q0
        have r1 := cell_regrown q1
        have r2 := cell_regrown q2
        refine wp_region_quiet_below (by kernel_rfl) (by kernel_rfl) ?_
        repeat (quiet_step (first | (go_at_call 135; exact qA _ _)))
        refine wpQuiet_nil ?_
        intro _ hw'
        obtain ⟨pq, hw''⟩ := hw'
        subst hw''
        clear r0 r1 r2 qA q0 q1 q2
        have hbV := mbel (mbel bw bU) (below_regrown U pq.d pq.os)
        generalize Go.Sort.grow (redrawn U pq.d) pq.os = V at hbV ⊢
        go_wp2_with fail
        go_ret
        exact ⟨by rw [HZ.out, errV_pos E HP.out]; rfl, hbV⟩
    · obtain rfl : k = ats.length := by omega
      have hz : Hid (ckL [] ats = 0) := (by rw [HF.out, List.drop_length]; rfl : ckL [] ats = 0)
      go_wp2_with fail
      go_ret
      exact ⟨by rw [hz.out]; rfl, mbel b0 hb⟩

end Go.Proofs.YtnoecobddhmhlaaGreatDoor

namespace Go.Proofs.YtnoecobddhmhlaaGreatDoor
open Go.RowKit

set_option maxRecDepth 20000 in
set_option maxHeartbeats 4000000 in
theorem checkOne_any (E : Nat → Addr) (nm : Bs) (ats : List (Bs × Bs)) (ks : List Nd) (c1 c2 : Value) (deep ahead : Nat) (W : World) (hE : CE E W) (h : NdC W (strV nm) c1 c2 (.mk nm ats ks)) (hdp : deep ≤ 1000) (hah : ahead ≤ 1000) :
    Calls Tryz.prog 102 #[.agg #[strV nm, c1, c2], .int .i64 deep, .int .i64 ahead] W fun e w' => e = .returned (errV E (ck1 nm ats deep ahead)) ∧ Below W.heap.size W w' := by
  unfold NdC at h
  obtain ⟨-, hl, ⟨o, cap, rfl, hc, hm, h0, h4⟩, ok, capk, rfl, -⟩ := h
  generalize ks.length = nk
  have b0 := mal W (.cells #[.string ⟨nm.toArray⟩, .slice o ats.length cap, .slice ok nk capk] 25)
  have n0 := mnew W #[.string ⟨nm.toArray⟩, .slice o ats.length cap, .slice ok nk capk] 25 0 (.string ⟨nm.toArray⟩) rfl
  have n1 := mnew W #[.string ⟨nm.toArray⟩, .slice o ats.length cap, .slice ok nk capk] 25 1 (.slice o ats.length cap) rfl
  have HN := IsName_any ⟨nm.toArray⟩ (by rw [strV_size, ← maxLen_eq]; exact hl) (W.alloc (.cells #[.string ⟨nm.toArray⟩, .slice o ats.length cap, .slice ok nk capk] 25))
  have hE1 := hE.below b0
  have hdp' : (deep : Int) ≤ 1000 := by omega
  have hah' : (ahead : Int) ≤ 1000 := by omega
  have hm' : (ats.length : Int) ≤ 9223372036854775807 := by rw [maxLen_eq] at hm; omega
  unfold ck1
  by_cases g1 : 10 < deep
  · rw [if_pos g1, errV_pos E (by decide)]
    have g1' : 10 < (deep : Int) := by omega
    have e8 := hE1.c8
    clear HN n1 n0
    unfold strV
    go_enter Tryz.func102, Tryz.ntmps102
    go_wp2_with fail
    go_ret
    exact ⟨rfl, b0⟩
  · rw [if_neg g1]
    have g1' : (deep : Int) ≤ 10 := by omega
    by_cases g2 : 100 ≤ ahead
    · rw [if_pos g2, errV_pos E (by decide)]
      have g2' : 100 ≤ (ahead : Int) := by omega
      have e7 := hE1.c7
      clear HN n1 n0
      unfold strV
      go_enter Tryz.func102, Tryz.ntmps102
      go_wp2_with fail
      go_ret
      exact ⟨rfl, b0⟩
    · rw [if_neg g2]
      have g2' : (ahead : Int) < 100 := by omega
      cases hn : isNm nm with
      | false =>
        rw [show isNm (⟨nm.toArray⟩ : ByteArray).data.toList = false from hn] at HN
        rw [if_neg (by simp), errV_pos E (by decide)]
        have e4 := hE1.c4
        clear n1
        unfold strV
        go_enter Tryz.func102, Tryz.ntmps102
        go_wp2_with (go_at_call 57; refine HN.mono ?_; rintro e w1 ⟨rfl, rfl⟩)
        go_ret
        exact ⟨rfl, b0⟩
      | true =>
        rw [show isNm (⟨nm.toArray⟩ : ByteArray).data.toList = true from hn] at HN
        rw [if_pos rfl]
        by_cases g3 : 12 < ats.length
        · rw [if_pos g3, errV_pos E (by decide)]
          have g3' : 12 < (ats.length : Int) := by omega
          have e7 := hE1.c7
          unfold strV
          go_enter Tryz.func102, Tryz.ntmps102
          go_wp2_with (go_at_call 57; refine HN.mono ?_; rintro e w1 ⟨rfl, rfl⟩)
          go_ret
          exact ⟨rfl, b0⟩
        · rw [if_neg g3]
          by_cases hz : ats.length = 0
          · obtain rfl : ats = [] := List.length_eq_zero_iff.1 hz
            rw [show ckL [] [] = 0 from rfl, errV_zero]
            clear h4 hm'
            unfold strV
            go_enter Tryz.func102, Tryz.ntmps102
            go_wp2_with (go_at_call 57; refine HN.mono ?_; rintro e w1 ⟨rfl, rfl⟩)
            go_loopw [33] (fun y wr => y = .int .i64 0 ∧ Below W.heap.size W wr) (fun _ _ => 0)
            case atStart => exact ⟨rfl, b0⟩
            case round =>
              obtain ⟨rfl, hb⟩ := hrel
              go_wp2_with fail
              go_ret
              exact ⟨rfl, hb⟩
          · obtain ⟨x0, hx0, -⟩ := drop_at (l := ats) (k := 0) (by omega)
            obtain ⟨b, off, rfl, -⟩ := h4 0 x0 hx0
            exact attrs_any E nm ats nk capk cap b off ok deep ahead W hE h4 hc hm hl (by omega) (by omega) hn (by omega)

end Go.Proofs.YtnoecobddhmhlaaGreatDoor

namespace Go.Proofs.YtnoecobddhmhlaaGreatDoor
open Go.RowKit

/-- All blocks are as they were, but one. -/
structure Keep (b : Nat) (W w : World) : Prop where
  os : w.os = W.os
  tape : w.tape = W.tape
  output : w.output = W.output
  size : W.heap.size ≤ w.heap.size
  block : ∀ k, k < W.heap.size → k ≠ b → w.heap[k]? = W.heap[k]?
theorem Keep.trans {b : Nat} {A B C : World} (h : Keep b A B) (k : Keep b B C) : Keep b A C :=
  ⟨k.os.trans h.os, k.tape.trans h.tape, k.output.trans h.output, Nat.le_trans h.size k.size, fun i hi hb => (k.block i (Nat.lt_of_lt_of_le hi h.size) hb).trans (h.block i hi hb)⟩
theorem Keep.of_below {b : Nat} {A B : World} (h : Below A.heap.size A B) : Keep b A B := ⟨h.os, h.tape, h.output, h.size, fun i hi _ => h.block i hi⟩
theorem Keep.below {b n : Nat} {A B : World} (h : Keep b A B) (hb : n ≤ b) (hn : n ≤ A.heap.size) : Below n A B := ⟨h.os, h.tape, h.output, h.size, fun i hi => h.block i (by omega) (by omega)⟩
theorem Keep.setCell {b : Nat} {A B : World} (h : Keep b A B) (v : Value) : Keep b A (B.setCell ⟨b, 0, none⟩ v) := by
  have hs := (Below.refl b B).setCell (p := ⟨b, 0, none⟩) (Nat.le_refl _) v
  refine ⟨hs.os.trans h.os, hs.tape.trans h.tape, hs.output.trans h.output, Nat.le_trans h.size hs.size, fun i hi hb => ?_⟩
  exact (Below.heap_setCell _ _ _ i hb).trans (h.block i hi hb)
theorem Keep.cell {b : Nat} {A B : World} (h : Keep b A B) {p : Addr} {v : Value} (hp : A.cell? p = some v) (hb : p.block ≠ b) : B.cell? p = some v := by
  rw [← hp]
  unfold World.cell?
  rw [h.block p.block (cell_lt3 hp) hb]

theorem mfroz {B : Nat} {w w' : World} {p : Addr} (hb : Below B w w') (hp : p.block < B) : w'.frozen? p = w.frozen? p := by
  unfold World.frozen?
  rw [hb.block _ hp]
theorem Keep.froz {b : Nat} {A B : World} (h : Keep b A B) {p : Addr} (hp : p.block < A.heap.size) (hb : p.block ≠ b) : B.frozen? p = A.frozen? p := by
  unfold World.frozen?
  rw [h.block _ hp hb]
theorem mset {w : World} {b : Nat} {u v : Value} (h : w.cell? ⟨b, 0, none⟩ = some u) : (w.setCell ⟨b, 0, none⟩ v).cell? ⟨b, 0, none⟩ = some v := by
  exact World.cell?_setCell_same w _ v h
theorem mset_froz {w : World} {b : Nat} {v : Value} (h : w.frozen? ⟨b, 0, none⟩ = false) : (w.setCell ⟨b, 0, none⟩ v).frozen? ⟨b, 0, none⟩ = false := by
  have := World.frozen?_setCell w ⟨b, 0, none⟩ ⟨b, 0, none⟩ v
  rw [this]; exact h

theorem Nd.ind {P : Nd → Prop} (h : ∀ nm ats ks, (∀ k ∈ ks, P k) → P (.mk nm ats ks)) : ∀ n, P n := by
  suffices H : (∀ n, P n) by exact H
  intro n
  exact Nd.rec (motive_1 := P) (motive_2 := fun l => ∀ k ∈ l, P k) (fun nm ats ks ih => h nm ats ks ih) (by simp) (fun k l hk hl => by
    intro j hj
    rcases List.mem_cons.1 hj with rfl | hj
    · exact hk
    · exact hl j hj) n

mutual
/-- What the check of a node with all below tells: its error's number and the node's, or 0 and how many nodes were ahead or are below. -/
def ckN : Nd → Nat → Nat → Nat × Nat
  | .mk nm ats ks, deep, ahead => if ck1 nm ats deep ahead = 0 then ckK ks (deep + 1) (ahead + 1) else (ck1 nm ats deep ahead, ahead)
def ckK : List Nd → Nat → Nat → Nat × Nat
  | [], _, ahead => (0, ahead)
  | k :: l, deep, ahead => if (ckN k deep ahead).1 = 0 then ckK l deep (ckN k deep ahead).2 else ckN k deep ahead
end
theorem ck1_zero {nm : Bs} {ats : List (Bs × Bs)} {deep ahead : Nat} (h : ck1 nm ats deep ahead = 0) : deep ≤ 10 ∧ ahead < 100 := by
  unfold ck1 at h
  split at h
  · cases h
  · split at h
    · cases h
    · omega
mutual
theorem ckN_le : ∀ (n : Nd) (deep ahead : Nat), (ckN n deep ahead).1 = 0 → (ckN n deep ahead).2 ≤ 100
  | .mk nm ats ks, deep, ahead, h => by
    unfold ckN at h ⊢
    split at h
    · rename_i h1
      rw [if_pos h1]
      exact ckK_le ks _ _ (ck1_zero h1).2 h
    · rename_i h1
      exact (h1 h).elim
theorem ckK_le : ∀ (l : List Nd) (deep ahead : Nat), ahead ≤ 100 → (ckK l deep ahead).1 = 0 → (ckK l deep ahead).2 ≤ 100
  | [], deep, ahead, ha, _ => by unfold ckK; exact ha
  | k :: l, deep, ahead, ha, h => by
    unfold ckK at h ⊢
    split at h
    · rename_i h1
      rw [if_pos h1]
      exact ckK_le l _ _ (ckN_le k _ _ h1) h
    · rename_i h1
      exact (h1 h).elim
end

theorem ckN_zero {nm : Bs} {ats : List (Bs × Bs)} {ks : List Nd} {deep ahead : Nat} (h : ck1 nm ats deep ahead = 0) : ckN (.mk nm ats ks) deep ahead = ckK ks (deep + 1) (ahead + 1) := by rw [ckN, if_pos h]
theorem ckK_zero {k : Nd} {l : List Nd} {deep ahead : Nat} (h : (ckN k deep ahead).1 = 0) : ckK (k :: l) deep ahead = ckK l deep (ckN k deep ahead).2 := by rw [ckK, if_pos h]
theorem ckK_pos {k : Nd} {l : List Nd} {deep ahead : Nat} (h : (ckN k deep ahead).1 ≠ 0) : ckK (k :: l) deep ahead = ckN k deep ahead := by rw [ckK, if_neg h]

/-- A fault as the check tells it. -/
def Flt (E : Nat → Addr) (B : Nat) (r : Nat × Nat) (e : Ending) (w : World) : Prop := ∃ pb, B ≤ pb ∧ e = .returned (.iface 153 (.pointer (some ⟨pb, 0, none⟩))) ∧ w.cell? ⟨pb, 0, none⟩ = some (.int .i64 r.2) ∧ w.cell? ⟨pb, 1, none⟩ = some (.iface 245 (.pointer (some (E r.1))))

/-- What the walk of the check does, of one node with all below. -/
def Chk (E : Nat → Addr) (W0 : World) (PA PW : Nat) (n : Nd) : Prop := ∀ (c0 c1 c2 : Value) (deep ahead : Nat) (W : World), NdC W0 c0 c1 c2 n → deep ≤ 11 → ahead ≤ 100 → Below W0.heap.size W0 W →
  W.cell? ⟨PA, 0, none⟩ = some (.int .i64 ahead) → W.frozen? ⟨PA, 0, none⟩ = false → W.cell? ⟨PW, 0, none⟩ = some (.func (.func 101) #[] #[.pointer (some ⟨PA, 0, none⟩), .pointer (some ⟨PW, 0, none⟩)]) →
  Calls Tryz.prog 101 #[.agg #[c0, c1, c2], .int .i64 deep, .pointer (some ⟨PA, 0, none⟩), .pointer (some ⟨PW, 0, none⟩)] W fun e w' => Keep PA W w' ∧
    (((ckN n deep ahead).1 = 0 ∧ e = .returned .nilIface ∧ w'.cell? ⟨PA, 0, none⟩ = some (.int .i64 (ckN n deep ahead).2) ∧ w'.frozen? ⟨PA, 0, none⟩ = false) ∨ ((ckN n deep ahead).1 ≠ 0 ∧ Flt E W.heap.size (ckN n deep ahead) e w'))

set_option maxRecDepth 20000 in
set_option maxHeartbeats 8000000 in
theorem chk_any (E : Nat → Addr) (W0 : World) (PA PW : Nat) (hE : CE E W0) (hA : W0.heap.size ≤ PA) (hne : PW ≠ PA) : ∀ n, Chk E W0 PA PW n := by
  refine Nd.ind fun nm ats ks ih => ?_
  intro c0 c1 c2 deep ahead W hn hd ha hb cA fA cP
  have hn' := hn
  unfold NdC at hn'
  obtain ⟨rfl, hl, ⟨o1, cap1, rfl, _, _, _, _⟩, ok, capk, rfl, hkc, hkm, hk0, hks⟩ := hn'
  have HO := checkOne_any E nm ats ks (.slice o1 ats.length cap1) (.slice ok ks.length capk) deep ahead
  have b0 := mal W (.cells #[.string ⟨nm.toArray⟩, .slice o1 ats.length cap1, .slice ok ks.length capk] 25)
  have n0 := mnew W #[.string ⟨nm.toArray⟩, .slice o1 ats.length cap1, .slice ok ks.length capk] 25 0 (.string ⟨nm.toArray⟩) rfl
  have n1 := mnew W #[.string ⟨nm.toArray⟩, .slice o1 ats.length cap1, .slice ok ks.length capk] 25 1 (.slice o1 ats.length cap1) rfl
  have n2 := mnew W #[.string ⟨nm.toArray⟩, .slice o1 ats.length cap1, .slice ok ks.length capk] 25 2 (.slice ok ks.length capk) rfl
  have cA1 := (b0.cell (cell_lt3 cA)).trans cA
  have bW := hb.trans (b0.mono hb.size)
  have HO1 := HO _ ((hE.below bW)) (NdC.below bW (.mk nm ats ks) hn) (by omega) (by omega)
  clear HO
  unfold strV at *
  have ltA := cell_lt3 cA
  have ltP := cell_lt3 cP
  simp only at ltA ltP
  by_cases hz : ck1 nm ats deep ahead = 0
  · rw [hz, errV_zero] at HO1
    have hr : ckN (.mk nm ats ks) deep ahead = ckK ks (deep + 1) (ahead + 1) := ckN_zero hz
    rw [hr]
    obtain ⟨hd1, ha1⟩ := ck1_zero hz
    clear hr hz n1
    have fA1 := (mfroz b0 (p := ⟨PA, 0, none⟩) ltA).trans fA
    have cP1 := (b0.cell (cell_lt3 cP)).trans cP
    have hkm' : (ks.length : Int) ≤ 9223372036854775807 := by rw [maxLen_eq] at hkm; omega
    have q1 : ¬ PA = W.heap.size := by omega
    have q2 : ¬ W.heap.size = PA := by omega
    have ha' : (ahead : Int) < 100 := by omega
    have HKS : Hid (KdsAt W0 ok 0 ks) := hks
    have IH : Hid (∀ k ∈ ks, Chk E W0 PA PW k) := ih
    clear hks ih
    go_enter Tryz.func101, Tryz.ntmps101
    go_wp2_with (go_at_call 102; refine HO1.mono ?_; rintro e w1 ⟨rfl, hb1⟩; have cA2 := (hb1.cell (cell_lt3 cA1)).trans cA1; have fA2 := (mfroz hb1 (p := ⟨PA, 0, none⟩) (cell_lt3 cA1)).trans fA1; have cP2 := (hb1.cell (cell_lt3 cP1)).trans cP1; have m2 := (hb1.cell (cell_lt3 n2)).trans n2)
    have K1 : Keep PA W (w1.setCell ⟨PA, 0, none⟩ (.int .i64 ((ahead : Int) + 1))) := ((Keep.of_below b0).trans (Keep.of_below hb1)).setCell _
    have cA3 := mset (v := .int .i64 ((ahead : Int) + 1)) cA2
    have fA3 := mset_froz (v := .int .i64 ((ahead : Int) + 1)) fA2
    have cP3 := Keep.cell ((Keep.of_below (Below.refl _ w1)).setCell (b := PA) (.int .i64 ((ahead : Int) + 1))) cP2 hne
    clear HO1 cA1 cA2 fA1 fA2 cP1 cP2 m2 n2 n0 hb1 b0 bW
    obtain ⟨V, hV⟩ : ∃ V, w1.setCell ⟨PA, 0, none⟩ (.int .i64 ((ahead : Int) + 1)) = V := ⟨_, rfl⟩
    rw [hV] at K1 cA3 fA3 cP3 ⊢
    clear hV
    have bV : Below W0.heap.size W0 V := hb.trans (K1.below hA hb.size)
    have sV := K1.size
    go_loopw [27] (fun y wr => ∃ k a : Nat, k ≤ ks.length ∧ y = .int .i64 k ∧ ckK ks (deep + 1) (ahead + 1) = ckK (ks.drop k) (deep + 1) a ∧ a ≤ 100 ∧ Keep PA V wr ∧ wr.cell? ⟨PA, 0, none⟩ = some (.int .i64 a) ∧ wr.frozen? ⟨PA, 0, none⟩ = false) (fun y _ => ks.length - (intOf y).toNat)
    case atStart => exact ⟨0, ahead + 1, Nat.zero_le _, rfl, rfl, by omega, Keep.of_below (Below.refl _ _), by rw [cA3]; simp, fA3⟩
    case round =>
      obtain ⟨k, a, hk, rfl, hf, hal, KV, cA4, fA4⟩ := hrel
      have HF : Hid (ckK ks (deep + 1) (ahead + 1) = ckK (ks.drop k) (deep + 1) a) := hf
      clear hf
      have cP4 := KV.cell cP3 hne
      have bR : Below W0.heap.size W0 wr := bV.trans (KV.below hA (Nat.le_trans hb.size sV))
      by_cases hlt : k < ks.length
      · have hlt' : (k : Int) < (ks.length : Int) := by omega
        obtain ⟨kid, hx, hdr⟩ := drop_at hlt
        obtain ⟨b', off', d0, d1, d2, rfl, e0, e1, e2, hkid⟩ := HKS.out.get hx
        rw [Nat.zero_add] at e0 e1 e2
        have hmem : kid ∈ ks := List.mem_of_getElem? hx
        have HI := IH.out kid hmem
        have hkid' := hkid
        obtain ⟨nm', ats', ks'⟩ := kid
        unfold NdC at hkid'
        obtain ⟨rfl, -, ⟨o', cap', rfl, -⟩, ok', capk', rfl, -⟩ := hkid'
        have k0 := (bR.cell (cell_lt3 e0)).trans e0
        have k1 := (bR.cell (cell_lt3 e1)).trans e1
        have k2 := (bR.cell (cell_lt3 e2)).trans e2
        unfold strV at k0 k1 k2 hkid
        clear e0 e1 e2 hmem
        have bU := mal wr (.cells #[.string ⟨nm'.toArray⟩, .slice o' ats'.length cap', .slice ok' ks'.length capk'] 25)
        have u0 := mnew wr #[.string ⟨nm'.toArray⟩, .slice o' ats'.length cap', .slice ok' ks'.length capk'] 25 0 (.string ⟨nm'.toArray⟩) rfl
        have u1 := mnew wr #[.string ⟨nm'.toArray⟩, .slice o' ats'.length cap', .slice ok' ks'.length capk'] 25 1 (.slice o' ats'.length cap') rfl
        have u2 := mnew wr #[.string ⟨nm'.toArray⟩, .slice o' ats'.length cap', .slice ok' ks'.length capk'] 25 2 (.slice ok' ks'.length capk') rfl
        have cA5 := mcell_al (.cells #[.string ⟨nm'.toArray⟩, .slice o' ats'.length cap', .slice ok' ks'.length capk'] 25) cA4
        have cP5 := mcell_al (.cells #[.string ⟨nm'.toArray⟩, .slice o' ats'.length cap', .slice ok' ks'.length capk'] 25) cP4
        have fA5 := (mfroz bU (p := ⟨PA, 0, none⟩) (cell_lt3 cA4)).trans fA4
        have HC := HI _ _ _ (deep + 1) a _ hkid (by omega) hal (bR.trans (bU.mono bR.size)) cA5 fA5 cP5
        rw [show ((deep + 1 : Nat) : Int) = (deep : Int) + 1 from by omega] at HC
        clear HI hkid cA5 fA5
        have HD : Hid (ks.drop k = Nd.mk nm' ats' ks' :: ks.drop (k + 1)) := hdr
        clear hdr hx
        generalize Nd.mk nm' ats' ks' = kid at HC HD
        have hd' : (deep : Int) ≤ 10 := by omega
        by_cases hz : (ckN kid (deep + 1) a).1 = 0
        · have HC0 := HC.mono (R' := fun e w' => e = .returned .nilIface ∧ Keep PA (wr.alloc (.cells #[.string ⟨nm'.toArray⟩, .slice o' ats'.length cap', .slice ok' ks'.length capk'] 25)) w' ∧ w'.cell? ⟨PA, 0, none⟩ = some (.int .i64 (ckN kid (deep + 1) a).2) ∧ w'.frozen? ⟨PA, 0, none⟩ = false) (fun e w' h => by
            rcases h.2 with h2 | h2
            · exact ⟨h2.2.1, h.1, h2.2.2⟩
            · exact (h2.1 hz).elim)
          have HS : Hid (ckK ks (deep + 1) (ahead + 1) = ckK (ks.drop (k + 1)) (deep + 1) (ckN kid (deep + 1) a).2 ∧ (ckN kid (deep + 1) a).2 ≤ 100) := ⟨by rw [HF.out, HD.out]; exact ckK_zero hz, ckN_le _ _ _ hz⟩
          clear HC hz
          go_wp2_with (go_at_call 101; refine HC0.mono ?_; rintro e w2 ⟨rfl, K2, cA6, fA6⟩)
          go_roundw
          case rel => exact ⟨k + 1, _, by omega, by go_num, HS.out.1, HS.out.2, (KV.trans (Keep.of_below bU)).trans K2, cA6, fA6⟩
          case measure => simp [intOf]; omega
        · have HCn := HC.mono (R' := fun e w' => Keep PA (wr.alloc (.cells #[.string ⟨nm'.toArray⟩, .slice o' ats'.length cap', .slice ok' ks'.length capk'] 25)) w' ∧ Flt E (wr.alloc (.cells #[.string ⟨nm'.toArray⟩, .slice o' ats'.length cap', .slice ok' ks'.length capk'] 25)).heap.size (ckN kid (deep + 1) a) e w') (fun e w' h => by
            rcases h.2 with h2 | h2
            · exact (hz h2.1).elim
            · exact ⟨h.1, h2.2⟩)
          have HS : Hid (ckK ks (deep + 1) (ahead + 1) = ckN kid (deep + 1) a) := (by rw [HF.out, HD.out]; exact ckK_pos hz : ckK ks (deep + 1) (ahead + 1) = ckN kid (deep + 1) a)
          have HP : Hid ((ckN kid (deep + 1) a).1 ≠ 0) := hz
          have sR := KV.size
          clear HC hz
          generalize ckN kid (deep + 1) a = r at HCn HS HP
          go_wp2_with (go_at_call 101; refine HCn.mono ?_; rintro e w2 ⟨K2, pb, hpb, rfl, z0, z1⟩)
          go_ret
          refine ⟨((K1.trans KV).trans (Keep.of_below bU)).trans K2, .inr ?_⟩
          rw [HS.out]
          exact ⟨HP.out, pb, by simp at hpb; omega, rfl, z0, z1⟩
      · obtain rfl : k = ks.length := by omega
        have hz : Hid (ckK ks (deep + 1) (ahead + 1) = (0, a)) := (by rw [HF.out, List.drop_length]; unfold ckK; rfl : ckK ks (deep + 1) (ahead + 1) = (0, a))
        go_wp2_with fail
        go_ret
        exact ⟨K1.trans KV, .inl (by rw [hz.out]; exact ⟨rfl, rfl, cA4, fA4⟩)⟩
  · rw [errV_pos E hz] at HO1
    have hr : ckN (.mk nm ats ks) deep ahead = (ck1 nm ats deep ahead, ahead) := by unfold ckN; rw [if_neg hz]
    rw [hr]
    clear hr hks ih n1 n2
    go_enter Tryz.func101, Tryz.ntmps101
    go_wp2_with (go_at_call 102; refine HO1.mono ?_; rintro e w1 ⟨rfl, hb1⟩; have cA2 := (hb1.cell (cell_lt3 cA1)).trans cA1)
    go_ret
    have z0 := mnew w1 #[.int .i64 ahead, .iface 245 (.pointer (some (E (ck1 nm ats deep ahead))))] 155 0 (.int .i64 ahead) rfl
    have z1 := mnew w1 #[.int .i64 ahead, .iface 245 (.pointer (some (E (ck1 nm ats deep ahead))))] 155 1 (.iface 245 (.pointer (some (E (ck1 nm ats deep ahead))))) rfl
    exact ⟨((Keep.of_below b0).trans (Keep.of_below hb1)).trans (Keep.of_below (mal w1 _)), .inr ⟨hz, w1.heap.size, (mbel b0 hb1).size, rfl, z0, z1⟩⟩

end Go.Proofs.YtnoecobddhmhlaaGreatDoor

namespace Go.Proofs.YtnoecobddhmhlaaGreatDoor
open Go.RowKit

theorem run_store_func' (P : Program) (w : World) (a : Addr) (m : Mode) (f : Fn) (x y : Array Value) : (store a (.func f x y) m).run P w = stored P w a (.func f x y) m := run_store P w a _ m rfl
attribute [local go_sem] run_store_func'
theorem mnew_froz (W : World) (cs : Array Value) (t : TypeId) (i : Nat) : (W.alloc (.cells cs t)).frozen? ⟨W.heap.size, i, none⟩ = false := by
  have e : (W.alloc (.cells cs t)).heap[W.heap.size]? = some (.cells cs t) := by show (W.heap.push (.cells cs t))[W.heap.size]? = _; simp
  unfold World.frozen?
  simp only [e]
  simp

set_option maxRecDepth 20000 in
set_option maxHeartbeats 4000000 in
theorem Check_nd (E : Nat → Addr) (n : Nd) (c0 c1 c2 : Value) (W : World) (hE : CE E W) (hn : NdC W c0 c1 c2 n) :
    Calls Tryz.prog 48 #[.agg #[c0, c1, c2]] W fun e w' => Below W.heap.size W w' ∧ (((ckN n 1 0).1 = 0 ∧ e = .returned .nilIface) ∨ ((ckN n 1 0).1 ≠ 0 ∧ Flt E W.heap.size (ckN n 1 0) e w')) := by
  have HC := chk_any E W (W.heap.size + 1) (W.heap.size + 1 + 1) hE (by omega) (by omega) n
  unfold Chk at HC
  have hn' := hn
  obtain ⟨nm, ats, ks⟩ := n
  unfold NdC at hn'
  obtain ⟨rfl, -, ⟨o1, cap1, rfl, -⟩, ok, capk, rfl, -⟩ := hn'
  have HC' := fun V h1 => HC (strV nm) (.slice o1 ats.length cap1) (.slice ok ks.length capk) 1 0 V hn (by decide) (by decide) h1
  clear HC
  generalize Nd.mk nm ats ks = n at HC' hn ⊢
  unfold strV at *
  have b1 := mal W (.cells #[.string ⟨nm.toArray⟩, .slice o1 ats.length cap1, .slice ok ks.length capk] 25)
  have n0 := mnew W #[.string ⟨nm.toArray⟩, .slice o1 ats.length cap1, .slice ok ks.length capk] 25 0 (.string ⟨nm.toArray⟩) rfl
  have n1 := mnew W #[.string ⟨nm.toArray⟩, .slice o1 ats.length cap1, .slice ok ks.length capk] 25 1 (.slice o1 ats.length cap1) rfl
  have n2 := mnew W #[.string ⟨nm.toArray⟩, .slice o1 ats.length cap1, .slice ok ks.length capk] 25 2 (.slice ok ks.length capk) rfl
  have a0 := mnew (W.alloc (.cells #[.string ⟨nm.toArray⟩, .slice o1 ats.length cap1, .slice ok ks.length capk] 25)) #[.int .i64 0] 3 0 (.int .i64 0) rfl
  have af := mnew_froz (W.alloc (.cells #[.string ⟨nm.toArray⟩, .slice o1 ats.length cap1, .slice ok ks.length capk] 25)) #[.int .i64 0] 3 0
  have b2 := mal (W.alloc (.cells #[.string ⟨nm.toArray⟩, .slice o1 ats.length cap1, .slice ok ks.length capk] 25)) (.cells #[.int .i64 0] 3)
  have p0 := mnew ((W.alloc (.cells #[.string ⟨nm.toArray⟩, .slice o1 ats.length cap1, .slice ok ks.length capk] 25)).alloc (.cells #[.int .i64 0] 3)) #[.func (.func 101) #[] #[.pointer (some ⟨W.heap.size + 1, 0, none⟩), .pointer (some ⟨W.heap.size + 1 + 1, 0, none⟩)]] 163 0 (.func (.func 101) #[] #[.pointer (some ⟨W.heap.size + 1, 0, none⟩), .pointer (some ⟨W.heap.size + 1 + 1, 0, none⟩)]) rfl
  have b3 := mal ((W.alloc (.cells #[.string ⟨nm.toArray⟩, .slice o1 ats.length cap1, .slice ok ks.length capk] 25)).alloc (.cells #[.int .i64 0] 3)) (.cells #[.func (.func 101) #[] #[.pointer (some ⟨W.heap.size + 1, 0, none⟩), .pointer (some ⟨W.heap.size + 1 + 1, 0, none⟩)]] 163)
  simp only [World.size_alloc] at a0 af p0
  have a3 := (b3.cell (cell_lt3 a0)).trans a0
  have af3 := (mfroz b3 (p := ⟨W.heap.size + 1, 0, none⟩) (cell_lt3 a0)).trans af
  have m0 := (b3.cell (cell_lt3 ((b2.cell (cell_lt3 n0)).trans n0))).trans ((b2.cell (cell_lt3 n0)).trans n0)
  have m1 := (b3.cell (cell_lt3 ((b2.cell (cell_lt3 n1)).trans n1))).trans ((b2.cell (cell_lt3 n1)).trans n1)
  have m2 := (b3.cell (cell_lt3 ((b2.cell (cell_lt3 n2)).trans n2))).trans ((b2.cell (cell_lt3 n2)).trans n2)
  have bb := mbel (mbel b1 b2) b3
  have HV := HC' _ bb a3 af3 p0
  have sz := bb.size
  clear a0 af n0 n1 n2 b1 b2 b3 HC'
  go_enter Tryz.func48, Tryz.ntmps48
  go_upto_region 4 with fail
  obtain ⟨V, hV⟩ : ∃ V, ((W.alloc (.cells #[.string ⟨nm.toArray⟩, .slice o1 ats.length cap1, .slice ok ks.length capk] 25)).alloc (.cells #[.int .i64 0] 3)).alloc (.cells #[.func (.func 101) #[] #[.pointer (some ⟨W.heap.size + 1, 0, none⟩), .pointer (some ⟨W.heap.size + 1 + 1, 0, none⟩)]] 163) = V := ⟨_, rfl⟩
  rw [hV] at a3 af3 m0 m1 m2 bb HV p0 sz ⊢
  clear hV
  have HV' := HV.mono (R' := fun e w' => ∃ v, e = .returned v ∧ Keep (W.heap.size + 1) V w' ∧ (((ckN n 1 0).1 = 0 ∧ v = .nilIface) ∨ ((ckN n 1 0).1 ≠ 0 ∧ Flt E V.heap.size (ckN n 1 0) (.returned v) w'))) (fun e w' h => by
    rcases h.2 with h2 | h2
    · exact ⟨_, h2.2.1, h.1, .inl ⟨h2.1, rfl⟩⟩
    · obtain ⟨h3, pb, h4, rfl, h5⟩ := h2
      exact ⟨_, rfl, h.1, .inr ⟨h3, pb, h4, rfl, h5⟩⟩)
  clear HV
  go_wp2_with (go_at_call 101; refine HV'.mono ?_; rintro e w1 ⟨v, rfl, K1, hr⟩)
  go_ret
  refine ⟨bb.trans (K1.below (by omega) sz), ?_⟩
  rcases hr with ⟨h1, rfl⟩ | ⟨h1, pb, h2, h3, h4⟩
  · exact .inl ⟨h1, rfl⟩
  · exact .inr ⟨h1, pb, Nat.le_trans sz h2, h3, h4⟩

end Go.Proofs.YtnoecobddhmhlaaGreatDoor

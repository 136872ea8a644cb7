/-
  The check of one node, without its children.
-/
import Derived.Test.YtdebekonggnckacDoorJ1
import Derived.Deep.QuietTactic
import Derived.BigQuiet
import Derived.Lib.QuietBelow
import Derived.Deep.Cut
import Derived.Deep.CutRange
namespace Go.Proofs.YtdebekonggnckacDoor
open Go.RowKit

/-- What the check of attributes tells; pre: those ahead. -/
def ckL : List (Bs × Bs) → List (Bs × Bs) → Nat
  | _, [] => 0
  | pre, a :: r => if ckA pre a = 0 then ckL (pre ++ [a]) r else ckA pre a
/-- What the check of one node tells. -/
def ck1 (nm : Bs) (ats : List (Bs × Bs)) (deep ahead : Nat) : Nat := if 10 < deep then 8 else if 100 ≤ ahead then 7 else if isNm nm = true then (if 12 < ats.length then 7 else ckL [] ats) else 4
theorem ckL_step {ats : List (Bs × Bs)} {k : Nat} {x : Bs × Bs} (hx : ats[k]? = some x) (hd : ats.drop k = x :: ats.drop (k + 1)) (h : ckA (ats.take k) x = 0) : ckL (ats.take k) (ats.drop k) = ckL (ats.take (k + 1)) (ats.drop (k + 1)) := by
  rw [hd, ckL, if_pos h, List.take_add_one, hx]; rfl
theorem AtsIn.take {w : World} {b off cap : Nat} {ats : List (Bs × Bs)} (k : Nat) (hk : k ≤ ats.length) (hc : ats.length ≤ cap) (hm : cap ≤ maxLen) (h : AtsAt w (some ⟨b, off, none⟩) ats) : AtsIn w (.slice (some ⟨b, off, none⟩) k cap) (ats.take k) :=
  ⟨some ⟨b, off, none⟩, cap, by rw [List.length_take, Nat.min_eq_left hk], by rw [List.length_take]; omega, hm, (fun e => nomatch e), fun i x hx => h i x (by rw [List.getElem?_take] at hx; split at hx; exact hx; cases hx)⟩

set_option maxRecDepth 20000 in
set_option maxHeartbeats 4000000 in
theorem attrs_any (E : Nat → Addr) (nm : Bs) (ats : List (Bs × Bs)) (nk capk cap b off : Nat) (ok : Option Addr) (deep ahead : Nat) (W : World) (hE : ME E W) (h4 : AtsAt W (some ⟨b, off, none⟩) ats) (hc : ats.length ≤ cap) (hm : cap ≤ maxLen) (hl : nm.length ≤ maxLen)
    (hd : deep ≤ 10) (ha : ahead < 100) (hn : isNm nm = true) (h12 : ats.length ≤ 12) :
    Calls Tryd.prog 54 #[.agg #[strV nm, .slice (some ⟨b, off, none⟩) ats.length cap, .slice ok nk capk], .int .i64 deep, .int .i64 ahead] W fun e w' => e = .returned (errV E (ckL [] ats)) ∧ Below W.heap.size W w' := by
  have b0 := mal W (.cells #[.string ⟨nm.toArray⟩, .slice (some ⟨b, off, none⟩) ats.length cap, .slice ok nk capk] 25)
  have n0 := mnew W #[.string ⟨nm.toArray⟩, .slice (some ⟨b, off, none⟩) ats.length cap, .slice ok nk capk] 25 0 (.string ⟨nm.toArray⟩) rfl
  have n1 := mnew W #[.string ⟨nm.toArray⟩, .slice (some ⟨b, off, none⟩) ats.length cap, .slice ok nk capk] 25 1 (.slice (some ⟨b, off, none⟩) ats.length cap) rfl
  have HN := IsName_any ⟨nm.toArray⟩ (by rw [strV_size, ← maxLen_eq]; exact hl) (W.alloc (.cells #[.string ⟨nm.toArray⟩, .slice (some ⟨b, off, none⟩) ats.length cap, .slice ok nk capk] 25))
  rw [show isNm (⟨nm.toArray⟩ : ByteArray).data.toList = true from hn] at HN
  have hd' : (deep : Int) ≤ 10 := by omega
  have ha' : (ahead : Int) < 100 := by omega
  have h12' : (ats.length : Int) ≤ 12 := by omega
  have hm' : (cap : Int) ≤ 9223372036854775807 := by rw [maxLen_eq] at hm; omega
  have H4 : Hid (AtsAt W (some ⟨b, off, none⟩) ats) := h4
  have HE : Hid (ME E W) := hE
  clear h4 hE hn
  unfold strV
  go_enter Tryd.func54, Tryd.ntmps54
  go_wp2_with (go_at_call 31; refine HN.mono ?_; rintro e w1 ⟨rfl, rfl⟩)
  clear HN
  obtain ⟨W1, hW1⟩ : ∃ V, W.alloc (.cells #[.string ⟨nm.toArray⟩, .slice (some ⟨b, off, none⟩) ats.length cap, .slice ok nk capk] 25) = V := ⟨_, rfl⟩
  rw [hW1] at b0 n0 n1 ⊢
  clear hW1
  go_loopw [33] (fun y wr => ∃ k : Nat, k ≤ ats.length ∧ y = .int .i64 k ∧ ckL [] ats = ckL (ats.take k) (ats.drop k) ∧ Below W1.heap.size W1 wr) (fun y _ => ats.length - (intOf y).toNat)
  case atStart => exact ⟨0, Nat.zero_le _, rfl, rfl, Below.refl _ _⟩
  case round =>
    obtain ⟨k, hk, rfl, hf, hb⟩ := hrel
    have HF : Hid (ckL [] ats = ckL (ats.take k) (ats.drop k)) := hf
    clear hf
    by_cases hlt : k < ats.length
    · have hlt' : (k : Int) < (ats.length : Int) := by omega
      have hkc : (k : Int) ≤ (cap : Int) := by omega
      obtain ⟨x, hx, hdr⟩ := drop_at hlt
      obtain ⟨b', off', e, c0, c1, l1, l2⟩ := H4.out k x hx
      simp only [Option.some.injEq, Addr.mk.injEq, and_true] at e
      obtain ⟨rfl, rfl⟩ := e
      have bw := mbel b0 hb
      have k0 := (bw.cell (cell_lt3 c0)).trans c0
      have k1 := (bw.cell (cell_lt3 c1)).trans c1
      have m1 := (hb.cell (cell_lt3 n1)).trans n1
      clear c0 c1
      unfold strV at k0 k1
      have HX : Hid (ats[k]? = some x ∧ ats.drop k = x :: ats.drop (k + 1)) := ⟨hx, hdr⟩
      clear hx hdr
      have q0 := mnew wr #[.string ⟨x.1.toArray⟩, .string ⟨x.2.toArray⟩] 65 0 (.string ⟨x.1.toArray⟩) rfl
      have q1 := mnew wr #[.string ⟨x.1.toArray⟩, .string ⟨x.2.toArray⟩] 65 1 (.string ⟨x.2.toArray⟩) rfl
      have q2 := mcell_al (.cells #[.string ⟨x.1.toArray⟩, .string ⟨x.2.toArray⟩] 65) m1
      have bU := mal wr (.cells #[.string ⟨x.1.toArray⟩, .string ⟨x.2.toArray⟩] 65)
      go_upto_region 12 with fail
      obtain ⟨U, hU⟩ : ∃ V, wr.alloc (.cells #[.string ⟨x.1.toArray⟩, .string ⟨x.2.toArray⟩] 65) = V := ⟨_, rfl⟩
      rw [hU] at q0 q1 q2 bU ⊢
      clear hU k0 k1 m1
      have hl1 := l1
      have hl2 := l2
      by_cases hz : ckA (ats.take k) x = 0
      · have qA : ∀ d os, Calls Tryd.prog 76 #[.agg #[.string ⟨x.1.toArray⟩, .string ⟨x.2.toArray⟩], .slice (some ⟨b, off, none⟩) k cap] (Go.Sort.grow (redrawn U d) os) fun e w'' => e = .returned .nilIface ∧ ∃ p : Regrown, w'' = Go.Sort.grow (redrawn U p.d) p.os := fun d os => by
          have := checkAttr_any E x (ats.take k) (.slice (some ⟨b, off, none⟩) k cap) (Go.Sort.grow (redrawn U d) os) (HE.out.below (mbel (mbel bw bU) (below_regrown U d os))) (AtsIn.take k hk hc hm (H4.out.below (mbel (mbel bw bU) (below_regrown U d os)))) hl1 hl2
          rw [hz, errV_zero] at this
          exact Calls.regrown_of this
        have HZ : Hid (ckL [] ats = ckL (ats.take (k + 1)) (ats.drop (k + 1))) := HF.out.trans (ckL_step HX.out.1 HX.out.2 hz)
        clear hz l1 l2 hl1 hl2
        have r0 := cell_regrown q0
        have r1 := cell_regrown q1
        have r2 := cell_regrown q2
        refine wp_region_quiet_below (by kernel_rfl) (by kernel_rfl) ?_
        repeat (quiet_step (first | (go_at_call 76; exact qA _ _)))
        refine wpQuiet_nil ?_
        intro _ hw'
        obtain ⟨pq, hw''⟩ := hw'
        subst hw''
        clear r0 r1 r2 qA q0 q1 q2
        have hbV := mbel (mbel hb bU) (below_regrown U pq.d pq.os)
        generalize Go.Sort.grow (redrawn U pq.d) pq.os = V at hbV ⊢
        go_wp2_with fail
        go_roundw
        case rel => exact ⟨k + 1, by omega, by go_num, HZ.out, hbV⟩
        case measure => simp [intOf]; omega
      · have qA : ∀ d os, Calls Tryd.prog 76 #[.agg #[.string ⟨x.1.toArray⟩, .string ⟨x.2.toArray⟩], .slice (some ⟨b, off, none⟩) k cap] (Go.Sort.grow (redrawn U d) os) fun e w'' => e = .returned (.iface 181 (.pointer (some (E (ckA (ats.take k) x))))) ∧ ∃ p : Regrown, w'' = Go.Sort.grow (redrawn U p.d) p.os := fun d os => by
          have := checkAttr_any E x (ats.take k) (.slice (some ⟨b, off, none⟩) k cap) (Go.Sort.grow (redrawn U d) os) (HE.out.below (mbel (mbel bw bU) (below_regrown U d os))) (AtsIn.take k hk hc hm (H4.out.below (mbel (mbel bw bU) (below_regrown U d os)))) hl1 hl2
          rw [errV_pos E hz] at this
          exact Calls.regrown_of this
        have HZ : Hid (ckL [] ats = ckA (ats.take k) x) := (by rw [HF.out, HX.out.2, ckL, if_neg hz] : ckL [] ats = ckA (ats.take k) x)
        have HP : Hid (ckA (ats.take k) x ≠ 0) := hz
        clear hz l1 l2 hl1 hl2
        generalize ckA (ats.take k) x = z at qA HZ HP
        have r0 := cell_regrown q0
        have r1 := cell_regrown q1
        have r2 := cell_regrown q2
        refine wp_region_quiet_below (by kernel_rfl) (by kernel_rfl) ?_
        repeat (quiet_step (first | (go_at_call 76; exact qA _ _)))
        refine wpQuiet_nil ?_
        intro _ hw'
        obtain ⟨pq, hw''⟩ := hw'
        subst hw''
        clear r0 r1 r2 qA q0 q1 q2
        have hbV := mbel (mbel bw bU) (below_regrown U pq.d pq.os)
        generalize Go.Sort.grow (redrawn U pq.d) pq.os = V at hbV ⊢
        go_wp2_with fail
        go_ret
        exact ⟨by rw [HZ.out, errV_pos E HP.out]; rfl, hbV⟩
    · obtain rfl : k = ats.length := by omega
      have hz : Hid (ckL [] ats = 0) := (by rw [HF.out, List.drop_length]; rfl : ckL [] ats = 0)
      go_wp2_with fail
      go_ret
      exact ⟨by rw [hz.out]; rfl, mbel b0 hb⟩

end Go.Proofs.YtdebekonggnckacDoor

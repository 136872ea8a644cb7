/-
  The check of one node, without its children: all its ways.
-/
import Derived.Test.YtdebekonggnckacDoorMark7
namespace Go.Proofs.YtdebekonggnckacDoor
open Go.RowKit

set_option maxRecDepth 20000 in
set_option maxHeartbeats 4000000 in
theorem checkOne_any (E : Nat → Addr) (nm : Bs) (ats : List (Bs × Bs)) (ks : List Nd) (c1 c2 : Value) (deep ahead : Nat) (W : World) (hE : ME E W) (h : NdC W (strV nm) c1 c2 (.mk nm ats ks)) (hdp : deep ≤ 1000) (hah : ahead ≤ 1000) :
    Calls Tryd.prog 54 #[.agg #[strV nm, c1, c2], .int .i64 deep, .int .i64 ahead] W fun e w' => e = .returned (errV E (ck1 nm ats deep ahead)) ∧ Below W.heap.size W w' := by
  unfold NdC at h
  obtain ⟨-, hl, ⟨o, cap, rfl, hc, hm, h0, h4⟩, ok, capk, rfl, -⟩ := h
  generalize ks.length = nk
  have b0 := mal W (.cells #[.string ⟨nm.toArray⟩, .slice o ats.length cap, .slice ok nk capk] 25)
  have n0 := mnew W #[.string ⟨nm.toArray⟩, .slice o ats.length cap, .slice ok nk capk] 25 0 (.string ⟨nm.toArray⟩) rfl
  have n1 := mnew W #[.string ⟨nm.toArray⟩, .slice o ats.length cap, .slice ok nk capk] 25 1 (.slice o ats.length cap) rfl
  have HN := IsName_any ⟨nm.toArray⟩ (by rw [strV_size, ← maxLen_eq]; exact hl) (W.alloc (.cells #[.string ⟨nm.toArray⟩, .slice o ats.length cap, .slice ok nk capk] 25))
  have hE1 := hE.below b0
  have hdp' : (deep : Int) ≤ 1000 := by omega
  have hah' : (ahead : Int) ≤ 1000 := by omega
  have hm' : (ats.length : Int) ≤ 9223372036854775807 := by rw [maxLen_eq] at hm; omega
  unfold ck1
  by_cases g1 : 10 < deep
  · rw [if_pos g1, errV_pos E (by decide)]
    have g1' : 10 < (deep : Int) := by omega
    have e8 := hE1.c8
    clear HN n1 n0
    unfold strV
    go_enter Tryd.func54, Tryd.ntmps54
    go_wp2_with fail
    go_ret
    exact ⟨rfl, b0⟩
  · rw [if_neg g1]
    have g1' : (deep : Int) ≤ 10 := by omega
    by_cases g2 : 100 ≤ ahead
    · rw [if_pos g2, errV_pos E (by decide)]
      have g2' : 100 ≤ (ahead : Int) := by omega
      have e7 := hE1.c7
      clear HN n1 n0
      unfold strV
      go_enter Tryd.func54, Tryd.ntmps54
      go_wp2_with fail
      go_ret
      exact ⟨rfl, b0⟩
    · rw [if_neg g2]
      have g2' : (ahead : Int) < 100 := by omega
      cases hn : isNm nm with
      | false =>
        rw [show isNm (⟨nm.toArray⟩ : ByteArray).data.toList = false from hn] at HN
        rw [if_neg (by simp), errV_pos E (by decide)]
        have e4 := hE1.c4
        clear n1
        unfold strV
        go_enter Tryd.func54, Tryd.ntmps54
        go_wp2_with (go_at_call 31; refine HN.mono ?_; rintro e w1 ⟨rfl, rfl⟩)
        go_ret
        exact ⟨rfl, b0⟩
      | true =>
        rw [show isNm (⟨nm.toArray⟩ : ByteArray).data.toList = true from hn] at HN
        rw [if_pos rfl]
        by_cases g3 : 12 < ats.length
        · rw [if_pos g3, errV_pos E (by decide)]
          have g3' : 12 < (ats.length : Int) := by omega
          have e7 := hE1.c7
          unfold strV
          go_enter Tryd.func54, Tryd.ntmps54
          go_wp2_with (go_at_call 31; refine HN.mono ?_; rintro e w1 ⟨rfl, rfl⟩)
          go_ret
          exact ⟨rfl, b0⟩
        · rw [if_neg g3]
          by_cases hz : ats.length = 0
          · obtain rfl : ats = [] := List.length_eq_zero_iff.1 hz
            rw [show ckL [] [] = 0 from rfl, errV_zero]
            clear h4 hm'
            unfold strV
            go_enter Tryd.func54, Tryd.ntmps54
            go_wp2_with (go_at_call 31; refine HN.mono ?_; rintro e w1 ⟨rfl, rfl⟩)
            go_loopw [33] (fun y wr => y = .int .i64 0 ∧ Below W.heap.size W wr) (fun _ _ => 0)
            case atStart => exact ⟨rfl, b0⟩
            case round =>
              obtain ⟨rfl, hb⟩ := hrel
              go_wp2_with fail
              go_ret
              exact ⟨rfl, hb⟩
          · obtain ⟨x0, hx0, -⟩ := drop_at (l := ats) (k := 0) (by omega)
            obtain ⟨b, off, rfl, -⟩ := h4 0 x0 hx0
            exact attrs_any E nm ats nk capk cap b off ok deep ahead W hE h4 hc hm hl (by omega) (by omega) hn (by omega)

end Go.Proofs.YtdebekonggnckacDoor

/-
  The flat list of a node, as the law takes it: nothing just where it is too great.
-/
import Derived.Test.YtmlajdhkkcmjnacDoorMark27
namespace Go.Proofs.YtmlajdhkkcmjnacDoor
open Go.RowKit

/-- Attributes, by their bytes: how many there are then; none: one is too long. -/
def fitA : Nat → List (Bs × Bs) → Option Nat
  | many, [] => some many
  | many, a :: r => if 100 < a.1.length ∨ 300 < a.2.length then none else fitA (many + a.1.length + a.2.length) r
def fitL : Nat → List Fl → Bool
  | _, [] => true
  | many, f :: r => if 100 < f.name.length ∨ 20 < f.attrs.length then false else match fitA (many + f.name.length) f.attrs with
    | none => false
    | some m => if 4000 < m then false else fitL m r
/-- A law takes it. -/
def Fit (n : Nd) : Prop := (flN 0 (-1) 1 n).length ≤ 150 ∧ sh 1 n ∧ fitL 0 (flN 0 (-1) 1 n) = true
theorem fitA_no {many : Nat} {a : Bs × Bs} {r : List (Bs × Bs)} (h : 100 < a.1.length ∨ 300 < a.2.length) : fitA many (a :: r) = none := by rw [fitA, if_pos h]
theorem fitA_on {many : Nat} {a : Bs × Bs} {r : List (Bs × Bs)} (h1 : ¬ 100 < a.1.length) (h2 : ¬ 300 < a.2.length) : fitA many (a :: r) = fitA (many + a.1.length + a.2.length) r := by rw [fitA, if_neg (by rintro (h | h) <;> contradiction)]
theorem fitL_no {many : Nat} {f : Fl} {r : List Fl} (h : 100 < f.name.length ∨ 20 < f.attrs.length) : fitL many (f :: r) = false := by rw [fitL, if_pos h]
theorem fitL_a {many : Nat} {f : Fl} {r : List Fl} (h : fitA (many + f.name.length) f.attrs = none) : fitL many (f :: r) = false := by
  rw [fitL, h]
  split <;> rfl
theorem fitL_m {many m : Nat} {f : Fl} {r : List Fl} (h : fitA (many + f.name.length) f.attrs = some m) (hm : 4000 < m) : fitL many (f :: r) = false := by
  rw [fitL, h]
  split
  · rfl
  · simp [hm]
theorem fitL_on {many m : Nat} {f : Fl} {r : List Fl} (h1 : ¬ 100 < f.name.length) (h2 : ¬ 20 < f.attrs.length) (h : fitA (many + f.name.length) f.attrs = some m) (hm : ¬ 4000 < m) : fitL many (f :: r) = fitL m r := by
  rw [fitL, h, if_neg (by rintro (h | h) <;> contradiction)]
  simp [hm]
/-- What FlatsOf hands back, and when. -/
def FlF (W : World) (n : Nd) (v : Value) (w : World) : Prop := (¬ Fit n ∧ v = .slice none 0 0) ∨ (Fit n ∧ ∃ M g cap, v = .slice (some ⟨g, 0, none⟩) M.length cap ∧ 0 < M.length ∧ M.length ≤ 150 ∧ M.length ≤ cap ∧ RowF w g M ∧ FlRs W M (flN 0 (-1) 1 n))

set_option maxRecDepth 20000 in
set_option maxHeartbeats 8000000 in
theorem FlatsOf_fit (n : Nd) (c0 c1 c2 : Value) (W : World) (hn : NdC W c0 c1 c2 n) :
    Calls Tryd.prog 8 #[.agg #[c0, c1, c2]] W fun e w' => Below W.heap.size W w' ∧ ∃ v, e = .returned v ∧ FlF W n v w' := by
  have HF := flats_big W n
  unfold FlC2 at HF
  have hn' := hn
  obtain ⟨nm, ats, ks⟩ := n
  unfold NdC at hn'
  obtain ⟨rfl, -, ⟨o1, cap1, rfl, -⟩, ok, capk, rfl, -⟩ := hn'
  generalize hN : Nd.mk nm ats ks = n at hn HF ⊢
  clear hN
  unfold strV at *
  have b1 := mal W (.cells #[.string ⟨nm.toArray⟩, .slice o1 ats.length cap1, .slice ok ks.length capk] 25)
  have n0 := mnew W #[.string ⟨nm.toArray⟩, .slice o1 ats.length cap1, .slice ok ks.length capk] 25 0 (.string ⟨nm.toArray⟩) rfl
  have n1 := mnew W #[.string ⟨nm.toArray⟩, .slice o1 ats.length cap1, .slice ok ks.length capk] 25 1 (.slice o1 ats.length cap1) rfl
  have n2 := mnew W #[.string ⟨nm.toArray⟩, .slice o1 ats.length cap1, .slice ok ks.length capk] 25 2 (.slice ok ks.length capk) rfl
  have HC := HF _ _ _ [] (.slice none 0 0) (-1) 1 _ hn b1 (World.ownsRow_nil _ _ _ _) (by decide) (by decide)
  clear HF
  go_enter Tryd.func8, Tryd.ntmps8
  go_upto_region 3 with (go_at_call 26; refine HC.mono ?_; rintro e w1 ⟨v1, m1, cs1, rfl, ho1, hm1, hk1, hr1⟩; obtain ⟨o2, cap2, rfl⟩ := own_slice ho1)
  have hm1' : (m1 : Int) ≤ 151 := by omega
  have bw := b1.trans hk1.low
  by_cases hbig : 150 < m1
  · have hbig' : 150 < (m1 : Int) := by omega
    have HNF : Hid (¬ Fit n) := (fun hfit => by
      rcases hr1 with ⟨-, h | h⟩ | ⟨M, rfl, -, h, -⟩
      · have := hfit.1; simp at h; omega
      · exact h hfit.2.1
      · have := hfit.1; have := h.len; simp at *; omega : ¬ Fit n)
    go_wp2_with fail
    go_ret
    exact ⟨bw, _, rfl, .inl ⟨HNF.out, rfl⟩⟩
  · have hbig' : (m1 : Int) ≤ 150 := by omega
    rcases hr1 with h | ⟨M, rfl, rfl, hR, hsh⟩
    · exact absurd h.1 hbig
    simp only [List.nil_append, List.length_nil] at ho1 hR hbig' ⊢
    have hp : 0 < M.length := by
      rw [hR.len]
      obtain ⟨f, r, e, -⟩ := flN_head 0 (-1) 1 n
      rw [e]; simp
    obtain ⟨g, cap, hv, hg, hcap, hrow⟩ := row_of ho1 hp
    simp only [Value.slice.injEq, true_and] at hv
    obtain ⟨rfl, rfl⟩ := hv
    have HROW : Hid (RowF w1 g M) := hrow
    have HR : Hid (FlRs W M (flN 0 (-1) 1 n)) := hR
    have HSH : Hid (sh 1 n) := hsh
    clear hsh
    have hcap' : (M.length : Int) ≤ (cap2 : Int) := by omega
    clear hrow hR ho1 HC n0 n1 n2 b1 hk1 hm1 hm1'
    go_wp2_with fail
    go_loopw [4, 5] (fun x y wr => ∃ many i : Nat, x = .int .i64 many ∧ y = .int .i64 i ∧ many ≤ 4000 ∧ i ≤ M.length ∧ fitL 0 (flN 0 (-1) 1 n) = fitL many ((flN 0 (-1) 1 n).drop i) ∧ Below w1.heap.size w1 wr) (fun _ y _ => M.length - (intOf y).toNat)
    case atStart => exact ⟨0, 0, rfl, rfl, by decide, Nat.zero_le _, rfl, Below.refl _ _⟩
    case round =>
      obtain ⟨many, i, rfl, rfl, hmy, hi, hfl, hbr⟩ := hrel
      have HFL : Hid (fitL 0 (flN 0 (-1) 1 n) = fitL many ((flN 0 (-1) 1 n).drop i)) := hfl
      clear hfl
      have bW : Below W.heap.size W wr := bw.trans (hbr.mono bw.size)
      have hmy' : (many : Int) ≤ 4000 := by omega
      by_cases hlt : i < M.length
      · have hlt' : (i : Int) < (M.length : Int) := by omega
        obtain ⟨x, hx, -⟩ := drop_at hlt
        obtain ⟨r0, r1, -, -⟩ := HROW.out i x hx
        obtain ⟨f, hLf, hfn, hfa, -⟩ := HR.out.get hx
        have hdr : (flN 0 (-1) 1 n).drop i = f :: (flN 0 (-1) 1 n).drop (i + 1) := by
          obtain ⟨y, hy, hd⟩ := drop_at (l := flN 0 (-1) 1 n) (k := i) (by rw [← HR.out.len]; exact hlt)
          rw [hLf] at hy
          cases hy
          exact hd
        have HDR : Hid ((flN 0 (-1) 1 n).drop i = f :: (flN 0 (-1) 1 n).drop (i + 1)) := hdr
        have HFN : Hid (x.nm = f.name) := hfn
        have HNO : Hid (fitL many ((flN 0 (-1) 1 n).drop i) = false → ¬ Fit n) := (fun h hfit => by have := hfit.2.2; rw [HFL.out, h] at this; exact absurd this (by simp) : fitL many ((flN 0 (-1) 1 n).drop i) = false → ¬ Fit n)
        clear hdr hLf hfn
        have q0 := (hbr.cell (cell_lt3 r0)).trans r0
        have q1 := (hbr.cell (cell_lt3 r1)).trans r1
        obtain ⟨oa, capa, hxc, ha1, ha2, -, ha4⟩ := hfa
        rw [hxc] at q1
        have HA4 : Hid (AtsAt W oa f.attrs) := ha4
        clear r0 r1 hx hxc ha4
        have hla : (f.attrs.length : Int) ≤ 9223372036854775807 := by rw [maxLen_eq] at ha2; omega
        by_cases g1 : 100 < x.nm.length
        · have g1' : 100 < (x.nm.length : Int) := by omega
          have HNF : Hid (¬ Fit n) := HNO.out (by rw [HDR.out]; exact fitL_no (.inl (by rw [← HFN.out]; exact g1)))
          go_wp2_with fail
          go_ret
          exact ⟨bW, _, rfl, .inl ⟨HNF.out, rfl⟩⟩
        · have g1' : (x.nm.length : Int) ≤ 100 := by omega
          by_cases g2 : 20 < f.attrs.length
          · have g2' : 20 < (f.attrs.length : Int) := by omega
            have HNF : Hid (¬ Fit n) := HNO.out (by rw [HDR.out]; exact fitL_no (.inr g2))
            go_wp2_with fail
            go_ret
            exact ⟨bW, _, rfl, .inl ⟨HNF.out, rfl⟩⟩
          · have g2' : (f.attrs.length : Int) ≤ 20 := by omega
            go_wp2_with fail
            obtain ⟨wa, rfl⟩ : ∃ V, V = wr := ⟨_, rfl⟩
            go_loopw [4, 6] (fun x' y wq => ∃ my k : Nat, x' = .int .i64 my ∧ y = .int .i64 k ∧ my ≤ 4100 + 400 * k ∧ k ≤ f.attrs.length ∧ fitA (many + x.nm.length) f.attrs = fitA my (f.attrs.drop k) ∧ Below wa.heap.size wa wq) (fun _ y _ => f.attrs.length - (intOf y).toNat)
            case atStart => exact ⟨many + x.nm.length, 0, by go_num, rfl, by omega, Nat.zero_le _, rfl, Below.refl _ _⟩
            case round =>
              obtain ⟨my, k, rfl, rfl, hm2, hk2, hfa2, hbq⟩ := hrel
              have HFA : Hid (fitA (many + x.nm.length) f.attrs = fitA my (f.attrs.drop k)) := hfa2
              clear hfa2
              have bQ : Below W.heap.size W wr := bW.trans (hbq.mono bW.size)
              have p1 := (hbq.cell (cell_lt3 q1)).trans q1
              have hm2' : (my : Int) ≤ 20000 := by omega
              by_cases hlk : k < f.attrs.length
              · have hlk' : (k : Int) < (f.attrs.length : Int) := by omega
                obtain ⟨a, hxa, hda⟩ := drop_at hlk
                have HDA : Hid (f.attrs.drop k = a :: f.attrs.drop (k + 1)) := hda
                have HNA : Hid (fitA my (f.attrs.drop k) = none → ¬ Fit n) := (fun h => HNO.out (by rw [HDR.out]; exact fitL_a (by rw [← HFN.out, HFA.out]; exact h)) : fitA my (f.attrs.drop k) = none → ¬ Fit n)
                clear hda
                obtain ⟨b', off', rfl, d0, d1, -, -⟩ := HA4.out k a hxa
                have j0 := (bQ.cell (cell_lt3 d0)).trans d0
                have j1 := (bQ.cell (cell_lt3 d1)).trans d1
                unfold strV at j0 j1
                clear d0 d1 hxa
                by_cases g3 : 100 < a.1.length
                · have g3' : 100 < (a.1.length : Int) := by omega
                  have HNF : Hid (¬ Fit n) := HNA.out (by rw [HDA.out]; exact fitA_no (.inl g3))
                  go_wp2_with fail
                  go_ret
                  exact ⟨bQ, _, rfl, .inl ⟨HNF.out, rfl⟩⟩
                · have g3' : (a.1.length : Int) ≤ 100 := by omega
                  by_cases g4 : 300 < a.2.length
                  · have g4' : 300 < (a.2.length : Int) := by omega
                    have HNF : Hid (¬ Fit n) := HNA.out (by rw [HDA.out]; exact fitA_no (.inr g4))
                    go_wp2_with fail
                    go_ret
                    exact ⟨bQ, _, rfl, .inl ⟨HNF.out, rfl⟩⟩
                  · have g4' : (a.2.length : Int) ≤ 300 := by omega
                    have HFA2 : Hid (fitA (many + x.nm.length) f.attrs = fitA (my + a.1.length + a.2.length) (f.attrs.drop (k + 1))) := (by rw [HFA.out, HDA.out]; exact fitA_on g3 g4 : fitA (many + x.nm.length) f.attrs = fitA (my + a.1.length + a.2.length) (f.attrs.drop (k + 1)))
                    go_upto_region 17 with fail
                    go_quiet (fail)
                    go_wp2_with fail
                    go_roundw
                    case rel => exact ⟨my + a.1.length + a.2.length, k + 1, by go_num, by go_num, by omega, by omega, HFA2.out, mdrew _ hbq⟩
                    case measure => simp [intOf]; omega
              · obtain rfl : k = f.attrs.length := by omega
                have HFE : Hid (fitA (many + f.name.length) f.attrs = some my) := (by rw [← HFN.out, HFA.out, List.drop_length]; rfl : fitA (many + f.name.length) f.attrs = some my)
                by_cases g5 : 4000 < my
                · have g5' : 4000 < (my : Int) := by omega
                  have HNF : Hid (¬ Fit n) := HNO.out (by rw [HDR.out]; exact fitL_m HFE.out g5)
                  go_wp2_with fail
                  go_ret
                  exact ⟨bQ, _, rfl, .inl ⟨HNF.out, rfl⟩⟩
                · have g5' : (my : Int) ≤ 4000 := by omega
                  have HFN2 : Hid (fitL 0 (flN 0 (-1) 1 n) = fitL my ((flN 0 (-1) 1 n).drop (i + 1))) := (by rw [HFL.out, HDR.out]; exact fitL_on (by rw [← HFN.out]; exact g1) g2 HFE.out g5 : fitL 0 (flN 0 (-1) 1 n) = fitL my ((flN 0 (-1) 1 n).drop (i + 1)))
                  go_wp2_with fail
                  go_roundw
                  case rel => exact ⟨my, i + 1, rfl, by go_num, by omega, by omega, HFN2.out, hbr.trans (hbq.mono hbr.size)⟩
                  case measure => simp [intOf]; omega
      · obtain rfl : i = M.length := by omega
        go_wp2_with fail
        go_ret
        exact ⟨bW, _, rfl, .inr ⟨⟨by rw [← HR.out.len]; omega, HSH.out, by rw [HFL.out, HR.out.len, List.drop_length]; rfl⟩, M, g, cap2, rfl, hp, by omega, hcap, HROW.out.below hbr, HR.out⟩⟩

end Go.Proofs.YtmlajdhkkcmjnacDoor

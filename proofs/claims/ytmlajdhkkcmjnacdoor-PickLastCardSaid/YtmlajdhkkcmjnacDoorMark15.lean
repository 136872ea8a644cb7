/-
  The flat list of a node, as the law takes it: a row in memory, or nothing.
-/
import Derived.Test.YtmlajdhkkcmjnacDoorMark14
namespace Go.Proofs.YtmlajdhkkcmjnacDoor
open Go.RowKit

theorem cellsF_len : ∀ M : List FlM, (cellsF M).length = M.length * 4
  | [] => rfl
  | x :: r => by simp [cellsF, FlM.cells, cellsF_len r]; omega
theorem cellsF_get : ∀ (M : List FlM) (i : Nat) (x : FlM), M[i]? = some x → ∀ q u, x.cells[q]? = some u → (cellsF M)[i * 4 + q]? = some u
  | [], i, x, h, _, _, _ => by simp at h
  | y :: r, 0, x, h, q, u, hu => by
    simp at h
    subst h
    have hq : q < 4 := by
      rcases Nat.lt_or_ge q 4 with h | h
      · exact h
      · rw [List.getElem?_eq_none (by simp [FlM.cells]; omega)] at hu; cases hu
    rw [cellsF, Nat.zero_mul, Nat.zero_add, List.getElem?_append_left (by simp [FlM.cells]; omega)]
    exact hu
  | y :: r, i + 1, x, h, q, u, hu => by
    have := cellsF_get r i x (by simpa using h) q u hu
    rw [cellsF, List.getElem?_append_right (by simp [FlM.cells]; omega)]
    rw [show (i + 1) * 4 + q - y.cells.length = i * 4 + q from by simp [FlM.cells]; omega]
    exact this
/-- A row of flats in memory. -/
def RowF (w : World) (g : Nat) (M : List FlM) : Prop := ∀ i x, M[i]? = some x → w.cell? ⟨g, i * 4, none⟩ = some (.string ⟨x.nm.toArray⟩) ∧ w.cell? ⟨g, i * 4 + 1, none⟩ = some x.c ∧ w.cell? ⟨g, i * 4 + 2, none⟩ = some (.int .i64 x.parent) ∧ w.cell? ⟨g, i * 4 + 3, none⟩ = some (.int .i64 x.deep)
theorem row_of {w : World} {B : Nat} {v : Value} {M : List FlM} (h : w.ownsRow B 50 4 v M.length (cellsF M)) (hp : 0 < M.length) : ∃ g cap, v = .slice (some ⟨g, 0, none⟩) M.length cap ∧ B ≤ g ∧ M.length ≤ cap ∧ RowF w g M := by
  obtain ⟨h1, h2⟩ := h
  rcases h2 with ⟨_, h2⟩ | ⟨g, cap, cur, h3, h4, h5, h6, h7, h8, h9⟩
  · omega
  · have get : ∀ j u, (cellsF M)[j]? = some u → w.cell? ⟨g, j, none⟩ = some u := fun j u hj => by
      rw [← h9, List.getElem?_take] at hj
      split at hj
      · unfold World.cell?
        rw [h5]
        simpa using hj
      · cases hj
    refine ⟨g, cap, h3, h4, by first | exact h6 | omega, fun i x hx => ⟨?_, ?_, ?_, ?_⟩⟩
    · exact get _ _ (cellsF_get M i x hx 0 _ rfl)
    · exact get _ _ (cellsF_get M i x hx 1 _ rfl)
    · exact get _ _ (cellsF_get M i x hx 2 _ rfl)
    · exact get _ _ (cellsF_get M i x hx 3 _ rfl)
theorem RowF.below {w w' : World} {g : Nat} {M : List FlM} (h : RowF w g M) (hb : Below w.heap.size w w') : RowF w' g M := fun i x hx => by
  obtain ⟨h1, h2, h3, h4⟩ := h i x hx
  exact ⟨(hb.cell (cell_lt3 h1)).trans h1, (hb.cell (cell_lt3 h2)).trans h2, (hb.cell (cell_lt3 h3)).trans h3, (hb.cell (cell_lt3 h4)).trans h4⟩
theorem FlRs.get {W0 : World} : ∀ {a : List FlM} {f : List Fl} {i : Nat} {x : FlM}, FlRs W0 a f → a[i]? = some x → ∃ y, f[i]? = some y ∧ FlR W0 x y
  | [], _, _, _, _, h => by simp at h
  | _ :: r, [], _, _, h, _ => h.elim
  | z :: r, y :: q, 0, x, h, hx => by simp at hx; subst hx; exact ⟨y, rfl, h.1⟩
  | z :: r, y :: q, i + 1, x, h, hx => by
    obtain ⟨y', h1, h2⟩ := FlRs.get (a := r) (f := q) (i := i) h.2 (by simpa using hx)
    exact ⟨y', by simpa using h1, h2⟩

/-- What FlatsOf hands back. -/
def FlO (W : World) (n : Nd) (v : Value) (w : World) : Prop := v = .slice none 0 0 ∨ ∃ M g cap, v = .slice (some ⟨g, 0, none⟩) M.length cap ∧ 0 < M.length ∧ M.length ≤ 150 ∧ M.length ≤ cap ∧ RowF w g M ∧ FlRs W M (flN 0 (-1) 1 n)

set_option maxRecDepth 20000 in
set_option maxHeartbeats 8000000 in
theorem FlatsOf_any (n : Nd) (c0 c1 c2 : Value) (W : World) (hn : NdC W c0 c1 c2 n) :
    Calls Tryd.prog 8 #[.agg #[c0, c1, c2]] W fun e w' => Below W.heap.size W w' ∧ ∃ v, e = .returned v ∧ FlO W n v w' := by
  have HF := flats_any W n
  unfold FlC at HF
  have hn' := hn
  obtain ⟨nm, ats, ks⟩ := n
  unfold NdC at hn'
  obtain ⟨rfl, -, ⟨o1, cap1, rfl, -⟩, ok, capk, rfl, -⟩ := hn'
  generalize hN : Nd.mk nm ats ks = n at hn HF ⊢
  clear hN
  unfold strV at *
  have b1 := mal W (.cells #[.string ⟨nm.toArray⟩, .slice o1 ats.length cap1, .slice ok ks.length capk] 25)
  have n0 := mnew W #[.string ⟨nm.toArray⟩, .slice o1 ats.length cap1, .slice ok ks.length capk] 25 0 (.string ⟨nm.toArray⟩) rfl
  have n1 := mnew W #[.string ⟨nm.toArray⟩, .slice o1 ats.length cap1, .slice ok ks.length capk] 25 1 (.slice o1 ats.length cap1) rfl
  have n2 := mnew W #[.string ⟨nm.toArray⟩, .slice o1 ats.length cap1, .slice ok ks.length capk] 25 2 (.slice ok ks.length capk) rfl
  have HC := HF _ _ _ [] (.slice none 0 0) (-1) 1 _ hn b1 (World.ownsRow_nil _ _ _ _) (by decide) (by decide)
  clear HF
  go_enter Tryd.func8, Tryd.ntmps8
  go_upto_region 3 with (go_at_call 26; refine HC.mono ?_; rintro e w1 ⟨v1, m1, cs1, rfl, ho1, hm1, hk1, hr1⟩; obtain ⟨o2, cap2, rfl⟩ := own_slice ho1)
  have hm1' : (m1 : Int) ≤ 151 := by omega
  have bw := b1.trans hk1.low
  by_cases hbig : 150 < m1
  · have hbig' : 150 < (m1 : Int) := by omega
    go_wp2_with fail
    go_ret
    exact ⟨bw, _, rfl, .inl rfl⟩
  · have hbig' : (m1 : Int) ≤ 150 := by omega
    rcases hr1 with h | ⟨M, rfl, rfl, hR⟩
    · exact absurd h hbig
    simp only [List.nil_append, List.length_nil] at ho1 hR hbig' ⊢
    have hp : 0 < M.length := by
      rw [hR.len]
      obtain ⟨f, r, e, -⟩ := flN_head 0 (-1) 1 n
      rw [e]; simp
    obtain ⟨g, cap, hv, hg, hcap, hrow⟩ := row_of ho1 hp
    simp only [Value.slice.injEq, true_and] at hv
    obtain ⟨rfl, rfl⟩ := hv
    have HROW : Hid (RowF w1 g M) := hrow
    have HR : Hid (FlRs W M (flN 0 (-1) 1 n)) := hR
    have hcap' : (M.length : Int) ≤ (cap2 : Int) := by omega
    clear hrow hR ho1 HC n0 n1 n2 b1 hk1 hm1 hm1'
    go_wp2_with fail
    go_loopw [4, 5] (fun x y wr => ∃ many i : Nat, x = .int .i64 many ∧ y = .int .i64 i ∧ many ≤ 4000 ∧ i ≤ M.length ∧ Below w1.heap.size w1 wr) (fun _ y _ => M.length - (intOf y).toNat)
    case atStart => exact ⟨0, 0, rfl, rfl, by decide, Nat.zero_le _, Below.refl _ _⟩
    case round =>
      obtain ⟨many, i, rfl, rfl, hmy, hi, hbr⟩ := hrel
      have bW : Below W.heap.size W wr := bw.trans (hbr.mono bw.size)
      have hmy' : (many : Int) ≤ 4000 := by omega
      by_cases hlt : i < M.length
      · have hlt' : (i : Int) < (M.length : Int) := by omega
        obtain ⟨x, hx, -⟩ := drop_at hlt
        obtain ⟨r0, r1, -, -⟩ := HROW.out i x hx
        obtain ⟨f, -, -, hfa, -⟩ := HR.out.get hx
        have q0 := (hbr.cell (cell_lt3 r0)).trans r0
        have q1 := (hbr.cell (cell_lt3 r1)).trans r1
        obtain ⟨oa, capa, hxc, ha1, ha2, -, ha4⟩ := hfa
        rw [hxc] at q1
        have HA4 : Hid (AtsAt W oa f.attrs) := ha4
        clear r0 r1 hx hxc ha4
        have hla : (f.attrs.length : Int) ≤ 9223372036854775807 := by rw [maxLen_eq] at ha2; omega
        by_cases g1 : 100 < x.nm.length
        · have g1' : 100 < (x.nm.length : Int) := by omega
          go_wp2_with fail
          go_ret
          exact ⟨bW, _, rfl, .inl rfl⟩
        · have g1' : (x.nm.length : Int) ≤ 100 := by omega
          by_cases g2 : 20 < f.attrs.length
          · have g2' : 20 < (f.attrs.length : Int) := by omega
            go_wp2_with fail
            go_ret
            exact ⟨bW, _, rfl, .inl rfl⟩
          · have g2' : (f.attrs.length : Int) ≤ 20 := by omega
            go_wp2_with fail
            obtain ⟨wa, rfl⟩ : ∃ V, V = wr := ⟨_, rfl⟩
            go_loopw [4, 6] (fun x' y wq => ∃ my k : Nat, x' = .int .i64 my ∧ y = .int .i64 k ∧ my ≤ 4100 + 400 * k ∧ k ≤ f.attrs.length ∧ Below wa.heap.size wa wq) (fun _ y _ => f.attrs.length - (intOf y).toNat)
            case atStart => exact ⟨many + x.nm.length, 0, by go_num, rfl, by omega, Nat.zero_le _, Below.refl _ _⟩
            case round =>
              obtain ⟨my, k, rfl, rfl, hm2, hk2, hbq⟩ := hrel
              have bQ : Below W.heap.size W wr := bW.trans (hbq.mono bW.size)
              have p1 := (hbq.cell (cell_lt3 q1)).trans q1
              have hm2' : (my : Int) ≤ 20000 := by omega
              by_cases hlk : k < f.attrs.length
              · have hlk' : (k : Int) < (f.attrs.length : Int) := by omega
                obtain ⟨a, hxa, -⟩ := drop_at hlk
                obtain ⟨b', off', rfl, d0, d1, -, -⟩ := HA4.out k a hxa
                have j0 := (bQ.cell (cell_lt3 d0)).trans d0
                have j1 := (bQ.cell (cell_lt3 d1)).trans d1
                unfold strV at j0 j1
                clear d0 d1 hxa
                by_cases g3 : 100 < a.1.length
                · have g3' : 100 < (a.1.length : Int) := by omega
                  go_wp2_with fail
                  go_ret
                  exact ⟨bQ, _, rfl, .inl rfl⟩
                · have g3' : (a.1.length : Int) ≤ 100 := by omega
                  by_cases g4 : 300 < a.2.length
                  · have g4' : 300 < (a.2.length : Int) := by omega
                    go_wp2_with fail
                    go_ret
                    exact ⟨bQ, _, rfl, .inl rfl⟩
                  · have g4' : (a.2.length : Int) ≤ 300 := by omega
                    go_upto_region 17 with fail
                    go_quiet (fail)
                    go_wp2_with fail
                    go_roundw
                    case rel => exact ⟨my + a.1.length + a.2.length, k + 1, by go_num, by go_num, by omega, by omega, mdrew _ hbq⟩
                    case measure => simp [intOf]; omega
              · obtain rfl : k = f.attrs.length := by omega
                by_cases g5 : 4000 < my
                · have g5' : 4000 < (my : Int) := by omega
                  go_wp2_with fail
                  go_ret
                  exact ⟨bQ, _, rfl, .inl rfl⟩
                · have g5' : (my : Int) ≤ 4000 := by omega
                  go_wp2_with fail
                  go_roundw
                  case rel => exact ⟨my, i + 1, rfl, by go_num, by omega, by omega, hbr.trans (hbq.mono hbr.size)⟩
                  case measure => simp [intOf]; omega
      · obtain rfl : i = M.length := by omega
        go_wp2_with fail
        go_ret
        exact ⟨bW, _, rfl, .inr ⟨M, g, cap2, rfl, hp, by omega, hcap, HROW.out.below hbr, HR.out⟩⟩

end Go.Proofs.YtmlajdhkkcmjnacDoor

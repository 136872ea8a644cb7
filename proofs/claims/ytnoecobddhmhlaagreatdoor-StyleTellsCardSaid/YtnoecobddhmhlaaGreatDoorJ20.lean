/-
  The flat list of a node, as the law takes it: a row in memory, or nothing.
-/
import Derived.Test.YtnoecobddhmhlaaGreatDoorMark14
import Derived.Test.YtnoecobddhmhlaaGreatDoorJ19
import Derived.Test.YtnoecobddhmhlaaGreatDoorJ14
namespace Go.Proofs.YtnoecobddhmhlaaGreatDoor
open Go.RowKit

theorem cellsF_len : ∀ M : List FlM, (cellsF M).length = M.length * 4
  | [] => rfl
  | x :: r => by simp [cellsF, FlM.cells, cellsF_len r]; omega
theorem cellsF_get : ∀ (M : List FlM) (i : Nat) (x : FlM), M[i]? = some x → ∀ q u, x.cells[q]? = some u → (cellsF M)[i * 4 + q]? = some u
  | [], i, x, h, _, _, _ => by simp at h
  | y :: r, 0, x, h, q, u, hu => by
    simp at h
    subst h
    have hq : q < 4 := by
      rcases Nat.lt_or_ge q 4 with h | h
      · exact h
      · rw [List.getElem?_eq_none (by simp [FlM.cells]; omega)] at hu; cases hu
    rw [cellsF, Nat.zero_mul, Nat.zero_add, List.getElem?_append_left (by simp [FlM.cells]; omega)]
    exact hu
  | y :: r, i + 1, x, h, q, u, hu => by
    have := cellsF_get r i x (by simpa using h) q u hu
    rw [cellsF, List.getElem?_append_right (by simp [FlM.cells]; omega)]
    rw [show (i + 1) * 4 + q - y.cells.length = i * 4 + q from by simp [FlM.cells]; omega]
    exact this
/-- A row of flats in memory. -/
def RowF (w : World) (g : Nat) (M : List FlM) : Prop := ∀ i x, M[i]? = some x → w.cell? ⟨g, i * 4, none⟩ = some (.string ⟨x.nm.toArray⟩) ∧ w.cell? ⟨g, i * 4 + 1, none⟩ = some x.c ∧ w.cell? ⟨g, i * 4 + 2, none⟩ = some (.int .i64 x.parent) ∧ w.cell? ⟨g, i * 4 + 3, none⟩ = some (.int .i64 x.deep)
theorem row_of {w : World} {B : Nat} {v : Value} {M : List FlM} (h : w.ownsRow B 98 4 v M.length (cellsF M)) (hp : 0 < M.length) : ∃ g cap, v = .slice (some ⟨g, 0, none⟩) M.length cap ∧ B ≤ g ∧ M.length ≤ cap ∧ RowF w g M := by
  obtain ⟨h1, h2⟩ := h
  rcases h2 with ⟨_, h2⟩ | ⟨g, cap, cur, h3, h4, h5, h6, h7, h8, h9⟩
  · omega
  · have get : ∀ j u, (cellsF M)[j]? = some u → w.cell? ⟨g, j, none⟩ = some u := fun j u hj => by
      rw [← h9, List.getElem?_take] at hj
      split at hj
      · unfold World.cell?
        rw [h5]
        simpa using hj
      · cases hj
    refine ⟨g, cap, h3, h4, by first | exact h6 | omega, fun i x hx => ⟨?_, ?_, ?_, ?_⟩⟩
    · exact get _ _ (cellsF_get M i x hx 0 _ rfl)
    · exact get _ _ (cellsF_get M i x hx 1 _ rfl)
    · exact get _ _ (cellsF_get M i x hx 2 _ rfl)
    · exact get _ _ (cellsF_get M i x hx 3 _ rfl)
theorem RowF.below {w w' : World} {g : Nat} {M : List FlM} (h : RowF w g M) (hb : Below w.heap.size w w') : RowF w' g M := fun i x hx => by
  obtain ⟨h1, h2, h3, h4⟩ := h i x hx
  exact ⟨(hb.cell (cell_lt3 h1)).trans h1, (hb.cell (cell_lt3 h2)).trans h2, (hb.cell (cell_lt3 h3)).trans h3, (hb.cell (cell_lt3 h4)).trans h4⟩
theorem FlRs.get {W0 : World} : ∀ {a : List FlM} {f : List Fl} {i : Nat} {x : FlM}, FlRs W0 a f → a[i]? = some x → ∃ y, f[i]? = some y ∧ FlR W0 x y
  | [], _, _, _, _, h => by simp at h
  | _ :: r, [], _, _, h, _ => h.elim
  | z :: r, y :: q, 0, x, h, hx => by simp at hx; subst hx; exact ⟨y, rfl, h.1⟩
  | z :: r, y :: q, i + 1, x, h, hx => by
    obtain ⟨y', h1, h2⟩ := FlRs.get (a := r) (f := q) (i := i) h.2 (by simpa using hx)
    exact ⟨y', by simpa using h1, h2⟩

/-- What FlatsOf hands back. -/
def FlO (W : World) (n : Nd) (v : Value) (w : World) : Prop := v = .slice none 0 0 ∨ ∃ M g cap, v = .slice (some ⟨g, 0, none⟩) M.length cap ∧ 0 < M.length ∧ M.length ≤ 150 ∧ M.length ≤ cap ∧ RowF w g M ∧ FlRs W M (flN 0 (-1) 1 n)

set_option maxRecDepth 20000 in
set_option maxHeartbeats 8000000 in
theorem FlatsOf_any (n : Nd) (c0 c1 c2 : Value) (W : World) (hn : NdC W c0 c1 c2 n) :
    Calls Tryz.prog 7 #[.agg #[c0, c1, c2]] W fun e w' => Below W.heap.size W w' ∧ ∃ v, e = .returned v ∧ FlO W n v w' := by
  have HF := flats_any W n
  unfold FlC at HF
  have hn' := hn
  obtain ⟨nm, ats, ks⟩ := n
  unfold NdC at hn'
  obtain ⟨rfl, -, ⟨o1, cap1, rfl, -⟩, ok, capk, rfl, -⟩ := hn'
  generalize hN : Nd.mk nm ats ks = n at hn HF ⊢
  clear hN
  unfold strV at *
  have b1 := mal W (.cells #[.string ⟨nm.toArray⟩, .slice o1 ats.length cap1, .slice ok ks.length capk] 25)
  have n0 := mnew W #[.string ⟨nm.toArray⟩, .slice o1 ats.length cap1, .slice ok ks.length capk] 25 0 (.string ⟨nm.toArray⟩) rfl
  have n1 := mnew W #[.string ⟨nm.toArray⟩, .slice o1 ats.length cap1, .slice ok ks.length capk] 25 1 (.slice o1 ats.length cap1) rfl
  have n2 := mnew W #[.string ⟨nm.toArray⟩, .slice o1 ats.length cap1, .slice ok ks.length capk] 25 2 (.slice ok ks.length capk) rfl
  have HC := HF _ _ _ [] (.slice none 0 0) (-1) 1 _ hn b1 (World.ownsRow_nil _ _ _ _) (by decide) (by decide)
  clear HF
  go_enter Tryz.func7, Tryz.ntmps7
  go_upto_region 3 with (go_at_call 47; refine HC.mono ?_; rintro e w1 ⟨v1, m1, cs1, rfl, ho1, hm1, hk1, hr1⟩; obtain ⟨o2, cap2, rfl⟩ := own_slice ho1)
  have hm1' : (m1 : Int) ≤ 151 := by omega
  have bw := b1.trans hk1.low
  by_cases hbig : 150 < m1
  · have hbig' : 150 < (m1 : Int) := by omega
    go_wp2_with fail
    go_ret
    exact ⟨bw, _, rfl, .inl rfl⟩
  · have hbig' : (m1 : Int) ≤ 150 := by omega
    rcases hr1 with h | ⟨M, rfl, rfl, hR⟩
    · exact absurd h hbig
    simp only [List.nil_append, List.length_nil] at ho1 hR hbig' ⊢
    have hp : 0 < M.length := by
      rw [hR.len]
      obtain ⟨f, r, e, -⟩ := flN_head 0 (-1) 1 n
      rw [e]; simp
    obtain ⟨g, cap, hv, hg, hcap, hrow⟩ := row_of ho1 hp
    simp only [Value.slice.injEq, true_and] at hv
    obtain ⟨rfl, rfl⟩ := hv
    have HROW : Hid (RowF w1 g M) := hrow
    have HR : Hid (FlRs W M (flN 0 (-1) 1 n)) := hR
    have hcap' : (M.length : Int) ≤ (cap2 : Int) := by omega
    clear hrow hR ho1 HC n0 n1 n2 b1 hk1 hm1 hm1'
    go_wp2_with fail
    go_loopw [4, 5] (fun x y wr => ∃ many i : Nat, x = .int .i64 many ∧ y = .int .i64 i ∧ many ≤ 4000 ∧ i ≤ M.length ∧ Below w1.heap.size w1 wr) (fun _ y _ => M.length - (intOf y).toNat)
    case atStart => exact ⟨0, 0, rfl, rfl, by decide, Nat.zero_le _, Below.refl _ _⟩
    case round =>
      obtain ⟨many, i, rfl, rfl, hmy, hi, hbr⟩ := hrel
      have bW : Below W.heap.size W wr := bw.trans (hbr.mono bw.size)
      have hmy' : (many : Int) ≤ 4000 := by omega
      by_cases hlt : i < M.length
      · have hlt' : (i : Int) < (M.length : Int) := by omega
        obtain ⟨x, hx, -⟩ := drop_at hlt
        obtain ⟨r0, r1, -, -⟩ := HROW.out i x hx
        obtain ⟨f, -, -, hfa, -⟩ := HR.out.get hx
        have q0 := (hbr.cell (cell_lt3 r0)).trans r0
        have q1 := (hbr.cell (cell_lt3 r1)).trans r1
        obtain ⟨oa, capa, hxc, ha1, ha2, -, ha4⟩ := hfa
        rw [hxc] at q1
        have HA4 : Hid (AtsAt W oa f.attrs) := ha4
        clear r0 r1 hx hxc ha4
        have hla : (f.attrs.length : Int) ≤ 9223372036854775807 := by rw [maxLen_eq] at ha2; omega
        by_cases g1 : 100 < x.nm.length
        · have g1' : 100 < (x.nm.length : Int) := by omega
          go_wp2_with fail
          go_ret
          exact ⟨bW, _, rfl, .inl rfl⟩
        · have g1' : (x.nm.length : Int) ≤ 100 := by omega
          by_cases g2 : 20 < f.attrs.length
          · have g2' : 20 < (f.attrs.length : Int) := by omega
            go_wp2_with fail
            go_ret
            exact ⟨bW, _, rfl, .inl rfl⟩
          · have g2' : (f.attrs.length : Int) ≤ 20 := by omega
            go_wp2_with fail
            obtain ⟨wa, rfl⟩ : ∃ V, V = wr := ⟨_, rfl⟩
            go_loopw [4, 6] (fun x' y wq => ∃ my k : Nat, x' = .int .i64 my ∧ y = .int .i64 k ∧ my ≤ 4100 + 400 * k ∧ k ≤ f.attrs.length ∧ Below wa.heap.size wa wq) (fun _ y _ => f.attrs.length - (intOf y).toNat)
            case atStart => exact ⟨many + x.nm.length, 0, by go_num, rfl, by omega, Nat.zero_le _, Below.refl _ _⟩
            case round =>
              obtain ⟨my, k, rfl, rfl, hm2, hk2, hbq⟩ := hrel
              have bQ : Below W.heap.size W wr := bW.trans (hbq.mono bW.size)
              have p1 := (hbq.cell (cell_lt3 q1)).trans q1
              have hm2' : (my : Int) ≤ 20000 := by omega
              by_cases hlk : k < f.attrs.length
              · have hlk' : (k : Int) < (f.attrs.length : Int) := by omega
                obtain ⟨a, hxa, -⟩ := drop_at hlk
                obtain ⟨b', off', rfl, d0, d1, -, -⟩ := HA4.out k a hxa
                have j0 := (bQ.cell (cell_lt3 d0)).trans d0
                have j1 := (bQ.cell (cell_lt3 d1)).trans d1
                unfold strV at j0 j1
                clear d0 d1 hxa
                by_cases g3 : 100 < a.1.length
                · have g3' : 100 < (a.1.length : Int) := by omega
                  go_wp2_with fail
                  go_ret
                  exact ⟨bQ, _, rfl, .inl rfl⟩
                · have g3' : (a.1.length : Int) ≤ 100 := by omega
                  by_cases g4 : 300 < a.2.length
                  · have g4' : 300 < (a.2.length : Int) := by omega
                    go_wp2_with fail
                    go_ret
                    exact ⟨bQ, _, rfl, .inl rfl⟩
                  · have g4' : (a.2.length : Int) ≤ 300 := by omega
                    go_upto_region 17 with fail
                    go_quiet (fail)
                    go_wp2_with fail
                    go_roundw
                    case rel => exact ⟨my + a.1.length + a.2.length, k + 1, by go_num, by go_num, by omega, by omega, mdrew _ hbq⟩
                    case measure => simp [intOf]; omega
              · obtain rfl : k = f.attrs.length := by omega
                by_cases g5 : 4000 < my
                · have g5' : 4000 < (my : Int) := by omega
                  go_wp2_with fail
                  go_ret
                  exact ⟨bQ, _, rfl, .inl rfl⟩
                · have g5' : (my : Int) ≤ 4000 := by omega
                  go_wp2_with fail
                  go_roundw
                  case rel => exact ⟨my, i + 1, rfl, by go_num, by omega, by omega, hbr.trans (hbq.mono hbr.size)⟩
                  case measure => simp [intOf]; omega
      · obtain rfl : i = M.length := by omega
        go_wp2_with fail
        go_ret
        exact ⟨bW, _, rfl, .inr ⟨M, g, cap2, rfl, hp, by omega, hcap, HROW.out.below hbr, HR.out⟩⟩

end Go.Proofs.YtnoecobddhmhlaaGreatDoor

namespace Go.Proofs.YtnoecobddhmhlaaGreatDoor
open Go.RowKit

mutual
/-- No more than fifteen deep. -/
def sh : Nat → Nd → Prop
  | d, .mk _ _ ks => d ≤ 15 ∧ shL (d + 1) ks
def shL : Nat → List Nd → Prop
  | _, [] => True
  | d, k :: l => sh d k ∧ shL d l
end
theorem shL_mem : ∀ {l : List Nd} {d : Nat} {k : Nd}, shL d l → k ∈ l → sh d k
  | [], _, _, _, h => by simp at h
  | a :: l, d, k, h, hk => by
    unfold shL at h
    rcases List.mem_cons.1 hk with rfl | hk
    · exact h.1
    · exact shL_mem h.2 hk
theorem shL_of : ∀ {l : List Nd} {d : Nat}, (∀ k ∈ l, sh d k) → shL d l
  | [], _, _ => by unfold shL; trivial
  | a :: l, d, h => by
    unfold shL
    exact ⟨h a (by simp), shL_of (fun k hk => h k (by simp [hk]))⟩
theorem flL_le (k : Nat) (p : Int) (d : Nat) (ks : List Nd) (i : Nat) : (flL k p d (ks.take i)).length ≤ (flL k p d ks).length := by
  have e := List.take_append_drop i ks
  have := flL_append k p d (ks.take i) (ks.drop i)
  rw [e] at this
  rw [this, List.length_append]
  omega
/-- Too great. -/
def Big (k : Nat) (p : Int) (d : Nat) (n : Nd) : Prop := 150 < k + (flN k p d n).length ∨ ¬ sh d n
theorem big_kid {k i j : Nat} {p : Int} {d : Nat} {nm : Bs} {ats : List (Bs × Bs)} {ks : List Nd} {kid : Nd} (hx : ks[i]? = some kid) (hj : j = k + 1 + (flL (k + 1) k (d + 1) (ks.take i)).length) (h : 150 < j + (flN j k (d + 1) kid).length) : Big k p d (.mk nm ats ks) := by
  refine .inl ?_
  have h1 := flL_le (k + 1) k (d + 1) ks (i + 1)
  rw [flL_more hx, List.length_append, ← hj] at h1
  rw [flN, List.length_cons]
  omega
theorem big_deep {k i : Nat} {p : Int} {d : Nat} {nm : Bs} {ats : List (Bs × Bs)} {ks : List Nd} {kid : Nd} (hx : ks[i]? = some kid) (h : ¬ sh (d + 1) kid) : Big k p d (.mk nm ats ks) := by
  refine .inr fun hs => h ?_
  unfold sh at hs
  exact shL_mem hs.2 (List.mem_of_getElem? hx)

/-- What flats does, of one node with all below. -/
def FlC2 (W0 : World) (n : Nd) : Prop := ∀ (c0 c1 c2 : Value) (L : List FlM) (v : Value) (parent : Int) (deep : Nat) (W : World), NdC W0 c0 c1 c2 n → Below W0.heap.size W0 W → W.ownsRow W0.heap.size 98 4 v L.length (cellsF L) → L.length ≤ 151 → deep ≤ 16 →
  Calls Tryz.prog 47 #[v, .agg #[c0, c1, c2], .int .i64 parent, .int .i64 deep] W fun e w' => ∃ v' m cs, e = .returned v' ∧ w'.ownsRow W0.heap.size 98 4 v' m cs ∧ m ≤ 151 ∧ FK W0.heap.size W w' ∧
    ((150 < m ∧ Big L.length parent deep n) ∨ ∃ M, m = (L ++ M).length ∧ cs = cellsF (L ++ M) ∧ FlRs W0 M (flN L.length parent deep n) ∧ sh deep n)

set_option maxRecDepth 20000 in
set_option maxHeartbeats 8000000 in
theorem flats_big (W0 : World) : ∀ n, FlC2 W0 n := by
  refine Nd.ind fun nm ats ks ih => ?_
  intro c0 c1 c2 L v parent deep W hn hb hown hL hd
  have hn' := hn
  unfold NdC at hn'
  obtain ⟨rfl, hl, hats, ok, capk, rfl, hkc, hkm, hk0, hks⟩ := hn'
  obtain ⟨o1, cap1, rfl, -⟩ := hats
  obtain ⟨ov, capv, rfl⟩ := own_slice hown
  obtain ⟨i0, hi, hz0, hz1, hz2⟩ := info_parts flatInfo
  have hB := hb.size
  have hx0 := mbox W #[.string ⟨nm.toArray⟩, .slice o1 ats.length cap1, .slice ok ks.length capk] 25
  have k0 := FK.al (B := W0.heap.size) W (.cells #[.string ⟨nm.toArray⟩, .slice o1 ats.length cap1, .slice ok ks.length capk] 25) hB
  have hown1 := World.ownsRow.alloc hown (.cells #[.string ⟨nm.toArray⟩, .slice o1 ats.length cap1, .slice ok ks.length capk] 25)
  have n0 := bcell hx0 0 (.string ⟨nm.toArray⟩) rfl
  have n1 := bcell hx0 1 (.slice o1 ats.length cap1) rfl
  have hL' : (L.length : Int) ≤ 151 := by omega
  have hd' : (deep : Int) ≤ 16 := by omega
  have z0 := k0.low.size
  unfold strV
  by_cases hlg : 150 < L.length
  · have hlg' : 150 < (L.length : Int) := by omega
    go_enter Tryz.func47, Tryz.ntmps47
    go_wp2_with (at_make; refine wpList_make_full _ rfl _ _ 28 rfl W0.heap.size 98 i0 _ 4 Tryz.underlying28 hi hz0 hz1 _ _ 151 151 151 rfl rfl rfl rfl (by rw [hz2]; decide) (by decide) (by omega) ?_; intro w1 hown2 hgrow)
    go_ret
    simp only [World.size_alloc] at hown2
    exact ⟨_, 151, _, rfl, hown2, by decide, k0.trans (FK.grown0 hgrow (by omega)), .inl ⟨by decide, .inl (by omega)⟩⟩
  have hlg' : (L.length : Int) ≤ 150 := by omega
  by_cases hdp : 15 < deep
  · have hdp' : 15 < (deep : Int) := by omega
    go_enter Tryz.func47, Tryz.ntmps47
    go_wp2_with (at_make; refine wpList_make_full _ rfl _ _ 28 rfl W0.heap.size 98 i0 _ 4 Tryz.underlying28 hi hz0 hz1 _ _ 151 151 151 rfl rfl rfl rfl (by rw [hz2]; decide) (by decide) (by omega) ?_; intro w1 hown2 hgrow)
    go_ret
    simp only [World.size_alloc] at hown2
    exact ⟨_, 151, _, rfl, hown2, by decide, k0.trans (FK.grown0 hgrow (by omega)), .inl ⟨by decide, .inr (fun h => by unfold sh at h; omega)⟩⟩
  · have hdp' : (deep : Int) ≤ 15 := by omega
    have hkm' : (ks.length : Int) ≤ 9223372036854775807 := by rw [maxLen_eq] at hkm; omega
    have HKS : Hid (KdsAt W0 ok 0 ks) := hks
    have IH : Hid (∀ k ∈ ks, FlC2 W0 k) := ih
    have HN : Hid (NdC W0 (strV nm) (.slice o1 ats.length cap1) (.slice ok ks.length capk) (.mk nm ats ks)) := hn
    clear hks ih hn hown
    go_enter Tryz.func47, Tryz.ntmps47
    go_upto_region 4 with fail
    obtain ⟨V, hV⟩ : ∃ V, W.alloc (.cells #[.string ⟨nm.toArray⟩, .slice o1 ats.length cap1, .slice ok ks.length capk] 25) = V := ⟨_, rfl⟩
    rw [hV] at hx0 k0 hown1 n0 n1 z0 ⊢
    clear hV
    have zV : W0.heap.size ≤ V.heap.size := Nat.le_trans hB z0
    go_wp2_with (at_builtin; refine wpList_append_own _ rfl _ _ 28 rfl W0.heap.size 98 i0 (.agg #[.string ⟨#[]⟩, .slice none 0 0, .int .i64 0, .int .i64 0]) 4 56 Tryz.underlying28 hi hz0 hz1 hz2 rfl (by decide) _ _ _ rfl (World.ownsRow.alloc hown1 _) ⟨V.heap.size, 0, none⟩ 1 1 [.string ⟨nm.toArray⟩, .slice o1 ats.length cap1, .int .i64 parent, .int .i64 deep] rfl rfl (four_cells V _ _ _ _ _) (fun u hu => by simp at hu; rcases hu with rfl | rfl | rfl | rfl <;> rfl) (by rw [maxLen_eq]; omega) (by omega) (by simp; omega) ?_; intro v2 w2 hown2 hgrow2 _)
    have KV : FK W0.heap.size V w2 := (FK.al V _ zV).trans (FK.grown (World.ownsRow.alloc hown1 _) hgrow2 (by simp; omega))
    have hownA : Hid (w2.ownsRow W0.heap.size 98 4 v2 (L ++ [(⟨nm, .slice o1 ats.length cap1, parent, deep⟩ : FlM)]).length (cellsF (L ++ [⟨nm, .slice o1 ats.length cap1, parent, deep⟩]))) := (by rw [cellsF_snoc, List.length_append]; exact hown2 : w2.ownsRow W0.heap.size 98 4 v2 (L ++ [(⟨nm, .slice o1 ats.length cap1, parent, deep⟩ : FlM)]).length (cellsF (L ++ [⟨nm, .slice o1 ats.length cap1, parent, deep⟩])))
    have HR0 : Hid (FlRs W0 [⟨nm, .slice o1 ats.length cap1, parent, deep⟩] [⟨nm, ats, parent, deep⟩]) := (by
      have := HN.out
      unfold NdC at this
      exact ⟨⟨rfl, this.2.2.1, rfl, rfl, hl⟩, trivial⟩ : FlRs W0 [⟨nm, .slice o1 ats.length cap1, parent, deep⟩] [⟨nm, ats, parent, deep⟩])
    have hx1 := KV.box hx0 (by decide)
    have KW := k0.trans KV
    clear hown2 hgrow2 hown1 n0 n1
    go_loopw [10, 11] (fun u y wr => ∃ (i : Nat) (M : List FlM), i ≤ ks.length ∧ y = .int .i64 i ∧ wr.ownsRow W0.heap.size 98 4 u (L ++ M).length (cellsF (L ++ M)) ∧ (L ++ M).length ≤ 151 ∧ FK W0.heap.size w2 wr ∧ FlRs W0 M (⟨nm, ats, parent, deep⟩ :: flL (L.length + 1) L.length (deep + 1) (ks.take i)) ∧ (∀ k ∈ ks.take i, sh (deep + 1) k)) (fun _ y _ => ks.length - (intOf y).toNat)
    case atStart => exact ⟨0, _, Nat.zero_le _, rfl, hownA.out, by simp; omega, FK.refl _ _, by simpa [flL] using HR0.out, by simp⟩
    case round =>
      obtain ⟨i, M, hi', rfl, hoM, hlM, hkM, hRM, hsM⟩ := hrel
      have HSM : Hid (∀ k ∈ ks.take i, sh (deep + 1) k) := hsM
      clear hsM
      have HOM : Hid (wr.ownsRow W0.heap.size 98 4 u10 (L ++ M).length (cellsF (L ++ M))) := hoM
      have HRM : Hid (FlRs W0 M (⟨nm, ats, parent, deep⟩ :: flL (L.length + 1) L.length (deep + 1) (ks.take i))) := hRM
      clear hoM hRM
      have bR : Below W0.heap.size W0 wr := (hb.trans KW.low).trans hkM.low
      have hx2 := hkM.box hx1 (by decide)
      have m2 := bcell hx2 2 (.slice ok ks.length capk) rfl
      by_cases hlt : i < ks.length
      · have hlt' : (i : Int) < (ks.length : Int) := by omega
        obtain ⟨kid, hx, -⟩ := drop_at hlt
        obtain ⟨b', off', d0, d1, d2, rfl, e0, e1, e2, hkid⟩ := HKS.out.get hx
        rw [Nat.zero_add] at e0 e1 e2
        have HI := IH.out kid (List.mem_of_getElem? hx)
        have j0 := (bR.cell (cell_lt3 e0)).trans e0
        have j1 := (bR.cell (cell_lt3 e1)).trans e1
        have j2 := (bR.cell (cell_lt3 e2)).trans e2
        have HC := HI d0 d1 d2 (L ++ M) u10 L.length (deep + 1) wr hkid bR HOM.out hlM (by omega)
        rw [show ((deep + 1 : Nat) : Int) = (deep : Int) + 1 from by omega] at HC
        have HX : Hid (ks[i]? = some kid) := hx
        clear HI e0 e1 e2 hx hkid
        go_wp2_with (go_at_call 47; refine HC.mono ?_; rintro e w3 ⟨v3, m3, cs3, rfl, ho3, hm3, hk3, hr3⟩; obtain ⟨o3, cap3, rfl⟩ := own_slice ho3)
        · go_ret
          have hl1 := HRM.out.len
          have e1 : (L ++ M).length = L.length + 1 + (flL (L.length + 1) L.length (deep + 1) (ks.take i)).length := by rw [List.length_append, hl1]; simp; omega
          refine ⟨_, m3, cs3, rfl, ho3, hm3, (KW.trans hkM).trans hk3, .inl ⟨by omega, ?_⟩⟩
          rcases hr3 with ⟨-, h3 | h3⟩ | ⟨M', rfl, -, h3, -⟩
          · exact big_kid HX.out e1 h3
          · exact big_deep HX.out h3
          · have h4 : 150 < (L ++ M ++ M').length := by omega
            have h5 := h3.len
            rw [show (L ++ M ++ M').length = (L ++ M).length + M'.length from List.length_append] at h4
            exact big_kid HX.out e1 (by omega)
        · go_roundw
          case rel =>
            rcases hr3 with h3 | ⟨M', rfl, rfl, hR, hsk⟩
            · exact absurd h3.1 (by omega)
            · refine ⟨i + 1, M ++ M', by omega, by go_num, by rw [← List.append_assoc]; exact ho3, by rw [← List.append_assoc]; exact hm3, hkM.trans hk3, ?_, fun k hk => by
                rw [List.take_add_one, HX.out, List.mem_append] at hk
                rcases hk with hk | hk
                · exact HSM.out k hk
                · simp at hk; rw [hk]; exact hsk⟩
              have hl1 := HRM.out.len
              have e1 : (L ++ M).length = L.length + 1 + (flL (L.length + 1) L.length (deep + 1) (ks.take i)).length := by rw [List.length_append, hl1]; simp; omega
              rw [e1] at hR
              rw [flL_more HX.out]
              exact FlRs.app HRM.out hR
          case measure => simp [intOf]; omega
      · obtain rfl : i = ks.length := by omega
        have HT : Hid (FlRs W0 M (flN L.length parent deep (.mk nm ats ks))) := (by have := HRM.out; rw [List.take_length] at this; rw [flN]; exact this : FlRs W0 M (flN L.length parent deep (.mk nm ats ks)))
        go_wp2_with fail
        go_ret
        have HS2 : sh deep (.mk nm ats ks) := by
          unfold sh
          refine ⟨by omega, shL_of ?_⟩
          have := HSM.out
          rwa [List.take_length] at this
        exact ⟨_, _, _, rfl, HOM.out, hlM, KW.trans hkM, .inr ⟨M, rfl, rfl, HT.out, HS2⟩⟩

end Go.Proofs.YtnoecobddhmhlaaGreatDoor

namespace Go.Proofs.YtnoecobddhmhlaaGreatDoor
open Go.RowKit

/-- Attributes, by their bytes: how many there are then; none: one is too long. -/
def fitA : Nat → List (Bs × Bs) → Option Nat
  | many, [] => some many
  | many, a :: r => if 100 < a.1.length ∨ 300 < a.2.length then none else fitA (many + a.1.length + a.2.length) r
def fitL : Nat → List Fl → Bool
  | _, [] => true
  | many, f :: r => if 100 < f.name.length ∨ 20 < f.attrs.length then false else match fitA (many + f.name.length) f.attrs with
    | none => false
    | some m => if 4000 < m then false else fitL m r
/-- A law takes it. -/
def Fit (n : Nd) : Prop := (flN 0 (-1) 1 n).length ≤ 150 ∧ sh 1 n ∧ fitL 0 (flN 0 (-1) 1 n) = true
theorem fitA_no {many : Nat} {a : Bs × Bs} {r : List (Bs × Bs)} (h : 100 < a.1.length ∨ 300 < a.2.length) : fitA many (a :: r) = none := by rw [fitA, if_pos h]
theorem fitA_on {many : Nat} {a : Bs × Bs} {r : List (Bs × Bs)} (h1 : ¬ 100 < a.1.length) (h2 : ¬ 300 < a.2.length) : fitA many (a :: r) = fitA (many + a.1.length + a.2.length) r := by rw [fitA, if_neg (by rintro (h | h) <;> contradiction)]
theorem fitL_no {many : Nat} {f : Fl} {r : List Fl} (h : 100 < f.name.length ∨ 20 < f.attrs.length) : fitL many (f :: r) = false := by rw [fitL, if_pos h]
theorem fitL_a {many : Nat} {f : Fl} {r : List Fl} (h : fitA (many + f.name.length) f.attrs = none) : fitL many (f :: r) = false := by
  rw [fitL, h]
  split <;> rfl
theorem fitL_m {many m : Nat} {f : Fl} {r : List Fl} (h : fitA (many + f.name.length) f.attrs = some m) (hm : 4000 < m) : fitL many (f :: r) = false := by
  rw [fitL, h]
  split
  · rfl
  · simp [hm]
theorem fitL_on {many m : Nat} {f : Fl} {r : List Fl} (h1 : ¬ 100 < f.name.length) (h2 : ¬ 20 < f.attrs.length) (h : fitA (many + f.name.length) f.attrs = some m) (hm : ¬ 4000 < m) : fitL many (f :: r) = fitL m r := by
  rw [fitL, h, if_neg (by rintro (h | h) <;> contradiction)]
  simp [hm]
/-- What FlatsOf hands back, and when. -/
def FlF (W : World) (n : Nd) (v : Value) (w : World) : Prop := (¬ Fit n ∧ v = .slice none 0 0) ∨ (Fit n ∧ ∃ M g cap, v = .slice (some ⟨g, 0, none⟩) M.length cap ∧ 0 < M.length ∧ M.length ≤ 150 ∧ M.length ≤ cap ∧ RowF w g M ∧ FlRs W M (flN 0 (-1) 1 n))

set_option maxRecDepth 20000 in
set_option maxHeartbeats 8000000 in
theorem FlatsOf_fit (n : Nd) (c0 c1 c2 : Value) (W : World) (hn : NdC W c0 c1 c2 n) :
    Calls Tryz.prog 7 #[.agg #[c0, c1, c2]] W fun e w' => Below W.heap.size W w' ∧ ∃ v, e = .returned v ∧ FlF W n v w' := by
  have HF := flats_big W n
  unfold FlC2 at HF
  have hn' := hn
  obtain ⟨nm, ats, ks⟩ := n
  unfold NdC at hn'
  obtain ⟨rfl, -, ⟨o1, cap1, rfl, -⟩, ok, capk, rfl, -⟩ := hn'
  generalize hN : Nd.mk nm ats ks = n at hn HF ⊢
  clear hN
  unfold strV at *
  have b1 := mal W (.cells #[.string ⟨nm.toArray⟩, .slice o1 ats.length cap1, .slice ok ks.length capk] 25)
  have n0 := mnew W #[.string ⟨nm.toArray⟩, .slice o1 ats.length cap1, .slice ok ks.length capk] 25 0 (.string ⟨nm.toArray⟩) rfl
  have n1 := mnew W #[.string ⟨nm.toArray⟩, .slice o1 ats.length cap1, .slice ok ks.length capk] 25 1 (.slice o1 ats.length cap1) rfl
  have n2 := mnew W #[.string ⟨nm.toArray⟩, .slice o1 ats.length cap1, .slice ok ks.length capk] 25 2 (.slice ok ks.length capk) rfl
  have HC := HF _ _ _ [] (.slice none 0 0) (-1) 1 _ hn b1 (World.ownsRow_nil _ _ _ _) (by decide) (by decide)
  clear HF
  go_enter Tryz.func7, Tryz.ntmps7
  go_upto_region 3 with (go_at_call 47; refine HC.mono ?_; rintro e w1 ⟨v1, m1, cs1, rfl, ho1, hm1, hk1, hr1⟩; obtain ⟨o2, cap2, rfl⟩ := own_slice ho1)
  have hm1' : (m1 : Int) ≤ 151 := by omega
  have bw := b1.trans hk1.low
  by_cases hbig : 150 < m1
  · have hbig' : 150 < (m1 : Int) := by omega
    have HNF : Hid (¬ Fit n) := (fun hfit => by
      rcases hr1 with ⟨-, h | h⟩ | ⟨M, rfl, -, h, -⟩
      · have := hfit.1; simp at h; omega
      · exact h hfit.2.1
      · have := hfit.1; have := h.len; simp at *; omega : ¬ Fit n)
    go_wp2_with fail
    go_ret
    exact ⟨bw, _, rfl, .inl ⟨HNF.out, rfl⟩⟩
  · have hbig' : (m1 : Int) ≤ 150 := by omega
    rcases hr1 with h | ⟨M, rfl, rfl, hR, hsh⟩
    · exact absurd h.1 hbig
    simp only [List.nil_append, List.length_nil] at ho1 hR hbig' ⊢
    have hp : 0 < M.length := by
      rw [hR.len]
      obtain ⟨f, r, e, -⟩ := flN_head 0 (-1) 1 n
      rw [e]; simp
    obtain ⟨g, cap, hv, hg, hcap, hrow⟩ := row_of ho1 hp
    simp only [Value.slice.injEq, true_and] at hv
    obtain ⟨rfl, rfl⟩ := hv
    have HROW : Hid (RowF w1 g M) := hrow
    have HR : Hid (FlRs W M (flN 0 (-1) 1 n)) := hR
    have HSH : Hid (sh 1 n) := hsh
    clear hsh
    have hcap' : (M.length : Int) ≤ (cap2 : Int) := by omega
    clear hrow hR ho1 HC n0 n1 n2 b1 hk1 hm1 hm1'
    go_wp2_with fail
    go_loopw [4, 5] (fun x y wr => ∃ many i : Nat, x = .int .i64 many ∧ y = .int .i64 i ∧ many ≤ 4000 ∧ i ≤ M.length ∧ fitL 0 (flN 0 (-1) 1 n) = fitL many ((flN 0 (-1) 1 n).drop i) ∧ Below w1.heap.size w1 wr) (fun _ y _ => M.length - (intOf y).toNat)
    case atStart => exact ⟨0, 0, rfl, rfl, by decide, Nat.zero_le _, rfl, Below.refl _ _⟩
    case round =>
      obtain ⟨many, i, rfl, rfl, hmy, hi, hfl, hbr⟩ := hrel
      have HFL : Hid (fitL 0 (flN 0 (-1) 1 n) = fitL many ((flN 0 (-1) 1 n).drop i)) := hfl
      clear hfl
      have bW : Below W.heap.size W wr := bw.trans (hbr.mono bw.size)
      have hmy' : (many : Int) ≤ 4000 := by omega
      by_cases hlt : i < M.length
      · have hlt' : (i : Int) < (M.length : Int) := by omega
        obtain ⟨x, hx, -⟩ := drop_at hlt
        obtain ⟨r0, r1, -, -⟩ := HROW.out i x hx
        obtain ⟨f, hLf, hfn, hfa, -⟩ := HR.out.get hx
        have hdr : (flN 0 (-1) 1 n).drop i = f :: (flN 0 (-1) 1 n).drop (i + 1) := by
          obtain ⟨y, hy, hd⟩ := drop_at (l := flN 0 (-1) 1 n) (k := i) (by rw [← HR.out.len]; exact hlt)
          rw [hLf] at hy
          cases hy
          exact hd
        have HDR : Hid ((flN 0 (-1) 1 n).drop i = f :: (flN 0 (-1) 1 n).drop (i + 1)) := hdr
        have HFN : Hid (x.nm = f.name) := hfn
        have HNO : Hid (fitL many ((flN 0 (-1) 1 n).drop i) = false → ¬ Fit n) := (fun h hfit => by have := hfit.2.2; rw [HFL.out, h] at this; exact absurd this (by simp) : fitL many ((flN 0 (-1) 1 n).drop i) = false → ¬ Fit n)
        clear hdr hLf hfn
        have q0 := (hbr.cell (cell_lt3 r0)).trans r0
        have q1 := (hbr.cell (cell_lt3 r1)).trans r1
        obtain ⟨oa, capa, hxc, ha1, ha2, -, ha4⟩ := hfa
        rw [hxc] at q1
        have HA4 : Hid (AtsAt W oa f.attrs) := ha4
        clear r0 r1 hx hxc ha4
        have hla : (f.attrs.length : Int) ≤ 9223372036854775807 := by rw [maxLen_eq] at ha2; omega
        by_cases g1 : 100 < x.nm.length
        · have g1' : 100 < (x.nm.length : Int) := by omega
          have HNF : Hid (¬ Fit n) := HNO.out (by rw [HDR.out]; exact fitL_no (.inl (by rw [← HFN.out]; exact g1)))
          go_wp2_with fail
          go_ret
          exact ⟨bW, _, rfl, .inl ⟨HNF.out, rfl⟩⟩
        · have g1' : (x.nm.length : Int) ≤ 100 := by omega
          by_cases g2 : 20 < f.attrs.length
          · have g2' : 20 < (f.attrs.length : Int) := by omega
            have HNF : Hid (¬ Fit n) := HNO.out (by rw [HDR.out]; exact fitL_no (.inr g2))
            go_wp2_with fail
            go_ret
            exact ⟨bW, _, rfl, .inl ⟨HNF.out, rfl⟩⟩
          · have g2' : (f.attrs.length : Int) ≤ 20 := by omega
            go_wp2_with fail
            obtain ⟨wa, rfl⟩ : ∃ V, V = wr := ⟨_, rfl⟩
            go_loopw [4, 6] (fun x' y wq => ∃ my k : Nat, x' = .int .i64 my ∧ y = .int .i64 k ∧ my ≤ 4100 + 400 * k ∧ k ≤ f.attrs.length ∧ fitA (many + x.nm.length) f.attrs = fitA my (f.attrs.drop k) ∧ Below wa.heap.size wa wq) (fun _ y _ => f.attrs.length - (intOf y).toNat)
            case atStart => exact ⟨many + x.nm.length, 0, by go_num, rfl, by omega, Nat.zero_le _, rfl, Below.refl _ _⟩
            case round =>
              obtain ⟨my, k, rfl, rfl, hm2, hk2, hfa2, hbq⟩ := hrel
              have HFA : Hid (fitA (many + x.nm.length) f.attrs = fitA my (f.attrs.drop k)) := hfa2
              clear hfa2
              have bQ : Below W.heap.size W wr := bW.trans (hbq.mono bW.size)
              have p1 := (hbq.cell (cell_lt3 q1)).trans q1
              have hm2' : (my : Int) ≤ 20000 := by omega
              by_cases hlk : k < f.attrs.length
              · have hlk' : (k : Int) < (f.attrs.length : Int) := by omega
                obtain ⟨a, hxa, hda⟩ := drop_at hlk
                have HDA : Hid (f.attrs.drop k = a :: f.attrs.drop (k + 1)) := hda
                have HNA : Hid (fitA my (f.attrs.drop k) = none → ¬ Fit n) := (fun h => HNO.out (by rw [HDR.out]; exact fitL_a (by rw [← HFN.out, HFA.out]; exact h)) : fitA my (f.attrs.drop k) = none → ¬ Fit n)
                clear hda
                obtain ⟨b', off', rfl, d0, d1, -, -⟩ := HA4.out k a hxa
                have j0 := (bQ.cell (cell_lt3 d0)).trans d0
                have j1 := (bQ.cell (cell_lt3 d1)).trans d1
                unfold strV at j0 j1
                clear d0 d1 hxa
                by_cases g3 : 100 < a.1.length
                · have g3' : 100 < (a.1.length : Int) := by omega
                  have HNF : Hid (¬ Fit n) := HNA.out (by rw [HDA.out]; exact fitA_no (.inl g3))
                  go_wp2_with fail
                  go_ret
                  exact ⟨bQ, _, rfl, .inl ⟨HNF.out, rfl⟩⟩
                · have g3' : (a.1.length : Int) ≤ 100 := by omega
                  by_cases g4 : 300 < a.2.length
                  · have g4' : 300 < (a.2.length : Int) := by omega
                    have HNF : Hid (¬ Fit n) := HNA.out (by rw [HDA.out]; exact fitA_no (.inr g4))
                    go_wp2_with fail
                    go_ret
                    exact ⟨bQ, _, rfl, .inl ⟨HNF.out, rfl⟩⟩
                  · have g4' : (a.2.length : Int) ≤ 300 := by omega
                    have HFA2 : Hid (fitA (many + x.nm.length) f.attrs = fitA (my + a.1.length + a.2.length) (f.attrs.drop (k + 1))) := (by rw [HFA.out, HDA.out]; exact fitA_on g3 g4 : fitA (many + x.nm.length) f.attrs = fitA (my + a.1.length + a.2.length) (f.attrs.drop (k + 1)))
                    go_upto_region 17 with fail
                    go_quiet (fail)
                    go_wp2_with fail
                    go_roundw
                    case rel => exact ⟨my + a.1.length + a.2.length, k + 1, by go_num, by go_num, by omega, by omega, HFA2.out, mdrew _ hbq⟩
                    case measure => simp [intOf]; omega
              · obtain rfl : k = f.attrs.length := by omega
                have HFE : Hid (fitA (many + f.name.length) f.attrs = some my) := (by rw [← HFN.out, HFA.out, List.drop_length]; rfl : fitA (many + f.name.length) f.attrs = some my)
                by_cases g5 : 4000 < my
                · have g5' : 4000 < (my : Int) := by omega
                  have HNF : Hid (¬ Fit n) := HNO.out (by rw [HDR.out]; exact fitL_m HFE.out g5)
                  go_wp2_with fail
                  go_ret
                  exact ⟨bQ, _, rfl, .inl ⟨HNF.out, rfl⟩⟩
                · have g5' : (my : Int) ≤ 4000 := by omega
                  have HFN2 : Hid (fitL 0 (flN 0 (-1) 1 n) = fitL my ((flN 0 (-1) 1 n).drop (i + 1))) := (by rw [HFL.out, HDR.out]; exact fitL_on (by rw [← HFN.out]; exact g1) g2 HFE.out g5 : fitL 0 (flN 0 (-1) 1 n) = fitL my ((flN 0 (-1) 1 n).drop (i + 1)))
                  go_wp2_with fail
                  go_roundw
                  case rel => exact ⟨my, i + 1, rfl, by go_num, by omega, by omega, HFN2.out, hbr.trans (hbq.mono hbr.size)⟩
                  case measure => simp [intOf]; omega
      · obtain rfl : i = M.length := by omega
        go_wp2_with fail
        go_ret
        exact ⟨bW, _, rfl, .inr ⟨⟨by rw [← HR.out.len]; omega, HSH.out, by rw [HFL.out, HR.out.len, List.drop_length]; rfl⟩, M, g, cap2, rfl, hp, by omega, hcap, HROW.out.below hbr, HR.out⟩⟩

end Go.Proofs.YtnoecobddhmhlaaGreatDoor

namespace Go.Proofs.YtnoecobddhmhlaaGreatDoor
open Go.RowKit

set_option maxHeartbeats 1000000 in
theorem coded_at {E : Nat → Addr} (c : Nat) (h0 : 1 ≤ c) (hc : c ≤ 11) (w : World) (h : EE E w) :
    Calls Tryz.prog 14 #[eV (E c), .int .i64 c] w fun e w' => e = .returned (.bool true) ∧ Below w.heap.size w w' := by
  go_enter Tryz.func14, Tryz.ntmps14
  go_wp2_with (go_at_call 55; refine (Code_at c h0 hc _ h).mono ?_; rintro e w' ⟨rfl, hb⟩)
  go_ret
  exact ⟨rfl, hb⟩
theorem New_yes (E : Nat → Addr) (n : Nd) (c0 c1 c2 : Value) (W : World) (hE : CE E W) (hn : NdC W c0 c1 c2 n) (hs : szN n ≤ 1000000) (hc : (ckN n 1 0).1 = 0) :
    Calls Tryz.prog 8 #[.agg #[c0, c1, c2]] W fun e w' => Below W.heap.size W w' ∧ ∃ DB MB tg p, e = .returned (.tuple #[.pointer (some ⟨DB, 0, none⟩), .nilIface]) ∧ DocW W.heap.size tg w' DB MB p (newD n) (szN n) (szN n) := (New_any E n c0 c1 c2 W hE hn hs).mono fun e w' h => ⟨h.1, by
  rcases h.2 with h2 | h2
  · exact absurd hc h2.1
  · exact h2.2⟩
theorem New_no (E : Nat → Addr) (n : Nd) (c0 c1 c2 : Value) (W : World) (hE : CE E W) (hn : NdC W c0 c1 c2 n) (hs : szN n ≤ 1000000) (hc : (ckN n 1 0).1 ≠ 0) :
    Calls Tryz.prog 8 #[.agg #[c0, c1, c2]] W fun e w' => Below W.heap.size W w' ∧ ∃ pb, e = .returned (.tuple #[.pointer none, .iface 153 (.pointer (some ⟨pb, 0, none⟩))]) := (New_any E n c0 c1 c2 W hE hn hs).mono fun e w' h => ⟨h.1, by
  rcases h.2 with ⟨-, pb, h2, -⟩ | h2
  · exact ⟨pb, h2⟩
  · exact absurd h2.1 hc⟩
theorem nd_one (W : World) : NdC W (.string ⟨#[97]⟩) (.slice none 0 0) (.slice none 0 0) (.mk [97] [] []) := by
  unfold NdC
  refine ⟨rfl, by rw [maxLen_eq]; decide, ⟨none, 0, rfl, Nat.le_refl _, Nat.zero_le _, fun _ => rfl, fun i x h => by simp at h⟩, none, 0, rfl, Nat.le_refl _, Nat.zero_le _, fun _ => rfl, ?_⟩
  unfold KdsAt
  trivial
set_option maxRecDepth 20000 in
set_option maxHeartbeats 4000000 in
theorem docked_any {E : Nat → Addr} (W : World) (hE : DE E W) :
    Calls Tryz.prog 6 #[] W fun e w' => e = .returned (.bool true) ∧ Below W.heap.size W w' := by
  have NW := New_yes E (.mk [97] [] []) _ _ _ W hE.ce (nd_one W) (by decide) (by decide)
  go_enter Tryz.func6, Tryz.ntmps6
  go_upto_region 4 with (go_at_call 8; refine NW.mono ?_; rintro e w1 ⟨b1, DB, MB, tg, p, rfl, d1⟩)
  have AD : Calls Tryz.prog 12 #[.pointer (some ⟨DB, 0, none⟩), .int .i64 0, .int .i64 0, .string ⟨#[98]⟩] w1 fun r w' => r = .returned (.tuple #[.int .i64 1, .nilIface]) ∧ Below W.heap.size w1 w' ∧ ∃ tg' p', DocW W.heap.size tg' w' DB MB p' (putE (putE (newD (.mk [97] [] [])) 1 ⟨[98], [], 0, []⟩) 0 ⟨[97], [], -1, [1]⟩) 2 2 :=
    (Add_doc d1 0 0 [98] ⟨[97], [], -1, []⟩ rfl (Nat.le_refl _) (by decide) 1 ⟨_, rfl, rfl⟩ (by decide) (by decide) (by decide) (by decide) b1.size).mono fun r w' h => ⟨h.1, h.2.1.below (fun b t ht => (d1.low b t ht).1) b1.size, by
      obtain ⟨tg', p', -, h3⟩ := h.2.2
      exact ⟨tg', p', h3⟩⟩
  go_upto_region 5 with (go_at_call 12; refine AD.mono ?_; rintro e w2 ⟨rfl, b2, tg2, p2, d2⟩)
  have CT : Calls Tryz.prog 44 #[.pointer (some ⟨DB, 0, none⟩)] w2 fun r w' => r = .returned (.int .i64 2) ∧ w' = w2 := Count_doc d2
  have PA : Calls Tryz.prog 45 #[.pointer (some ⟨DB, 0, none⟩), .int .i64 1] w2 fun r w' => r = .returned (.int .i64 0) ∧ w' = w2 := Parent_doc d2 1 (by decide)
  have NA : Calls Tryz.prog 46 #[.pointer (some ⟨DB, 0, none⟩), .int .i64 1] w2 fun r w' => r = .returned (.string ⟨#[98]⟩) ∧ w' = w2 := Name_doc d2 1 (by decide)
  clear d2 AD d1
  go_wp2_with (first | (go_at_call 44; refine CT.mono ?_; rintro r w3 ⟨rfl, rfl⟩) | (go_at_call 45; refine PA.mono ?_; rintro r w3 ⟨rfl, rfl⟩) | (go_at_call 46; refine NA.mono ?_; rintro r w3 ⟨rfl, rfl⟩))
  go_ret
  exact ⟨rfl, b1.trans b2⟩

end Go.Proofs.YtnoecobddhmhlaaGreatDoor

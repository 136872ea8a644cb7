/-
  The flat list of a node: what the law's walk makes.
-/
import Derived.Test.YtnoecobddhmhlaaGreatDoorJ9
namespace Go.Proofs.YtnoecobddhmhlaaGreatDoor
open Go.RowKit

/-- One of a flat list in memory: its name, its attributes' slice, its parent's number, how deep it lies. -/
structure FlM where
  nm : Bs
  c : Value
  parent : Int
  deep : Nat
def FlM.cells (x : FlM) : List Value := [.string ⟨x.nm.toArray⟩, x.c, .int .i64 x.parent, .int .i64 x.deep]
def cellsF : List FlM → List Value
  | [] => []
  | x :: r => x.cells ++ cellsF r
theorem cellsF_append : ∀ a c : List FlM, cellsF (a ++ c) = cellsF a ++ cellsF c
  | [], _ => rfl
  | x :: a, c => by simp [cellsF, cellsF_append a c]
theorem cellsF_snoc (a : List FlM) (x : FlM) : cellsF (a ++ [x]) = cellsF a ++ x.cells := by rw [cellsF_append]; simp [cellsF]
/-- It is what the mathematics says. -/
def FlR (W0 : World) (x : FlM) (f : Fl) : Prop := x.nm = f.name ∧ AtsIn W0 x.c f.attrs ∧ x.parent = f.parent ∧ x.deep = f.deep ∧ x.nm.length ≤ maxLen
def FlRs (W0 : World) : List FlM → List Fl → Prop
  | [], [] => True
  | x :: r, f :: q => FlR W0 x f ∧ FlRs W0 r q
  | _, _ => False
theorem FlRs.len {W0 : World} : ∀ {a : List FlM} {f : List Fl}, FlRs W0 a f → a.length = f.length
  | [], [], _ => rfl
  | _ :: r, _ :: q, h => by simp [FlRs.len (a := r) (f := q) h.2]
  | [], _ :: _, h => h.elim
  | _ :: _, [], h => h.elim
theorem FlRs.app {W0 : World} : ∀ {a c : List FlM} {f g : List Fl}, FlRs W0 a f → FlRs W0 c g → FlRs W0 (a ++ c) (f ++ g)
  | [], _, [], _, _, k => k
  | _ :: r, _, _ :: q, _, h, k => ⟨h.1, FlRs.app (a := r) (f := q) h.2 k⟩
  | [], _, _ :: _, _, h, _ => h.elim
  | _ :: _, _, [], _, h, _ => h.elim

theorem own_low {w : World} {B : Nat} {e : TypeId} {size : Nat} {v : Value} {n : Nat} {xs : List Value} (h : w.ownsRow B e size v n xs) : ∀ k, v.ownBlock = some k → B ≤ k := by
  rcases h.2 with ⟨rfl, _⟩ | ⟨g, cap, cur, rfl, hg, _⟩
  · intro k hk; cases hk
  · intro k hk
    cases hk
    exact hg
theorem own_kind {w : World} {B : Nat} {e : TypeId} {size : Nat} {v : Value} {n : Nat} {xs : List Value} (h : w.ownsRow B e size v n xs) : ∀ g, v.ownBlock = some g → ∃ c fz, w.heap[g]? = some (.cells c e fz) := by
  rcases h.2 with ⟨rfl, _⟩ | ⟨g, cap, cur, rfl, _, hgg, _⟩
  · intro k hk; cases hk
  · intro k hk
    cases hk
    exact ⟨cur, _, hgg⟩
structure FK (B : Nat) (w w' : World) : Prop where
  low : Below B w w'
  oth : Lib.OthersKept 98 none w w'
theorem FK.trans {B : Nat} {w w' w'' : World} (h : FK B w w') (k : FK B w' w'') : FK B w w'' := ⟨h.low.trans k.low, h.oth.trans k.oth⟩
theorem FK.refl (B : Nat) (w : World) : FK B w w := ⟨Below.refl _ _, Lib.OthersKept.refl _ _ _⟩
theorem FK.al {B : Nat} (w : World) (o : Obj) (hB : B ≤ w.heap.size) : FK B w (w.alloc o) := ⟨(Below.refl B w).alloc hB o, (Lib.OthersKept.refl _ _ w).alloc o⟩
theorem FK.box {B : Nat} {w w' : World} (h : FK B w w') {N : Nat} {cs : Array Value} {t : TypeId} (hN : w.heap[N]? = some (.cells cs t)) (ht : t ≠ 98) : w'.heap[N]? = some (.cells cs t) :=
  h.oth N _ hN (fun e => nomatch e) (fun c fz e => by cases e; exact ht rfl)
theorem FK.grown {B : Nat} {w w' : World} {v : Value} {n : Nat} {xs : List Value} (ho : w.ownsRow B 98 4 v n xs) (hg : w.grownBy w' v.ownBlock) (hB : B ≤ w.heap.size) : FK B w w' :=
  ⟨(Below.refl B w).grown hg hB (own_low ho), (Lib.OthersKept.refl _ _ w).grown hg (own_kind ho)⟩
theorem FK.grown0 {B : Nat} {w w' : World} (hg : w.grownBy w' none) (hB : B ≤ w.heap.size) : FK B w w' :=
  ⟨(Below.refl B w).grown hg hB (fun _ hk => nomatch hk), (Lib.OthersKept.refl _ _ w).grown hg (fun _ hk => nomatch hk)⟩

theorem flatInfo : (Tryz.prog.info? 98).map (fun i => (i.zero, i.size, i.bytes)) = some (some (.agg #[.string ⟨#[]⟩, .slice none 0 0, .int .i64 0, .int .i64 0]), 4, 56) := by kernel_rfl
theorem own_slice {w : World} {B : Nat} {e : TypeId} {k : Nat} {v : Value} {n : Nat} {xs : List Value} (h : w.ownsRow B e k v n xs) : ∃ o cap, v = .slice o n cap := by
  rcases h.2 with ⟨hv, hn⟩ | ⟨g, cap, cur, hv, _⟩
  · exact ⟨_, _, by rw [hv, hn]⟩
  · exact ⟨_, _, hv⟩
theorem four_cells (w : World) (a b c d : Value) (t : TypeId) : ∀ j u, [a, b, c, d][j]? = some u → (w.alloc (.cells #[a, b, c, d] t)).cell? ((⟨w.heap.size, 0, none⟩ : Addr).add j) = some u := by
  intro j u h
  have e : (⟨w.heap.size, 0, none⟩ : Addr).add j = ⟨w.heap.size, j, none⟩ := by unfold Addr.add; split <;> simp_all
  rw [e]
  exact mnew w #[a, b, c, d] t j u (by simpa using h)

theorem flL_append (k : Nat) (p : Int) (d : Nat) : ∀ (a c : List Nd), flL k p d (a ++ c) = flL k p d a ++ flL (k + (flL k p d a).length) p d c := by
  intro a
  induction a generalizing k with
  | nil => intro c; simp [flL]
  | cons x a ih =>
    intro c
    rw [List.cons_append, flL, flL, ih, List.length_append, List.append_assoc, Nat.add_assoc]
theorem flL_more {k : Nat} {p : Int} {d : Nat} {ks : List Nd} {i : Nat} {x : Nd} (hx : ks[i]? = some x) : flL k p d (ks.take (i + 1)) = flL k p d (ks.take i) ++ flN (k + (flL k p d (ks.take i)).length) p d x := by
  rw [List.take_add_one, hx, flL_append]; simp [flL]

/-- What flats does, of one node with all below. -/
def FlC (W0 : World) (n : Nd) : Prop := ∀ (c0 c1 c2 : Value) (L : List FlM) (v : Value) (parent : Int) (deep : Nat) (W : World), NdC W0 c0 c1 c2 n → Below W0.heap.size W0 W → W.ownsRow W0.heap.size 98 4 v L.length (cellsF L) → L.length ≤ 151 → deep ≤ 16 →
  Calls Tryz.prog 47 #[v, .agg #[c0, c1, c2], .int .i64 parent, .int .i64 deep] W fun e w' => ∃ v' m cs, e = .returned v' ∧ w'.ownsRow W0.heap.size 98 4 v' m cs ∧ m ≤ 151 ∧ FK W0.heap.size W w' ∧
    (150 < m ∨ ∃ M, m = (L ++ M).length ∧ cs = cellsF (L ++ M) ∧ FlRs W0 M (flN L.length parent deep n))

set_option maxRecDepth 20000 in
set_option maxHeartbeats 8000000 in
theorem flats_any (W0 : World) : ∀ n, FlC W0 n := by
  refine Nd.ind fun nm ats ks ih => ?_
  intro c0 c1 c2 L v parent deep W hn hb hown hL hd
  have hn' := hn
  unfold NdC at hn'
  obtain ⟨rfl, hl, hats, ok, capk, rfl, hkc, hkm, hk0, hks⟩ := hn'
  obtain ⟨o1, cap1, rfl, -⟩ := hats
  obtain ⟨ov, capv, rfl⟩ := own_slice hown
  obtain ⟨i0, hi, hz0, hz1, hz2⟩ := info_parts flatInfo
  have hB := hb.size
  have hx0 := mbox W #[.string ⟨nm.toArray⟩, .slice o1 ats.length cap1, .slice ok ks.length capk] 25
  have k0 := FK.al (B := W0.heap.size) W (.cells #[.string ⟨nm.toArray⟩, .slice o1 ats.length cap1, .slice ok ks.length capk] 25) hB
  have hown1 := World.ownsRow.alloc hown (.cells #[.string ⟨nm.toArray⟩, .slice o1 ats.length cap1, .slice ok ks.length capk] 25)
  have n0 := bcell hx0 0 (.string ⟨nm.toArray⟩) rfl
  have n1 := bcell hx0 1 (.slice o1 ats.length cap1) rfl
  have hL' : (L.length : Int) ≤ 151 := by omega
  have hd' : (deep : Int) ≤ 16 := by omega
  have z0 := k0.low.size
  unfold strV
  by_cases hlg : 150 < L.length
  · have hlg' : 150 < (L.length : Int) := by omega
    go_enter Tryz.func47, Tryz.ntmps47
    go_wp2_with (at_make; refine wpList_make_full _ rfl _ _ 28 rfl W0.heap.size 98 i0 _ 4 Tryz.underlying28 hi hz0 hz1 _ _ 151 151 151 rfl rfl rfl rfl (by rw [hz2]; decide) (by decide) (by omega) ?_; intro w1 hown2 hgrow)
    go_ret
    simp only [World.size_alloc] at hown2
    exact ⟨_, 151, _, rfl, hown2, by decide, k0.trans (FK.grown0 hgrow (by omega)), .inl (by decide)⟩
  have hlg' : (L.length : Int) ≤ 150 := by omega
  by_cases hdp : 15 < deep
  · have hdp' : 15 < (deep : Int) := by omega
    go_enter Tryz.func47, Tryz.ntmps47
    go_wp2_with (at_make; refine wpList_make_full _ rfl _ _ 28 rfl W0.heap.size 98 i0 _ 4 Tryz.underlying28 hi hz0 hz1 _ _ 151 151 151 rfl rfl rfl rfl (by rw [hz2]; decide) (by decide) (by omega) ?_; intro w1 hown2 hgrow)
    go_ret
    simp only [World.size_alloc] at hown2
    exact ⟨_, 151, _, rfl, hown2, by decide, k0.trans (FK.grown0 hgrow (by omega)), .inl (by decide)⟩
  · have hdp' : (deep : Int) ≤ 15 := by omega
    have hkm' : (ks.length : Int) ≤ 9223372036854775807 := by rw [maxLen_eq] at hkm; omega
    have HKS : Hid (KdsAt W0 ok 0 ks) := hks
    have IH : Hid (∀ k ∈ ks, FlC W0 k) := ih
    have HN : Hid (NdC W0 (strV nm) (.slice o1 ats.length cap1) (.slice ok ks.length capk) (.mk nm ats ks)) := hn
    clear hks ih hn hown
    go_enter Tryz.func47, Tryz.ntmps47
    go_upto_region 4 with fail
    obtain ⟨V, hV⟩ : ∃ V, W.alloc (.cells #[.string ⟨nm.toArray⟩, .slice o1 ats.length cap1, .slice ok ks.length capk] 25) = V := ⟨_, rfl⟩
    rw [hV] at hx0 k0 hown1 n0 n1 z0 ⊢
    clear hV
    have zV : W0.heap.size ≤ V.heap.size := Nat.le_trans hB z0
    go_wp2_with (at_builtin; refine wpList_append_own _ rfl _ _ 28 rfl W0.heap.size 98 i0 (.agg #[.string ⟨#[]⟩, .slice none 0 0, .int .i64 0, .int .i64 0]) 4 56 Tryz.underlying28 hi hz0 hz1 hz2 rfl (by decide) _ _ _ rfl (World.ownsRow.alloc hown1 _) ⟨V.heap.size, 0, none⟩ 1 1 [.string ⟨nm.toArray⟩, .slice o1 ats.length cap1, .int .i64 parent, .int .i64 deep] rfl rfl (four_cells V _ _ _ _ _) (fun u hu => by simp at hu; rcases hu with rfl | rfl | rfl | rfl <;> rfl) (by rw [maxLen_eq]; omega) (by omega) (by simp; omega) ?_; intro v2 w2 hown2 hgrow2 _)
    have KV : FK W0.heap.size V w2 := (FK.al V _ zV).trans (FK.grown (World.ownsRow.alloc hown1 _) hgrow2 (by simp; omega))
    have hownA : Hid (w2.ownsRow W0.heap.size 98 4 v2 (L ++ [(⟨nm, .slice o1 ats.length cap1, parent, deep⟩ : FlM)]).length (cellsF (L ++ [⟨nm, .slice o1 ats.length cap1, parent, deep⟩]))) := (by rw [cellsF_snoc, List.length_append]; exact hown2 : w2.ownsRow W0.heap.size 98 4 v2 (L ++ [(⟨nm, .slice o1 ats.length cap1, parent, deep⟩ : FlM)]).length (cellsF (L ++ [⟨nm, .slice o1 ats.length cap1, parent, deep⟩])))
    have HR0 : Hid (FlRs W0 [⟨nm, .slice o1 ats.length cap1, parent, deep⟩] [⟨nm, ats, parent, deep⟩]) := (by
      have := HN.out
      unfold NdC at this
      exact ⟨⟨rfl, this.2.2.1, rfl, rfl, hl⟩, trivial⟩ : FlRs W0 [⟨nm, .slice o1 ats.length cap1, parent, deep⟩] [⟨nm, ats, parent, deep⟩])
    have hx1 := KV.box hx0 (by decide)
    have KW := k0.trans KV
    clear hown2 hgrow2 hown1 n0 n1
    go_loopw [10, 11] (fun u y wr => ∃ (i : Nat) (M : List FlM), i ≤ ks.length ∧ y = .int .i64 i ∧ wr.ownsRow W0.heap.size 98 4 u (L ++ M).length (cellsF (L ++ M)) ∧ (L ++ M).length ≤ 151 ∧ FK W0.heap.size w2 wr ∧ FlRs W0 M (⟨nm, ats, parent, deep⟩ :: flL (L.length + 1) L.length (deep + 1) (ks.take i))) (fun _ y _ => ks.length - (intOf y).toNat)
    case atStart => exact ⟨0, _, Nat.zero_le _, rfl, hownA.out, by simp; omega, FK.refl _ _, by simpa [flL] using HR0.out⟩
    case round =>
      obtain ⟨i, M, hi', rfl, hoM, hlM, hkM, hRM⟩ := hrel
      have HOM : Hid (wr.ownsRow W0.heap.size 98 4 u10 (L ++ M).length (cellsF (L ++ M))) := hoM
      have HRM : Hid (FlRs W0 M (⟨nm, ats, parent, deep⟩ :: flL (L.length + 1) L.length (deep + 1) (ks.take i))) := hRM
      clear hoM hRM
      have bR : Below W0.heap.size W0 wr := (hb.trans KW.low).trans hkM.low
      have hx2 := hkM.box hx1 (by decide)
      have m2 := bcell hx2 2 (.slice ok ks.length capk) rfl
      by_cases hlt : i < ks.length
      · have hlt' : (i : Int) < (ks.length : Int) := by omega
        obtain ⟨kid, hx, -⟩ := drop_at hlt
        obtain ⟨b', off', d0, d1, d2, rfl, e0, e1, e2, hkid⟩ := HKS.out.get hx
        rw [Nat.zero_add] at e0 e1 e2
        have HI := IH.out kid (List.mem_of_getElem? hx)
        have j0 := (bR.cell (cell_lt3 e0)).trans e0
        have j1 := (bR.cell (cell_lt3 e1)).trans e1
        have j2 := (bR.cell (cell_lt3 e2)).trans e2
        have HC := HI d0 d1 d2 (L ++ M) u10 L.length (deep + 1) wr hkid bR HOM.out hlM (by omega)
        rw [show ((deep + 1 : Nat) : Int) = (deep : Int) + 1 from by omega] at HC
        have HX : Hid (ks[i]? = some kid) := hx
        clear HI e0 e1 e2 hx hkid
        go_wp2_with (go_at_call 47; refine HC.mono ?_; rintro e w3 ⟨v3, m3, cs3, rfl, ho3, hm3, hk3, hr3⟩; obtain ⟨o3, cap3, rfl⟩ := own_slice ho3)
        · go_ret
          exact ⟨_, m3, cs3, rfl, ho3, hm3, (KW.trans hkM).trans hk3, .inl (by omega)⟩
        · go_roundw
          case rel =>
            rcases hr3 with h3 | ⟨M', rfl, rfl, hR⟩
            · exact absurd h3 (by omega)
            · refine ⟨i + 1, M ++ M', by omega, by go_num, by rw [← List.append_assoc]; exact ho3, by rw [← List.append_assoc]; exact hm3, hkM.trans hk3, ?_⟩
              have hl1 := HRM.out.len
              have e1 : (L ++ M).length = L.length + 1 + (flL (L.length + 1) L.length (deep + 1) (ks.take i)).length := by rw [List.length_append, hl1]; simp; omega
              rw [e1] at hR
              rw [flL_more HX.out]
              exact FlRs.app HRM.out hR
          case measure => simp [intOf]; omega
      · obtain rfl : i = ks.length := by omega
        have HT : Hid (FlRs W0 M (flN L.length parent deep (.mk nm ats ks))) := (by have := HRM.out; rw [List.take_length] at this; rw [flN]; exact this : FlRs W0 M (flN L.length parent deep (.mk nm ats ks)))
        go_wp2_with fail
        go_ret
        exact ⟨_, _, _, rfl, HOM.out, hlM, KW.trans hkM, .inr ⟨M, rfl, rfl, HT.out⟩⟩

end Go.Proofs.YtnoecobddhmhlaaGreatDoor

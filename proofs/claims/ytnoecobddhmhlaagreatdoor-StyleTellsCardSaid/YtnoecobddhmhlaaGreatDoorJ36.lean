/-
  Package style: the heaviest rule that fits; what is told of an element.
-/
import Derived.Test.YtnoecobddhmhlaaGreatDoorJ35
import Derived.Test.YtnoecobddhmhlaaGreatDoorJ5
import Derived.Test.YtnoecobddhmhlaaGreatDoorJ22
import Derived.Test.YtnoecobddhmhlaaGreatDoorJ19
import Derived.Test.YtnoecobddhmhlaaGreatDoorJ33
namespace Go.Proofs.YtnoecobddhmhlaaGreatDoor
open Go.RowKit Go.Shelf

theorem sel_neY {s : Bs} (h : isSelM s = true) : s ≠ [] := by
  intro e
  subst e
  revert h
  decide
section
variable {B : Nat} {tg : Tags} {W : World} {DB MB : Nat} {p : Int → Option Nat} {M : Dm} {nx c : Nat} {r : Int → Nat}
set_option maxHeartbeats 2000000 in
theorem told1_any (h : DocW B tg W DB MB p M nx c) (hw : Wd M r) (hF : FitD M) (x : Rl) (hx : RlOk x) (nm : Bs) (n : Int) (hn : Wf64 n) (P1 P2 P3 : Nat) (h1 : W.cell? ⟨P1, 0, none⟩ = some (bV nm)) (h2 : W.cell? ⟨P2, 0, none⟩ = some (.pointer (some ⟨DB, 0, none⟩))) (h3 : W.cell? ⟨P3, 0, none⟩ = some (.int .i64 n)) :
    Calls Tryz.prog 134 #[rlV x, .pointer (some ⟨P1, 0, none⟩), .pointer (some ⟨P2, 0, none⟩), .pointer (some ⟨P3, 0, none⟩)] W fun e w' => e = .returned (.bool (rlFits M nm n x)) ∧ Below W.heap.size W w' := by
  have n0 := mbox W #[bV x.wh, bV x.nm, bV x.vl] 150
  have b0 := mal W (.cells #[bV x.wh, bV x.nm, bV x.vl] 150)
  have FD := fun V (hv : Below W.heap.size W V) => Fits_doc (h.below hv) hw hF x.wh hx.2.2.2 (sel_neY hx.1) n hn
  have hq := ba_toL x.nm nm
  unfold rlFits
  go_enter Tryz.func134, Tryz.ntmps134
  go_upto_region 1 with fail
  obtain ⟨V, hV⟩ : ∃ V, W.alloc (.cells #[bV x.wh, bV x.nm, bV x.vl] 150) = V := ⟨_, rfl⟩
  rw [hV] at n0 b0 ⊢
  clear hV
  have k1 := (b0.cell (cell_lt3 h1)).trans h1
  have k2 := (b0.cell (cell_lt3 h2)).trans h2
  have k3 := (b0.cell (cell_lt3 h3)).trans h3
  have c0 := bcell n0 0 _ rfl
  have c1 := bcell n0 1 _ rfl
  have c2 := bcell n0 2 _ rfl
  have FD1 := FD V b0
  clear FD
  cases ha : (x.nm == nm) with
  | false =>
    rw [ha] at hq
    go_wp2_with fail
    go_ret
    exact ⟨by rw [ha]; rfl, b0⟩
  | true =>
    rw [ha] at hq
    go_wp2_with (go_at_call 31; refine FD1.mono ?_; rintro e w1 ⟨rfl, b1⟩)
    go_ret
    exact ⟨by rw [ha]; rfl, mbel b0 b1⟩
end
set_option maxRecDepth 20000 in
set_option maxHeartbeats 4000000 in
theorem heaviest_any (l : List Rl) (hok : ∀ x ∈ l, RlOk x) (pf : Rl → Bool) (B0 : Nat) (v : Value) (W : World) (h : W.ownsRow B0 150 3 v l.length (cellsR l)) (P1 P2 P3 : Nat)
    (hg : ∀ x V, x ∈ l → Below W.heap.size W V → Calls Tryz.prog 134 #[rlV x, .pointer (some ⟨P1, 0, none⟩), .pointer (some ⟨P2, 0, none⟩), .pointer (some ⟨P3, 0, none⟩)] V fun e w' => e = .returned (.bool (pf x)) ∧ Below V.heap.size V w') :
    Calls Tryz.prog 133 #[v, .func (.func 134) #[] #[.pointer (some ⟨P1, 0, none⟩), .pointer (some ⟨P2, 0, none⟩), .pointer (some ⟨P3, 0, none⟩)]] W fun e w' => e = .returned (.tuple #[bV (hvM pf l).1, .bool (hvM pf l).2.1]) ∧ Below W.heap.size W w' := by
  obtain ⟨o, cap, hvo, h1, h2, h3, h5⟩ := row_slice h
  have hlen : (l.length : Int) ≤ 9223372036854775807 := by rw [maxLen_eq] at h2; omega
  have hcap : (l.length : Int) ≤ (cap : Int) := by omega
  have HR : Hid (W.ownsRow B0 150 3 v l.length (cellsR l)) := h
  have HG : Hid _ := hg
  have HK : Hid (∀ x ∈ l, RlOk x) := hok
  have H5 : Hid (∀ g, v.ownBlock = some g → o = some ⟨g, 0, none⟩) := h5
  subst hvo
  clear h hg h5 h3 hok
  go_enter Tryz.func133, Tryz.ntmps133
  go_wp2_with fail
  go_loopw [4, 5, 6, 12] (fun a b m y wr => ∃ k : Nat, k ≤ l.length ∧ y = .int .i64 k ∧ a = bV (hvM pf (l.take k)).1 ∧ b = .bool (hvM pf (l.take k)).2.1 ∧ m = .int .i64 (hvM pf (l.take k)).2.2 ∧ Below W.heap.size W wr) (fun _ _ _ y _ => l.length - (intOf y).toNat)
  case atStart => exact ⟨0, Nat.zero_le _, rfl, rfl, rfl, rfl, Below.refl _ _⟩
  case round =>
    obtain ⟨k, hk, rfl, rfl, rfl, rfl, hb⟩ := hrel
    by_cases hlt : k < l.length
    · have hlt' : (k : Int) < (l.length : Int) := by omega
      obtain ⟨x, hx⟩ : ∃ x, l[k]? = some x := ⟨_, List.getElem?_eq_getElem hlt⟩
      obtain ⟨q0, q1, q2⟩ := cellsR_at hx
      obtain ⟨g, hgb, c0⟩ := row_get (own_bel HR.out hb) _ _ q0
      obtain ⟨g1, hgb1, c1⟩ := row_get (own_bel HR.out hb) _ _ q1
      obtain ⟨g2, hgb2, c2⟩ := row_get (own_bel HR.out hb) _ _ q2
      rw [hgb] at hgb1 hgb2
      cases hgb1
      cases hgb2
      have hog := H5.out g hgb
      subst hog
      have hst : l.take (k + 1) = l.take k ++ [x] := by rw [List.take_add_one, hx]; rfl
      have HST : Hid (hvM pf (l.take (k + 1)) = hvStep pf (hvM pf (l.take k)) x) := (by rw [hst, hvM_snoc] : hvM pf (l.take (k + 1)) = hvStep pf (hvM pf (l.take k)) x)
      have HOK : Hid (RlOk x) := HK.out x (List.mem_of_getElem? hx)
      have GX := fun V (hv : Below wr.heap.size wr V) => HG.out x V (List.mem_of_getElem? hx) (mbel hb hv)
      have WX := fun V => Weight_any x.wh HOK.out.2.2.2 V
      clear hst hx q0 q1 q2 hgb
      obtain ⟨A, hA⟩ : ∃ A, hvM pf (l.take k) = A := ⟨_, rfl⟩
      rw [hA] at HST ⊢
      clear hA
      obtain ⟨av, af, am⟩ := A
      obtain ⟨wt, hwt⟩ : ∃ t, wtM x.wh = t := ⟨_, rfl⟩
      simp only [hwt] at WX
      have HWT : Hid (wtM x.wh = wt) := hwt
      clear hwt
      have W1 := WX (wr.alloc (.cells #[bV x.wh, bV x.nm, bV x.vl] 150))
      have n3 := mbox wr #[bV x.wh, bV x.nm, bV x.vl] 150
      have b3 := mal wr (.cells #[bV x.wh, bV x.nm, bV x.vl] 150)
      go_upto_region 5 with fail
      obtain ⟨V3, hV3⟩ : ∃ V, wr.alloc (.cells #[bV x.wh, bV x.nm, bV x.vl] 150) = V := ⟨_, rfl⟩
      rw [hV3] at W1 n3 b3 ⊢
      clear hV3 WX
      have p0 := bcell n3 0 _ rfl
      go_upto_region 6 with (go_at_call 30; refine W1.mono ?_; rintro e w4 ⟨rfl, b4⟩)
      clear W1 p0
      have n4 := bel_blk b4 n3
      have B4 := mbel b3 b4
      have p0 := bcell n4 0 _ rfl
      have p1 := bcell n4 1 _ rfl
      have p2 := bcell n4 2 _ rfl
      by_cases hle : am ≤ wt
      · have hle' : (am : Int) ≤ (wt : Int) := by omega
        have GX4 := GX w4 B4
        clear GX
        cases hp : pf x with
        | true =>
          rw [hp] at GX4
          have hst2 : hvM pf (l.take (k + 1)) = (x.vl, true, wt) := by rw [HST.out, hvStep_yes (by rw [HWT.out]; exact hle) hp, HWT.out]
          have HS2 : Hid (hvM pf (l.take (k + 1)) = (x.vl, true, wt)) := hst2
          clear hst2 hp
          go_upto_region 7 with (go_at_call 134; refine GX4.mono ?_; rintro e w5 ⟨rfl, b5⟩)
          have r2 := bcell (bel_blk b5 n4) 2 _ rfl
          go_wp2_with fail
          go_roundw
          case rel => exact ⟨k + 1, by omega, by go_num, by rw [HS2.out], by rw [HS2.out], by rw [HS2.out], mbel hb (mbel B4 b5)⟩
          case measure => simp [intOf]; omega
        | false =>
          rw [hp] at GX4
          have hst2 : hvM pf (l.take (k + 1)) = (av, af, am) := by rw [HST.out, hvStep_no hp]
          have HS2 : Hid (hvM pf (l.take (k + 1)) = (av, af, am)) := hst2
          clear hst2 hp
          go_wp2_with (go_at_call 134; refine GX4.mono ?_; rintro e w5 ⟨rfl, b5⟩)
          go_roundw
          case rel => exact ⟨k + 1, by omega, by go_num, by rw [HS2.out], by rw [HS2.out], by rw [HS2.out], mbel hb (mbel B4 b5)⟩
          case measure => simp [intOf]; omega
      · have hle' : ¬ (am : Int) ≤ (wt : Int) := by omega
        have hst2 : hvM pf (l.take (k + 1)) = (av, af, am) := by rw [HST.out, hvStep_big (by rw [HWT.out]; exact hle)]
        have HS2 : Hid (hvM pf (l.take (k + 1)) = (av, af, am)) := hst2
        clear hst2
        go_wp2_with fail
        go_roundw
        case rel => exact ⟨k + 1, by omega, by go_num, by rw [HS2.out], by rw [HS2.out], by rw [HS2.out], mbel hb B4⟩
        case measure => simp [intOf]; omega
    · obtain rfl : k = l.length := by omega
      have hge : ¬ (l.length : Int) < (l.length : Int) := by omega
      have htk : l.take l.length = l := List.take_length
      have HTK : Hid (l.take l.length = l) := htk
      clear htk
      rw [HTK.out]
      go_wp2_with fail
      go_ret2
      exact ⟨rfl, hb⟩
section
variable {B : Nat} {tg : Tags} {W : World} {DB MB : Nat} {p : Int → Option Nat} {M : Dm} {nx c : Nat} {r : Int → Nat}
/-- What is told, as a value. -/
def tdR : Option Bs → Value
  | none => .tuple #[.string ⟨#[]⟩, .bool false]
  | some v => .tuple #[bV v, .bool true]
theorem hv_unfound (pf : Rl → Bool) : ∀ (l : List Rl) (a : Bs × Bool × Nat), (a.2.1 = false → a.1 = []) → (l.foldl (hvStep pf) a).2.1 = false → (l.foldl (hvStep pf) a).1 = []
  | [], _, ha, h => ha h
  | x :: l, a, ha, h => by
    rw [List.foldl_cons] at h ⊢
    refine hv_unfound pf l _ (fun h1 => ?_) h
    unfold hvStep at h1 ⊢
    split
    · next hc => rw [if_pos hc] at h1; cases h1
    · next hc => rw [if_neg hc] at h1; exact ha h1
set_option maxRecDepth 20000 in
set_option maxHeartbeats 4000000 in
theorem told_any (h : DocW B tg W DB MB p M nx c) (hw : Wd M r) (hF : FitD M) (l : List Rl) (hok : ∀ x ∈ l, RlOk x) (B0 : Nat) (v : Value) (hl : W.ownsRow B0 150 3 v l.length (cellsR l)) (nm : Bs) (n : Int) (hn : Wf64 n) :
    Calls Tryz.prog 97 #[.pointer (some ⟨DB, 0, none⟩), v, .int .i64 n, bV nm] W fun e w' => e = .returned (tdR (toldM M l nm n)) ∧ Below W.heap.size W w' := by
  obtain ⟨k0, k1, k2, -, b0⟩ := three_blocks W (.cells #[.pointer (some ⟨DB, 0, none⟩)] 30) (.cells #[.int .i64 n] 3) (.cells #[bV nm] 9)
  obtain ⟨ov, kv, hvv⟩ := own_slice hl
  subst hvv
  have HD : Hid (DocW B tg W DB MB p M nx c) := h
  have HL : Hid (W.ownsRow B0 150 3 (.slice ov l.length kv) l.length (cellsR l)) := hl
  have HK : Hid (∀ x ∈ l, RlOk x) := hok
  clear h hl hok
  obtain ⟨res, hres⟩ : ∃ x, toldM M l nm n = x := ⟨_, rfl⟩
  have hR := hres
  unfold toldM at hR
  rw [hres]
  clear hres
  have AT := fun V (hv : Below W.heap.size W V) => Attr_doc (HD.out.below hv) n hn nm
  have hat : attD M n nm = atM M n nm := rfl
  simp only [hat] at AT
  clear hat
  go_enter Tryz.func97, Tryz.ntmps97
  go_upto_region 1 with fail
  obtain ⟨V, hV⟩ : ∃ V, ((W.alloc (.cells #[.pointer (some ⟨DB, 0, none⟩)] 30)).alloc (.cells #[.int .i64 n] 3)).alloc (.cells #[bV nm] 9) = V := ⟨_, rfl⟩
  rw [hV] at k0 k1 k2 b0 ⊢
  clear hV
  have d0 := cell_one k0
  have d1 := cell_one k1
  have d2 := cell_one k2
  have AT1 := AT V b0
  clear AT
  cases ha : atM M n nm with
  | some av =>
    rw [ha] at hR AT1
    subst hR
    simp only [Option.getD_some, Option.isSome_some] at AT1
    go_wp2_with (go_at_call 23; refine AT1.mono ?_; rintro e w1 ⟨rfl, b1⟩)
    go_ret2
    exact ⟨rfl, mbel b0 b1⟩
  | none =>
    rw [ha] at hR AT1
    simp only [Option.getD_none, Option.isSome_none] at AT1
    go_upto_region 4 with (go_at_call 23; refine AT1.mono ?_; rintro e w1 ⟨rfl, b1⟩)
    have B1 := mbel b0 b1
    have HV := heaviest_any l HK.out (rlFits M nm n) B0 (.slice ov l.length kv) w1 (own_bel HL.out B1) (W.heap.size + 1 + 1) W.heap.size (W.heap.size + 1) (fun x X hx hX => told1_any (HD.out.below (mbel B1 hX)) hw hF x (HK.out x hx) nm n hn _ _ _ (((mbel b1 hX).cell (cell_lt3 d2)).trans d2) (((mbel b1 hX).cell (cell_lt3 d0)).trans d0) (((mbel b1 hX).cell (cell_lt3 d1)).trans d1))
    have hun := hv_unfound (rlFits M nm n) l ([], false, 0) (fun _ => rfl)
    have hun' : (hvM (rlFits M nm n) l).2.1 = false → (hvM (rlFits M nm n) l).1 = [] := hun
    obtain ⟨A, hA⟩ : ∃ A, hvM (rlFits M nm n) l = A := ⟨_, rfl⟩
    rw [hA] at HV hR hun'
    clear hA hun
    obtain ⟨hv, hf, hm⟩ := A
    have HRR : Hid ((if hf = true then some hv else none) = res) := hR
    have HUN : Hid (hf = false → hv = []) := hun'
    clear hR hun' AT1
    go_wp2_with (go_at_call 133; refine HV.mono ?_; rintro e w2 ⟨rfl, b2⟩)
    go_ret2
    refine ⟨?_, mbel B1 b2⟩
    rw [← HRR.out]
    cases hf with
    | true => rfl
    | false => rw [HUN.out rfl]; rfl
end

end Go.Proofs.YtnoecobddhmhlaaGreatDoor

namespace Go.Proofs.YtnoecobddhmhlaaGreatDoor
open Go.RowKit Go.Shelf

section
variable {B : Nat} {tg : Tags} {W : World} {DB MB : Nat} {p : Int → Option Nat} {M : Dm} {nx c : Nat} {r : Int → Nat}
theorem wd_par64 (h : DocW B tg W DB MB p M nx c) (n : Int) : Wf64 (parM M n) := by
  unfold parM
  cases hm : M n with
  | none => exact WalkArith.wf_i64 (by decide)
  | some e => exact (h.wf n e hm).1
set_option maxRecDepth 20000 in
set_option maxHeartbeats 4000000 in
theorem Of_any (h : DocW B tg W DB MB p M nx c) (hw : Wd M r) (hF : FitD M) (l : List Rl) (hok : ∀ x ∈ l, RlOk x) (B0 : Nat) (v : Value) (hl : W.ownsRow B0 150 3 v l.length (cellsR l)) (n : Int) (hn : Wf64 n) (nm : Bs) :
    Calls Tryz.prog 42 #[.pointer (some ⟨DB, 0, none⟩), v, .int .i64 n, bV nm] W fun e w' => e = .returned (bV (ofM M l nm n)) ∧ Below W.heap.size W w' := by
  obtain ⟨ov, kv, hvv⟩ := own_slice hl
  subst hvv
  have NA := Name_doc h n hn
  have IN := isNameS_any nm W
  have HD : Hid (DocW B tg W DB MB p M nx c) := h
  have HL : Hid (W.ownsRow B0 150 3 (.slice ov l.length kv) l.length (cellsR l)) := hl
  have HK : Hid (∀ x ∈ l, RlOk x) := hok
  have HF : Hid (FitD M) := hF
  have HW : Hid (Wd M r) := hw
  clear h hl hok hw hF
  cases hm : M n with
  | none =>
    rw [hm] at NA
    have ho : ofM M l nm n = [] := by unfold ofM; rw [hm]; rfl
    rw [ho]
    clear ho hm
    go_enter Tryz.func42, Tryz.ntmps42
    go_wp2_with (go_at_call 46; refine NA.mono ?_; rintro e w1 ⟨rfl, h⟩; rw [h]; clear h)
    go_ret
    exact ⟨rfl, Below.refl _ _⟩
  | some e0 =>
    rw [hm] at NA
    have hne := (HF.out n e0 hm).1
    have hq := ba_toL e0.name []
    have hq1 : (e0.name == []) = false := by simpa using hne
    rw [hq1] at hq
    cases hN : isNmS nm with
    | false =>
      rw [hN] at IN
      have ho : ofM M l nm n = [] := by unfold ofM; rw [hN]; simp
      rw [ho]
      clear ho hm
      go_enter Tryz.func42, Tryz.ntmps42
      go_wp2_with (first | (go_at_call 46; refine NA.mono ?_; rintro e w1 ⟨rfl, h⟩; rw [h]; clear h) | (go_at_call 96; refine IN.mono ?_; rintro e w1 ⟨rfl, h⟩; rw [h]; clear h))
      go_ret
      exact ⟨rfl, Below.refl _ _⟩
    | true =>
      rw [hN] at IN
      have ho := ofM_in (l := l) hm hN
      rw [ho]
      obtain ⟨res, hres⟩ : ∃ x, ofF M l nm 12 n = x := ⟨_, rfl⟩
      rw [hres]
      have HRS : Hid (ofF M l nm 12 n = res) := hres
      have HN0 : Hid (M n = some e0) := hm
      have hrn := (HW.out.rb n e0 hm).2
      clear ho hres hm
      go_enter Tryz.func42, Tryz.ntmps42
      go_upto_region 3 with (first | (go_at_call 46; refine NA.mono ?_; rintro e w1 ⟨rfl, h⟩; rw [h]; clear h) | (go_at_call 96; refine IN.mono ?_; rintro e w1 ⟨rfl, h⟩; rw [h]; clear h))
      clear NA IN
      go_loopw [2] (fun y wr => ∃ (f : Nat) (k : Int), y = .int .i64 k ∧ Wf64 k ∧ ofF M l nm f k = res ∧ (k < 0 ∨ ∃ e, M k = some e ∧ r k ≤ f) ∧ Below W.heap.size W wr) (fun y _ => if intOf y < 0 then 0 else r (intOf y))
      case atStart => exact ⟨12, n, rfl, hn, HRS.out, .inr ⟨e0, HN0.out, by omega⟩, Below.refl _ _⟩
      case round =>
        obtain ⟨f, k, rfl, hk64, hof, hin, hb⟩ := hrel
        have HOF : Hid (ofF M l nm f k = res) := hof
        have HIN : Hid (k < 0 ∨ ∃ e, M k = some e ∧ r k ≤ f) := hin
        clear hof hin
        have FO := fun V => firstOf_any nm V
        by_cases hk : k < 0
        · have hk' : ¬ (0 : Int) ≤ k := by omega
          have hre : res = firstM nm := by rw [← HOF.out, ofF_neg l nm f hk]
          subst hre
          have FO1 := FO wr
          go_wp2_with (go_at_call 99; refine FO1.mono ?_; rintro e w1 ⟨rfl, h⟩; rw [h]; clear h)
          go_ret
          exact ⟨rfl, hb⟩
        · have hk' : (0 : Int) ≤ k := by omega
          have hin : ∃ e, M k = some e ∧ r k ≤ f := by
            rcases HIN.out with h | h
            · exact absurd h hk
            · exact h
          obtain ⟨ek, hek, hrf⟩ := hin
          have hr1 := (HW.out.rb k ek hek).1
          obtain ⟨f, rfl⟩ : ∃ g, f = g + 1 := ⟨f - 1, by omega⟩
          have HEK : Hid (M k = some ek) := hek
          clear hek
          have TD := told_any (HD.out.below hb) HW.out HF.out l HK.out B0 _ (own_bel HL.out hb) nm k hk64
          cases ht : toldM M l nm k with
          | some tv =>
            rw [ht] at TD
            unfold tdR at TD
            have hre : res = tv := by rw [← HOF.out, ofF_told f hk' ht]
            subst hre
            clear ht
            go_wp2_with (go_at_call 97; refine TD.mono ?_; rintro e w1 ⟨rfl, b1⟩)
            go_ret
            exact ⟨rfl, mbel hb b1⟩
          | none =>
            rw [ht] at TD
            unfold tdR at TD
            have HT : Hid (toldM M l nm k = none) := ht
            clear ht
            go_upto_region 8 with (go_at_call 97; refine TD.mono ?_; rintro e w1 ⟨rfl, b1⟩)
            have IH := isInh_any nm w1
            have PA : Calls Tryz.prog 45 #[.pointer (some ⟨DB, 0, none⟩), .int .i64 k] w1 fun r w' => r = .returned (.int .i64 (parM M k)) ∧ w' = w1 := Parent_doc (HD.out.below (mbel hb b1)) k hk64
            have FO1 := FO w1
            cases hi : isInh nm with
            | false =>
              rw [hi] at IH
              have hre : res = firstM nm := by rw [← HOF.out, ofF_end f hk' HT.out hi]
              subst hre
              clear hi
              go_wp2_with (first | (go_at_call 98; refine IH.mono ?_; rintro e w2 ⟨rfl, h⟩; rw [h]; clear h) | (go_at_call 99; refine FO1.mono ?_; rintro e w1 ⟨rfl, h⟩; rw [h]; clear h))
              go_ret
              exact ⟨rfl, mbel hb b1⟩
            | true =>
              rw [hi] at IH
              have hre : ofF M l nm f (parM M k) = res := by rw [← HOF.out, ofF_up f hk' HT.out hi]
              have hpp : (parM M k < 0) ∨ ((0 ≤ parM M k) ∧ ∃ q, M (parM M k) = some q ∧ r k = r (parM M k) + 1) := by
                by_cases h0 : k = 0
                · subst h0; rw [HW.out.root_par]; exact .inl (by decide)
                · obtain ⟨q, hq, hr⟩ := HW.out.up_par HEK.out h0
                  exact .inr ⟨HW.out.pos hq, q, hq, hr⟩
              have hp64 := wd_par64 HD.out k
              obtain ⟨pk, hpk⟩ : ∃ x, parM M k = x := ⟨_, rfl⟩
              rw [hpk] at hre hpp hp64 PA
              have HRE : Hid (ofF M l nm f pk = res) := hre
              have HPP : Hid ((pk < 0) ∨ ((0 ≤ pk) ∧ ∃ q, M pk = some q ∧ r k = r pk + 1)) := hpp
              clear hi hpk hre hpp
              go_wp2_with (first | (go_at_call 98; refine IH.mono ?_; rintro e w2 ⟨rfl, h⟩; rw [h]; clear h) | (go_at_call 45; refine PA.mono ?_; rintro e w1 ⟨rfl, h⟩; rw [h]; clear h))
              go_roundw
              case rel =>
                refine ⟨f, pk, rfl, hp64, HRE.out, ?_, mbel hb b1⟩
                rcases HPP.out with h | ⟨_, q, hq, hr⟩
                · exact .inl h
                · exact .inr ⟨q, hq, by omega⟩
              case measure =>
                have hkn : ¬ k < 0 := by omega
                show (if pk < 0 then 0 else r pk) < (if k < 0 then 0 else r k)
                rw [if_neg hkn]
                rcases HPP.out with h | ⟨h1, q, hq, hr⟩
                · rw [if_pos h]; omega
                · rw [if_neg (show ¬ pk < 0 by omega)]; omega
end

end Go.Proofs.YtnoecobddhmhlaaGreatDoor

namespace Go.Proofs.YtnoecobddhmhlaaGreatDoor
open Go.RowKit Go.Shelf

/-- The errors that the laws on styles meet. -/
structure SE (E : Nat → Addr) (w : World) : Prop where
  ce : CE E w
  text : w.cell? ⟨8, 0, none⟩ = some (.iface 245 (.pointer (some (E 1))))
  mx : MxL w
theorem SE.below {E : Nat → Addr} {w w' : World} (h : SE E w) (hb : Below w.heap.size w w') : SE E w' := ⟨h.ce.below hb, (hb.cell (cell_lt3 h.text)).trans h.text, h.mx.below hb⟩
theorem ShR_any {ea ef : Addr} {b : Nat} {x : Except Nat (List Rl)} {e : Ending} {w : World} (h : ShR ea ef b x e w) : ∃ v u, e = .returned (.tuple #[v, u]) := by
  cases x with
  | error k => obtain ⟨pb, h, -⟩ := h; exact ⟨_, _, h⟩
  | ok l =>
    rcases h with ⟨-, h⟩ | ⟨-, v, h, -⟩
    · exact ⟨_, _, h⟩
    · exact ⟨_, _, h⟩
def ndS : Nd := .mk [97] [] [.mk [98] [] []]
def rlS : Rl := ⟨[97], kFill, [114, 101, 100]⟩
theorem sheetS : sheetM [97, 32, 123, 32, 102, 105, 108, 108, 58, 32, 114, 101, 100, 32, 125, 10] = .ok [rlS] := by rfl
theorem nd_ab (W : World) : NdC (W.alloc (.cells #[.string ⟨#[98]⟩, .slice none 0 0, .slice none 0 0] 25)) (.string ⟨#[97]⟩) (.slice none 0 0) (.slice (some ⟨W.heap.size, 0, none⟩) 1 1) ndS := by
  unfold ndS NdC
  have n0 := mbox W #[.string ⟨#[98]⟩, .slice none 0 0, .slice none 0 0] 25
  refine ⟨rfl, by rw [maxLen_eq]; decide, ⟨none, 0, rfl, Nat.le_refl _, Nat.zero_le _, fun _ => rfl, fun i x h => by simp at h⟩, _, 1, rfl, Nat.le_refl _, by rw [maxLen_eq]; decide, (fun h => by cases h), ?_⟩
  unfold KdsAt
  refine ⟨⟨_, _, _, _, _, rfl, bcell n0 0 _ rfl, bcell n0 1 _ rfl, bcell n0 2 _ rfl, ?_⟩, ?_⟩
  · unfold NdC
    refine ⟨rfl, by rw [maxLen_eq]; decide, ⟨none, 0, rfl, Nat.le_refl _, Nat.zero_le _, fun _ => rfl, fun i x h => by simp at h⟩, none, 0, rfl, Nat.le_refl _, Nat.zero_le _, fun _ => rfl, ?_⟩
    unfold KdsAt
    trivial
  · unfold KdsAt
    trivial
theorem rlS_ok : ∀ x ∈ [rlS], RlOk x := shA_ok _ _ _ _ (by decide) (fun _ h => by cases h) sheetS
set_option maxRecDepth 20000 in
set_option maxHeartbeats 4000000 in
theorem styled_any {E : Nat → Addr} (W : World) (hE : SE E W) :
    Calls Tryz.prog 37 #[] W fun e w' => e = .returned (.bool true) ∧ Below W.heap.size W w' := by
  have RD := ReadS_any [97, 32, 123, 32, 102, 105, 108, 108, 58, 32, 114, 101, 100, 32, 125, 10] (by decide) W (E 1) (E 7) hE.text hE.ce.c7 hE.mx
  rw [sheetS] at RD
  have HE : Hid (SE E W) := hE
  clear hE
  go_enter Tryz.func37, Tryz.ntmps37
  go_upto_region 2 with (go_at_call 38; refine RD.mono ?_; rintro e w1 ⟨hr, b1⟩; obtain ⟨v, rfl, ho⟩ : ∃ v, e = .returned (.tuple #[v, .nilIface]) ∧ w1.ownsRow W.heap.size 150 3 v 1 (cellsR [rlS]) := (by rcases hr with ⟨h1, -⟩ | ⟨-, h2⟩; exact absurd h1 (by decide); exact h2))
  clear RD
  obtain ⟨ov, kv, hvv⟩ := own_slice ho
  subst hvv
  have HO : Hid (w1.ownsRow W.heap.size 150 3 (.slice ov 1 kv) 1 (cellsR [rlS])) := ho
  clear ho hr
  have b2 := mal w1 (.cells #[.string ⟨#[98]⟩, .slice none 0 0, .slice none 0 0] 25)
  have NW := New_S E ndS _ _ _ _ ((HE.out.below b1).below b2).ce (nd_ab w1) (by decide) (by decide)
  go_upto_region 5 with (go_at_call 8; refine NW.mono ?_; rintro e w3 ⟨b3, DB, MB, tg, p, rfl, d3⟩)
  have B3 := mbel b2 b3
  have OF := Of_any d3.w d3.d (FitD.new ndS (by decide)) [rlS] rlS_ok W.heap.size _ (own_bel HO.out B3) 1 (by decide) kFill
  have OL := fun V (hv : Below w3.heap.size w3 V) => Of_any (d3.w.below hv) d3.d (FitD.new ndS (by decide)) [rlS] rlS_ok W.heap.size _ (own_bel HO.out (mbel B3 hv)) 1 (by decide) kLevel
  rw [show ofM (newD ndS) [rlS] kFill 1 = [114, 101, 100] from by decide +kernel] at OF
  simp only [show ofM (newD ndS) [rlS] kLevel 1 = [48] from by decide +kernel] at OL
  clear NW d3
  go_wp2_with (first | (go_at_call 42; refine OF.mono ?_; rintro e w4 ⟨rfl, b4⟩; clear OF) | (go_at_call 42; refine (OL _ b4).mono ?_; rintro e w5 ⟨rfl, b5⟩))
  go_ret
  exact ⟨rfl, mbel (mbel b1 B3) (mbel b4 b5)⟩

end Go.Proofs.YtnoecobddhmhlaaGreatDoor

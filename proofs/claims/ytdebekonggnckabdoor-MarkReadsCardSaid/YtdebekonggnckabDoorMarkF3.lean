/-
  A value's signs, and the text of a flat list, as the document's answer writes them.
-/
import Derived.Test.YtdebekonggnckabDoorMarkF2
import Derived.Test.YtdebekonggnckabDoorMark18
import Derived.Test.YtdebekonggnckabDoorMarkG
namespace Go.Proofs.YtdebekonggnckabDoor
open Go.RowKit

theorem cat_bs (a c : Bs) : (⟨a.toArray⟩ ++ ⟨c.toArray⟩ : ByteArray) = ⟨(a ++ c).toArray⟩ := cat1 a c
theorem escV_more {v : Bs} {k : Nat} {c : UInt8} (h : v[k]? = some c) : escV (v.take (k + 1)) = escV (v.take k) ++ escB c := by
  rw [List.take_add_one, h, escV_append]
  simp [escV]
theorem escV_tk (v : Bs) (k : Nat) : (escV (v.take k)).length ≤ 6 * v.length := by
  have := escV_len (v.take k)
  rw [List.length_take] at this
  omega
theorem bs_one (s : Bs) (i : Nat) (c : UInt8) (h : s[i]? = some c) : (⟨s.toArray⟩ : ByteArray).extract i (i + 1) = ⟨([c] : Bs).toArray⟩ := by
  have e := Lib.extract_data ⟨s.toArray⟩ i (i + 1)
  have h1 : (s.drop i).take (i + 1 - i) = [c] := by
    rw [Nat.add_sub_cancel_left]
    have hi := (List.getElem?_eq_some_iff.1 h).1
    have h2 := (List.getElem?_eq_some_iff.1 h).2
    rw [List.drop_eq_getElem_cons hi, List.take_succ_cons, List.take_zero, h2]
  cases he : (⟨s.toArray⟩ : ByteArray).extract i (i + 1) with
  | mk d =>
    rw [he] at e
    simp only at e
    have : d.toList = [c] := e.trans h1
    rw [← this]

set_option maxRecDepth 20000 in
set_option maxHeartbeats 4000000 in
theorem signs_any (v : Bs) (hv : v.length ≤ 1000) (w : World) : Calls Tryd.prog 40 #[.string ⟨v.toArray⟩] w fun e w' => e = .returned (.string ⟨(escV v).toArray⟩) ∧ w' = w := by
  have hsz := strV_size v
  have hv' : (v.length : Int) ≤ 1000 := by omega
  go_enter Tryd.func40, Tryd.ntmps40
  go_wp2_with fail
  go_loopw [3, 4] (fun u y wr => ∃ k : Nat, u = .string ⟨(escV (v.take k)).toArray⟩ ∧ y = .int .i64 k ∧ k ≤ v.length ∧ wr = w) (fun _ y _ => v.length - (intOf y).toNat)
  case atStart => exact ⟨0, by simp [escV], rfl, Nat.zero_le _, rfl⟩
  case round =>
    obtain ⟨k, rfl, rfl, hk, rfl⟩ := hrel
    have htk := escV_tk v k
    by_cases hlt : k < v.length
    · have hlt' : (k : Int) < (v.length : Int) := by omega
      have hlt2 : k < (⟨v.toArray⟩ : ByteArray).size := by rw [hsz]; exact hlt
      have hget := bs_get v k hlt2
      obtain ⟨c, hc⟩ : ∃ c, (⟨v.toArray⟩ : ByteArray)[k] = c := ⟨_, rfl⟩
      rw [hc] at hget
      have HM : Hid (escV (v.take (k + 1)) = escV (v.take k) ++ escB c) := escV_more hget
      have HG : Hid (v[k]? = some c) := hget
      clear hget
      have hb := m_lt255 c
      have s4 : (escV (v.take k)).length + 4 ≤ 9223372036854775807 := by omega
      have s5 : (escV (v.take k)).length + 5 ≤ 9223372036854775807 := by omega
      have s6 : (escV (v.take k)).length + 6 ≤ 9223372036854775807 := by omega
      have s1 : (escV (v.take k)).length + 1 ≤ 9223372036854775807 := by omega
      by_cases c60 : (c.toNat : Int) = 60
      · have HW : Hid (escB c = [38, 108, 116, 59]) := (by have : c = 60 := (m_eq _ _).2 (c60.trans (by decide)); rw [this]; rfl : escB c = [38, 108, 116, 59])
        go_wp2_with fail
        go_roundw
        case rel => exact ⟨k + 1, by rw [HM.out, HW.out, ← cat_bs], by go_num, by omega, trivial⟩
        case measure => simp [intOf]; omega
      by_cases c62 : (c.toNat : Int) = 62
      · have HW : Hid (escB c = [38, 103, 116, 59]) := (by have : c = 62 := (m_eq _ _).2 (c62.trans (by decide)); rw [this]; rfl : escB c = [38, 103, 116, 59])
        go_wp2_with fail
        go_roundw
        case rel => exact ⟨k + 1, by rw [HM.out, HW.out, ← cat_bs], by go_num, by omega, trivial⟩
        case measure => simp [intOf]; omega
      by_cases c38 : (c.toNat : Int) = 38
      · have HW : Hid (escB c = [38, 97, 109, 112, 59]) := (by have : c = 38 := (m_eq _ _).2 (c38.trans (by decide)); rw [this]; rfl : escB c = [38, 97, 109, 112, 59])
        go_wp2_with fail
        go_roundw
        case rel => exact ⟨k + 1, by rw [HM.out, HW.out, ← cat_bs], by go_num, by omega, trivial⟩
        case measure => simp [intOf]; omega
      by_cases c34 : (c.toNat : Int) = 34
      · have HW : Hid (escB c = [38, 113, 117, 111, 116, 59]) := (by have : c = 34 := (m_eq _ _).2 (c34.trans (by decide)); rw [this]; rfl : escB c = [38, 113, 117, 111, 116, 59])
        go_wp2_with fail
        go_roundw
        case rel => exact ⟨k + 1, by rw [HM.out, HW.out, ← cat_bs], by go_num, by omega, trivial⟩
        case measure => simp [intOf]; omega
      have HW : Hid (escB c = [c]) := (by
        have n1 : ¬ c = 60 := fun e => c60 (((m_eq _ _).1 e).trans (by decide))
        have n2 : ¬ c = 62 := fun e => c62 (((m_eq _ _).1 e).trans (by decide))
        have n3 : ¬ c = 38 := fun e => c38 (((m_eq _ _).1 e).trans (by decide))
        have n4 : ¬ c = 34 := fun e => c34 (((m_eq _ _).1 e).trans (by decide))
        unfold escB
        rw [if_neg n1, if_neg n2, if_neg n3, if_neg n4] : escB c = [c])
      have hle1 : (k : Int) + 1 ≤ (v.length : Int) := by omega
      have hle2 : (k : Int) + 1 ≤ ((⟨v.toArray⟩ : ByteArray).size : Int) := by rw [hsz]; omega
      have hle3 : (k : Int) ≤ (k : Int) + 1 := by omega
      have hone := bs_one v k c HG.out
      go_wp2_with fail
      go_roundw
      case rel => exact ⟨k + 1, by rw [HM.out, HW.out, ← cat_bs], by go_num, by omega, trivial⟩
      case measure => simp [intOf]; omega
    · obtain rfl : k = v.length := by omega
      go_wp2_with fail
      go_ret
      exact ⟨by rw [List.take_length]; rfl, rfl⟩

/-- How long a text is. -/
def lenV : Value → Nat
  | .string s => s.size
  | _ => 0
theorem FlRs.back {W0 : World} {a : List FlM} {f : List Fl} {i : Nat} {y : Fl} (h : FlRs W0 a f) (hy : f[i]? = some y) : ∃ x, a[i]? = some x ∧ FlR W0 x y := by
  have hlt : i < a.length := by rw [h.len]; exact (List.getElem?_eq_some_iff.1 hy).1
  obtain ⟨x, hx, -⟩ := drop_at hlt
  obtain ⟨y', h1, h2⟩ := h.get hx
  rw [hy] at h1
  cases h1
  exact ⟨x, hx, h2⟩
theorem clsT_more {l : List Bs} {m : Nat} {nm : Bs} {r : List Bs} (h : l.drop m = nm :: r) : clsT (l.take (m + 1)) = clsT (l.take m) ++ clT nm := by
  have h1 : l[m]? = some nm := by have := congrArg List.head? h; simpa using this
  rw [List.take_add_one, h1, clsT_app]
  simp [clsT]
theorem clsT_le (l : List Bs) {m t : Nat} (h : m ≤ t) : (clsT (l.take m)).length ≤ (clsT (l.take t)).length := by
  have e : l.take t = l.take m ++ (l.take t).drop m := by
    have := (List.take_append_drop m (l.take t)).symm
    rw [List.take_take, Nat.min_eq_left h] at this
    exact this
  rw [e, clsT_app, List.length_append]
  omega
theorem atsT_more2 {ats : List (Bs × Bs)} {k : Nat} {x : Bs × Bs} (hx : ats[k]? = some x) : atsT (ats.take (k + 1)) = atsT (ats.take k) ++ ([32] ++ x.1 ++ [61, 34] ++ escV x.2 ++ [34]) := by
  rw [atsT_more hx]
  simp [atT]
theorem ftx_last (anc : List Bs) (f : Fl) : ftx anc [f] = opT f ++ ([47, 62] ++ clsT (anc.take (anc.length + 1 - 1))) := by
  rw [ftx, Nat.add_sub_cancel, List.take_length]
theorem ftx_in (anc : List Bs) (f g : Fl) (r : List Fl) (h : g.deep = f.deep + 1) : ftx anc (f :: g :: r) = opT f ++ [62] ++ ftx (f.name :: anc) (g :: r) := by
  rw [ftx, if_pos h]
  simp
theorem ftx_on (anc : List Bs) (f g : Fl) (r : List Fl) (hf : f.deep = anc.length + 1) (h : g.deep ≤ f.deep) : ftx anc (f :: g :: r) = opT f ++ ([47, 62] ++ clsT (anc.take (anc.length + 1 - g.deep))) ++ ftx (anc.drop (f.deep - g.deep)) (g :: r) := by
  rw [ftx, if_neg (by omega), hf]
  simp

/-- What a flat list's members must be, that its text is written. -/
def OkF (L : List Fl) : Prop := ∀ f ∈ L, isNm f.name = true ∧ f.attrs.length ≤ 12 ∧ ∀ a ∈ f.attrs, isNm a.1 = true ∧ isVal a.2 = true

set_option maxRecDepth 20000 in
set_option maxHeartbeats 16000000 in
theorem FlatText_any (W : World) (M : List FlM) (g cap : Nat) (L : List Fl) (w : World) (bW : Below W.heap.size W w) (hr : RowF w g M) (hc : M.length ≤ cap) (hl : M.length ≤ 150) (hR : FlRs W M L) (hok : OkF L) (hgd : Good L 0 [] L) (hT : (ftx [] L).length ≤ 100000000) :
    Calls Tryd.prog 17 #[.slice (some ⟨g, 0, none⟩) M.length cap] w fun e w' => Below w.heap.size w w' ∧ e = .returned (.string ⟨(ftx [] L).toArray⟩) := by
  have HR : Hid (FlRs W M L) := hR
  have HW : Hid (RowF w g M) := hr
  have HLEN : Hid (M.length = L.length) := hR.len
  have HOK : Hid (OkF L) := hok
  have hl2 : (M.length : Int) ≤ 150 := by omega
  have hc2 : (M.length : Int) ≤ (cap : Int) := by omega
  clear hR hr hok
  go_enter Tryd.func17, Tryd.ntmps17
  go_wp2_with fail
  go_loopw [3, 4] (fun u y wr => ∃ (i : Nat) (anc : List Bs) (out : Bs), u = .string ⟨out.toArray⟩ ∧ y = .int .i64 i ∧ i ≤ M.length ∧ ftx [] L = out ++ ftx anc (L.drop i) ∧ Good L i anc (L.drop i) ∧ Below w.heap.size w wr) (fun _ y _ => M.length - (intOf y).toNat)
  case atStart => exact ⟨0, [], [], rfl, rfl, Nat.zero_le _, rfl, hgd, Below.refl _ _⟩
  case round =>
    obtain ⟨i, anc, out, rfl, rfl, hi', hq, hgi, hbr⟩ := hrel
    have HQ : Hid (ftx [] L = out ++ ftx anc (L.drop i)) := hq
    have HGI : Hid (Good L i anc (L.drop i)) := hgi
    clear hq hgi
    by_cases hlt : i < M.length
    · have hlt' : (i : Int) < (M.length : Int) := by omega
      obtain ⟨x, hx, -⟩ := drop_at hlt
      obtain ⟨f, hf, hfr⟩ := HR.out.get hx
      have hdr : L.drop i = f :: L.drop (i + 1) := by
        obtain ⟨y, hy, hd⟩ := drop_at (l := L) (k := i) (by rw [← HLEN.out]; exact hlt)
        rw [hf] at hy
        cases hy
        exact hd
      obtain ⟨r0, r1, r2, r3⟩ := HW.out i x hx
      obtain ⟨hnm, hna, hvs⟩ := HOK.out f (List.mem_of_getElem? hf)
      obtain ⟨xn, xc, xp, xd⟩ := x
      obtain ⟨fn, fa, fp, fd⟩ := f
      obtain ⟨rfl, hats, rfl, rfl, hln⟩ := hfr
      simp only at hats hln hnm hna hvs
      obtain ⟨oa, ca, rfl, ha1, ha2, -, ha4⟩ := hats
      have hnl := isNm_len hnm
      have HDR : Hid (L.drop i = ⟨xn, fa, xp, xd⟩ :: L.drop (i + 1)) := hdr
      have HLI : Hid (L[i]? = some ⟨xn, fa, xp, xd⟩) := hf
      have HVS : Hid (∀ a ∈ fa, isNm a.1 = true ∧ isVal a.2 = true) := hvs
      simp only at r0 r1 r2 r3
      have q0 := (hbr.cell (cell_lt3 r0)).trans r0
      have HA : Hid (AtsAt W oa fa) := ha4
      have hla : (fa.length : Int) ≤ 9223372036854775807 := by rw [maxLen_eq] at ha2; omega
      have HC1 : Hid (w.cell? ⟨g, i * 4 + 1, none⟩ = some (.slice oa fa.length ca)) := r1
      have HX1 : Hid (out.length ≤ 100000000) := (by rw [HQ.out, List.length_append] at hT; omega : out.length ≤ 100000000)
      have s1 : out.length + 1 ≤ 9223372036854775807 := by have := HX1.out; omega
      have s2 : out.length + 1 + xn.length ≤ 9223372036854775807 := by have := HX1.out; omega
      clear r0 r1 r2 r3 hx ha4 hf hdr hnm hvs
      go_wp2_with fail
      go_loopw [3, 5] (fun u y wq => ∃ (k : Nat) (X : Bs), u = .string ⟨X.toArray⟩ ∧ y = .int .i64 k ∧ k ≤ fa.length ∧ X = out ++ [60] ++ xn ++ atsT (fa.take k) ∧ Below w.heap.size w wq) (fun _ y _ => fa.length - (intOf y).toNat)
      case atStart => exact ⟨0, out ++ [60] ++ xn, by rw [← cat_bs, ← cat_bs], rfl, Nat.zero_le _, by simp [atsT], hbr⟩
      case round =>
        obtain ⟨k, X, rfl, rfl, hk, hX, hbq⟩ := hrel
        obtain ⟨wq, rfl⟩ : ∃ V, V = wr := ⟨_, rfl⟩
        have HX : Hid (X = out ++ [60] ++ xn ++ atsT (fa.take k)) := hX
        have hXl : X.length ≤ 100030000 := by
          have h1 := HX1.out
          have h2 := atsT_len (fa.take k) (fun b hb => HVS.out b (List.mem_of_mem_take hb))
          rw [List.length_take] at h2
          rw [hX]
          simp
          omega
        clear hX
        have p1 := (hbq.cell (cell_lt3 HC1.out)).trans HC1.out
        by_cases hlk : k < fa.length
        · have hlk' : (k : Int) < (fa.length : Int) := by omega
          obtain ⟨a, hxa, -⟩ := drop_at hlk
          have HXA : Hid (fa[k]? = some a) := hxa
          obtain ⟨hn1, hv1⟩ := HVS.out a (List.mem_of_getElem? hxa)
          have hn2 := isNm_len hn1
          have hv2 := isVal_len hv1
          have hv3 := escV_len a.2
          obtain ⟨b1, o1, rfl, d0, d1, -, -⟩ := HA.out k a hxa
          have bQ : Below W.heap.size W wq := bW.trans (hbq.mono bW.size)
          have j0 := (bQ.cell (cell_lt3 d0)).trans d0
          have j1 := (bQ.cell (cell_lt3 d1)).trans d1
          unfold strV at j0 j1
          clear d0 d1 hxa hn1 hv1
          have t1 : X.length + 1 ≤ 9223372036854775807 := by omega
          have t2 : X.length + 1 + a.1.length ≤ 9223372036854775807 := by omega
          have t3 : X.length + 1 + a.1.length + 2 ≤ 9223372036854775807 := by omega
          have t4 : X.length + 1 + a.1.length + 2 + (escV a.2).length ≤ 9223372036854775807 := by omega
          have t5 : X.length + 1 + a.1.length + 2 + (escV a.2).length + 1 ≤ 9223372036854775807 := by omega
          go_upto_region 9 with fail
          go_quiet ((go_at_call 40; exact Calls.quiet_of_same (signs_any a.2 (by omega) _)))
          go_wp2_with fail
          go_roundw
          case rel => exact ⟨k + 1, X ++ [32] ++ a.1 ++ [61, 34] ++ escV a.2 ++ [34], by rw [← cat_bs, ← cat_bs, ← cat_bs, ← cat_bs, ← cat_bs], by go_num, by omega, by rw [atsT_more2 HXA.out, HX.out]; simp, mdrew _ hbq⟩
          case measure => simp [intOf]; omega
        · obtain rfl : k = fa.length := by omega
          have hge : ¬ (fa.length : Int) < (fa.length : Int) := by omega
          have HXO : Hid (X = out ++ opT ⟨xn, fa, xp, xd⟩) := (by rw [HX.out, List.take_length]; simp [opT] : X = out ++ opT ⟨xn, fa, xp, xd⟩)
          have hdp : xd = anc.length + 1 := by have := HGI.out; rw [HDR.out] at this; exact this.head.2
          have HCH : Hid (Chain L xp anc) := (by have := HGI.out; rw [HDR.out] at this; exact this.head.1 : Chain L xp anc)
          have v1 : X.length + 1 ≤ 9223372036854775807 := by omega
          have v2 : X.length + 2 ≤ 9223372036854775807 := by omega
          cases hrest : L.drop (i + 1) with
          | nil =>
            have hlen : L.length = i + 1 := by
              have h1 := congrArg List.length hrest
              rw [List.length_drop] at h1
              simp at h1
              have := HLEN.out
              omega
            have hl5 : (i : Int) + 1 = (M.length : Int) := by have := HLEN.out; omega
            have hl6 : ¬ (i : Int) + 1 < (M.length : Int) := by omega
            have hl7 : decide ((i : Int) + 1 < (M.length : Int)) = false := decide_eq_false hl6
            have hl8 : ((i : Int) + 1 == (M.length : Int)) = true := by rw [hl5]; simp
            have HTL : Hid (ftx [] L = X ++ [47, 62] ++ clsT (anc.take (anc.length + 1 - 1))) := (by rw [HQ.out, HDR.out, hrest, ftx_last, HXO.out]; simp : ftx [] L = X ++ [47, 62] ++ clsT (anc.take (anc.length + 1 - 1)))
            have HYB : Hid (X.length + 2 + (clsT (anc.take (anc.length + 1 - 1))).length ≤ 100000000) := (by rw [HTL.out] at hT; simp at hT ⊢; omega : X.length + 2 + (clsT (anc.take (anc.length + 1 - 1))).length ≤ 100000000)
            have HGN : Hid (Good L (i + 1) [] (L.drop (i + 1))) := (by rw [hrest]; trivial : Good L (i + 1) [] (L.drop (i + 1)))
            go_wp2_with fail
            go_loopw [3, 8] (fun u y wp => ∃ (m at_ : Nat) (Y : Bs) (f' : Fl), u = .string ⟨Y.toArray⟩ ∧ y = .int .i64 at_ ∧ m ≤ (anc.length + 1 - 1) ∧ Y = X ++ [47, 62] ++ clsT (anc.take m) ∧ L[at_]? = some f' ∧ f'.deep + m = anc.length + 1 ∧ Chain L f'.parent (anc.drop m) ∧ Below w.heap.size w wp) (fun u _ _ => 1000000000 - lenV u)
            case atStart => exact ⟨0, i, X ++ [47, 62], _, by rw [← cat_bs], rfl, Nat.zero_le _, by simp [clsT], HLI.out, by simp [hdp], HCH.out, hbq⟩
            case round =>
              obtain ⟨m, at_, Y, f', rfl, rfl, hm, hY, hLf, hdf, hcf, hbp⟩ := hrel
              obtain ⟨wp, rfl⟩ : ∃ V, V = wr := ⟨_, rfl⟩
              have HY : Hid (Y = X ++ [47, 62] ++ clsT (anc.take m)) := hY
              have hYl : Y.length ≤ 200000000 := by
                have h1 := HYB.out
                have h2 := clsT_le anc hm
                rw [hY]
                simp
                omega
              obtain ⟨x', hx', hfr'⟩ := HR.out.back hLf
              obtain ⟨r0', r1', r2', r3'⟩ := HW.out at_ x' hx'
              have hat : at_ < M.length := (List.getElem?_eq_some_iff.1 hx').1
              have hat' : (at_ : Int) < (M.length : Int) := by omega
              have hfp : x'.parent = f'.parent := hfr'.2.2.1
              have hfd : x'.deep = f'.deep := hfr'.2.2.2.1
              have s2' := (hbp.cell (cell_lt3 r2')).trans r2'
              have s3' := (hbp.cell (cell_lt3 r3')).trans r3'
              have HCP : Hid (Chain L f'.parent (anc.drop m)) := hcf
              clear r0' r1' r2' r3' hY hcf hfr' hx'
              by_cases hmt : m < (anc.length + 1 - 1)
              · have hgt : 1 < (x'.deep : Int) := by omega
                cases hda : anc.drop m with
                | nil => exact absurd (congrArg List.length hda) (by rw [List.length_drop]; simp; omega)
                | cons nm r' =>
                  have hcf := HCP.out
                  rw [hda] at hcf
                  obtain ⟨j, f2, hpj, hLj, hnm2, hd2, hc2'⟩ := hcf
                  obtain ⟨x2, hx2, hfr2⟩ := HR.out.back hLj
                  obtain ⟨r0', -, -, -⟩ := HW.out j x2 hx2
                  have hj : j < M.length := (List.getElem?_eq_some_iff.1 hx2).1
                  have hj' : (j : Int) < (M.length : Int) := by omega
                  rw [hfr2.1, hnm2] at r0'
                  have s0' := (hbp.cell (cell_lt3 r0')).trans r0'
                  rw [hfp, hpj] at s2'
                  have hnl2 : nm.length ≤ 12 := by
                    have := (HOK.out f2 (List.mem_of_getElem? hLj)).1
                    rw [hnm2] at this
                    exact isNm_len this
                  have g1 : Y.length + 2 ≤ 9223372036854775807 := by omega
                  have g2 : Y.length + 2 + nm.length ≤ 9223372036854775807 := by omega
                  have g3 : Y.length + 2 + nm.length + 1 ≤ 9223372036854775807 := by omega
                  have HF2 : Hid (L[j]? = some f2 ∧ f2.deep + (m + 1) = anc.length + 1 ∧ Chain L f2.parent (anc.drop (m + 1))) := ⟨hLj, by have := congrArg List.length hda; rw [List.length_drop] at this; simp at this; omega, by rw [show anc.drop (m + 1) = r' from by rw [← List.drop_drop, hda]; rfl]; exact hc2'⟩
                  have HMO : Hid (clsT (anc.take (m + 1)) = clsT (anc.take m) ++ clT nm) := clsT_more hda
                  clear r0' hda hLj hc2' hfr2 hx2 hpj hd2 hnm2 hLf
                  go_wp2_with fail
                  go_roundw
                  case rel => exact ⟨m + 1, j, Y ++ [60, 47] ++ nm ++ [62], f2, by rw [← cat_bs, ← cat_bs, ← cat_bs], rfl, by omega, by rw [HMO.out, HY.out]; simp [clT], HF2.out.1, HF2.out.2.1, HF2.out.2.2, hbp⟩
                  case measure => simp [lenV, strV_size]; omega
              · obtain rfl : m = (anc.length + 1 - 1) := by omega
                have hgt : ¬ 1 < (x'.deep : Int) := by omega
                have hpe : x'.parent = -1 := by
                  have h5 := HCP.out
                  rw [List.drop_eq_nil_of_le (by omega)] at h5
                  rw [hfp]
                  exact h5
                rw [hpe] at s2'
                have hneg : ¬ (0 : Int) ≤ -1 := by decide
                have HZ : Hid (ftx [] L = Y ++ ftx ([]) (L.drop (i + 1))) := (by rw [HTL.out, HY.out]; simp [hrest, ftx] : ftx [] L = Y ++ ftx ([]) (L.drop (i + 1)))
                go_wp2_with fail
                go_roundw
                case rel => exact ⟨i + 1, [], Y, rfl, by go_num, by omega, HZ.out, HGN.out, hbp⟩
                case measure => simp [intOf]; omega
          | cons g' r =>
            have hL1 : L[i + 1]? = some g' := by have := congrArg List.head? hrest; simpa using this
            obtain ⟨y, hy, hfy⟩ := HR.out.back hL1
            have hi1 : i + 1 < M.length := (List.getElem?_eq_some_iff.1 hy).1
            have hl6 : (i : Int) + 1 < (M.length : Int) := by omega
            have hl7 : decide ((i : Int) + 1 < (M.length : Int)) = true := decide_eq_true hl6
            have hl5 : ¬ (i : Int) + 1 = (M.length : Int) := by omega
            have hl8 : ((i : Int) + 1 == (M.length : Int)) = false := by rw [beq_eq_false_iff_ne]; exact hl5
            obtain ⟨-, -, n2, n3⟩ := HW.out (i + 1) y hy
            rw [hfy.2.2.1] at n2
            rw [hfy.2.2.2.1] at n3
            have e2 := (hbq.cell (cell_lt3 n2)).trans n2
            have e3 := (hbq.cell (cell_lt3 n3)).trans n3
            have hgo := HGI.out
            rw [HDR.out, hrest] at hgo
            clear n2 n3 hfy hy
            rcases hgo.2 with ⟨hpi, hdi, hgn⟩ | ⟨hpi, hdi, hd1, hgn⟩
            · rw [hpi] at e2
              have HZ : Hid (ftx [] L = X ++ [62] ++ ftx (xn :: anc) (L.drop (i + 1))) := (by rw [HQ.out, HDR.out, hrest, ftx_in anc _ _ _ hdi, HXO.out]; simp : ftx [] L = X ++ [62] ++ ftx (xn :: anc) (L.drop (i + 1)))
              have HGN : Hid (Good L (i + 1) (xn :: anc) (L.drop (i + 1))) := (by rw [hrest]; exact hgn : Good L (i + 1) (xn :: anc) (L.drop (i + 1)))
              clear hgo hgn hrest
              go_wp2_with fail
              go_roundw
              case rel => exact ⟨i + 1, xn :: anc, X ++ [62], by rw [← cat_bs], by go_num, by omega, HZ.out, HGN.out, hbq⟩
              case measure => simp [intOf]; omega
            · have hpb : (g'.parent == (i : Int)) = false := by rw [beq_eq_false_iff_ne]; exact hpi
              simp only at hdi
              have HTL : Hid (ftx [] L = X ++ [47, 62] ++ clsT (anc.take (anc.length + 1 - g'.deep)) ++ ftx (anc.drop (xd - g'.deep)) (g' :: r)) := (by rw [HQ.out, HDR.out, hrest, ftx_on anc _ _ _ hdp hdi, HXO.out]; simp : ftx [] L = X ++ [47, 62] ++ clsT (anc.take (anc.length + 1 - g'.deep)) ++ ftx (anc.drop (xd - g'.deep)) (g' :: r))
              have HYB : Hid (X.length + 2 + (clsT (anc.take (anc.length + 1 - g'.deep))).length ≤ 100000000) := (by rw [HTL.out] at hT; simp at hT ⊢; omega : X.length + 2 + (clsT (anc.take (anc.length + 1 - g'.deep))).length ≤ 100000000)
              have HGN : Hid (Good L (i + 1) (anc.drop (xd - g'.deep)) (L.drop (i + 1))) := (by rw [hrest]; exact hgn : Good L (i + 1) (anc.drop (xd - g'.deep)) (L.drop (i + 1)))
              clear hgo hgn
              go_wp2_with fail
              go_loopw [3, 8] (fun u y wp => ∃ (m at_ : Nat) (Y : Bs) (f' : Fl), u = .string ⟨Y.toArray⟩ ∧ y = .int .i64 at_ ∧ m ≤ (anc.length + 1 - g'.deep) ∧ Y = X ++ [47, 62] ++ clsT (anc.take m) ∧ L[at_]? = some f' ∧ f'.deep + m = anc.length + 1 ∧ Chain L f'.parent (anc.drop m) ∧ Below w.heap.size w wp) (fun u _ _ => 1000000000 - lenV u)
              case atStart => exact ⟨0, i, X ++ [47, 62], _, by rw [← cat_bs], rfl, Nat.zero_le _, by simp [clsT], HLI.out, by simp [hdp], HCH.out, hbq⟩
              case round =>
                obtain ⟨m, at_, Y, f', rfl, rfl, hm, hY, hLf, hdf, hcf, hbp⟩ := hrel
                obtain ⟨wp, rfl⟩ : ∃ V, V = wr := ⟨_, rfl⟩
                have HY : Hid (Y = X ++ [47, 62] ++ clsT (anc.take m)) := hY
                have hYl : Y.length ≤ 200000000 := by
                  have h1 := HYB.out
                  have h2 := clsT_le anc hm
                  rw [hY]
                  simp
                  omega
                obtain ⟨x', hx', hfr'⟩ := HR.out.back hLf
                obtain ⟨r0', r1', r2', r3'⟩ := HW.out at_ x' hx'
                have hat : at_ < M.length := (List.getElem?_eq_some_iff.1 hx').1
                have hat' : (at_ : Int) < (M.length : Int) := by omega
                have hfp : x'.parent = f'.parent := hfr'.2.2.1
                have hfd : x'.deep = f'.deep := hfr'.2.2.2.1
                have s2' := (hbp.cell (cell_lt3 r2')).trans r2'
                have s3' := (hbp.cell (cell_lt3 r3')).trans r3'
                have HCP : Hid (Chain L f'.parent (anc.drop m)) := hcf
                clear r0' r1' r2' r3' hY hcf hfr' hx'
                by_cases hmt : m < (anc.length + 1 - g'.deep)
                · have hgt : (g'.deep : Int) < (x'.deep : Int) := by omega
                  cases hda : anc.drop m with
                  | nil => exact absurd (congrArg List.length hda) (by rw [List.length_drop]; simp; omega)
                  | cons nm r' =>
                    have hcf := HCP.out
                    rw [hda] at hcf
                    obtain ⟨j, f2, hpj, hLj, hnm2, hd2, hc2'⟩ := hcf
                    obtain ⟨x2, hx2, hfr2⟩ := HR.out.back hLj
                    obtain ⟨r0', -, -, -⟩ := HW.out j x2 hx2
                    have hj : j < M.length := (List.getElem?_eq_some_iff.1 hx2).1
                    have hj' : (j : Int) < (M.length : Int) := by omega
                    rw [hfr2.1, hnm2] at r0'
                    have s0' := (hbp.cell (cell_lt3 r0')).trans r0'
                    rw [hfp, hpj] at s2'
                    have hnl2 : nm.length ≤ 12 := by
                      have := (HOK.out f2 (List.mem_of_getElem? hLj)).1
                      rw [hnm2] at this
                      exact isNm_len this
                    have g1 : Y.length + 2 ≤ 9223372036854775807 := by omega
                    have g2 : Y.length + 2 + nm.length ≤ 9223372036854775807 := by omega
                    have g3 : Y.length + 2 + nm.length + 1 ≤ 9223372036854775807 := by omega
                    have HF2 : Hid (L[j]? = some f2 ∧ f2.deep + (m + 1) = anc.length + 1 ∧ Chain L f2.parent (anc.drop (m + 1))) := ⟨hLj, by have := congrArg List.length hda; rw [List.length_drop] at this; simp at this; omega, by rw [show anc.drop (m + 1) = r' from by rw [← List.drop_drop, hda]; rfl]; exact hc2'⟩
                    have HMO : Hid (clsT (anc.take (m + 1)) = clsT (anc.take m) ++ clT nm) := clsT_more hda
                    clear r0' hda hLj hc2' hfr2 hx2 hpj hd2 hnm2 hLf
                    go_wp2_with fail
                    go_roundw
                    case rel => exact ⟨m + 1, j, Y ++ [60, 47] ++ nm ++ [62], f2, by rw [← cat_bs, ← cat_bs, ← cat_bs], rfl, by omega, by rw [HMO.out, HY.out]; simp [clT], HF2.out.1, HF2.out.2.1, HF2.out.2.2, hbp⟩
                    case measure => simp [lenV, strV_size]; omega
                · obtain rfl : m = (anc.length + 1 - g'.deep) := by omega
                  have hgt : ¬ (g'.deep : Int) < (x'.deep : Int) := by omega
                  have HZ : Hid (ftx [] L = Y ++ ftx (anc.drop (xd - g'.deep)) (L.drop (i + 1))) := (by rw [HTL.out, HY.out]; simp [hrest] : ftx [] L = Y ++ ftx (anc.drop (xd - g'.deep)) (L.drop (i + 1)))
                  go_wp2_with fail
                  go_roundw
                  case rel => exact ⟨i + 1, anc.drop (xd - g'.deep), Y, rfl, by go_num, by omega, HZ.out, HGN.out, hbp⟩
                  case measure => simp [intOf]; omega
    · obtain rfl : i = M.length := by omega
      have HZ : Hid (out = ftx [] L) := (by rw [HQ.out, HLEN.out, List.drop_length]; simp [ftx] : out = ftx [] L)
      have hge : ¬ (M.length : Int) < (M.length : Int) := by omega
      go_wp2_with fail
      go_ret
      exact ⟨hbr, by rw [← HZ.out]; rfl⟩

end Go.Proofs.YtdebekonggnckabDoor

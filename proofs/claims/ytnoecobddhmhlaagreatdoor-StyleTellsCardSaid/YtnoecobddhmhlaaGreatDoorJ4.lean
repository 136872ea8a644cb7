/-
  strings.IndexRune and strings.IndexAny: the marks of a step's parts in any text.
-/
import Derived.Test.YtnoecobddhmhlaaGreatDoorRuneM
import Derived.Test.YtnoecobddhmhlaaGreatDoorPickB
import Derived.Test.YtnoecobddhmhlaaGreatDoorJ2
import Derived.Test.YtnoecobddhmhlaaGreatDoorShelfI
import Derived.Deep.Cut
import Derived.Laws.Runes
import Derived.WalkMore
import Derived.BigQuiet
import Derived.Deep.QuietTactic
import Derived.Lib.OthersKept
namespace Go.Proofs.YtnoecobddhmhlaaGreatDoor
open Go.RowKit Go.Shelf

set_option maxRecDepth 20000 in
set_option maxHeartbeats 4000000 in
theorem IndexRune_err (w : World) : Calls Tryz.prog 143 #[.string ⟨#[35, 46, 91]⟩, .int .i32 65533] w fun e w' => e = .returned (.int .i64 (-1)) ∧ Below w.heap.size w w' := by
  go_enter Tryz.func143, Tryz.ntmps143
  go_wp2_with fail
  go_loopg [5, 6] 3 (fun g _ _ wx => ∃ i : Nat, i + g = 3 ∧ wx = w.iter ⟨#[35, 46, 91]⟩ i)
  case atStart => exact ⟨0, by omega, rfl⟩
  case round =>
    obtain ⟨i, hig, rfl⟩ := hrel
    cases gk with
    | zero =>
      obtain rfl : i = 3 := by omega
      have hnx := run_next_end (P := Tryz.prog) w ⟨#[35, 46, 91]⟩ 3
      go_wp2
      go_ret
      exact ⟨rfl, (Below.refl _ _).alloc (Nat.le_refl _) _⟩
    | succ g =>
      have hi : i < (⟨#[35, 46, 91]⟩ : ByteArray).size := by
        show i < 3
        omega
      have hnx := fun ty => run_next_ascii (P := Tryz.prog) w ⟨#[35, 46, 91]⟩ i ty hi (by
        have : i = 0 ∨ i = 1 ∨ i = 2 := by omega
        rcases this with rfl | rfl | rfl
        · exact (by decide : (35 : UInt8).toNat < 128)
        · exact (by decide : (46 : UInt8).toNat < 128)
        · exact (by decide : (91 : UInt8).toNat < 128))
      obtain ⟨x, hx⟩ : ∃ x : UInt8, (⟨#[35, 46, 91]⟩ : ByteArray)[i]'hi = x := ⟨_, rfl⟩
      have hxe : ((x.toNat : Int) == 65533) = false := by
        rw [beq_eq_false_iff_ne]
        have := x.toNat_lt
        omega
      rw [hx] at hnx
      clear hx
      go_wp2
      go_roundg g
      case measure => omega
      case rel => exact ⟨i + 1, by omega, rfl⟩

theorem ba2 {E : ByteArray} (h : E.size = 2) : ∃ x0 x1, E = ⟨#[x0, x1]⟩ := by
  obtain ⟨⟨l⟩⟩ := E
  match l, h with
  | [a, b], _ => exact ⟨a, b, rfl⟩
theorem ba3 {E : ByteArray} (h : E.size = 3) : ∃ x0 x1 x2, E = ⟨#[x0, x1, x2]⟩ := by
  obtain ⟨⟨l⟩⟩ := E
  match l, h with
  | [a, b, c], _ => exact ⟨a, b, c, rfl⟩
theorem ba4 {E : ByteArray} (h : E.size = 4) : ∃ x0 x1 x2 x3, E = ⟨#[x0, x1, x2, x3]⟩ := by
  obtain ⟨⟨l⟩⟩ := E
  match l, h with
  | [a, b, c, d], _ => exact ⟨a, b, c, d, rfl⟩
theorem high_ne (x c : UInt8) (h : 128 ≤ x.toNat) (hc : c.toNat < 128) : ((c.toNat : Int) != (x.toNat : Int)) = true := by
  simp only [bne_iff_ne, ne_eq]
  omega
theorem high_no (l : List UInt8) (x : UInt8) (h : 128 ≤ x.toNat) (hl : ∀ c ∈ l, c.toNat < 128) : Lib.indexByte l x = -1 := by
  have h1 := Lib.contains_iff_indexByte l x
  have h2 : l.contains x = false := by
    rw [Bool.eq_false_iff]
    intro h3
    have := hl x (by simpa using h3)
    omega
  rw [h2] at h1
  have h3 := of_decide_eq_false h1.symm
  have h4 := Lib.indexByte_ge l x
  omega
set_option maxRecDepth 20000 in
set_option maxHeartbeats 4000000 in
theorem IndexRune_enc (S : ByteArray) (hS : ∀ c ∈ S.data.toList, c.toNat < 128) (r : Int) (h1 : 128 ≤ r) (he : r ≠ 65533) (w : World) : Calls Tryz.prog 143 #[.string S, .int .i32 r] w fun e w' => e = .returned (.int .i64 (-1)) ∧ Below w.heap.size w w' := by
  have he' : (r == 65533) = false := by rw [beq_eq_false_iff_ne]; exact he
  have VR := Tryz.utf8_ValidRune r w
  have hl : ¬ r < 128 := by omega
  have h0 : 0 ≤ r := by omega
  cases hv : Lib.validRune r with
  | false =>
    rw [hv] at VR
    go_enter Tryz.func143, Tryz.ntmps143
    go_wp2_with (go_at_call 160; refine VR.mono ?_; rintro e w1 ⟨rfl, h⟩; rw [h]; clear h)
    go_ret
    exact ⟨rfl, Below.refl _ _⟩
  | true =>
    rw [hv] at VR
    obtain ⟨s1, s2, s3⟩ := encode_high r h1
    obtain ⟨E, hE⟩ : ∃ E, Utf8.encode r = E := ⟨_, rfl⟩
    rw [hE] at s1 s2 s3
    have HE : Hid (Utf8.encode r = E) := hE
    clear hE
    go_enter Tryz.func143, Tryz.ntmps143
    go_wp2_with (go_at_call 160; refine VR.mono ?_; rintro e w1 ⟨rfl, h⟩; rw [h]; clear h)
    go_step3
    go_upto_region 2 with fail
    rw [HE.out]
    obtain ⟨L, hL⟩ : ∃ L : Nat, (E.size : Int) - 1 = L := ⟨E.size - 1, by omega⟩
    have hLE : L < E.size := by omega
    have hLE' : (L : Int) < (E.size : Int) := by omega
    obtain ⟨x, hx⟩ : ∃ x : UInt8, E[L]'hLE = x := ⟨_, rfl⟩
    have hx8 : 128 ≤ x.toNat := by
      refine s3 x ?_
      rw [← hx]
      simp [ByteArray.getElem_eq_getElem_data]
    clear s3 HE VR
    go_wp2_with fail
    go_loopw [9, 10] (fun y9 y10 wr => y9 = .int .i64 (L : Nat) ∧ y10 = .int .i64 0 ∧ wr = w) (fun _ _ _ => 0)
    case atStart => exact ⟨rfl, rfl, rfl⟩
    case round =>
      obtain ⟨rfl, rfl, hwr⟩ := hrel
      rw [hwr]
      clear hwr
      by_cases hL3 : L < S.size
      · have hL3' : (L : Int) < (S.size : Int) := by omega
        obtain ⟨K1, hK1⟩ : ∃ K1 : Nat, (L : Int) + 1 = K1 := ⟨L + 1, by omega⟩
        have hK2 : (K1 : Int) ≤ (S.size : Int) := by omega
        obtain ⟨y, hy⟩ : ∃ y : UInt8, S[L]'hL3 = y := ⟨_, rfl⟩
        have hy8 : y.toNat < 128 := by
          refine hS y ?_
          rw [← hy]
          simp [ByteArray.getElem_eq_getElem_data]
        have hne := high_ne x y hx8 hy8
        have IB : ∀ V, Calls Tryz.prog 159 #[.string (S.extract K1 S.size), .int .u8 x.toNat] V fun e w' => e = .returned (.int .i64 (-1)) ∧ w' = V := fun V => by
          have h := Tryz.strings_IndexByte (S.extract K1 S.size) x.toNat V
          rw [show ((x.toNat : Int)).toNat.toUInt8 = x from by simp, high_no _ x hx8 (by
            intro c hc
            refine hS c ?_
            simp only [ByteArray.data_extract, Array.toList_extract] at hc
            exact List.mem_of_mem_drop (List.mem_of_mem_take hc))] at h
          exact h
        have hwk : IntKind.i64.wrap (K1 : Int) = (K1 : Int) := IntWalk.i64_in _ (by omega)
        go_wp2_with fail
        go_step3
        go_upto_region 6 with fail
        go_region
        go_upto_region 7 with fail
        go_region_with ((go_at_call 159; refine (IB _).mono ?_; rintro e w2 ⟨rfl, h⟩; rw [h]; clear h))
        go_wp2_with fail
        rw [Exit.noGoto_ret]
        go_wp2_with fail
        rw [Exit.noGoto_ret]
        go_wp2_with fail
        go_ret
        exact ⟨rfl, (Below.refl _ w).drew.drew⟩
      · have hL3' : ¬ (L : Int) < (S.size : Int) := by omega
        go_wp2_with fail
        go_ret
        exact ⟨rfl, Below.refl _ _⟩
theorem IndexRune_high (r : Int) (h1 : 128 ≤ r) (w : World) : Calls Tryz.prog 143 #[.string ⟨#[35, 46, 91]⟩, .int .i32 r] w fun e w' => e = .returned (.int .i64 (-1)) ∧ Below w.heap.size w w' := by
  by_cases he : r = 65533
  · subst he
    exact IndexRune_err w
  · exact IndexRune_enc ⟨#[35, 46, 91]⟩ (by intro c hc; simp at hc; rcases hc with rfl | rfl | rfl <;> decide) r h1 he w

end Go.Proofs.YtnoecobddhmhlaaGreatDoor

namespace Go.Proofs.YtnoecobddhmhlaaGreatDoor
open Go.RowKit Go.Shelf

theorem iterAt_below {w v : World} (h : Below w.heap.size w v) (k : Nat) (hk : w.heap.size ≤ k) (S : ByteArray) (p : Nat) : Below w.heap.size w (v.iterAt k S p) :=
  ⟨h.os, h.tape, h.output, by rw [Lib.iterAt_size]; exact h.size, fun j hj => (Lib.iterAt_other v k j S p (by omega)).trans (h.block j hj)⟩
theorem noAny_jump {l : Bs} {i d : Nat} (h : Lib.NoAny l [35, 46, 91] i) (hd : ∀ k x, i ≤ k → k < i + d → l[k]? = some x → 128 ≤ x.toNat) : Lib.NoAny l [35, 46, 91] (i + d) := fun j b hj hb => by
  by_cases hji : j < i
  · exact h j b hji hb
  · have h1 := hd j b (by omega) hj hb
    rw [any_mk]
    unfold isMk
    have ne : ∀ c : UInt8, c.toNat < 128 → (b == c) = false := fun c hc => by
      rw [beq_eq_false_iff_ne]
      intro e
      subst e
      omega
    rw [ne 35 (by decide), ne 46 (by decide), ne 91 (by decide)]
    rfl
set_option maxHeartbeats 8000000 in
set_option maxRecDepth 1000000 in
theorem IndexAny_short (s : ByteArray) (w : World) (h8 : s.size ≤ 8) :
    Calls Tryz.prog 121 #[.string s, .string ⟨#[35, 46, 91]⟩] w fun e w' => e = .returned (.int .i64 (Lib.indexAny s.data.toList [35, 46, 91])) ∧ Below w.heap.size w w' := by
  have h8z : decide ((8 : Int) < (s.size : Int)) = false := decide_eq_false (by omega)
  go_enter Tryz.func121, Tryz.ntmps121
  go_wp2_with (go_at_call 144; refine (Tryz.strings_shouldUseASCIISet _ _).mono ?_; rintro e w' ⟨rfl, hw⟩; rw [hw, h8z])
  obtain ⟨KB, hKB⟩ : ∃ KB, w.heap.size = KB := ⟨_, rfl⟩
  have hst : (w.alloc (.stringIter s 0)).heap[w.heap.size]? = some (.stringIter s 0) := by
    show (w.heap.push (.stringIter s 0))[w.heap.size]? = _
    exact Array.getElem?_push_size
  have hbl : Below w.heap.size w (w.alloc (.stringIter s 0)) := (Below.refl _ w).alloc (Nat.le_refl _) _
  rw [hKB] at hst ⊢
  go_loopg [9, 10] s.size (fun g _ _ wx => ∃ i : Nat, i + g = s.size ∧ wx.heap[KB]? = some (.stringIter s i) ∧ Below w.heap.size w wx ∧ Lib.NoAny s.data.toList [35, 46, 91] i)
  case atStart => exact ⟨0, by omega, hst, hbl, Lib.NoAny.zero _ _⟩
  case round =>
    obtain ⟨i, hig, hit, hbx, hno⟩ := hrel
    have HN : Hid (Lib.NoAny s.data.toList [35, 46, 91] i) := hno
    clear hno
    cases gk with
    | zero =>
      obtain rfl : i = s.size := by omega
      have hnx := fun ty => Lib.run_next_end_at (P := Tryz.prog) wr KB s s.size ty hit (by omega)
      go_wp2
      go_ret
      exact ⟨by rw [Lib.indexAny_none (by rw [← Lib.size_eq]; exact HN.out)]; rfl, hbx⟩
    | succ g =>
      have hi : i < s.size := by omega
      obtain ⟨x, hx⟩ : ∃ x : UInt8, s[i]'hi = x := ⟨_, rfl⟩
      have hxl : s.data.toList[i]? = some x := by rw [← hx]; exact Lib.data_getElem? s i hi
      have HX : Hid (s.data.toList[i]? = some x) := hxl
      by_cases h128 : x.toNat < 128
      · have hnx := fun ty => Lib.run_next_ascii_at (P := Tryz.prog) wr KB s i ty hit hi (by rw [hx]; exact h128)
        rw [hx] at hnx
        have hit2 := Lib.iterAt_heap wr KB s i (i + 1) hit
        have hb2 := iterAt_below hbx KB (by omega) s (i + 1)
        obtain ⟨U, hU⟩ : ∃ U, wr.iterAt KB s (i + 1) = U := ⟨_, rfl⟩
        rw [hU] at hit2 hb2 hnx
        have IR := Tryz.strings_IndexRune_ascii ⟨#[35, 46, 91]⟩ (x.toNat : Int) U (by omega) (by omega)
        have hback : ((x.toNat : Int)).toNat.toUInt8 = x := by simp
        rw [hback] at IR
        have hcon := Lib.contains_iff_indexByte [35, 46, 91] x
        clear hx hxl hU hback
        cases hin : ([35, 46, 91] : List UInt8).contains x with
        | false =>
          rw [hin] at hcon
          have hlt : ¬ ((0 : Int) ≤ Lib.indexByte [35, 46, 91] x) := of_decide_eq_false hcon.symm
          have IR' : Calls Tryz.prog 143 #[.string ⟨#[35, 46, 91]⟩, .int .i32 x.toNat] U fun e w' => e = .returned (.int .i64 (Lib.indexByte [35, 46, 91] x)) ∧ w' = U := IR
          obtain ⟨ib, hib⟩ : ∃ ib, Lib.indexByte [35, 46, 91] x = ib := ⟨_, rfl⟩
          rw [hib] at IR' hlt
          clear hcon IR hib
          go_wp2_with (go_at_call 143; refine IR'.mono ?_; rintro e w2 ⟨rfl, h⟩; rw [h]; clear h)
          go_roundg g
          case measure => omega
          case rel => exact ⟨i + 1, by omega, hit2, hb2, HN.out.succ HX.out hin⟩
        | true =>
          rw [hin] at hcon
          have hge : (0 : Int) ≤ Lib.indexByte [35, 46, 91] x := of_decide_eq_true hcon.symm
          have IR' : Calls Tryz.prog 143 #[.string ⟨#[35, 46, 91]⟩, .int .i32 x.toNat] U fun e w' => e = .returned (.int .i64 (Lib.indexByte [35, 46, 91] x)) ∧ w' = U := IR
          obtain ⟨ib, hib⟩ : ∃ ib, Lib.indexByte [35, 46, 91] x = ib := ⟨_, rfl⟩
          rw [hib] at IR' hge
          clear hcon IR hib
          go_wp2_with (go_at_call 143; refine IR'.mono ?_; rintro e w2 ⟨rfl, h⟩; rw [h]; clear h)
          go_ret
          exact ⟨by rw [Lib.indexAny_hit HN.out HX.out hin]; rfl, hb2⟩
      · have hnx := fun ty => Lib.run_next_any_at (P := Tryz.prog) wr KB s i ty hit hi
        have hd1 := decode_high s i hi (by rw [hx]; omega)
        have hd2 := decode_skip s i hi (by rw [hx]; omega)
        have hd3 := decode_fits s i hi
        have hno2 : Lib.NoAny s.data.toList [35, 46, 91] (i + (Utf8.decode s i).2) := noAny_jump HN.out (fun k c h1 h2 h3 => by
          by_cases hk : k = i
          · rw [hk, hxl] at h3
            cases h3
            omega
          · obtain ⟨d, rfl⟩ : ∃ d, k = i + d := ⟨k - i, by omega⟩
            have h4 := hd2 d (by omega) (by omega)
            have h5 := Lib.data_getElem? s (i + d) h4.1
            rw [h3] at h5
            rw [Option.some.inj h5]
            have h6 := get_at s (i + d) h4.1
            rw [Nat.add_zero] at h6
            rw [h6] at h4
            exact h4.2)
        obtain ⟨d, hd⟩ : ∃ d, (Utf8.decode s i).2 = d := ⟨_, rfl⟩
        obtain ⟨rr, hr⟩ : ∃ rr, (Utf8.decode s i).1 = rr := ⟨_, rfl⟩
        rw [hd] at hnx hd1 hd3 hno2
        rw [hr] at hnx hd1
        have HN2 : Hid (Lib.NoAny s.data.toList [35, 46, 91] (i + d)) := hno2
        have hit2 := Lib.iterAt_heap wr KB s i (i + d) hit
        have hb2 := iterAt_below hbx KB (by omega) s (i + d)
        obtain ⟨U, hU⟩ : ∃ U, wr.iterAt KB s (i + d) = U := ⟨_, rfl⟩
        rw [hU] at hit2 hb2 hnx
        have IR := IndexRune_high (rr : Int) (by omega) U
        clear hx hxl hU hd hr hd2 hno2
        go_wp2_with (go_at_call 143; refine IR.mono ?_; rintro e w2 ⟨rfl, b2⟩)
        go_roundg (s.size - (i + d))
        case measure => omega
        case rel => exact ⟨i + d, by omega, (b2.block KB (Array.getElem?_eq_some_iff.1 hit2).1).trans hit2, hb2.trans (b2.mono hb2.size), HN2.out⟩
theorem set256 : ∀ w : World, (zeroValue 205).run Tryz.prog w = .ok (.agg (Array.replicate 256 (.bool false))) w := fun w => by kernel_rfl
theorem IndexAny_any (s : Bs) (hs : s.length ≤ 1000000) (w : World) :
    Calls Tryz.prog 121 #[.string ⟨s.toArray⟩, .string ⟨#[35, 46, 91]⟩] w fun e w' => e = .returned (.int .i64 (Lib.indexAny s [35, 46, 91])) ∧ Below w.heap.size w w' := by
  by_cases h8 : s.length ≤ 8
  · exact IndexAny_short ⟨s.toArray⟩ w (by rw [ba_size]; exact h8)
  · refine (Tryz.strings_IndexAny_long set256 ⟨s.toArray⟩ ⟨#[35, 46, 91]⟩ w (by decide) (by rw [ba_size]; omega) (by rw [ba_size]; omega) (by decide) (fun j b hb => ?_)).mono fun e w' h => ⟨h.1, ?_⟩
    · have hm := List.mem_of_getElem? hb
      simp at hm
      rcases hm with rfl | rfl | rfl <;> decide
    · rw [h.2]
      exact ((Below.refl _ _).alloc (Nat.le_refl _) _).alloc (by simp) _

end Go.Proofs.YtnoecobddhmhlaaGreatDoor

/-
  Is an attribute's name ahead of it? slices.ContainsFunc over attributes.
-/
import Derived.Test.YtmlajdhkkcmjnacDoorJ1
import Derived.Deep.QuietTactic
import Derived.BigQuiet
import Derived.Lib.QuietBelow
import Derived.Deep.Cut
import Derived.Deep.CutRange
namespace Go.Proofs.YtmlajdhkkcmjnacDoor
open Go.RowKit

theorem maxLen_eq : maxLen = 9223372036854775807 := by decide
/-- An attribute's value. -/
def atV (x : Bs × Bs) : Value := .agg #[strV x.1, strV x.2]

theorem mbel {W A w : World} (h : Below W.heap.size W A) (hb : Below A.heap.size A w) : Below W.heap.size W w := h.trans (hb.mono h.size)
theorem mcell_al {W : World} {a : Addr} {v : Value} (o : Obj) (h : W.cell? a = some v) : (W.alloc o).cell? a = some v := (((Below.refl W.heap.size W).alloc (Nat.le_refl _) o).cell (cell_lt3 h)).trans h
set_option maxHeartbeats 1000000 in
theorem sameName_any (x : Bs × Bs) (nm : Bs) (B : Nat) (W : World) (hB : W.cell? ⟨B, 0, none⟩ = some (strV nm)) :
    Calls Tryd.prog 94 #[atV x, .pointer (some ⟨B, 0, none⟩)] W fun e w' => e = .returned (.bool (x.1 == nm)) ∧ Below W.heap.size W w' := by
  have hB' := fun o => mcell_al o hB
  unfold atV strV at *
  go_enter Tryd.func94, Tryd.ntmps94
  go_wp2
  go_ret
  exact ⟨rfl, (Below.refl _ W).alloc (Nat.le_refl _) _⟩

/-- The first one of that name, from number k on; below 0: none. -/
def fI (nm : Bs) : Nat → List (Bs × Bs) → Int
  | _, [] => -1
  | k, x :: r => if (x.1 == nm) = true then k else fI nm (k + 1) r
theorem fI_any (nm : Bs) : ∀ (l : List (Bs × Bs)) (k : Nat), decide (0 ≤ fI nm k l) = l.any (fun x => x.1 == nm)
  | [], _ => rfl
  | x :: r, k => by
    unfold fI
    cases hx : (x.1 == nm) with
    | true => simp [hx]
    | false => simp only [Bool.false_eq_true, if_false, List.any_cons, hx, Bool.false_or]; exact fI_any nm r (k + 1)
theorem drop_at {α : Type} {l : List α} {k : Nat} (h : k < l.length) : ∃ x, l[k]? = some x ∧ l.drop k = x :: l.drop (k + 1) := ⟨l[k], List.getElem?_eq_getElem h, (List.getElem_cons_drop h).symm⟩

set_option maxHeartbeats 2000000 in
theorem IndexFunc_any (ats : List (Bs × Bs)) (nm : Bs) (B : Nat) (v : Value) (W : World) (h : AtsIn W v ats) (hB : W.cell? ⟨B, 0, none⟩ = some (strV nm)) :
    Calls Tryd.prog 107 #[v, .func (.func 94) #[] #[.pointer (some ⟨B, 0, none⟩)]] W fun e w' => e = .returned (.int .i64 (fI nm 0 ats)) ∧ Below W.heap.size W w' := by
  obtain ⟨o, cap, rfl, h1, h2, h3, h4⟩ := h
  have hlen : (ats.length : Int) ≤ 9223372036854775807 := by rw [maxLen_eq] at h2; omega
  by_cases h0 : ats.length = 0
  · obtain rfl : ats = [] := List.length_eq_zero_iff.1 h0
    clear h4
    go_enter Tryd.func107, Tryd.ntmps107
    go_wp2_with fail
    go_loopw [8] (fun y wr => y = .int .i64 0 ∧ wr = W) (fun _ _ => 0)
    case atStart => exact ⟨rfl, rfl⟩
    case round =>
      obtain ⟨rfl, rfl⟩ := hrel
      go_wp2_with fail
      go_ret
      exact ⟨rfl, Below.refl _ _⟩
  · obtain ⟨x0, hx0, -⟩ := drop_at (l := ats) (k := 0) (by omega)
    obtain ⟨b, off, rfl, -⟩ := h4 0 x0 hx0
    have H4 : Hid (AtsAt W (some ⟨b, off, none⟩) ats) := h4
    clear h4 hx0 h3 x0
    have hcap : (ats.length : Int) ≤ (cap : Int) := by omega
    go_enter Tryd.func107, Tryd.ntmps107
    go_wp2_with fail
    go_loopw [8] (fun y wr => ∃ k : Nat, k ≤ ats.length ∧ y = .int .i64 k ∧ fI nm 0 ats = fI nm k (ats.drop k) ∧ Below W.heap.size W wr) (fun y _ => ats.length - (intOf y).toNat)
    case atStart => exact ⟨0, Nat.zero_le _, rfl, rfl, Below.refl _ _⟩
    case round =>
      obtain ⟨k, hk, rfl, hf, hb⟩ := hrel
      by_cases hlt : k < ats.length
      · have hlt' : (k : Int) < (ats.length : Int) := by omega
        obtain ⟨x, hx, hd⟩ := drop_at hlt
        obtain ⟨b', off', e, c0, c1, -⟩ := H4.out k x hx
        simp only [Option.some.injEq, Addr.mk.injEq, and_true] at e
        obtain ⟨rfl, rfl⟩ := e
        have k0 := (hb.cell (cell_lt3 c0)).trans c0
        have k1 := (hb.cell (cell_lt3 c1)).trans c1
        have hB1 := (hb.cell (cell_lt3 hB)).trans hB
        have HS := sameName_any x nm B wr hB1
        rw [hd] at hf
        clear c0 c1 hx hd
        unfold strV at k0 k1
        cases hs : (x.1 == nm) with
        | true =>
          rw [hs] at HS
          have hf' : Hid (fI nm 0 ats = k) := (by rw [hf]; unfold fI; rw [if_pos hs] : fI nm 0 ats = k)
          clear hf hs
          go_wp2_with (go_at_call 94; refine HS.mono ?_; rintro e w1 ⟨rfl, hb1⟩)
          go_ret
          exact ⟨by rw [hf'.out]; rfl, mbel hb hb1⟩
        | false =>
          rw [hs] at HS
          have hf0 : fI nm k (x :: ats.drop (k + 1)) = fI nm (k + 1) (ats.drop (k + 1)) := by rw [fI, if_neg (by rw [hs]; simp)]
          have hf' : Hid (fI nm 0 ats = fI nm (k + 1) (ats.drop (k + 1))) := hf.trans hf0
          clear hf0
          clear hf hs
          go_wp2_with (go_at_call 94; refine HS.mono ?_; rintro e w1 ⟨rfl, hb1⟩)
          go_roundw
          case rel => exact ⟨k + 1, by omega, by go_num, hf'.out, mbel hb hb1⟩
          case measure => simp [intOf]; omega
      · obtain rfl : k = ats.length := by omega
        have hf' : Hid (fI nm 0 ats = -1) := (by rw [hf, List.drop_length]; rfl : fI nm 0 ats = -1)
        clear hf
        go_wp2_with fail
        go_ret
        exact ⟨by rw [hf'.out]; rfl, hb⟩

set_option maxHeartbeats 1000000 in
theorem ContainsFunc_any (ats : List (Bs × Bs)) (nm : Bs) (B : Nat) (v : Value) (W : World) (h : AtsIn W v ats) (hB : W.cell? ⟨B, 0, none⟩ = some (strV nm)) :
    Calls Tryd.prog 93 #[v, .func (.func 94) #[] #[.pointer (some ⟨B, 0, none⟩)]] W fun e w' => e = .returned (.bool (ats.any (fun x => x.1 == nm))) ∧ Below W.heap.size W w' := by
  have HI := IndexFunc_any ats nm B v W h hB
  rw [← fI_any nm ats 0]
  generalize fI nm 0 ats = z at HI ⊢
  go_enter Tryd.func93, Tryd.ntmps93
  go_wp2_with (go_at_call 107; refine HI.mono ?_; rintro e w1 ⟨rfl, hb1⟩)
  go_ret
  exact ⟨rfl, hb1⟩

end Go.Proofs.YtmlajdhkkcmjnacDoor

namespace Go.Proofs.YtmlajdhkkcmjnacDoor
open Go.RowKit

/-- The errors of package api that the check of a node tells. -/
structure CE (E : Nat → Addr) (w : World) : Prop where
  c4 : w.cell? ⟨2, 0, none⟩ = some (.iface 181 (.pointer (some (E 4))))
  c6 : w.cell? ⟨8, 0, none⟩ = some (.iface 181 (.pointer (some (E 6))))
  c7 : w.cell? ⟨4, 0, none⟩ = some (.iface 181 (.pointer (some (E 7))))
  c8 : w.cell? ⟨3, 0, none⟩ = some (.iface 181 (.pointer (some (E 8))))
  c10 : w.cell? ⟨9, 0, none⟩ = some (.iface 181 (.pointer (some (E 10))))
theorem CE.below {E : Nat → Addr} {w w' : World} (h : CE E w) (hb : Below w.heap.size w w') : CE E w' where
  c4 := (hb.cell (cell_lt3 h.c4)).trans h.c4
  c6 := (hb.cell (cell_lt3 h.c6)).trans h.c6
  c7 := (hb.cell (cell_lt3 h.c7)).trans h.c7
  c8 := (hb.cell (cell_lt3 h.c8)).trans h.c8
  c10 := (hb.cell (cell_lt3 h.c10)).trans h.c10
/-- The errors of package api that package mark tells. -/
structure ME (E : Nat → Addr) (w : World) : Prop where
  c2 : w.cell? ⟨1, 0, none⟩ = some (.iface 181 (.pointer (some (E 2))))
  c4 : w.cell? ⟨2, 0, none⟩ = some (.iface 181 (.pointer (some (E 4))))
  c6 : w.cell? ⟨8, 0, none⟩ = some (.iface 181 (.pointer (some (E 6))))
  c7 : w.cell? ⟨4, 0, none⟩ = some (.iface 181 (.pointer (some (E 7))))
  c8 : w.cell? ⟨3, 0, none⟩ = some (.iface 181 (.pointer (some (E 8))))
  c10 : w.cell? ⟨9, 0, none⟩ = some (.iface 181 (.pointer (some (E 10))))
theorem ME.below {E : Nat → Addr} {w w' : World} (h : ME E w) (hb : Below w.heap.size w w') : ME E w' where
  c2 := (hb.cell (cell_lt3 h.c2)).trans h.c2
  c4 := (hb.cell (cell_lt3 h.c4)).trans h.c4
  c6 := (hb.cell (cell_lt3 h.c6)).trans h.c6
  c7 := (hb.cell (cell_lt3 h.c7)).trans h.c7
  c8 := (hb.cell (cell_lt3 h.c8)).trans h.c8
  c10 := (hb.cell (cell_lt3 h.c10)).trans h.c10
theorem ME.ce {E : Nat → Addr} {w : World} (h : ME E w) : CE E w := ⟨h.c4, h.c6, h.c7, h.c8, h.c10⟩
/-- An error by its number. -/
def errV (E : Nat → Addr) (c : Nat) : Value := if c = 0 then .nilIface else .iface 181 (.pointer (some (E c)))
theorem errV_zero (E : Nat → Addr) : errV E 0 = .nilIface := rfl
theorem errV_pos (E : Nat → Addr) {c : Nat} (h : c ≠ 0) : errV E c = .iface 181 (.pointer (some (E c))) := by unfold errV; rw [if_neg h]

/-- What the check of an attribute tells; ahead: those ahead of it. -/
def ckA (ahead : List (Bs × Bs)) (a : Bs × Bs) : Nat := if isNm a.1 = true then (if ahead.any (fun x => x.1 == a.1) = true then 6 else if isVal a.2 = true then 0 else 10) else 4

theorem mal (W : World) (o : Obj) : Below W.heap.size W (W.alloc o) := (Below.refl W.heap.size W).alloc (Nat.le_refl _) o
theorem mnew (W : World) (cs : Array Value) (t : TypeId) (i : Nat) (v : Value) (h : cs[i]? = some v) : (W.alloc (.cells cs t)).cell? ⟨W.heap.size, i, none⟩ = some v := by
  have e : (W.alloc (.cells cs t)).heap[W.heap.size]? = some (.cells cs t) := by show (W.heap.push (.cells cs t))[W.heap.size]? = _; simp
  unfold World.cell?
  simp only [e]
  simpa using h

set_option maxHeartbeats 2000000 in
theorem checkAttr_any (E : Nat → Addr) (a : Bs × Bs) (ats : List (Bs × Bs)) (v : Value) (W : World) (hE : CE E W) (h : AtsIn W v ats) (l1 : a.1.length ≤ maxLen) (l2 : a.2.length ≤ maxLen) :
    Calls Tryd.prog 76 #[atV a, v] W fun e w' => e = .returned (errV E (ckA ats a)) ∧ Below W.heap.size W w' := by
  have b0 := mal W (.cells #[.string ⟨a.1.toArray⟩, .string ⟨a.2.toArray⟩] 65)
  have n0 := mnew W #[.string ⟨a.1.toArray⟩, .string ⟨a.2.toArray⟩] 65 0 _ rfl
  have n1 := mnew W #[.string ⟨a.1.toArray⟩, .string ⟨a.2.toArray⟩] 65 1 _ rfl
  have HN := IsName_any ⟨a.1.toArray⟩ (by rw [strV_size, ← maxLen_eq]; exact l1) (W.alloc (.cells #[.string ⟨a.1.toArray⟩, .string ⟨a.2.toArray⟩] 65))
  have HC := ContainsFunc_any ats a.1 W.heap.size v _ (h.below b0) n0
  have HV := fun V => IsValue_any ⟨a.2.toArray⟩ (by rw [strV_size, ← maxLen_eq]; exact l2) V
  have hE1 := hE.below b0
  obtain ⟨o, cap, rfl, _, _, _, _⟩ := h
  have e4 := hE1.c4
  unfold ckA
  unfold atV strV
  cases hn : isNm a.1 with
  | false =>
    rw [show isNm (⟨a.1.toArray⟩ : ByteArray).data.toList = false from hn] at HN
    rw [if_neg (by simp), errV_pos E (by decide)]
    clear HC HV n1
    go_enter Tryd.func76, Tryd.ntmps76
    go_wp2_with (go_at_call 31; refine HN.mono ?_; rintro e w1 ⟨rfl, rfl⟩)
    go_ret
    exact ⟨rfl, b0⟩
  | true =>
    rw [show isNm (⟨a.1.toArray⟩ : ByteArray).data.toList = true from hn] at HN
    rw [if_pos rfl]
    cases ha : ats.any (fun x => x.1 == a.1) with
    | true =>
      rw [ha] at HC
      rw [if_pos rfl, errV_pos E (by decide)]
      clear HV n1 e4
      go_enter Tryd.func76, Tryd.ntmps76
      go_wp2_with (first | (go_at_call 31; refine HN.mono ?_; rintro e w1 ⟨rfl, rfl⟩) | (go_at_call 93; refine HC.mono ?_; rintro e w2 ⟨rfl, hb2⟩; have e6 := (hE1.below hb2).c6))
      go_ret
      exact ⟨rfl, mbel b0 hb2⟩
    | false =>
      rw [ha] at HC
      rw [if_neg (by simp)]
      cases hv : isVal a.2 with
      | true =>
        rw [show isVal (⟨a.2.toArray⟩ : ByteArray).data.toList = true from hv] at HV
        rw [if_pos rfl, errV_zero]
        clear e4
        go_enter Tryd.func76, Tryd.ntmps76
        go_wp2_with (first | (go_at_call 31; refine HN.mono ?_; rintro e w1 ⟨rfl, rfl⟩) | (go_at_call 93; refine HC.mono ?_; rintro e w2 ⟨rfl, hb2⟩; have k1 := (hb2.cell (cell_lt3 n1)).trans n1) | (go_at_call 95; refine (HV _).mono ?_; rintro e w3 ⟨rfl, rfl⟩))
        go_ret
        exact ⟨rfl, mbel b0 hb2⟩
      | false =>
        rw [show isVal (⟨a.2.toArray⟩ : ByteArray).data.toList = false from hv] at HV
        rw [if_neg (by simp), errV_pos E (by decide)]
        clear e4
        go_enter Tryd.func76, Tryd.ntmps76
        go_wp2_with (first | (go_at_call 31; refine HN.mono ?_; rintro e w1 ⟨rfl, rfl⟩) | (go_at_call 93; refine HC.mono ?_; rintro e w2 ⟨rfl, hb2⟩; have k1 := (hb2.cell (cell_lt3 n1)).trans n1; have e10 := (hE1.below hb2).c10) | (go_at_call 95; refine (HV _).mono ?_; rintro e w3 ⟨rfl, rfl⟩))
        go_ret
        exact ⟨rfl, mbel b0 hb2⟩

end Go.Proofs.YtmlajdhkkcmjnacDoor

namespace Go.Proofs.YtmlajdhkkcmjnacDoor
open Go.RowKit

/-- What the check of attributes tells; pre: those ahead. -/
def ckL : List (Bs × Bs) → List (Bs × Bs) → Nat
  | _, [] => 0
  | pre, a :: r => if ckA pre a = 0 then ckL (pre ++ [a]) r else ckA pre a
/-- What the check of one node tells. -/
def ck1 (nm : Bs) (ats : List (Bs × Bs)) (deep ahead : Nat) : Nat := if 10 < deep then 8 else if 100 ≤ ahead then 7 else if isNm nm = true then (if 12 < ats.length then 7 else ckL [] ats) else 4
theorem ckL_step {ats : List (Bs × Bs)} {k : Nat} {x : Bs × Bs} (hx : ats[k]? = some x) (hd : ats.drop k = x :: ats.drop (k + 1)) (h : ckA (ats.take k) x = 0) : ckL (ats.take k) (ats.drop k) = ckL (ats.take (k + 1)) (ats.drop (k + 1)) := by
  rw [hd, ckL, if_pos h, List.take_add_one, hx]; rfl
theorem AtsIn.take {w : World} {b off cap : Nat} {ats : List (Bs × Bs)} (k : Nat) (hk : k ≤ ats.length) (hc : ats.length ≤ cap) (hm : cap ≤ maxLen) (h : AtsAt w (some ⟨b, off, none⟩) ats) : AtsIn w (.slice (some ⟨b, off, none⟩) k cap) (ats.take k) :=
  ⟨some ⟨b, off, none⟩, cap, by rw [List.length_take, Nat.min_eq_left hk], by rw [List.length_take]; omega, hm, (fun e => nomatch e), fun i x hx => h i x (by rw [List.getElem?_take] at hx; split at hx; exact hx; cases hx)⟩

set_option maxRecDepth 20000 in
set_option maxHeartbeats 4000000 in
theorem attrs_any (E : Nat → Addr) (nm : Bs) (ats : List (Bs × Bs)) (nk capk cap b off : Nat) (ok : Option Addr) (deep ahead : Nat) (W : World) (hE : CE E W) (h4 : AtsAt W (some ⟨b, off, none⟩) ats) (hc : ats.length ≤ cap) (hm : cap ≤ maxLen) (hl : nm.length ≤ maxLen)
    (hd : deep ≤ 10) (ha : ahead < 100) (hn : isNm nm = true) (h12 : ats.length ≤ 12) :
    Calls Tryd.prog 54 #[.agg #[strV nm, .slice (some ⟨b, off, none⟩) ats.length cap, .slice ok nk capk], .int .i64 deep, .int .i64 ahead] W fun e w' => e = .returned (errV E (ckL [] ats)) ∧ Below W.heap.size W w' := by
  have b0 := mal W (.cells #[.string ⟨nm.toArray⟩, .slice (some ⟨b, off, none⟩) ats.length cap, .slice ok nk capk] 25)
  have n0 := mnew W #[.string ⟨nm.toArray⟩, .slice (some ⟨b, off, none⟩) ats.length cap, .slice ok nk capk] 25 0 (.string ⟨nm.toArray⟩) rfl
  have n1 := mnew W #[.string ⟨nm.toArray⟩, .slice (some ⟨b, off, none⟩) ats.length cap, .slice ok nk capk] 25 1 (.slice (some ⟨b, off, none⟩) ats.length cap) rfl
  have HN := IsName_any ⟨nm.toArray⟩ (by rw [strV_size, ← maxLen_eq]; exact hl) (W.alloc (.cells #[.string ⟨nm.toArray⟩, .slice (some ⟨b, off, none⟩) ats.length cap, .slice ok nk capk] 25))
  rw [show isNm (⟨nm.toArray⟩ : ByteArray).data.toList = true from hn] at HN
  have hd' : (deep : Int) ≤ 10 := by omega
  have ha' : (ahead : Int) < 100 := by omega
  have h12' : (ats.length : Int) ≤ 12 := by omega
  have hm' : (cap : Int) ≤ 9223372036854775807 := by rw [maxLen_eq] at hm; omega
  have H4 : Hid (AtsAt W (some ⟨b, off, none⟩) ats) := h4
  have HE : Hid (CE E W) := hE
  clear h4 hE hn
  unfold strV
  go_enter Tryd.func54, Tryd.ntmps54
  go_wp2_with (go_at_call 31; refine HN.mono ?_; rintro e w1 ⟨rfl, rfl⟩)
  clear HN
  obtain ⟨W1, hW1⟩ : ∃ V, W.alloc (.cells #[.string ⟨nm.toArray⟩, .slice (some ⟨b, off, none⟩) ats.length cap, .slice ok nk capk] 25) = V := ⟨_, rfl⟩
  rw [hW1] at b0 n0 n1 ⊢
  clear hW1
  go_loopw [33] (fun y wr => ∃ k : Nat, k ≤ ats.length ∧ y = .int .i64 k ∧ ckL [] ats = ckL (ats.take k) (ats.drop k) ∧ Below W1.heap.size W1 wr) (fun y _ => ats.length - (intOf y).toNat)
  case atStart => exact ⟨0, Nat.zero_le _, rfl, rfl, Below.refl _ _⟩
  case round =>
    obtain ⟨k, hk, rfl, hf, hb⟩ := hrel
    have HF : Hid (ckL [] ats = ckL (ats.take k) (ats.drop k)) := hf
    clear hf
    by_cases hlt : k < ats.length
    · have hlt' : (k : Int) < (ats.length : Int) := by omega
      have hkc : (k : Int) ≤ (cap : Int) := by omega
      obtain ⟨x, hx, hdr⟩ := drop_at hlt
      obtain ⟨b', off', e, c0, c1, l1, l2⟩ := H4.out k x hx
      simp only [Option.some.injEq, Addr.mk.injEq, and_true] at e
      obtain ⟨rfl, rfl⟩ := e
      have bw := mbel b0 hb
      have k0 := (bw.cell (cell_lt3 c0)).trans c0
      have k1 := (bw.cell (cell_lt3 c1)).trans c1
      have m1 := (hb.cell (cell_lt3 n1)).trans n1
      clear c0 c1
      unfold strV at k0 k1
      have HX : Hid (ats[k]? = some x ∧ ats.drop k = x :: ats.drop (k + 1)) := ⟨hx, hdr⟩
      clear hx hdr
      have q0 := mnew wr #[.string ⟨x.1.toArray⟩, .string ⟨x.2.toArray⟩] 65 0 (.string ⟨x.1.toArray⟩) rfl
      have q1 := mnew wr #[.string ⟨x.1.toArray⟩, .string ⟨x.2.toArray⟩] 65 1 (.string ⟨x.2.toArray⟩) rfl
      have q2 := mcell_al (.cells #[.string ⟨x.1.toArray⟩, .string ⟨x.2.toArray⟩] 65) m1
      have bU := mal wr (.cells #[.string ⟨x.1.toArray⟩, .string ⟨x.2.toArray⟩] 65)
      go_upto_region 12 with fail
      obtain ⟨U, hU⟩ : ∃ V, wr.alloc (.cells #[.string ⟨x.1.toArray⟩, .string ⟨x.2.toArray⟩] 65) = V := ⟨_, rfl⟩
      rw [hU] at q0 q1 q2 bU ⊢
      clear hU k0 k1 m1
      have hl1 := l1
      have hl2 := l2
      by_cases hz : ckA (ats.take k) x = 0
      · have qA : ∀ d os, Calls Tryd.prog 76 #[.agg #[.string ⟨x.1.toArray⟩, .string ⟨x.2.toArray⟩], .slice (some ⟨b, off, none⟩) k cap] (Go.Sort.grow (redrawn U d) os) fun e w'' => e = .returned .nilIface ∧ ∃ p : Regrown, w'' = Go.Sort.grow (redrawn U p.d) p.os := fun d os => by
          have := checkAttr_any E x (ats.take k) (.slice (some ⟨b, off, none⟩) k cap) (Go.Sort.grow (redrawn U d) os) (HE.out.below (mbel (mbel bw bU) (below_regrown U d os))) (AtsIn.take k hk hc hm (H4.out.below (mbel (mbel bw bU) (below_regrown U d os)))) hl1 hl2
          rw [hz, errV_zero] at this
          exact Calls.regrown_of this
        have HZ : Hid (ckL [] ats = ckL (ats.take (k + 1)) (ats.drop (k + 1))) := HF.out.trans (ckL_step HX.out.1 HX.out.2 hz)
        clear hz l1 l2 hl1 hl2
        have r0 := cell_regrown q0
        have r1 := cell_regrown q1
        have r2 := cell_regrown q2
        refine wp_region_quiet_below (by kernel_rfl) (by kernel_rfl) ?_
        repeat (quiet_step (first | (go_at_call 76; exact qA _ _)))
        refine wpQuiet_nil ?_
        intro _ hw'
        obtain ⟨pq, hw''⟩ := hw'
        subst hw''
        clear r0 r1 r2 qA q0 q1 q2
        have hbV := mbel (mbel hb bU) (below_regrown U pq.d pq.os)
        generalize Go.Sort.grow (redrawn U pq.d) pq.os = V at hbV ⊢
        go_wp2_with fail
        go_roundw
        case rel => exact ⟨k + 1, by omega, by go_num, HZ.out, hbV⟩
        case measure => simp [intOf]; omega
      · have qA : ∀ d os, Calls Tryd.prog 76 #[.agg #[.string ⟨x.1.toArray⟩, .string ⟨x.2.toArray⟩], .slice (some ⟨b, off, none⟩) k cap] (Go.Sort.grow (redrawn U d) os) fun e w'' => e = .returned (.iface 181 (.pointer (some (E (ckA (ats.take k) x))))) ∧ ∃ p : Regrown, w'' = Go.Sort.grow (redrawn U p.d) p.os := fun d os => by
          have := checkAttr_any E x (ats.take k) (.slice (some ⟨b, off, none⟩) k cap) (Go.Sort.grow (redrawn U d) os) (HE.out.below (mbel (mbel bw bU) (below_regrown U d os))) (AtsIn.take k hk hc hm (H4.out.below (mbel (mbel bw bU) (below_regrown U d os)))) hl1 hl2
          rw [errV_pos E hz] at this
          exact Calls.regrown_of this
        have HZ : Hid (ckL [] ats = ckA (ats.take k) x) := (by rw [HF.out, HX.out.2, ckL, if_neg hz] : ckL [] ats = ckA (ats.take k) x)
        have HP : Hid (ckA (ats.take k) x ≠ 0) := hz
        clear hz l1 l2 hl1 hl2
        generalize ckA (ats.take k) x = z at qA HZ HP
        have r0 := cell_regrown q0
        have r1 := cell_regrown q1
        have r2 := cell_regrown q2
        refine wp_region_quiet_below (by kernel_rfl) (by kernel_rfl) ?_
        repeat (quiet_step (first | (go_at_call 76; exact qA _ _)))
        refine wpQuiet_nil ?_
        intro _ hw'
        obtain ⟨pq, hw''⟩ := hw'
        subst hw''
        clear r0 r1 r2 qA q0 q1 q2
        have hbV := mbel (mbel bw bU) (below_regrown U pq.d pq.os)
        generalize Go.Sort.grow (redrawn U pq.d) pq.os = V at hbV ⊢
        go_wp2_with fail
        go_ret
        exact ⟨by rw [HZ.out, errV_pos E HP.out]; rfl, hbV⟩
    · obtain rfl : k = ats.length := by omega
      have hz : Hid (ckL [] ats = 0) := (by rw [HF.out, List.drop_length]; rfl : ckL [] ats = 0)
      go_wp2_with fail
      go_ret
      exact ⟨by rw [hz.out]; rfl, mbel b0 hb⟩

end Go.Proofs.YtmlajdhkkcmjnacDoor

namespace Go.Proofs.YtmlajdhkkcmjnacDoor
open Go.RowKit

set_option maxRecDepth 20000 in
set_option maxHeartbeats 4000000 in
theorem checkOne_any (E : Nat → Addr) (nm : Bs) (ats : List (Bs × Bs)) (ks : List Nd) (c1 c2 : Value) (deep ahead : Nat) (W : World) (hE : CE E W) (h : NdC W (strV nm) c1 c2 (.mk nm ats ks)) (hdp : deep ≤ 1000) (hah : ahead ≤ 1000) :
    Calls Tryd.prog 54 #[.agg #[strV nm, c1, c2], .int .i64 deep, .int .i64 ahead] W fun e w' => e = .returned (errV E (ck1 nm ats deep ahead)) ∧ Below W.heap.size W w' := by
  unfold NdC at h
  obtain ⟨-, hl, ⟨o, cap, rfl, hc, hm, h0, h4⟩, ok, capk, rfl, -⟩ := h
  generalize ks.length = nk
  have b0 := mal W (.cells #[.string ⟨nm.toArray⟩, .slice o ats.length cap, .slice ok nk capk] 25)
  have n0 := mnew W #[.string ⟨nm.toArray⟩, .slice o ats.length cap, .slice ok nk capk] 25 0 (.string ⟨nm.toArray⟩) rfl
  have n1 := mnew W #[.string ⟨nm.toArray⟩, .slice o ats.length cap, .slice ok nk capk] 25 1 (.slice o ats.length cap) rfl
  have HN := IsName_any ⟨nm.toArray⟩ (by rw [strV_size, ← maxLen_eq]; exact hl) (W.alloc (.cells #[.string ⟨nm.toArray⟩, .slice o ats.length cap, .slice ok nk capk] 25))
  have hE1 := hE.below b0
  have hdp' : (deep : Int) ≤ 1000 := by omega
  have hah' : (ahead : Int) ≤ 1000 := by omega
  have hm' : (ats.length : Int) ≤ 9223372036854775807 := by rw [maxLen_eq] at hm; omega
  unfold ck1
  by_cases g1 : 10 < deep
  · rw [if_pos g1, errV_pos E (by decide)]
    have g1' : 10 < (deep : Int) := by omega
    have e8 := hE1.c8
    clear HN n1 n0
    unfold strV
    go_enter Tryd.func54, Tryd.ntmps54
    go_wp2_with fail
    go_ret
    exact ⟨rfl, b0⟩
  · rw [if_neg g1]
    have g1' : (deep : Int) ≤ 10 := by omega
    by_cases g2 : 100 ≤ ahead
    · rw [if_pos g2, errV_pos E (by decide)]
      have g2' : 100 ≤ (ahead : Int) := by omega
      have e7 := hE1.c7
      clear HN n1 n0
      unfold strV
      go_enter Tryd.func54, Tryd.ntmps54
      go_wp2_with fail
      go_ret
      exact ⟨rfl, b0⟩
    · rw [if_neg g2]
      have g2' : (ahead : Int) < 100 := by omega
      cases hn : isNm nm with
      | false =>
        rw [show isNm (⟨nm.toArray⟩ : ByteArray).data.toList = false from hn] at HN
        rw [if_neg (by simp), errV_pos E (by decide)]
        have e4 := hE1.c4
        clear n1
        unfold strV
        go_enter Tryd.func54, Tryd.ntmps54
        go_wp2_with (go_at_call 31; refine HN.mono ?_; rintro e w1 ⟨rfl, rfl⟩)
        go_ret
        exact ⟨rfl, b0⟩
      | true =>
        rw [show isNm (⟨nm.toArray⟩ : ByteArray).data.toList = true from hn] at HN
        rw [if_pos rfl]
        by_cases g3 : 12 < ats.length
        · rw [if_pos g3, errV_pos E (by decide)]
          have g3' : 12 < (ats.length : Int) := by omega
          have e7 := hE1.c7
          unfold strV
          go_enter Tryd.func54, Tryd.ntmps54
          go_wp2_with (go_at_call 31; refine HN.mono ?_; rintro e w1 ⟨rfl, rfl⟩)
          go_ret
          exact ⟨rfl, b0⟩
        · rw [if_neg g3]
          by_cases hz : ats.length = 0
          · obtain rfl : ats = [] := List.length_eq_zero_iff.1 hz
            rw [show ckL [] [] = 0 from rfl, errV_zero]
            clear h4 hm'
            unfold strV
            go_enter Tryd.func54, Tryd.ntmps54
            go_wp2_with (go_at_call 31; refine HN.mono ?_; rintro e w1 ⟨rfl, rfl⟩)
            go_loopw [33] (fun y wr => y = .int .i64 0 ∧ Below W.heap.size W wr) (fun _ _ => 0)
            case atStart => exact ⟨rfl, b0⟩
            case round =>
              obtain ⟨rfl, hb⟩ := hrel
              go_wp2_with fail
              go_ret
              exact ⟨rfl, hb⟩
          · obtain ⟨x0, hx0, -⟩ := drop_at (l := ats) (k := 0) (by omega)
            obtain ⟨b, off, rfl, -⟩ := h4 0 x0 hx0
            exact attrs_any E nm ats nk capk cap b off ok deep ahead W hE h4 hc hm hl (by omega) (by omega) hn (by omega)

end Go.Proofs.YtmlajdhkkcmjnacDoor

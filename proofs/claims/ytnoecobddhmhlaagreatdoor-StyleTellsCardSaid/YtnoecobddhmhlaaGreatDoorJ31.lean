/-
  What a step of the document's make asks of an element (leadlightref1), as plain mathematics.
-/
import Derived.Test.YtnoecobddhmhlaaGreatDoorJ29
import Derived.Test.YtnoecobddhmhlaaGreatDoorJ27
import Derived.Test.YtnoecobddhmhlaaGreatDoorJ24
import Derived.Test.YtnoecobddhmhlaaGreatDoorDocOf1
namespace Go.Proofs.YtnoecobddhmhlaaGreatDoor

/-- A part of a step: a mark and a name. -/
def wkU (u : Bs) : Prop := ∃ m r, u = m :: r ∧ isMk m = true ∧ r ≠ []
def fitU (ats : List (Bs × Bs)) (u : Bs) : Bool := fitPt ⟨[], ats, 0, []⟩ (u.headD 0, u.tail)
def fitS (nm : Bs) (ats : List (Bs × Bs)) (a : Bs) (ws : List Bs) : Bool := (anyNm a || nm == a) && ws.all (fitU ats)
theorem fitPt_mk {e : Elm} {m : UInt8} {r : Bs} (h : isMk m = true) : fitPt e (m, r) = fitU e.ats (m :: r) := by
  unfold isMk at h
  have h' : (m = 35 ∨ m = 46) ∨ m = 91 := by simpa using h
  rcases h' with (rfl | rfl) | rfl <;> rfl
theorem find_at : ∀ {l : List (Bs × Bs)} {t : Bs} {i : Nat} {p : Bs × Bs}, l[i]? = some p → p.1 = t → (∀ p' ∈ l.take i, p'.1 ≠ t) → atOf l t = some p.2
  | [], t, i, p, h, _, _ => by simp at h
  | y :: l, t, 0, p, h, hp, _ => by
    simp at h
    subst h
    unfold atOf
    rw [List.find?_cons_of_pos (by simp [hp])]
    rfl
  | y :: l, t, i + 1, p, h, hp, hn => by
    have hy : y.1 ≠ t := hn y (by simp)
    unfold atOf
    rw [List.find?_cons_of_neg (by simp [hy])]
    exact find_at (l := l) (i := i) (by simpa using h) hp fun p' hp' => hn p' (by simp [hp'])
theorem find_no {l : List (Bs × Bs)} {t : Bs} (h : ∀ p ∈ l, p.1 ≠ t) : atOf l t = none := by
  unfold atOf
  rw [List.find?_eq_none.2 fun x hx => by simp [h x hx]]
  rfl
theorem AtrR.of {l : List (Bs × Bs)} {t : Bs} {r : Int} (h : AtrR l t r) : (∃ (i : Nat) (p : Bs × Bs), r = i ∧ l[i]? = some p ∧ atOf l t = some p.2) ∨ (r = -1 ∧ atOf l t = none) := by
  rcases h with ⟨i, p, rfl, h1, h2, h3⟩ | ⟨h1, h2⟩
  · exact .inl ⟨i, p, rfl, h1, find_at h1 h2 h3⟩
  · exact .inr ⟨h1, find_no h2⟩
theorem fitU_id {ats : List (Bs × Bs)} {r : Bs} : fitU ats (35 :: r) = ((atOf ats [105, 100]).getD [] == r) := rfl
theorem fitU_cls {ats : List (Bs × Bs)} {r : Bs} : fitU ats (46 :: r) = clsM ((atOf ats [99, 108, 97, 115, 115]).getD []) r := rfl
theorem fitU_has {ats : List (Bs × Bs)} {r : Bs} : fitU ats (91 :: r) = (atOf ats r).isSome := rfl
theorem id_none {ats : List (Bs × Bs)} {r : Bs} (h : atOf ats [105, 100] = none) (hr : r ≠ []) : fitU ats (35 :: r) = false := by
  rw [fitU_id, h]
  cases r with
  | nil => exact absurd rfl hr
  | cons => rfl
theorem cls_none {ats : List (Bs × Bs)} {r : Bs} (h : atOf ats [99, 108, 97, 115, 115] = none) (hr : r ≠ []) : fitU ats (46 :: r) = false := by
  rw [fitU_cls, h, Option.getD_none]
  cases hc : clsM [] r with
  | false => rfl
  | true =>
    have := (cls_pcs [] r).1 hc
    have h2 : pcs [] = [[]] := by unfold pcs; rfl
    rw [h2] at this
    exact absurd (List.mem_singleton.1 this) hr
theorem cls_some {ats : List (Bs × Bs)} {r v : Bs} (h : atOf ats [99, 108, 97, 115, 115] = some v) : fitU ats (46 :: r) = decide (r ∈ pcs v) := by
  rw [fitU_cls, h, Option.getD_some]
  cases hc : clsM v r with
  | true => exact (decide_eq_true ((cls_pcs v r).1 hc)).symm
  | false => exact (decide_eq_false fun hm => by rw [(cls_pcs v r).2 hm] at hc; cases hc).symm
theorem okPts_all : ∀ {l : List (UInt8 × Bs)} {c : Nat}, okPts c l = true → ∀ x ∈ l, isPt x = true
  | [], _, _, x, hx => by cases hx
  | y :: l, c, h, x, hx => by
    rw [okPts] at h
    simp only [Bool.and_eq_true] at h
    rcases List.mem_cons.1 hx with rfl | hx
    · first | exact h.1 | exact h.1.1 | exact h.1.2
    · first | exact okPts_all h.2 x hx
/-- The parts of a step that is one. -/
theorem stR_wk {s a : Bs} {ws : List Bs} (h : stR s = some (a, ws)) : ∀ u ∈ ws, wkU u := fun u hu => by
  have hst : isStM s = true := by rw [← (stR_st s).1, h]; rfl
  have hp := (stR_st s).2 a ws h
  obtain ⟨m, r, rfl, hm⟩ := (stR_few h).1 u hu
  refine ⟨m, r, rfl, hm, fun hr => ?_⟩
  unfold isStM at hst
  rw [Bool.and_eq_true] at hst
  have hok := hst.1
  have hall : ∀ x ∈ ptsOf s, isPt x = true := okPts_all hok
  have hx := hall (m, r) (by rw [hp]; refine List.mem_cons_of_mem _ (List.mem_map.2 ⟨m :: r, hu, rfl⟩))
  subst hr
  unfold isMk at hm
  have h' : (m = 35 ∨ m = 46) ∨ m = 91 := by simpa using hm
  rcases h' with (rfl | rfl) | rfl <;> exact absurd hx (by decide)
/-- A step fits just as the words say. -/
theorem fitSt_S {M : Dm} {n : Int} {e : Elm} {s a : Bs} {ws : List Bs} (he : M n = some e) (hne : e.name ≠ []) (h : stR s = some (a, ws)) : fitSt M s n = fitS e.name e.ats a ws := by
  have hp := (stR_st s).2 a ws h
  unfold fitSt fitS
  rw [he]
  show (e.name != [] && (ptsOf s).all (fitPt e)) = _
  have h1 : (e.name != []) = true := by simpa using hne
  rw [h1, Bool.true_and, hp, List.all_cons]
  congr 1
  rw [List.all_map]
  have hw := stR_wk h
  clear h hp
  induction ws with
  | nil => rfl
  | cons u ws ih =>
    rw [List.all_cons, List.all_cons, ih fun x hx => hw x (List.mem_cons_of_mem _ hx)]
    obtain ⟨m, r, rfl, hm, -⟩ := hw u (List.mem_cons_self ..)
    congr 1
    exact fitPt_mk hm
end Go.Proofs.YtnoecobddhmhlaaGreatDoor

namespace Go.Proofs.YtnoecobddhmhlaaGreatDoor
open Go.RowKit

theorem AtsR.below {w w' : World} {o : Option Addr} {l : List (Bs × Bs)} (h : AtsR w o l) (hb : Below w.heap.size w w') : AtsR w' o l := fun i p hp => by
  obtain ⟨b, off, h1, h2, h3⟩ := h i p hp
  exact ⟨b, off, h1, (hb.cell (cell_lt3 h2)).trans h2, (hb.cell (cell_lt3 h3)).trans h3⟩
theorem RDoc.below {w w' : World} {D : Nat} {o : Option Addr} {cap : Nat} {l : List RE} (h : RDoc w D o cap l) (hb : Below w.heap.size w w') : RDoc w' D o cap l := by
  refine ⟨(hb.cell (cell_lt3 h.c)).trans h.c, fun i x hx => ?_, fun x hx => (h.ats x hx).below hb⟩
  obtain ⟨b, off, h0, h1, h2, h3, h4, h5⟩ := h.at_ i x hx
  exact ⟨b, off, h0, (hb.cell (cell_lt3 h1)).trans h1, (hb.cell (cell_lt3 h2)).trans h2, (hb.cell (cell_lt3 h3)).trans h3, (hb.cell (cell_lt3 h4)).trans h4, (hb.cell (cell_lt3 h5)).trans h5⟩
theorem fit_no {nm a : Bs} (h1 : anyNm a = false) (h2 : ¬ a = nm) : (!(a == nm)) = !(anyNm a || nm == a) := by
  rw [h1, Bool.false_or]
  congr 1
  have : (nm == a) = (a == nm) := by
    cases h : (a == nm) with
    | true => exact absurd (beq_iff_eq.1 h) h2
    | false => exact beq_false_of_ne fun e => h2 e.symm
  exact this.symm
set_option maxRecDepth 20000 in
set_option maxHeartbeats 16000000 in
theorem stepFits_ref (l : List RE) (D : Nat) (o : Option Addr) (cap k : Nat) (x : RE) (A : Bs) (so : Option Addr) (ws : List Bs) (sc : Nat) (sr : Bool) (w : World) (h : RDoc w D o cap l) (hx : l[k]? = some x) (hin : x.ins = true) (ha : x.ats.length ≤ 1000) (hav : ∀ p ∈ x.ats, p.2.length ≤ 1000) (hW : StrsAt w so ws) (hn : ws.length ≤ 8) (hu : ∀ u ∈ ws, wkU u) (hul : ∀ u ∈ ws, u.length ≤ 1000) :
    Calls Tryz.prog 91 #[.pointer (some ⟨D, 0, none⟩), .agg #[.string ⟨A.toArray⟩, .slice so ws.length sc, .bool sr], .int .i64 k] w fun e W => e = .returned (.bool (fitS x.nm x.ats A ws)) ∧ Below w.heap.size w W := by
  have b0 : Below w.heap.size w (w.alloc (.cells #[.string ⟨A.toArray⟩, .slice so ws.length sc, .bool sr] 133)) := (Below.refl _ w).alloc (Nat.le_refl _) _
  have s0 := World.alloc_heap_new w (.cells #[.string ⟨A.toArray⟩, .slice so ws.length sc, .bool sr] 133)
  go_enter Tryz.func91, Tryz.ntmps91
  go_upto_region 1 with fail
  obtain ⟨U0, hU0⟩ : ∃ U, w.alloc (.cells #[.string ⟨A.toArray⟩, .slice so ws.length sc, .bool sr] 133) = U := ⟨_, rfl⟩
  rw [hU0] at b0 s0 ⊢
  obtain ⟨P0, hP0⟩ : ∃ P0, w.heap.size = P0 := ⟨_, rfl⟩
  rw [hP0] at s0 ⊢
  clear hU0
  have h0 := h.below b0
  have hlt : k < l.length := (List.getElem?_eq_some_iff.1 hx).1
  have hlt' : (k : Int) < (l.length : Int) := by omega
  obtain ⟨b, off, rfl, e0, e1, e2, e3, e4⟩ := h0.at_ k x hx
  have cD := h0.c
  rw [hin] at e4
  go_upto_region 2 with fail
  have b1 : Below U0.heap.size U0 (U0.alloc (.cells #[.string ⟨x.nm.toArray⟩, .slice x.oa x.ats.length x.ca, .int .i64 x.par, .slice x.ok x.kids.length x.ck, .bool true] 62)) := (Below.refl _ U0).alloc (Nat.le_refl _) _
  have r1 := World.alloc_heap_new U0 (.cells #[.string ⟨x.nm.toArray⟩, .slice x.oa x.ats.length x.ca, .int .i64 x.par, .slice x.ok x.kids.length x.ck, .bool true] 62)
  obtain ⟨U, hU⟩ : ∃ U, U0.alloc (.cells #[.string ⟨x.nm.toArray⟩, .slice x.oa x.ats.length x.ca, .int .i64 x.par, .slice x.ok x.kids.length x.ck, .bool true] 62) = U := ⟨_, rfl⟩
  rw [hU] at b1 r1 ⊢
  obtain ⟨P1, hP1⟩ : ∃ P1, U0.heap.size = P1 := ⟨_, rfl⟩
  rw [hP1] at r1 ⊢
  have hRD := h0.below b1
  have bU : Below P0 w U := by rw [← hP0]; exact b0.trans (b1.mono b0.size)
  have hWU : StrsAt U so ws := hW.below bU (Nat.le_of_eq hP0)
  have s1 := (b1.block P0 (heapD_lt s0)).trans s0
  have q0 : U.cell? ⟨P0, 0, none⟩ = some (.string ⟨A.toArray⟩) := by simp [World.cell?, s1]
  have q1 : U.cell? ⟨P0, 1, none⟩ = some (.slice so ws.length sc) := by simp [World.cell?, s1]
  obtain ⟨n0, n1, -, -, -⟩ := Cel5.of r1
  have hpU : P0 < U.heap.size ∧ P1 < U.heap.size := ⟨heapD_lt s1, heapD_lt r1⟩
  have HP0 : Hid (w.heap.size = P0) := hP0
  have hxa := hRD.ats x (List.mem_of_getElem? hx)
  clear hU hP0 hP1 b0 b1 s0 s1 r1 e0 e1 e2 e3 e4 cD h0 h hW
  go_cut [34] from 13 to 34 (fun v wx => v = .bool (!(anyNm A || x.nm == A)) ∧ wx = U)
  case first =>
    by_cases hA0 : A = []
    · have HB : Hid (Value.bool false = .bool (!(anyNm A || x.nm == A))) := by subst hA0; rfl
      have h1 : List.isEmpty A = true := by subst hA0; rfl
      clear hA0
      go_wp2_with fail
      go_meet
      exact ⟨HB.out, rfl⟩
    · by_cases hA1 : A = [42]
      · have HB : Hid (Value.bool false = .bool (!(anyNm A || x.nm == A))) := by subst hA1; rfl
        have h1 : List.isEmpty A = false := by subst hA1; rfl
        have h2 : (A == [42]) = true := by subst hA1; rfl
        clear hA0 hA1
        go_wp2_with fail
        go_meet
        exact ⟨HB.out, rfl⟩
      · have HB : Hid (Value.bool (!(A == x.nm)) = .bool (!(anyNm A || x.nm == A))) := by
          refine congrArg Value.bool (congrArg not ?_)
          have h1 : (A == []) = false := beq_false_of_ne hA0
          have h2 : (A == [42]) = false := beq_false_of_ne hA1
          unfold anyNm
          rw [h1, h2, Bool.false_or, Bool.false_or]
          exact BEq.comm
        have h1 : List.isEmpty A = false := by cases A with | nil => exact absurd rfl hA0 | cons => rfl
        have h2 : (A == [42]) = false := beq_false_of_ne hA1
        clear hA0 hA1
        go_wp2_with fail
        go_meet
        exact ⟨HB.out, rfl⟩
  case rest =>
    obtain ⟨rfl, rfl⟩ := hcut
    cases hnm : (anyNm A || x.nm == A) with
    | false =>
      have HF : Hid (fitS x.nm x.ats A ws = false) := by
        have e : fitS x.nm x.ats A ws = false := by unfold fitS; rw [hnm]; rfl
        exact e
      simp only [Bool.not_false]
      clear hnm
      go_wp2_with fail
      go_ret
      exact ⟨by rw [HF.out]; rfl, by rw [HP0.out]; exact bU⟩
    | true =>
      have HF : Hid (fitS x.nm x.ats A ws = ws.all (fitU x.ats)) := by
        have e : fitS x.nm x.ats A ws = ws.all (fitU x.ats) := by unfold fitS; rw [hnm]; rfl
        exact e
      simp only [Bool.not_true]
      clear hnm
      go_wp2_with fail
      go_loopw [8] (fun i wr => ∃ q : Nat, q ≤ ws.length ∧ i = .int .i64 q ∧ (∀ u ∈ ws.take q, fitU x.ats u = true) ∧ Below wc.heap.size wc wr) (fun i _ => ws.length - (intOf i).toNat)
      case atStart => exact ⟨0, Nat.zero_le _, rfl, (fun u hu => by simp at hu), Below.refl _ _⟩
      case round =>
        obtain ⟨q, hq, rfl, hall, hb⟩ := hrel
        have HALL : Hid (∀ u ∈ ws.take q, fitU x.ats u = true) := hall
        have bwr : Below P0 w wr := bU.trans (hb.mono (Nat.le_of_lt hpU.1))
        have q0r := (hb.cell (cell_lt3 q0)).trans q0
        have q1r := (hb.cell (cell_lt3 q1)).trans q1
        have n1r := (hb.cell (cell_lt3 n1)).trans n1
        clear hall
        by_cases hlq : q < ws.length
        · have hlq' : (q : Int) < (ws.length : Int) := by omega
          obtain ⟨u, hu0⟩ : ∃ u, ws[q]? = some u := ⟨_, List.getElem?_eq_getElem hlq⟩
          have hum := List.mem_of_getElem? hu0
          obtain ⟨m, r, rfl, hm, hr0⟩ := hu u hum
          have hrl := hul _ hum
          rw [List.length_cons] at hrl
          obtain ⟨b2, off2, ho2, cu⟩ := (hWU.below hb (Nat.le_refl _)) q _ hu0
          rw [ho2] at q1r
          have HT : Hid (fitU x.ats (m :: r) = true → ∀ u ∈ ws.take (q + 1), fitU x.ats u = true) := fun ht u hu' => by
            rw [List.take_add_one, hu0] at hu'
            rcases List.mem_append.1 hu' with h1 | h1
            · exact HALL.out u h1
            · simp at h1; subst h1; exact ht
          have HN : Hid (fitU x.ats (m :: r) = false → fitS x.nm x.ats A ws = false) := fun hf => by
            rw [HF.out, List.all_eq_false]
            exact ⟨_, hum, by rw [hf]; simp⟩
          have hRr := hRD.below hb
          have AR := fun t V (hV : Below wr.heap.size wr V) => Attr_ref l D _ cap k x t V (hRr.below hV) hx hin (by omega)
          have hxr := hxa.below hb
          have hex : (⟨(m :: r).toArray⟩ : ByteArray).extract 1 (r.length + 1) = ⟨r.toArray⟩ := by
            apply ByteArray.ext
            rw [ByteArray.data_extract]
            simp
          have hsz : 0 < (⟨(m :: r).toArray⟩ : ByteArray).size := by rw [ba_size]; simp
          clear hRD hu hul hu0 hum HALL ho2
          have hm' : (m = 35 ∨ m = 46) ∨ m = 91 := by unfold isMk at hm; simpa using hm
          rcases hm' with (rfl | rfl) | rfl
          · have hb35 : (((⟨(35 :: r).toArray⟩ : ByteArray)[0]'hsz).toNat : Int) = 35 := rfl
            have AI := AR [105, 100] wr (Below.refl _ _)
            go_upto_region 12 with (go_at_call 24; refine AI.mono ?_; rintro e w1 ⟨⟨rv, rfl, hrv⟩, rfl⟩)
            clear AI AR
            rcases hrv.of with ⟨i, p, rfl, hp, hat⟩ | ⟨rfl, hat⟩
            · have hd : decide ((0 : Int) ≤ (i : Int)) = true := by simp
              have hil : i < x.ats.length := (List.getElem?_eq_some_iff.1 hp).1
              have hil' : (i : Int) < (x.ats.length : Int) := by omega
              obtain ⟨b3, off3, ho3, -, cv⟩ := hxr i p hp
              rw [ho3] at n1r
              cases hpr : (p.2 == r) with
              | true =>
                have HFU : Hid (fitU x.ats (35 :: r) = true) := by
                  have e : fitU x.ats (35 :: r) = true := by rw [fitU_id, hat]; exact hpr
                  exact e
                clear hat hp hrv hxr ho3
                go_quiet (fail)
                go_wp2_with fail
                go_roundw
                case rel => exact ⟨q + 1, by omega, by go_num, HT.out HFU.out, mdrew nq hb⟩
                case measure => simp [intOf]; omega
              | false =>
                have HFU : Hid (fitU x.ats (35 :: r) = false) := by
                  have e : fitU x.ats (35 :: r) = false := by rw [fitU_id, hat]; exact hpr
                  exact e
                clear hat hp hrv hxr ho3
                go_quiet (fail)
                go_wp2_with fail
                go_ret
                exact ⟨by rw [HN.out HFU.out]; rfl, by rw [HP0.out]; exact mdrew nq bwr⟩
            · have HFU : Hid (fitU x.ats (35 :: r) = false) := id_none hat hr0
              clear hat hrv hxr
              go_quiet (fail)
              go_wp2_with fail
              go_ret
              exact ⟨by rw [HN.out HFU.out]; rfl, by rw [HP0.out]; exact mdrew nq bwr⟩
          · have hb46 : (((⟨(46 :: r).toArray⟩ : ByteArray)[0]'hsz).toNat : Int) = 46 := rfl
            have AI := AR [99, 108, 97, 115, 115] wr (Below.refl _ _)
            go_upto_region 15 with (go_at_call 24; refine AI.mono ?_; rintro e w1 ⟨⟨rv, rfl, hrv⟩, rfl⟩)
            clear AI AR
            rcases hrv.of with ⟨i, p, rfl, hp, hat⟩ | ⟨rfl, hat⟩
            · have hd : decide ((0 : Int) ≤ (i : Int)) = true := by simp
              have hil : i < x.ats.length := (List.getElem?_eq_some_iff.1 hp).1
              have hil' : (i : Int) < (x.ats.length : Int) := by omega
              obtain ⟨b3, off3, ho3, -, cv⟩ := hxr i p hp
              rw [ho3] at n1r
              have hvl := hav p (List.mem_of_getElem? hp)
              obtain ⟨v, hv⟩ : ∃ v, p.2 = v := ⟨_, rfl⟩
              rw [hv] at cv hat hvl
              have HFU : Hid (fitU x.ats (46 :: r) = decide (r ∈ pcs v)) := cls_some hat
              have CU : ∀ V, Calls Tryz.prog 80 #[.string ⟨v.toArray⟩, .int .u8 32] V fun e w' => ∃ u, e = .returned u ∧ w'.ownsRow V.heap.size 9 1 u (pcs v).length (strs (pcs v)) ∧ Below V.heap.size V w' := fun V => by
                have := Cut_ref ⟨v.toArray⟩ 32 V (by rw [ba_size]; omega)
                have e : (⟨v.toArray⟩ : ByteArray).data.toList = v := by simp
                rw [e, pieces_pcs] at this
                exact this
              have hpl : (pcs v).length ≤ 1000000 := by
                rw [← pieces_pcs, pieces_len]
                have := List.count_le_length (a := (32 : UInt8)) (l := v)
                omega
              have IX := fun o c V (hS : StrsAt V o (pcs v)) => Index_any (pcs v) o c r V hpl hS
              clear hat hp hrv hxr ho3 hv
              have h1r : (1 : Int) ≤ (r.length : Int) + 1 := by omega
              have CU2 : Calls Tryz.prog 80 #[.string ⟨v.toArray⟩, .int .u8 32] w1.drew fun e w' => ∃ o2 c2, e = .returned (.slice o2 (pcs v).length c2) ∧ StrsAt w' o2 (pcs v) ∧ Below w1.heap.size w1 w' := (CU w1.drew).mono (by
                rintro e w2 ⟨v2, rfl, ow2, b2⟩
                obtain ⟨o2, c2, rfl, hS2⟩ := StrsAt.of ow2
                exact ⟨o2, c2, rfl, hS2, (Below.refl _ _).drew.trans b2⟩)
              go_region_law (go_simp; go_wp2_with (first | (go_at_call 128; refine (IX _ _ _ hS2).mono ?_; rintro e w3 ⟨⟨rr, rfl, hrr⟩, rfl⟩; have HRR : Hid (0 ≤ rr ↔ r ∈ pcs v) := hrr; clear hrr) | (go_at_call 80; refine CU2.mono ?_; rintro e w2 ⟨o2, c2, rfl, hS2, b2⟩)))
              all_goals
                have hbr := hb.trans (b2.mono hb.size)
                have bw2 := bwr.trans (b2.mono (by have := hpU.1; have := hb.size; omega))
                by_cases h0 : 0 ≤ rr
                · have hd2 : decide (0 ≤ rr) = true := by simp [h0]
                  have HFV : Hid (fitU x.ats (46 :: r) = true) := by
                    have e : fitU x.ats (46 :: r) = true := by rw [HFU.out]; exact decide_eq_true (HRR.out.1 h0)
                    exact e
                  go_wp2_with fail
                  go_roundw
                  case rel => exact ⟨q + 1, by omega, by go_num, HT.out HFV.out, hbr⟩
                  case measure => simp [intOf]; omega
                · have hd2 : decide (0 ≤ rr) = false := by simp [h0]
                  have HFV : Hid (fitU x.ats (46 :: r) = false) := by
                    have e : fitU x.ats (46 :: r) = false := by rw [HFU.out]; exact decide_eq_false fun hm => h0 (HRR.out.2 hm)
                    exact e
                  go_wp2_with fail
                  go_ret
                  exact ⟨by rw [HN.out HFV.out]; rfl, by rw [HP0.out]; exact bw2⟩
            · have HFU : Hid (fitU x.ats (46 :: r) = false) := cls_none hat hr0
              clear hat hrv hxr
              go_quiet (fail)
              go_wp2_with fail
              go_ret
              exact ⟨by rw [HN.out HFU.out]; rfl, by rw [HP0.out]; exact mdrew nq bwr⟩
          · have hb91 : (((⟨(91 :: r).toArray⟩ : ByteArray)[0]'hsz).toNat : Int) = 91 := rfl
            have AI := AR r wr (Below.refl _ _)
            go_upto_region 18 with (go_at_call 24; refine AI.mono ?_; rintro e w1 ⟨⟨rv, rfl, hrv⟩, rfl⟩)
            clear AI AR
            rcases hrv.of with ⟨i, p, rfl, hp, hat⟩ | ⟨rfl, hat⟩
            · have hd : decide ((0 : Int) ≤ (i : Int)) = true := by simp
              have HFU : Hid (fitU x.ats (91 :: r) = true) := by
                have e : fitU x.ats (91 :: r) = true := by rw [fitU_has, hat]; rfl
                exact e
              clear hat hrv hp hxr
              go_wp2_with fail
              go_roundw
              case rel => exact ⟨q + 1, by omega, by go_num, HT.out HFU.out, hb⟩
              case measure => simp [intOf]; omega
            · have HFU : Hid (fitU x.ats (91 :: r) = false) := by
                have e : fitU x.ats (91 :: r) = false := by rw [fitU_has, hat]; rfl
                exact e
              clear hat hrv hxr
              go_wp2_with fail
              go_ret
              exact ⟨by rw [HN.out HFU.out]; rfl, by rw [HP0.out]; exact bwr⟩
        · have hlq' : ¬ (q : Int) < (ws.length : Int) := by omega
          have HT : Hid (fitS x.nm x.ats A ws = true) := by
            have h1 := HALL.out
            rw [List.take_of_length_le (by omega)] at h1
            have e : fitS x.nm x.ats A ws = true := by rw [HF.out, List.all_eq_true]; exact h1
            exact e
          go_wp2_with fail
          go_ret
          exact ⟨by rw [HT.out]; rfl, by rw [HP0.out]; exact bwr⟩
end Go.Proofs.YtnoecobddhmhlaaGreatDoor

/-
  Steps of the document's make in memory, and the words that they come from.
-/
import Derived.Test.YtnoecobddhmhlaaGreatDoorJ25
import Derived.Test.YtnoecobddhmhlaaGreatDoorJ26
namespace Go.Proofs.YtnoecobddhmhlaaGreatDoor
open Go.RowKit

/-- A step in memory: its name, its other parts and where they lie, and whether `>` stands ahead. -/
structure S3 where
  a : Bs
  o : Option Addr
  cap : Nat
  ws : List Bs
  r : Bool
def cells3 : List S3 → List Value
  | [] => []
  | x :: r => .string ⟨x.a.toArray⟩ :: .slice x.o x.ws.length x.cap :: .bool x.r :: cells3 r
theorem cells3_app : ∀ l m : List S3, cells3 (l ++ m) = cells3 l ++ cells3 m
  | [], m => rfl
  | x :: r, m => by simp [cells3, cells3_app r m]
def Own3 (w : World) (base : Nat) (v : Value) (l : List S3) : Prop := w.ownsRow base 133 3 v l.length (cells3 l)
theorem Own3.app {w : World} {base : Nat} {v : Value} {l : List S3} {x : S3} (h : w.ownsRow base 133 3 v (l.length + 1) (cells3 l ++ [.string ⟨x.a.toArray⟩, .slice x.o x.ws.length x.cap, .bool x.r])) : Own3 w base v (l ++ [x]) := by
  unfold Own3
  rw [cells3_app, List.length_append]
  exact h
def WsOf (w : World) (l : List S3) : Prop := ∀ x ∈ l, StrsAt w x.o x.ws
def WsB (w : World) (l : List S3) : Prop := ∀ x ∈ l, ∀ a, x.o = some a → ∃ cur, w.heap[a.block]? = some (.cells cur 9 (0, 0))
theorem cellB_lt {w : World} {p : Addr} {v : Value} (h : w.cell? p = some v) : p.block < w.heap.size := by
  unfold World.cell? at h
  cases hb : w.heap[p.block]? with
  | none => rw [hb] at h; cases h
  | some o => exact (Array.getElem?_eq_some_iff.1 hb).1
theorem StrsAt.below {w w' : World} {B : Nat} {o : Option Addr} {l : List Bs} (h : StrsAt w o l) (hb : Below B w w') (hB : w.heap.size ≤ B) : StrsAt w' o l := fun i p hp => by
  obtain ⟨b, off, h1, h2⟩ := h i p hp
  exact ⟨b, off, h1, (hb.cell (Nat.lt_of_lt_of_le (cellB_lt h2) hB)).trans h2⟩
theorem WsOf.below {w w' : World} {l : List S3} (h : WsOf w l) (hb : Below w.heap.size w w') : WsOf w' l := fun x hx => (h x hx).below hb (Nat.le_refl _)
theorem WsB.below {w w' : World} {l : List S3} (h : WsB w l) (hb : Below w.heap.size w w') : WsB w' l := fun x hx a ha => by
  obtain ⟨cur, hc⟩ := h x hx a ha
  exact ⟨cur, (hb.block _ (Array.getElem?_eq_some_iff.1 hc).1).trans hc⟩
theorem ws_grown {w w' : World} {l : List S3} {row : Option Nat} (hP : WsOf w l) (hB : WsB w l) (gr : w.grownBy w' row) (hr : ∀ r, row = some r → ∃ cur, w.heap[r]? = some (.cells cur 133 (0, 0))) : WsOf w' l ∧ WsB w' l := by
  have key : ∀ x ∈ l, ∀ a, x.o = some a → w'.heap[a.block]? = w.heap[a.block]? := fun x hx a ha => by
    obtain ⟨cur, hc⟩ := hB x hx a ha
    refine gr.block _ (Array.getElem?_eq_some_iff.1 hc).1 (fun e => ?_)
    obtain ⟨cur', hc'⟩ := hr _ e.symm
    rw [hc] at hc'
    injection hc' with h
    injection h with h1 h2
    exact absurd h2 (by decide)
  refine ⟨fun x hx => ?_, fun x hx a ha => ?_⟩
  · intro i q hq
    obtain ⟨b, off, h1, c0⟩ := hP x hx i q hq
    have hb : w'.heap[b]? = w.heap[b]? := key x hx ⟨b, off, none⟩ h1
    refine ⟨b, off, h1, ?_⟩
    unfold World.cell? at c0 ⊢
    rw [hb]
    exact c0
  · obtain ⟨cur, hc⟩ := hB x hx a ha
    exact ⟨cur, (key x hx a ha).trans hc⟩
theorem ownB_kind {w : World} {base : Nat} {e : TypeId} {size : Nat} {v : Value} {n : Nat} {xs : List Value} (h : w.ownsRow base e size v n xs) : ∀ r, v.ownBlock = some r → ∃ cur, w.heap[r]? = some (.cells cur e (0, 0)) := fun r hr => by
  rcases h.2 with ⟨h1, -⟩ | ⟨g, cap, cur, h1, -, h2, -⟩
  · rw [h1] at hr; cases hr
  · rw [h1] at hr; cases hr; exact ⟨cur, h2⟩
/-- A row of texts that a call made: where it lies. -/
theorem StrsAt.made {w : World} {base : Nat} {v : Value} {l : List Bs} (h : w.ownsRow base 9 1 v l.length (strs l)) : ∃ o cap, v = .slice o l.length cap ∧ StrsAt w o l ∧ ∀ a, o = some a → ∃ cur, w.heap[a.block]? = some (.cells cur 9 (0, 0)) := by
  obtain ⟨o, cap, rfl, h1⟩ := StrsAt.of h
  refine ⟨o, cap, rfl, h1, fun a ha => ?_⟩
  rcases h.2 with ⟨h2, -⟩ | ⟨g, c, cur, h2, -, h3, -⟩
  · injection h2 with h4; rw [h4] at ha; cases ha
  · injection h2 with h4; rw [h4] at ha; cases ha; exact ⟨cur, h3⟩
/-- Steps in memory and the words that they come from. -/
def Mt : List S3 → List (Bs × Bool) → Prop
  | [], [] => True
  | x :: m, t :: l => (stR t.1 = some (x.a, x.ws) ∧ x.r = t.2) ∧ Mt m l
  | _, _ => False
theorem Mt.snoc {x : S3} {t : Bs × Bool} (hx : stR t.1 = some (x.a, x.ws)) (hr : x.r = t.2) : ∀ {m : List S3} {l : List (Bs × Bool)}, Mt m l → Mt (m ++ [x]) (l ++ [t])
  | [], [], _ => ⟨⟨hx, hr⟩, trivial⟩
  | _ :: _, _ :: _, h => ⟨h.1, Mt.snoc hx hr h.2⟩
  | [], _ :: _, h => h.elim
  | _ :: _, [], h => h.elim
theorem Mt.len : ∀ {m : List S3} {l : List (Bs × Bool)}, Mt m l → m.length = l.length
  | [], [], _ => rfl
  | _ :: _, _ :: _, h => by rw [List.length_cons, List.length_cons, Mt.len h.2]
  | [], _ :: _, h => h.elim
  | _ :: _, [], h => h.elim
theorem pieces_pcs : ∀ l : Bs, pieces 32 l = pcs l
  | [] => rfl
  | b :: l => by
    rw [pieces, pcs_cons, pieces_pcs l]
    split
    · rfl
    · cases pcs l <;> rfl
theorem infoSt : (Tryz.prog.info? 133).map (fun i => (i.zero, i.size, i.bytes)) = some (some (.agg #[.string ⟨#[]⟩, .slice none 0 0, .bool false]), 3, 48) := by kernel_rfl
end Go.Proofs.YtnoecobddhmhlaaGreatDoor

namespace Go.Proofs.YtnoecobddhmhlaaGreatDoor
open Go.RowKit

theorem bel_moreR {w w1 w2 : World} {B : Nat} (h : Below B w w1) (h2 : Below w1.heap.size w1 w2) (hB : B ≤ w1.heap.size) : Below B w w2 := h.trans (h2.mono hB)
theorem pieces_short {c : UInt8} : ∀ {l : Bs} {y : Bs}, y ∈ pieces c l → y.length ≤ l.length
  | [], y, h => by
    have h : y ∈ ([[]] : List Bs) := h
    rw [List.mem_singleton.1 h]
    exact Nat.le_refl _
  | b :: l, y, h => by
    rw [pieces] at h
    split at h
    · rcases List.mem_cons.1 h with rfl | h
      · exact Nat.zero_le _
      · exact Nat.le_succ_of_le (pieces_short h)
    · cases hp : pieces c l with
      | nil =>
        rw [hp] at h
        rw [List.mem_singleton.1 h]
        simp
      | cons p ps =>
        rw [hp] at h
        rcases List.mem_cons.1 h with rfl | h
        · exact Nat.succ_le_succ (pieces_short (c := c) (by rw [hp]; exact List.mem_cons_self ..))
        · exact Nat.le_succ_of_le (pieces_short (c := c) (by rw [hp]; exact List.mem_cons_of_mem _ h))
/-- What StepsOf answers. -/
def StepsV (W : World) (base : Nat) (v : Value) : Option (List (Bs × Bool)) → Prop
  | none => ∃ o n c, v = .tuple #[.slice o n c, .bool false]
  | some l => ∃ r m, v = .tuple #[r, .bool (decide (l.length ≤ 5))] ∧ Own3 W base r m ∧ WsOf W m ∧ Mt m l ∧ WsB W m
set_option maxRecDepth 20000 in
set_option maxHeartbeats 16000000 in
theorem StepsOf_any (s : ByteArray) (w : World) (hm : s.size ≤ 100000) :
    Calls Tryz.prog 28 #[.string s] w fun e W => ∃ v, e = .returned v ∧ StepsV W w.heap.size v (sR true (pcs s.data.toList)) ∧ Below w.heap.size w W := by
  obtain ⟨i0, hi, hz0, hz1, hz2⟩ := info_parts infoSt
  have CU : Calls Tryz.prog 80 #[.string s, .int .u8 32] w fun e w' => ∃ v, e = .returned v ∧ w'.ownsRow w.heap.size 9 1 v (pieces 32 s.data.toList).length (strs (pieces 32 s.data.toList)) ∧ Below w.heap.size w w' := Cut_ref s 32 w (by omega)
  obtain ⟨ws, hws⟩ : ∃ ws, pieces 32 s.data.toList = ws := ⟨_, rfl⟩
  have HWS : Hid (pcs s.data.toList = ws) := by rw [← pieces_pcs]; exact hws
  have hwl : ws.length ≤ 100001 := by
    rw [← hws, pieces_len]
    have := List.count_le_length (a := (32 : UInt8)) (l := s.data.toList)
    rw [len_eq] at this
    omega
  have hwm : ∀ y ∈ ws, y.length ≤ 1000000 := fun y hy => by
    rw [← hws] at hy
    have := pieces_short hy
    rw [len_eq] at this
    omega
  rw [hws] at CU
  clear hws
  go_enter Tryz.func28, Tryz.ntmps28
  go_wp2_with (go_at_call 80; refine CU.mono ?_; rintro e w1 ⟨v, rfl, ow1, b1⟩; obtain ⟨o, cap, rfl, hS, -⟩ := StrsAt.made ow1)
  clear CU ow1
  have hws1 := b1.size
  go_loopw [5, 6] (fun v i wr => ∃ (k : Nat) (m : List S3) (l0 : List (Bs × Bool)), k ≤ ws.length ∧ i = .int .i64 k ∧ Own3 wr w1.heap.size v m ∧ WsOf wr m ∧ WsB wr m ∧ Mt m l0 ∧ m.length ≤ k ∧ Below w1.heap.size w1 wr ∧ sR true (pcs s.data.toList) = (sR (decide (k = 0)) (ws.drop k)).map (l0 ++ ·)) (fun _ i _ => ws.length - (intOf i).toNat)
  case atStart =>
    refine ⟨0, [], [], Nat.zero_le _, rfl, World.ownsRow_nil _ _ _ _, (fun x hx => by cases hx), (fun x hx => by cases hx), trivial, Nat.le_refl _, Below.refl _ _, ?_⟩
    rw [HWS.out]
    simp
  case round =>
    obtain ⟨k, m, l0, hk, rfl, hown, hW, hB, hM, hmk, hb, hrel'⟩ := hrel
    have HREL : Hid (sR true (pcs s.data.toList) = (sR (decide (k = 0)) (ws.drop k)).map (l0 ++ ·)) := hrel'
    have hSr := hS.below hb (Nat.le_refl _)
    have hbw : Below w.heap.size w wr := bel_moreR b1 hb b1.size
    clear hrel'
    by_cases hlt : k < ws.length
    · have hlt' : (k : Int) < (ws.length : Int) := by omega
      obtain ⟨x, hx⟩ : ∃ x, ws[k]? = some x := ⟨_, List.getElem?_eq_getElem hlt⟩
      obtain ⟨b, off, rfl, c0⟩ := hSr k x hx
      have hdr : ws.drop k = x :: ws.drop (k + 1) := by
        rw [List.drop_eq_getElem_cons hlt]
        rw [List.getElem?_eq_getElem hlt] at hx
        injection hx with hx
        rw [hx]
      have HDR : Hid (ws.drop k = x :: ws.drop (k + 1)) := hdr
      have hxm : x ∈ ws := List.mem_of_getElem? hx
      clear hdr hx
      by_cases hgt : x = [62]
      · subst hgt
        by_cases hk0 : k = 0
        · have hno : sR true (pcs s.data.toList) = none := by
            rw [HREL.out, HDR.out, show decide (k = 0) = true by simp [hk0], sR_gt_first]
            rfl
          have HNO : Hid (sR true (pcs s.data.toList) = none) := hno
          have hkb : ((k : Int) == 0) = true := by rw [hk0]; rfl
          clear hno hk0
          go_wp2_with fail
          refine bodyPost_ret (results_tmp2 rfl _ _ _) rfl ?_
          rw [HNO.out]
          exact ⟨_, rfl, ⟨_, _, _, rfl⟩, hbw⟩
        · have hkb : ((k : Int) == 0) = false := by simp; omega
          have hkd : decide (k = 0) = false := by simp [hk0]
          rw [hkd] at HREL
          obtain ⟨K1, hK1⟩ : ∃ K1 : Nat, k + 1 = K1 := ⟨_, rfl⟩
          have hKI : (k : Int) + 1 = (K1 : Int) := by omega
          by_cases hend : K1 = ws.length
          · have hno : sR true (pcs s.data.toList) = none := by
              rw [HREL.out, HDR.out, List.drop_eq_nil_of_le (by omega), sR_gt_end]
              rfl
            have HNO : Hid (sR true (pcs s.data.toList) = none) := hno
            have hkc : ((K1 : Int) == (ws.length : Int)) = true := by simp; omega
            clear hno hK1 hend
            go_wp2_with fail
            refine bodyPost_ret (results_tmp2 rfl _ _ _) rfl ?_
            rw [HNO.out]
            exact ⟨_, rfl, ⟨_, _, _, rfl⟩, hbw⟩
          · have hkc : ((K1 : Int) == (ws.length : Int)) = false := by simp; omega
            have hlt1 : K1 < ws.length := by omega
            have hlt1' : (K1 : Int) < (ws.length : Int) := by omega
            obtain ⟨y, hy⟩ : ∃ y, ws[K1]? = some y := ⟨_, List.getElem?_eq_getElem hlt1⟩
            have hcy : wr.cell? ⟨b, off + K1, none⟩ = some (.string ⟨y.toArray⟩) := by
              obtain ⟨b', off', he, c1⟩ := hSr K1 y hy
              cases he
              exact c1
            have hyl := hwm y (List.mem_of_getElem? hy)
            have HDY : Hid (ws.drop k = [62] :: y :: ws.drop (K1 + 1)) := by
              have h1 := HDR.out
              rw [hK1, List.drop_eq_getElem_cons hlt1] at h1
              rw [List.getElem?_eq_getElem hlt1] at hy
              injection hy with hy
              rw [hy] at h1
              exact h1
            have HK1 : Hid (k + 1 = K1) := hK1
            have hmk1 : m.length ≤ K1 := by omega
            clear hK1 hend hxm hy hk0 hkd hSr hS
            have ST := stepOf_any ⟨y.toArray⟩ wr (by rw [ba_size]; exact hyl)
            have hyd : (⟨y.toArray⟩ : ByteArray).data.toList = y := by simp
            rw [hyd] at ST
            clear hyd
            cases hst : stR y with
            | none =>
              have hno : sR true (pcs s.data.toList) = none := by
                have hist : isStM y = false := by rw [← (stR_st y).1, hst]; rfl
                rw [HREL.out, HDY.out, sR_gt, hist]
                rfl
              have HNO : Hid (sR true (pcs s.data.toList) = none) := hno
              rw [hst] at ST
              clear hno hst
              go_wp2_with (go_at_call 81; refine ST.mono ?_; rintro e w3 ⟨v3, rfl, hv3, b3⟩; obtain rfl : v3 = _ := hv3)
              refine bodyPost_ret (results_tmp2 rfl _ _ _) rfl ?_
              rw [HNO.out]
              exact ⟨_, rfl, ⟨_, _, _, rfl⟩, (bel_moreR hbw b3 hbw.size).alloc (Nat.le_trans hbw.size b3.size) _⟩
            | some t =>
              obtain ⟨a, us⟩ := t
              have hrn : sR true (pcs s.data.toList) = (sR false (ws.drop (K1 + 1))).map ((l0 ++ [(y, true)]) ++ ·) := by
                have hist : isStM y = true := by rw [← (stR_st y).1, hst]; rfl
                rw [HREL.out, HDY.out, sR_gt, hist, if_pos rfl, Option.map_map]
                cases sR false (ws.drop (K1 + 1)) with
                | none => rfl
                | some q =>
                  show some (l0 ++ (y, true) :: q) = some ((l0 ++ [(y, true)]) ++ q)
                  rw [List.append_assoc]
                  rfl
              have HRN : Hid (sR true (pcs s.data.toList) = (sR (decide (K1 + 1 = 0)) (ws.drop (K1 + 1))).map ((l0 ++ [(y, true)]) ++ ·)) := by
                have e : decide (K1 + 1 = 0) = false := by simp
                rw [e]
                exact hrn
              have HMT : Hid (∀ o c, Mt (m ++ [⟨a, o, c, us, true⟩]) (l0 ++ [(y, true)])) := fun o c => Mt.snoc (x := ⟨a, o, c, us, true⟩) (t := (y, true)) hst rfl hM
              rw [hst] at ST
              clear hrn hst
              go_upto_region 16 with (go_at_call 81; refine ST.mono ?_; rintro e w3 ⟨v3, rfl, hv3, b3⟩; obtain ⟨rv, rfl, ow3⟩ := hv3; obtain ⟨o3, c3, rfl, hS3, hB3⟩ := StrsAt.made ow3)
              have ow4 : w3.ownsRow w1.heap.size 133 3 u5 m.length (cells3 m) := ownB_below hown b3
              have hb3 := bel_moreR hb b3 hb.size
              have hsz3 := hb3.size
              have H0 : ((w3.alloc (.cells #[.string ⟨a.toArray⟩, .slice o3 us.length c3, .bool true] 133)).alloc (.cells #[.string ⟨a.toArray⟩, .slice o3 us.length c3, .bool true] 133)).heap[w3.heap.size + 1]? = some (.cells #[.string ⟨a.toArray⟩, .slice o3 us.length c3, .bool true] 133) := by
                have := World.alloc_heap_new (w3.alloc (.cells #[.string ⟨a.toArray⟩, .slice o3 us.length c3, .bool true] 133)) (.cells #[.string ⟨a.toArray⟩, .slice o3 us.length c3, .bool true] 133)
                rwa [World.size_alloc] at this
              have bd : Below w3.heap.size w3 ((w3.alloc (.cells #[.string ⟨a.toArray⟩, .slice o3 us.length c3, .bool true] 133)).alloc (.cells #[.string ⟨a.toArray⟩, .slice o3 us.length c3, .bool true] 133)) := ((Below.refl _ _).alloc (Nat.le_refl _) _).alloc (by rw [World.size_alloc]; exact Nat.le_succ _) _
              have hpn : WsOf w3 (m ++ [⟨a, o3, c3, us, true⟩]) := fun z hz => by
                rcases List.mem_append.1 hz with hz | hz
                · exact hW.below b3 z hz
                · simp at hz; subst hz; exact hS3
              have hbn : WsB w3 (m ++ [⟨a, o3, c3, us, true⟩]) := fun z hz => by
                rcases List.mem_append.1 hz with hz | hz
                · exact hB.below b3 z hz
                · simp at hz; subst hz; exact hB3
              clear hW hB hM hS3 hB3 ow3 ST
              go_wp2_with (at_builtin; refine wpList_append_own _ rfl _ _ 72 rfl w1.heap.size 133 i0 (.agg #[.string ⟨#[]⟩, .slice none 0 0, .bool false]) 3 48 Tryz.underlying72 hi hz0 hz1 hz2 rfl (by decide) _ _ _ rfl (World.ownsRow.alloc (World.ownsRow.alloc ow4 _) _) ⟨w3.heap.size + 1, 0, none⟩ 1 1 [.string ⟨a.toArray⟩, .slice o3 us.length c3, .bool true] rfl rfl (World.news_of_block H0) (fun u hu => by simp at hu; rcases hu with rfl | rfl | rfl <;> rfl) (by simp only [maxLen]; omega) (by omega) (by simp; omega) ?_; intro v10 w10 ow10 gr10 _)
              have hfin : Own3 w10 w1.heap.size v10 (m ++ [⟨a, o3, c3, us, true⟩]) := Own3.app (x := ⟨a, o3, c3, us, true⟩) ow10
              have hpg := ws_grown (hpn.below bd) (hbn.below bd) gr10 (ownB_kind (World.ownsRow.alloc (World.ownsRow.alloc ow4 _) _))
              have bg : Below w1.heap.size w1 w10 := (bel_moreR hb3 bd hsz3).grown gr10 (Nat.le_trans hsz3 bd.size) (fun r e => (hown.lt r e).1)
              go_roundw
              case rel => exact ⟨K1 + 1, m ++ [⟨a, o3, c3, us, true⟩], l0 ++ [(y, true)], by omega, by go_num, hfin, hpg.1, hpg.2, HMT.out _ _, by rw [List.length_append]; simp; omega, bg, HRN.out⟩
              case measure => have := HK1.out; simp [intOf]; omega
      · have hgb : (x == [62]) = false := by simpa using hgt
        have HNE : Hid (x ≠ [62]) := hgt
        have hyl := hwm x hxm
        clear hgt hxm
        have ST := stepOf_any ⟨x.toArray⟩ wr (by rw [ba_size]; exact hyl)
        have hyd : (⟨x.toArray⟩ : ByteArray).data.toList = x := by simp
        rw [hyd] at ST
        clear hyd
        cases hst : stR x with
        | none =>
          have hno : sR true (pcs s.data.toList) = none := by
            have hist : isStM x = false := by rw [← (stR_st x).1, hst]; rfl
            rw [HREL.out, HDR.out, sR_word HNE.out, hist]
            rfl
          have HNO : Hid (sR true (pcs s.data.toList) = none) := hno
          rw [hst] at ST
          clear hno hst
          go_wp2_with (go_at_call 81; refine ST.mono ?_; rintro e w3 ⟨v3, rfl, hv3, b3⟩; obtain rfl : v3 = _ := hv3)
          refine bodyPost_ret (results_tmp2 rfl _ _ _) rfl ?_
          rw [HNO.out]
          exact ⟨_, rfl, ⟨_, _, _, rfl⟩, (bel_moreR hbw b3 hbw.size).alloc (Nat.le_trans hbw.size b3.size) _⟩
        | some t =>
          obtain ⟨a, us⟩ := t
          have hrn : sR true (pcs s.data.toList) = (sR false (ws.drop (k + 1))).map ((l0 ++ [(x, false)]) ++ ·) := by
            have hist : isStM x = true := by rw [← (stR_st x).1, hst]; rfl
            rw [HREL.out, HDR.out, sR_word HNE.out, hist, if_pos rfl, Option.map_map]
            cases sR false (ws.drop (k + 1)) with
            | none => rfl
            | some q =>
              show some (l0 ++ (x, false) :: q) = some ((l0 ++ [(x, false)]) ++ q)
              rw [List.append_assoc]
              rfl
          have HRN : Hid (sR true (pcs s.data.toList) = (sR (decide (k + 1 = 0)) (ws.drop (k + 1))).map ((l0 ++ [(x, false)]) ++ ·)) := by
            have e : decide (k + 1 = 0) = false := by simp
            rw [e]
            exact hrn
          have HMT : Hid (∀ o c, Mt (m ++ [⟨a, o, c, us, false⟩]) (l0 ++ [(x, false)])) := fun o c => Mt.snoc (x := ⟨a, o, c, us, false⟩) (t := (x, false)) hst rfl hM
          rw [hst] at ST
          clear hrn hst
          go_upto_region 16 with (go_at_call 81; refine ST.mono ?_; rintro e w3 ⟨v3, rfl, hv3, b3⟩; obtain ⟨rv, rfl, ow3⟩ := hv3; obtain ⟨o3, c3, rfl, hS3, hB3⟩ := StrsAt.made ow3)
          have ow4 : w3.ownsRow w1.heap.size 133 3 u5 m.length (cells3 m) := ownB_below hown b3
          have hb3 := bel_moreR hb b3 hb.size
          have hsz3 := hb3.size
          have H0 : ((w3.alloc (.cells #[.string ⟨a.toArray⟩, .slice o3 us.length c3, .bool false] 133)).alloc (.cells #[.string ⟨a.toArray⟩, .slice o3 us.length c3, .bool false] 133)).heap[w3.heap.size + 1]? = some (.cells #[.string ⟨a.toArray⟩, .slice o3 us.length c3, .bool false] 133) := by
            have := World.alloc_heap_new (w3.alloc (.cells #[.string ⟨a.toArray⟩, .slice o3 us.length c3, .bool false] 133)) (.cells #[.string ⟨a.toArray⟩, .slice o3 us.length c3, .bool false] 133)
            rwa [World.size_alloc] at this
          have bd : Below w3.heap.size w3 ((w3.alloc (.cells #[.string ⟨a.toArray⟩, .slice o3 us.length c3, .bool false] 133)).alloc (.cells #[.string ⟨a.toArray⟩, .slice o3 us.length c3, .bool false] 133)) := ((Below.refl _ _).alloc (Nat.le_refl _) _).alloc (by rw [World.size_alloc]; exact Nat.le_succ _) _
          have hpn : WsOf w3 (m ++ [⟨a, o3, c3, us, false⟩]) := fun z hz => by
            rcases List.mem_append.1 hz with hz | hz
            · exact hW.below b3 z hz
            · simp at hz; subst hz; exact hS3
          have hbn : WsB w3 (m ++ [⟨a, o3, c3, us, false⟩]) := fun z hz => by
            rcases List.mem_append.1 hz with hz | hz
            · exact hB.below b3 z hz
            · simp at hz; subst hz; exact hB3
          clear hW hB hM hS3 hB3 ow3 ST
          go_wp2_with (at_builtin; refine wpList_append_own _ rfl _ _ 72 rfl w1.heap.size 133 i0 (.agg #[.string ⟨#[]⟩, .slice none 0 0, .bool false]) 3 48 Tryz.underlying72 hi hz0 hz1 hz2 rfl (by decide) _ _ _ rfl (World.ownsRow.alloc (World.ownsRow.alloc ow4 _) _) ⟨w3.heap.size + 1, 0, none⟩ 1 1 [.string ⟨a.toArray⟩, .slice o3 us.length c3, .bool false] rfl rfl (World.news_of_block H0) (fun u hu => by simp at hu; rcases hu with rfl | rfl | rfl <;> rfl) (by simp only [maxLen]; omega) (by omega) (by simp; omega) ?_; intro v10 w10 ow10 gr10 _)
          have hfin : Own3 w10 w1.heap.size v10 (m ++ [⟨a, o3, c3, us, false⟩]) := Own3.app (x := ⟨a, o3, c3, us, false⟩) ow10
          have hpg := ws_grown (hpn.below bd) (hbn.below bd) gr10 (ownB_kind (World.ownsRow.alloc (World.ownsRow.alloc ow4 _) _))
          have bg : Below w1.heap.size w1 w10 := (bel_moreR hb3 bd hsz3).grown gr10 (Nat.le_trans hsz3 bd.size) (fun r e => (hown.lt r e).1)
          go_roundw
          case rel => exact ⟨k + 1, m ++ [⟨a, o3, c3, us, false⟩], l0 ++ [(x, false)], by omega, by go_num, hfin, hpg.1, hpg.2, HMT.out _ _, by rw [List.length_append]; simp; omega, bg, HRN.out⟩
          case measure => simp [intOf]; omega
    · have hlt' : ¬ (k : Int) < (ws.length : Int) := by omega
      have hfin : sR true (pcs s.data.toList) = some l0 := by
        rw [HREL.out, List.drop_eq_nil_of_le (by omega)]
        cases decide (k = 0) <;> simp [sR]
      have HLEN : Hid (m.length = l0.length) := hM.len
      have HFIN : Hid (sR true (pcs s.data.toList) = some l0) := hfin
      clear hfin
      obtain ⟨ov, cv, rfl⟩ : ∃ ov cv, u5 = .slice ov m.length cv := by
        rcases hown.2 with ⟨h0, hn⟩ | ⟨g, c, cur, h1, -⟩
        · exact ⟨none, 0, by rw [h0]; congr 1; omega⟩
        · exact ⟨_, _, h1⟩
      go_wp2_with fail
      refine bodyPost_ret (results_tmp2 rfl _ _ _) rfl ?_
      rw [HFIN.out]
      have e : decide ((m.length : Int) ≤ 5) = decide (l0.length ≤ 5) := by
        rw [decide_eq_decide, ← HLEN.out]
        omega
      have e2 : Value.tuple #[.slice ov m.length cv, .bool (decide ((m.length : Int) ≤ 5))] = .tuple #[.slice ov m.length cv, .bool (decide (l0.length ≤ 5))] := by rw [e]
      exact ⟨_, rfl, ⟨.slice ov m.length cv, m, e2, ownB_base hown hws1, hW, hM, hB⟩, hbw⟩
end Go.Proofs.YtnoecobddhmhlaaGreatDoor

namespace Go.Proofs.YtnoecobddhmhlaaGreatDoor
open Go.RowKit

/-- Steps in memory, to be read. -/
def S3At (w : World) (o : Option Addr) (l : List S3) : Prop := ∀ i x, l[i]? = some x → ∃ b off, o = some ⟨b, off, none⟩ ∧ w.cell? ⟨b, off + i * 3, none⟩ = some (.string ⟨x.a.toArray⟩) ∧ w.cell? ⟨b, off + i * 3 + 1, none⟩ = some (.slice x.o x.ws.length x.cap) ∧ w.cell? ⟨b, off + i * 3 + 2, none⟩ = some (.bool x.r)
theorem cells3_get : ∀ (l : List S3) (i : Nat) (x : S3), l[i]? = some x → (cells3 l)[i * 3]? = some (.string ⟨x.a.toArray⟩) ∧ (cells3 l)[i * 3 + 1]? = some (.slice x.o x.ws.length x.cap) ∧ (cells3 l)[i * 3 + 2]? = some (.bool x.r)
  | [], i, x, h => by simp at h
  | y :: r, 0, x, h => by
    simp at h
    subst h
    exact ⟨rfl, rfl, rfl⟩
  | y :: r, i + 1, x, h => by
    have h' : r[i]? = some x := by simpa using h
    obtain ⟨h1, h2, h3⟩ := cells3_get r i x h'
    rw [show (i + 1) * 3 = i * 3 + 1 + 1 + 1 by omega]
    exact ⟨h1, h2, h3⟩
theorem S3At.of {w : World} {base : Nat} {v : Value} {l : List S3} (h : Own3 w base v l) : ∃ o cap, v = .slice o l.length cap ∧ S3At w o l := by
  have h2 := h
  rcases h.2 with ⟨h0, hn⟩ | ⟨g, cap, cur, h1, -⟩
  · have hl : l = [] := List.eq_nil_of_length_eq_zero (by first | exact hn | exact hn.symm | omega)
    subst hl
    exact ⟨none, 0, h0, fun i p hp => by simp at hp⟩
  · refine ⟨some ⟨g, 0, none⟩, cap, h1, fun i x hx => ⟨g, 0, rfl, ?_⟩⟩
    subst h1
    obtain ⟨e1, e2, e3⟩ := cells3_get l i x hx
    have key : ∀ j u, (cells3 l)[j]? = some u → w.cell? ⟨g, 0 + j, none⟩ = some u := fun j u hj => by
      have := World.ownsRow.cells h2 (g := g) rfl j u hj
      rw [Nat.zero_add]
      rwa [show (⟨g, 0, none⟩ : Addr).add j = ⟨g, j, none⟩ from by unfold Addr.add; simp; exact fun h => h.symm] at this
    refine ⟨key _ _ e1, ?_, ?_⟩
    · rw [Nat.add_assoc]; exact key _ _ e2
    · rw [Nat.add_assoc]; exact key _ _ e3
theorem S3At.below {w w' : World} {l : List S3} {o : Option Addr} (h : S3At w o l) (hb : Below w.heap.size w w') : S3At w' o l := fun i x hx => by
  obtain ⟨b, off, h1, c0, c1, c2⟩ := h i x hx
  exact ⟨b, off, h1, (hb.cell (cellB_lt c0)).trans c0, (hb.cell (cellB_lt c1)).trans c1, (hb.cell (cellB_lt c2)).trans c2⟩
def wU (u : Bs) : Nat := if u.headD 0 == 35 then 100 else 10
def wS (x : S3) : Nat := (if anyNm x.a then 0 else 1) + (x.ws.map wU).sum
theorem wU_le (u : Bs) : wU u ≤ 100 := by unfold wU; split <;> omega
theorem sum_le {l : List Nat} {c : Nat} (h : ∀ x ∈ l, x ≤ c) : l.sum ≤ l.length * c := by
  induction l with
  | nil => exact Nat.zero_le _
  | cons a l ih =>
    rw [List.sum_cons, List.length_cons, Nat.succ_mul]
    have := h a (List.mem_cons_self ..)
    have := ih (fun x hx => h x (List.mem_cons_of_mem _ hx))
    omega
theorem sum_take {l : List Nat} {k x : Nat} (h : l[k]? = some x) : (l.take (k + 1)).sum = (l.take k).sum + x := by
  rw [List.take_add_one, h, List.sum_append]
  simp
theorem nm_none {A : Bs} (h : A = []) : false = !anyNm A := by subst h; rfl
theorem nm_some {A : Bs} (h : ¬ A = []) : (!List.isEmpty A && !A == [42]) = !anyNm A := by
  cases A with
  | nil => exact absurd rfl h
  | cons b r =>
    unfold anyNm
    rw [Bool.not_or]
    rfl
set_option maxRecDepth 20000 in
set_option maxHeartbeats 16000000 in
theorem WeightOf_any (l : List S3) (o : Option Addr) (cap : Nat) (w : World) (hl : l.length ≤ 5) (h8 : ∀ x ∈ l, x.ws.length ≤ 8 ∧ ∀ u ∈ x.ws, u ≠ []) (h : S3At w o l) (hW : WsOf w l) :
    Calls Tryz.prog 32 #[.slice o l.length cap] w fun e w' => e = .returned (.int .i64 ((l.map wS).sum : Nat)) ∧ w' = w := by
  have hS9 : ∀ x ∈ l, wS x ≤ 801 := fun x hx => by
    have h1 := sum_le (l := x.ws.map wU) (c := 100) (fun y hy => by obtain ⟨u, -, rfl⟩ := List.mem_map.1 hy; exact wU_le u)
    rw [List.length_map] at h1
    have := (h8 x hx).1
    unfold wS
    split <;> omega
  have hT : ∀ k, ((l.take k).map wS).sum ≤ 4005 := fun k => by
    have h1 := sum_le (l := (l.take k).map wS) (c := 801) (fun y hy => by obtain ⟨u, hu, rfl⟩ := List.mem_map.1 hy; exact hS9 u (List.mem_of_mem_take hu))
    rw [List.length_map, List.length_take] at h1
    have : min k l.length * 801 ≤ 5 * 801 := Nat.mul_le_mul (Nat.le_trans (Nat.min_le_right _ _) hl) (Nat.le_refl _)
    omega
  go_enter Tryz.func32, Tryz.ntmps32
  go_wp2
  go_loopw [3, 4] (fun n i wr => ∃ k : Nat, k ≤ l.length ∧ i = .int .i64 k ∧ n = .int .i64 (((l.take k).map wS).sum : Nat) ∧ wr = w) (fun _ i _ => l.length - (intOf i).toNat)
  case atStart => exact ⟨0, Nat.zero_le _, rfl, rfl, rfl⟩
  case round =>
    obtain ⟨k, hk, rfl, rfl, hw⟩ := hrel
    subst hw
    by_cases hlt : k < l.length
    · have hlt' : (k : Int) < (l.length : Int) := by omega
      obtain ⟨x, hx⟩ : ∃ x, l[k]? = some x := ⟨_, List.getElem?_eq_getElem hlt⟩
      have hxm : x ∈ l := List.mem_of_getElem? hx
      obtain ⟨b, off, rfl, c0, c1, c2⟩ := h k x hx
      have hWx := hW x hxm
      obtain ⟨h81, h82⟩ := h8 x hxm
      have hTk := hT k
      have hadd : ((l.take (k + 1)).map wS).sum = ((l.take k).map wS).sum + wS x := by
        rw [List.map_take, List.map_take]
        exact sum_take (by rw [List.getElem?_map, hx]; rfl)
      obtain ⟨N, hN⟩ : ∃ N, ((l.take k).map wS).sum = N := ⟨_, rfl⟩
      rw [hN] at hTk hadd ⊢
      have HADD : Hid (((l.take (k + 1)).map wS).sum = N + wS x) := hadd
      clear hadd hN hx h hW h8 hS9 hT hxm
      go_upto_region 5 with fail
      go_cut [25] from 6 to 51 (fun v wx => v = .bool (!anyNm x.a) ∧ wx = wr)
      case first =>
        go_wp2_with fail
        all_goals
          go_meet
          refine And.intro (congrArg Value.bool ?_) (by first | rfl | trivial)
          first
            | (rename_i h; exact nm_some h)
            | (rename_i h; exact nm_none h)
      case rest =>
        obtain ⟨rfl, rfl⟩ := hcut
        have hsum : ∀ q, ((x.ws.take q).map wU).sum ≤ 800 := fun q => by
          have h1 := sum_le (l := (x.ws.take q).map wU) (c := 100) (fun y hy => by obtain ⟨u, -, rfl⟩ := List.mem_map.1 hy; exact wU_le u)
          rw [List.length_map, List.length_take] at h1
          have : min q x.ws.length * 100 ≤ 8 * 100 := Nat.mul_le_mul (Nat.le_trans (Nat.min_le_right _ _) h81) (Nat.le_refl _)
          omega
        cases hnm : anyNm x.a with
        | true =>
          obtain ⟨N0, hN0⟩ : ∃ N0, N0 = N := ⟨_, rfl⟩
          have hn0 : N0 = N + (if anyNm x.a then 0 else 1) := by rw [hnm, hN0]; rfl
          have HN0 : Hid (N0 = N + (if anyNm x.a then 0 else 1)) := hn0
          clear hn0
          subst hN0
          have hN1 : N0 ≤ 4006 := by omega
          simp only [Bool.not_true]
          go_wp2_with fail
          go_loopw [3, 5] (fun n j wx => ∃ q : Nat, q ≤ x.ws.length ∧ j = .int .i64 q ∧ n = .int .i64 ((N0 + ((x.ws.take q).map wU).sum : Nat)) ∧ wx = wc) (fun _ j _ => x.ws.length - (intOf j).toNat)
          case atStart => exact ⟨0, Nat.zero_le _, rfl, by go_num, rfl⟩
          case round =>
            obtain ⟨q, hq, rfl, rfl, hw⟩ := hrel
            subst hw
            by_cases hql : q < x.ws.length
            · have hql' : (q : Int) < (x.ws.length : Int) := by omega
              obtain ⟨u, hu⟩ : ∃ u, x.ws[q]? = some u := ⟨_, List.getElem?_eq_getElem hql⟩
              obtain ⟨b', off', he, cu⟩ := hWx q u hu
              have hune := h82 u (List.mem_of_getElem? hu)
              have hs0 := hsum q
              have hadd : ((x.ws.take (q + 1)).map wU).sum = ((x.ws.take q).map wU).sum + wU u := by
                rw [List.map_take, List.map_take]
                exact sum_take (by rw [List.getElem?_map, hu]; rfl)
              obtain ⟨M, hM⟩ : ∃ M, ((x.ws.take q).map wU).sum = M := ⟨_, rfl⟩
              rw [hM] at hs0 hadd ⊢
              have HAD2 : Hid (((x.ws.take (q + 1)).map wU).sum = M + wU u) := hadd
              clear hadd hM hu
              have c1' := c1
              rw [he] at c1'
              obtain ⟨c, r, rfl⟩ : ∃ c r, u = c :: r := by
                cases u with
                | nil => exact absurd rfl hune
                | cons c r => exact ⟨c, r, rfl⟩
              have hwu : wU (c :: r) = if c == 35 then 100 else 10 := rfl
              have hub := wU_le (c :: r)
              have HWU : Hid (wU (c :: r) = if c == 35 then 100 else 10) := hwu
              have h0 : 0 < (⟨(c :: r).toArray⟩ : ByteArray).size := by rw [ba_size]; exact Nat.succ_pos _
              have e35 : ((((⟨(c :: r).toArray⟩ : ByteArray)[0]'h0).toNat : Int) == 35) = (c == 35) := u8_eqb c 35
              clear hwu hub hune c1
              cases hc : (c == 35) with
              | true =>
                rw [hc] at e35
                have HC : Hid ((c == 35) = true) := hc
                clear hc
                go_wp2_with fail
                go_roundw
                case rel =>
                  refine ⟨q + 1, hql, by go_num, ?_, by first | rfl | trivial⟩
                  rw [HAD2.out, HWU.out, HC.out, if_pos rfl]
                  congr 1
                case measure => simp [intOf]; omega
              | false =>
                rw [hc] at e35
                have HC : Hid ((c == 35) = false) := hc
                clear hc
                go_wp2_with fail
                go_roundw
                case rel =>
                  refine ⟨q + 1, hql, by go_num, ?_, by first | rfl | trivial⟩
                  rw [HAD2.out, HWU.out, HC.out, if_neg (by simp)]
                  congr 1
                case measure => simp [intOf]; omega
            · have hql' : ¬ (q : Int) < (x.ws.length : Int) := by omega
              have hs0 := hsum q
              have hfin : N0 + ((x.ws.take q).map wU).sum = ((l.take (k + 1)).map wS).sum := by
                rw [List.take_of_length_le (by omega), HADD.out]
                have h1 := HN0.out
                unfold wS
                generalize (if anyNm x.a = true then 0 else 1) = z at h1 ⊢
                omega
              obtain ⟨P, hP⟩ : ∃ P, N0 + ((x.ws.take q).map wU).sum = P := ⟨_, rfl⟩
              rw [hP] at hfin ⊢
              have hPb : P ≤ 5000 := by omega
              have HFIN : Hid (P = ((l.take (k + 1)).map wS).sum) := hfin
              clear hfin hsum hP hs0
              go_wp2_with fail
              go_roundw
              case rel => exact ⟨k + 1, hlt, by go_num, by rw [HFIN.out], by first | rfl | trivial⟩
              case measure => simp [intOf]; omega
        | false =>
          obtain ⟨N0, hN0⟩ : ∃ N0, N + 1 = N0 := ⟨_, rfl⟩
          have hNI : (N : Int) + 1 = (N0 : Int) := by omega
          have hN1 : N0 ≤ 4006 := by omega
          have hn0 : N0 = N + (if anyNm x.a then 0 else 1) := by rw [hnm]; exact hN0.symm
          have HN0 : Hid (N0 = N + (if anyNm x.a then 0 else 1)) := hn0
          clear hn0 hN0
          simp only [Bool.not_false]
          go_wp2_with fail
          go_loopw [3, 5] (fun n j wx => ∃ q : Nat, q ≤ x.ws.length ∧ j = .int .i64 q ∧ n = .int .i64 ((N0 + ((x.ws.take q).map wU).sum : Nat)) ∧ wx = wc) (fun _ j _ => x.ws.length - (intOf j).toNat)
          case atStart => exact ⟨0, Nat.zero_le _, rfl, by go_num, rfl⟩
          case round =>
            obtain ⟨q, hq, rfl, rfl, hw⟩ := hrel
            subst hw
            by_cases hql : q < x.ws.length
            · have hql' : (q : Int) < (x.ws.length : Int) := by omega
              obtain ⟨u, hu⟩ : ∃ u, x.ws[q]? = some u := ⟨_, List.getElem?_eq_getElem hql⟩
              obtain ⟨b', off', he, cu⟩ := hWx q u hu
              have hune := h82 u (List.mem_of_getElem? hu)
              have hs0 := hsum q
              have hadd : ((x.ws.take (q + 1)).map wU).sum = ((x.ws.take q).map wU).sum + wU u := by
                rw [List.map_take, List.map_take]
                exact sum_take (by rw [List.getElem?_map, hu]; rfl)
              obtain ⟨M, hM⟩ : ∃ M, ((x.ws.take q).map wU).sum = M := ⟨_, rfl⟩
              rw [hM] at hs0 hadd ⊢
              have HAD2 : Hid (((x.ws.take (q + 1)).map wU).sum = M + wU u) := hadd
              clear hadd hM hu
              have c1' := c1
              rw [he] at c1'
              obtain ⟨c, r, rfl⟩ : ∃ c r, u = c :: r := by
                cases u with
                | nil => exact absurd rfl hune
                | cons c r => exact ⟨c, r, rfl⟩
              have hwu : wU (c :: r) = if c == 35 then 100 else 10 := rfl
              have hub := wU_le (c :: r)
              have HWU : Hid (wU (c :: r) = if c == 35 then 100 else 10) := hwu
              have h0 : 0 < (⟨(c :: r).toArray⟩ : ByteArray).size := by rw [ba_size]; exact Nat.succ_pos _
              have e35 : ((((⟨(c :: r).toArray⟩ : ByteArray)[0]'h0).toNat : Int) == 35) = (c == 35) := u8_eqb c 35
              clear hwu hub hune c1
              cases hc : (c == 35) with
              | true =>
                rw [hc] at e35
                have HC : Hid ((c == 35) = true) := hc
                clear hc
                go_wp2_with fail
                go_roundw
                case rel =>
                  refine ⟨q + 1, hql, by go_num, ?_, by first | rfl | trivial⟩
                  rw [HAD2.out, HWU.out, HC.out, if_pos rfl]
                  congr 1
                case measure => simp [intOf]; omega
              | false =>
                rw [hc] at e35
                have HC : Hid ((c == 35) = false) := hc
                clear hc
                go_wp2_with fail
                go_roundw
                case rel =>
                  refine ⟨q + 1, hql, by go_num, ?_, by first | rfl | trivial⟩
                  rw [HAD2.out, HWU.out, HC.out, if_neg (by simp)]
                  congr 1
                case measure => simp [intOf]; omega
            · have hql' : ¬ (q : Int) < (x.ws.length : Int) := by omega
              have hs0 := hsum q
              have hfin : N0 + ((x.ws.take q).map wU).sum = ((l.take (k + 1)).map wS).sum := by
                rw [List.take_of_length_le (by omega), HADD.out]
                have h1 := HN0.out
                unfold wS
                generalize (if anyNm x.a = true then 0 else 1) = z at h1 ⊢
                omega
              obtain ⟨P, hP⟩ : ∃ P, N0 + ((x.ws.take q).map wU).sum = P := ⟨_, rfl⟩
              rw [hP] at hfin ⊢
              have hPb : P ≤ 5000 := by omega
              have HFIN : Hid (P = ((l.take (k + 1)).map wS).sum) := hfin
              clear hfin hsum hP hs0
              go_wp2_with fail
              go_roundw
              case rel => exact ⟨k + 1, hlt, by go_num, by rw [HFIN.out], by first | rfl | trivial⟩
              case measure => simp [intOf]; omega
    · have hlt' : ¬ (k : Int) < (l.length : Int) := by omega
      have he : (l.take k).map wS = l.map wS := by rw [List.take_of_length_le (by omega)]
      rw [he]
      clear he hT
      go_wp2_with fail
      go_ret
      exact ⟨rfl, rfl⟩
end Go.Proofs.YtnoecobddhmhlaaGreatDoor

namespace Go.Proofs.YtnoecobddhmhlaaGreatDoor

def gdU (u : Bs) : Prop := ∃ m r, u = m :: r ∧ isMk m = true
theorem dw_head {p : UInt8 → Bool} : ∀ {r : Bs} {c : UInt8} {t : Bs}, r.dropWhile p = c :: t → p c = false
  | [], c, t, h => by cases h
  | b :: r, c, t, h => by
    rw [List.dropWhile_cons] at h
    split at h
    · exact dw_head h
    · rename_i hb
      injection h with h1 h2
      rw [← h1]
      simpa using hb
theorem wants_all : ∀ (f : Nat) (acc : List Bs) (b : Bs) (w : List Bs), wantsR f acc b = some w → atMk b → (∀ u ∈ acc, gdU u) → acc.length ≤ 8 → (∀ u ∈ w, gdU u) ∧ w.length ≤ 8
  | 0, acc, b, w, h, _, _, _ => by rw [wantsR] at h; cases h
  | f + 1, acc, [], w, h, _, h1, h2 => by
    rw [wantsR] at h
    injection h with h
    subst h
    exact ⟨h1, h2⟩
  | f + 1, acc, m :: r, w, h, hat, h1, h2 => by
    have hm : isMk m = true := by
      rcases hat with h0 | ⟨m', r', h0, hm'⟩
      · cases h0
      · injection h0 with e1 e2
        rw [e1]
        exact hm'
    rw [wantsR] at h
    split at h
    · rename_i hc
      have h8 : acc.length < 8 := by
        rw [Bool.and_eq_true] at hc
        simpa using hc.2
      obtain ⟨n, hn⟩ : ∃ n, r.takeWhile (fun c => !enB c) = n := ⟨_, rfl⟩
      rw [hn] at h
      have g1 : ∀ u ∈ acc ++ [m :: n], gdU u := fun u hu => by
        rcases List.mem_append.1 hu with hu | hu
        · exact h1 u hu
        · rw [List.mem_singleton.1 hu]
          exact ⟨m, n, rfl, hm⟩
      have g2 : (acc ++ [m :: n]).length ≤ 8 := by rw [List.length_append]; exact h8
      cases hd : r.dropWhile (fun c => !enB c) with
      | nil =>
        rw [hd] at h
        have h : (if m = 91 then none else some (acc ++ [m :: n])) = some w := h
        split at h
        · cases h
        · injection h with h
          subst h
          exact ⟨g1, g2⟩
      | cons c t =>
        rw [hd] at h
        have he := dw_head hd
        by_cases h93 : c = 93
        · subst h93
          by_cases hm9 : m = 91
          · cases t with
            | nil =>
              have h : (if (93 : UInt8) = 93 then (if m = 91 then some (acc ++ [m :: n]) else none) else _) = some w := h
              rw [if_pos rfl, if_pos hm9] at h
              injection h with h
              subst h
              exact ⟨g1, g2⟩
            | cons d t' =>
              have h : (if (93 : UInt8) = 93 then (if m = 91 then (if isMk d then wantsR f (acc ++ [m :: n]) (d :: t') else none) else none) else _) = some w := h
              rw [if_pos rfl, if_pos hm9] at h
              split at h
              · rename_i hd'
                exact wants_all f _ _ w h (.inr ⟨d, t', rfl, hd'⟩) g1 g2
              · cases h
          · have h : (if (93 : UInt8) = 93 then (if m = 91 then _ else none) else _) = some w := h
            rw [if_pos rfl, if_neg hm9] at h
            cases h
        · have h : (if c = 93 then _ else if m = 91 then none else wantsR f (acc ++ [m :: n]) (c :: t)) = some w := h
          rw [if_neg h93] at h
          split at h
          · cases h
          · refine wants_all f _ _ w h (.inr ⟨c, t, rfl, ?_⟩) g1 g2
            have he : (!(isMk c || c == 93)) = false := he
            have e9 : (c == 93) = false := by simpa using h93
            rw [e9, Bool.or_false] at he
            simpa using he
    · cases h
theorem stR_few {s a : Bs} {w : List Bs} (h : stR s = some (a, w)) : (∀ u ∈ w, gdU u) ∧ w.length ≤ 8 := by
  unfold stR at h
  split at h
  · cases h
  · cases hf : firstMk s with
    | none =>
      rw [hf] at h
      have h : (if anyNm s || isNm s then some (s, ([] : List Bs)) else none) = some (a, w) := h
      split at h
      · injection h with h
        injection h with h1 h2
        subst h2
        exact ⟨(fun u hu => by cases hu), Nat.zero_le _⟩
      · cases h
    | some t =>
      obtain ⟨a', m, r⟩ := t
      rw [hf] at h
      have h : (if anyNm a' || isNm a' then (wantsR (s.length + 1) [] (m :: r)).map (fun w => (a', w)) else none) = some (a, w) := h
      split at h
      · cases hw : wantsR (s.length + 1) [] (m :: r) with
        | none => rw [hw] at h; cases h
        | some v =>
          rw [hw] at h
          injection h with h
          injection h with h1 h2
          subst h2
          exact wants_all _ _ _ _ hw (.inr ⟨m, r, rfl, (firstMk_some hf).2.1⟩) (fun u hu => by cases hu) (Nat.zero_le _)
      · cases h
theorem wU_pt {u : Bs} (h : gdU u) : wU u = wtPt (u.headD 0, u.tail) := by
  obtain ⟨m, r, rfl, hm⟩ := h
  unfold wU wtPt
  unfold isMk at hm
  show (if m == 35 then 100 else 10) = if m = 35 then 100 else if m = 46 ∨ m = 91 then 10 else _
  by_cases h35 : m = 35
  · rw [if_pos h35, if_pos (by simpa using h35)]
  · rw [if_neg h35, if_neg (by simpa using h35), if_pos]
    simpa [h35] using hm
theorem wS_st {x : S3} {t : Bs} (h : stR t = some (x.a, x.ws)) : wS x = wtPts (ptsOf t) := by
  rw [(stR_st t).2 _ _ h]
  have hg := (stR_few h).1
  unfold wS wtPts
  rw [List.map_cons, List.sum_cons, List.map_map]
  have e0 : wtPt (0, x.a) = if anyNm x.a then 0 else 1 := rfl
  rw [e0]
  congr 1
  congr 1
  exact List.map_congr_left fun u hu => wU_pt (hg u hu)
theorem wS_sum : ∀ {m : List S3} {l : List (Bs × Bool)}, Mt m l → (m.map wS).sum = (l.map fun t => wtPts (ptsOf t.1)).sum
  | [], [], _ => rfl
  | _ :: _, _ :: _, h => by rw [List.map_cons, List.map_cons, List.sum_cons, List.sum_cons, wS_st h.1.1, wS_sum h.2]
  | [], _ :: _, h => h.elim
  | _ :: _, [], h => h.elim
theorem Mt.few : ∀ {m : List S3} {l : List (Bs × Bool)}, Mt m l → ∀ x ∈ m, x.ws.length ≤ 8 ∧ ∀ u ∈ x.ws, u ≠ []
  | [], [], _, x, hx => by cases hx
  | y :: _, _ :: _, h, x, hx => by
    rcases List.mem_cons.1 hx with rfl | hx
    · have := stR_few h.1.1
      exact ⟨this.2, fun u hu e => by obtain ⟨m, r, e', -⟩ := this.1 u hu; rw [e] at e'; cases e'⟩
    · exact Mt.few h.2 x hx
  | [], _ :: _, h, _, _ => h.elim
  | _ :: _, [], h, _, _ => h.elim
end Go.Proofs.YtnoecobddhmhlaaGreatDoor

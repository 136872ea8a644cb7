/-
  Package pick: the parts of a step, as a function that is ranged over.
-/
import Derived.Test.YtmlajdhkkcmjnacDoorJ7
import Derived.Test.YtmlajdhkkcmjnacDoorJ15
import Derived.RegionIn
import Derived.Test.YtmlajdhkkcmjnacDoorJ1
namespace Go.Proofs.YtmlajdhkkcmjnacDoor
open Go.RowKit Go.Shelf

attribute [local go_sem] Oper.semAt_some

theorem partsOf_any (s : Bs) (w : World) : Calls Tryd.prog 51 #[bV s] w fun e w' => e = .returned (.func (.func 72) #[] #[.pointer (some ⟨w.heap.size, 0, none⟩)]) ∧ w' = w.alloc (.cells #[bV s] 9) := by
  go_enter Tryd.func51, Tryd.ntmps51
  go_wp2
  go_ret
  exact ⟨rfl, rfl⟩

/-- A part whose name has no more than so many bytes. -/
abbrev PtB := { x : UInt8 × Bs // x.2.length ≤ 1000000 }
abbrev ptL (l : List PtB) : List (UInt8 × Bs) := l.map Subtype.val
abbrev ptV (x : PtB) : Array Value := #[.int .u8 x.1.1.toNat, bV x.1.2]
set_option maxRecDepth 100000 in
set_option maxHeartbeats 8000000 in
theorem parts_seq (s : Bs) (hs : s.length ≤ 1000000) (n : Nat) (B : Nat) (w0 : World) (hB : w0.heap[B]? = some (.cells #[bV s] 9)) :
    SeqStopsK Fence.wide n Tryd.prog 72 #[.pointer (some ⟨B, 0, none⟩)] ptV (KpB B) (fun xs => ptL xs = pts 0 s) (fun p => ptL p <+: pts 0 s) (pts 0 s).length w0 := by
  intro l J Jx W hW hJ hJx hY h0
  have hBl : B < w0.heap.size := (Array.getElem?_eq_some_iff.1 hB).1
  have hBW : W.heap[B]? = some (.cells #[bV s] 9) := (hW.block B hBl).trans hB
  have c0 : W.cell? ⟨B, 0, none⟩ = some (bV s) := by simp [World.cell?, hBW]
  have hJb : ∀ p A C, J p A → Below A.heap.size A C → J p C := fun p A C h hb => hJ p A C none h (grown_of_below hb) (fun r e => by cases e)
  refine callsIn_of_wp Tryd.func72 rfl trivial ?_ rfl
  simp only [Tryd.ntmps72, List.size_toArray, List.length_cons, List.length_nil, Nat.reduceAdd, Nat.reduceSub, Array.replicate_succ, Array.replicate_zero, List.push_toArray, List.append_toArray, List.nil_append, List.cons_append]
  gi_wp2
  gi_region
  gi_wp2
  gi_loopw [3, 4] (fun y3 y4 wr => ∃ (pre : List PtB) (k : UInt8) (t : Bs), t.length ≤ 1000000 ∧ ptL pre ++ pts k t = pts 0 s ∧ y3 = .int .u8 k.toNat ∧ y4 = bV t ∧ J pre wr ∧ KpB B W wr) (fun _ y4 _ => lenV y4)
  case atStart => exact ⟨[], 0, s, hs, rfl, rfl, rfl, hJb _ _ _ h0 (Below.refl _ _).drew, rfl⟩
  case round =>
    obtain ⟨pre, k, t, htl, hps, rfl, rfl, hJp, hKp⟩ := hrel
    have IA := IndexAny_any t htl wr
    cases hf : firstMk t with
    | none =>
      rw [any_none hf] at IA
      rw [pts_no hf] at hps
      have hpl : pre.length < (pts 0 s).length := by
        rw [← hps, List.length_append, List.length_cons, List.length_map]
        omega
      have hnl : (nmIn k t).length ≤ 1000000 := Nat.le_trans (nmIn_len k t) htl
      have HPS : Hid (ptL pre ++ [(k, nmIn k t)] = pts 0 s) := hps
      have hNI : ∀ V, Calls Tryd.prog 74 #[.int .u8 k.toNat, bV t] V fun e w' => e = .returned (bV (nmIn k t)) ∧ w' = V := fun V => nameIn_any k t htl V
      have hYx : ∀ W1, J pre W1 → YieldAt Fence.wide (n - 1) Tryd.prog l #[.int .u8 k.toNat, bV (nmIn k t)] W1 fun e W' => (e = .returned (.bool true) ∧ J (pre ++ [⟨(k, nmIn k t), hnl⟩]) W' ∧ KpB B W1 W') ∨ (e = .returned (.bool false) ∧ Jx (pre ++ [⟨(k, nmIn k t), hnl⟩]) W') := fun W1 h => hY pre ⟨(k, nmIn k t), hnl⟩ W1 h hpl
      revert hnl HPS hNI hYx
      generalize nmIn k t = nm
      intro hnl HPS hNI hYx
      clear hps hf
      gi_wp2_with (first | (refine ⟨trivial, (fun h => by cases h), ?_⟩; gi_at_call 73; refine (callsIn_wide.2 IA).mono ?_; rintro e w1 ⟨rfl, hb1⟩) | (refine ⟨trivial, (fun h => by cases h), ?_⟩; gi_at_call 74; refine (callsIn_wide.2 (hNI _)).mono ?_; rintro e w2 ⟨rfl, h⟩; rw [h]; clear h; obtain ⟨fn, tmps, assign, body, hy, hR⟩ := hYx w1 (hJb _ _ _ hJp hb1)))
      refine ⟨(fun h => by cases h), hR.mono ?_⟩
      rintro e W3 (⟨rfl, hJ3, hk3⟩ | ⟨rfl, hJx3⟩)
      · gi_wp2
        refine bodyPost_ret (results_none rfl _ _ _) rfl ?_
        exact ⟨⟨_, rfl⟩, .inl ⟨_, by rw [← HPS.out]; simp, hJ3⟩⟩
      · gi_wp2
        refine bodyPost_ret (results_none rfl _ _ _) rfl ?_
        exact ⟨⟨_, rfl⟩, .inr ⟨_, by rw [← HPS.out]; simp, hJx3⟩⟩
    | some x =>
      obtain ⟨a, m, r⟩ := x
      rw [any_some hf] at IA
      rw [pts_more hf] at hps
      have hpl : pre.length < (pts 0 s).length := by
        rw [← hps, List.length_append, List.length_cons, List.length_map]
        omega
      obtain ⟨h1, -, -⟩ := firstMk_some hf
      have hlen : t.length = a.length + (r.length + 1) := by rw [h1]; simp
      have hal : a.length ≤ 1000000 := by omega
      have hsz : (⟨t.toArray⟩ : ByteArray).size = t.length := ba_size t
      have hua : (a.length : Int) ≤ ((⟨t.toArray⟩ : ByteArray).size : Int) := by rw [hsz]; omega
      have hub : (a.length : Int) < ((⟨t.toArray⟩ : ByteArray).size : Int) := by rw [hsz]; omega
      have hub' : a.length < (⟨t.toArray⟩ : ByteArray).size := by rw [hsz]; omega
      have hmi : (⟨t.toArray⟩ : ByteArray)[a.length]'hub' = m := by
        subst h1
        simp [ByteArray.getElem_eq_getElem_data]
      have hua0 : ¬ (a.length : Int) < 0 := by omega
      obtain ⟨K1, hK1⟩ : ∃ K1 : Nat, (a.length : Int) + 1 = K1 := ⟨a.length + 1, by omega⟩
      have hK2 : (K1 : Int) ≤ ((⟨t.toArray⟩ : ByteArray).size : Int) := by rw [hsz]; omega
      have hubl : (a.length : Int) < (t.length : Int) := by omega
      have hubl' : a.length < t.length := by omega
      have hK3 : (K1 : Int) ≤ (t.length : Int) := by omega
      have hwk : IntKind.i64.wrap (K1 : Int) = (K1 : Int) := IntWalk.i64_in _ (by omega)
      have HDR : Hid ((⟨t.toArray⟩ : ByteArray).extract K1 t.length = ⟨r.toArray⟩) := (by
        rw [show K1 = a.length + 1 from by omega, h1]
        exact ba_drop a r m _ rfl : (⟨t.toArray⟩ : ByteArray).extract K1 t.length = ⟨r.toArray⟩)
      have hNI : ∀ V, Calls Tryd.prog 74 #[.int .u8 k.toNat, .string ((⟨t.toArray⟩ : ByteArray).extract 0 a.length)] V fun e w' => e = .returned (bV (nmIn k a)) ∧ w' = V := fun V => by
        rw [show (⟨t.toArray⟩ : ByteArray).extract 0 a.length = ⟨a.toArray⟩ from by rw [h1]; exact ba_take a (m :: r)]
        exact nameIn_any k a hal V
      have hnl : (nmIn k a).length ≤ 1000000 := Nat.le_trans (nmIn_len k a) hal
      have hYx : ∀ W1, J pre W1 → YieldAt Fence.wide (n - 1) Tryd.prog l #[.int .u8 k.toNat, bV (nmIn k a)] W1 fun e W' => (e = .returned (.bool true) ∧ J (pre ++ [⟨(k, nmIn k a), hnl⟩]) W' ∧ KpB B W1 W') ∨ (e = .returned (.bool false) ∧ Jx (pre ++ [⟨(k, nmIn k a), hnl⟩]) W') := fun W1 h => hY pre ⟨(k, nmIn k a), hnl⟩ W1 h hpl
      have HPS : Hid (ptL pre ++ ((k, nmIn k a) :: pts m r) = pts 0 s) := hps
      have HLR : Hid (r.length < t.length) := (by omega : r.length < t.length)
      revert hnl HPS hNI hYx
      generalize nmIn k a = nm
      intro hNI hnl hYx HPS
      clear hps hf h1 hlen hsz
      gi_wp2_with (first | (refine ⟨trivial, (fun h => by cases h), ?_⟩; gi_at_call 73; refine (callsIn_wide.2 IA).mono ?_; rintro e w1 ⟨rfl, hb1⟩) | (refine ⟨trivial, (fun h => by cases h), ?_⟩; gi_at_call 74; refine (callsIn_wide.2 (hNI _)).mono ?_; rintro e w2 ⟨rfl, h⟩; rw [h]; clear h; obtain ⟨fn, tmps, assign, body, hy, hR⟩ := hYx w1 (hJb _ _ _ hJp hb1)))
      refine ⟨(fun h => by cases h), hR.mono ?_⟩
      rintro e W3 (⟨rfl, hJ3, hk3⟩ | ⟨rfl, hJx3⟩)
      · gi_wp2
        gi_region
        gi_wp2
        go_roundw
        case rel => exact ⟨pre ++ [⟨(k, nm), hnl⟩], m, r, by have := HLR.out; omega, by rw [← HPS.out]; simp, by first | rfl | simp, by rw [HDR.out], hJb _ _ _ hJ3 (Below.refl _ _).drew, (hKp.trans (KpB.of_below hb1 (Array.getElem?_eq_some_iff.1 (Eq.trans (show wr.heap[B]? = W.heap[B]? from hKp) hBW)).1)).trans hk3⟩
        case measure =>
          rw [HDR.out, lenV_b, lenV_b]
          exact HLR.out
      · gi_wp2
        refine bodyPost_ret (results_none rfl _ _ _) rfl ?_
        exact ⟨⟨_, rfl⟩, .inr ⟨_, by rw [← HPS.out]; exact ⟨pts m r, by simp⟩, hJx3⟩⟩

end Go.Proofs.YtmlajdhkkcmjnacDoor

namespace Go.Proofs.YtmlajdhkkcmjnacDoor
open Go.RowKit Go.Shelf

attribute [local go_sem] Oper.semAt_some

/-- So many of these parts are more than the element's. -/
def cntP : List (UInt8 × Bs) → Nat
  | [] => 0
  | x :: l => (if x.1 = 0 then 0 else 1) + cntP l
theorem cntP_app (a b : List (UInt8 × Bs)) : cntP (a ++ b) = cntP a + cntP b := by
  induction a with
  | nil => simp [cntP]
  | cons x l ih => rw [List.cons_append, cntP, cntP, ih]; omega
theorem cntP_le : ∀ l : List (UInt8 × Bs), cntP l ≤ l.length
  | [] => Nat.le_refl _
  | x :: l => by
    have := cntP_le l
    rw [cntP, List.length_cons]
    split <;> omega
theorem pts_len : ∀ (f : Nat) (k : UInt8) (s : Bs), s.length ≤ f → (pts k s).length ≤ s.length + 1
  | f, k, s, hf => by
    cases hs : firstMk s with
    | none => rw [pts_no hs]; simp
    | some x =>
      obtain ⟨a, m, r⟩ := x
      have hl := firstMk_len hs
      rw [pts_more hs, List.length_cons]
      have := pts_len (f - 1) m r (by omega)
      omega
termination_by _ _ s => s.length
/-- As far as looked all is well. -/
def OkTo (l : List (UInt8 × Bs)) : Prop := ∀ rest, okPts 0 (l ++ rest) = okPts (cntP l) rest
theorem OkTo.nil : OkTo [] := fun _ => rfl
theorem OkTo.snoc {l : List (UInt8 × Bs)} {x : UInt8 × Bs} (h : OkTo l) (h1 : (if x.1 = 0 then cntP l else cntP l + 1) ≤ 8) (h2 : isPt x = true) : OkTo (l ++ [x]) := fun rest => by
  rw [List.append_assoc, h, List.singleton_append, okPts, h2, decide_eq_true h1, cntP_app]
  simp only [Bool.true_and]
  congr 1
  unfold cntP cntP
  split <;> omega
theorem OkTo.bad {l : List (UInt8 × Bs)} {x : UInt8 × Bs} (h : OkTo l) (hb : ¬ ((if x.1 = 0 then cntP l else cntP l + 1) ≤ 8) ∨ isPt x = false) (rest : List (UInt8 × Bs)) : okPts 0 (l ++ [x] ++ rest) = false := by
  rw [List.append_assoc, h, List.singleton_append, okPts]
  rcases hb with hb | hb
  · rw [decide_eq_false hb]; simp
  · rw [hb]; simp
theorem three_blocks (W : World) (o1 o2 o3 : Obj) : (((W.alloc o1).alloc o2).alloc o3).heap[W.heap.size]? = some o1 ∧ (((W.alloc o1).alloc o2).alloc o3).heap[W.heap.size + 1]? = some o2 ∧ (((W.alloc o1).alloc o2).alloc o3).heap[W.heap.size + 1 + 1]? = some o3 ∧ (((W.alloc o1).alloc o2).alloc o3).heap.size = W.heap.size + 3 ∧ Below W.heap.size W (((W.alloc o1).alloc o2).alloc o3) := by
  have s1 : (W.alloc o1).heap.size = W.heap.size + 1 := World.size_alloc W o1
  have s2 : ((W.alloc o1).alloc o2).heap.size = W.heap.size + 1 + 1 := by rw [World.size_alloc, s1]
  have n1 := World.alloc_heap_new W o1
  have n2 := World.alloc_heap_new (W.alloc o1) o2
  have n3 := World.alloc_heap_new ((W.alloc o1).alloc o2) o3
  rw [s1] at n2
  rw [s2] at n3
  refine ⟨(Below.heap_alloc _ _ _ (by rw [s2]; omega)).trans ((Below.heap_alloc _ _ _ (by rw [s1]; omega)).trans n1), (Below.heap_alloc _ _ _ (by rw [s2]; omega)).trans n2, n3, by rw [World.size_alloc, s2], ?_⟩
  exact (((Below.refl W.heap.size W).alloc (Nat.le_refl _) _).alloc (by rw [s1]; omega) _).alloc (by rw [s2]; omega) _
theorem blk_own {A C : World} {row : Option Nat} {U k : Nat} {o : Obj} (h : A.heap[k]? = some o) (hk : k < U) (hg : A.grownBy C row) (hr : ∀ r, row = some r → U ≤ r ∧ ∃ o : Obj, A.heap[r]? = some o ∧ o.isCells = false) : C.heap[k]? = some o :=
  (hg.block k (Array.getElem?_eq_some_iff.1 h).1 (fun e => by have := (hr k e.symm).1; omega)).trans h
theorem bel_own {V A C : World} {row : Option Nat} {U : Nat} (h : Below V.heap.size V A) (hU : V.heap.size ≤ U) (hg : A.grownBy C row) (hr : ∀ r, row = some r → U ≤ r ∧ ∃ o : Obj, A.heap[r]? = some o ∧ o.isCells = false) : Below V.heap.size V C :=
  ⟨hg.os.trans h.os, hg.tape.trans h.tape, hg.output.trans h.output, Nat.le_trans h.size hg.size, fun k hk => (hg.block k (Nat.lt_of_lt_of_le hk h.size) (fun e => by have := (hr k e.symm).1; omega)).trans (h.block k hk)⟩
theorem cell_one {w : World} {b : Nat} {v : Value} {t : TypeId} (h : w.heap[b]? = some (.cells #[v] t)) : w.cell? ⟨b, 0, none⟩ = some v := by simp [World.cell?, h]
theorem froz_one {w : World} {b : Nat} {v : Value} {t : TypeId} (h : w.heap[b]? = some (.cells #[v] t)) : w.frozen? ⟨b, 0, none⟩ = false := by
  unfold World.frozen?
  rw [h]
  simp
theorem set_one {w : World} {b : Nat} {v : Value} {t : TypeId} (h : w.heap[b]? = some (.cells #[v] t)) (u : Value) : (w.setCell ⟨b, 0, none⟩ u).heap[b]? = some (.cells #[u] t) := by
  rw [heap_setCell_same w b 0 _ _ _ h]
  rfl
set_option maxRecDepth 100000 in
set_option maxHeartbeats 8000000 in
theorem isStep_in (s : Bs) (hs : s.length ≤ 1000000) (W : World) : CallsIn Fence.wide 9 Tryd.prog 43 #[bV s] W fun e w' => e = .returned (.bool (isStM s)) ∧ Below W.heap.size W w' := by
  obtain ⟨hR0, hC0, hB0, hsz0, b0⟩ := three_blocks W (.cells #[.bool false] 4) (.cells #[.int .i64 0] 3) (.cells #[bV s] 9)
  refine callsIn_of_wp_marks Tryd.func43 rfl trivial ?_ rfl
  simp only [Tryd.ntmps43, List.size_toArray, List.length_cons, List.length_nil, Nat.reduceAdd, Nat.reduceSub, Array.replicate_succ, Array.replicate_zero, List.push_toArray, List.append_toArray, List.nil_append, List.cons_append]
  gi_wp2_with (refine ⟨trivial, ?_⟩; gi_at_call 51; refine (callsIn_wide.2 (partsOf_any s _)).mono ?_; rintro e w1 ⟨rfl, h1⟩; rw [h1]; clear h1)
  obtain ⟨U, hU⟩ : ∃ U, (((W.alloc (.cells #[.bool false] 4)).alloc (.cells #[.int .i64 0] 3)).alloc (.cells #[bV s] 9)) = U := ⟨_, rfl⟩
  rw [hU] at b0 hR0 hC0 hB0 hsz0 ⊢
  clear hU
  refine wpIn_rangeFunc_ownF rfl (by omega) (gf := 72) (lb := #[.pointer (some ⟨W.heap.size + 1 + 1, 0, none⟩)]) rfl trivial (enters_of Tryd.func72 (by kernel_rfl) rfl)
    (encs := ptV) (Kp := KpB (W.heap.size + 1 + 1)) (S := fun xs => ptL xs = pts 0 s) (Sp := fun p => ptL p <+: pts 0 s) (N := (pts 0 s).length) (w0 := U)
    (parts_seq s hs _ _ U hB0) KpB.trans (fun X l o o' hl h1 h2 h3 => KpB.put (w := U) (by omega) X l o o' hl h1 h2 h3) (Below.refl _ _) (fun _ => rfl)
    (fun pre X => X.heap[W.heap.size + 1]? = some (.cells #[.int .i64 (cntP (ptL pre) : Nat)] 3) ∧ X.heap[W.heap.size]? = some (.cells #[.bool false] 4) ∧ Below W.heap.size W X ∧ OkTo (ptL pre))
    (fun c pre X => c = .ret ∧ (∀ rest, okPts 0 (ptL pre ++ rest) = false) ∧ X.heap[W.heap.size]? = some (.cells #[.bool false] 4) ∧ Below W.heap.size W X)
    (fun pre A C row hs hg hr => ⟨blk_own hs.1 (by omega) hg hr, blk_own hs.2.1 (by omega) hg hr, bel_own hs.2.2.1 (by omega) hg hr, hs.2.2.2⟩)
    (fun c pre A C row hs hg hr => ⟨hs.1, hs.2.1, blk_own hs.2.2.1 (by omega) hg hr, bel_own hs.2.2.2 (by omega) hg hr⟩)
    ⟨hC0, hR0, b0, OkTo.nil⟩
    (fun x => { tmps := #[bV s, undef, .pointer (some ⟨W.heap.size, 0, none⟩), .pointer (some ⟨W.heap.size + 1, 0, none⟩), .int .u8 x.1.1.toNat, bV x.1.2, bV s, .func (.func 72) #[] #[.pointer (some ⟨W.heap.size + 1 + 1, 0, none⟩)], .int .u8 x.1.1.toNat, bV x.1.2, undef, undef, undef, undef, undef, undef, undef, undef, undef, undef, undef, undef, undef, undef], defers := [] })
    ?assign ?body ?done ?stop
  case assign =>
    intro l x X K hK
    gi_wp2
    exact hK
  case body =>
    rintro l pre x X ⟨hc, hr, hb, hok⟩ hlen
    obtain ⟨⟨k, nm⟩, hnl⟩ := x
    have c1 := cell_one hc
    have f1 := froz_one hc
    have c2 := cell_one hr
    have f2 := froz_one hr
    have hcl : cntP (ptL pre) ≤ 1000001 := by
      have h1 := cntP_le (ptL pre)
      have h2 := pts_len s.length 0 s (Nat.le_refl _)
      rw [List.length_map] at h1
      omega
    have hpe : ptL (pre ++ [⟨(k, nm), hnl⟩]) = ptL pre ++ [(k, nm)] := by simp
    have IP := fun V => isPart_any k nm hnl V
    have h0 : ((k.toNat : Int) == 0) = (k == 0) := u8_eq k 0
    have hn0 : ((k.toNat : Int) != 0) = !(k == 0) := by rw [bne, h0]
    obtain ⟨c, hcn⟩ : ∃ c, cntP (ptL pre) = c := ⟨_, rfl⟩
    rw [hcn] at c1 hc hcl
    have HCN : Hid (cntP (ptL pre) = c) := hcn
    clear hcn h0
    have neR : ¬ W.heap.size + 1 = W.heap.size := by omega
    have neR' : ¬ W.heap.size = W.heap.size + 1 := by omega
    by_cases hk : k = 0
    · have hk' : (k == 0) = true := by rw [hk]; rfl
      rw [hk'] at hn0
      have HK : Hid (k = 0) := hk
      clear hk
      by_cases h8 : 8 < c
      · have h8' : 8 < (c : Int) := by omega
        gi_wp2
        refine ⟨trivial, ?_⟩
        gi_wp2
        exact ⟨KeepsOthers.setCell _ _ _, rfl, fun rest => by rw [hpe]; exact hok.bad (.inl (by rw [if_pos HK.out, HCN.out]; omega)) rest, set_one hr _, hb.setCell (Nat.le_refl _) _⟩
      · have h8' : ¬ 8 < (c : Int) := by omega
        cases hp : isPt (k, nm) with
        | true =>
          rw [hp] at IP
          gi_wp2_with (refine ⟨trivial, ?_⟩; gi_at_call 67; refine (CallsIn.inRound l (callsIn_wide.2 (IP _))).mono ?_; rintro e w2 ⟨rfl, h⟩; rw [h]; clear h)
          exact ⟨KeepsOthers.refl _, rfl, by rw [hpe, cntP_app, HCN.out]; simp only [cntP, if_pos HK.out]; exact hc, hr, hb, by rw [hpe]; exact hok.snoc (by rw [if_pos HK.out, HCN.out]; omega) hp⟩
        | false =>
          rw [hp] at IP
          gi_wp2_with (refine ⟨trivial, ?_⟩; gi_at_call 67; refine (CallsIn.inRound l (callsIn_wide.2 (IP _))).mono ?_; rintro e w2 ⟨rfl, h⟩; rw [h]; clear h)
          exact ⟨KeepsOthers.setCell _ _ _, rfl, fun rest => by rw [hpe]; exact hok.bad (.inr hp) rest, set_one hr _, hb.setCell (Nat.le_refl _) _⟩
    · have hk' : (k == 0) = false := by rw [beq_eq_false_iff_ne]; exact hk
      rw [hk'] at hn0
      have hc1 := set_one hc (.int .i64 ((c : Int) + 1))
      have hr1 : (X.setCell ⟨W.heap.size + 1, 0, none⟩ (.int .i64 ((c : Int) + 1))).heap[W.heap.size]? = some (.cells #[.bool false] 4) := (Below.heap_setCell _ _ _ W.heap.size (fun e => neR' e)).trans hr
      have hb1 : Below W.heap.size W (X.setCell ⟨W.heap.size + 1, 0, none⟩ (.int .i64 ((c : Int) + 1))) := hb.setCell (by simp only; omega) _
      have hk1 : KpB (W.heap.size + 1 + 1) X (X.setCell ⟨W.heap.size + 1, 0, none⟩ (.int .i64 ((c : Int) + 1))) := Below.heap_setCell _ _ _ _ (by simp only; omega)
      by_cases h8 : 8 < c + 1
      · have h8' : 8 < (c : Int) + 1 := by omega
        gi_wp2
        refine ⟨trivial, ?_⟩
        gi_wp2
        exact ⟨(KeepsOthers.setCell _ _ _).trans (KeepsOthers.setCell _ _ _), rfl, fun rest => by rw [hpe]; exact hok.bad (.inl (by rw [if_neg hk, HCN.out]; omega)) rest, set_one hr1 _, hb1.setCell (Nat.le_refl _) _⟩
      · have h8' : ¬ 8 < (c : Int) + 1 := by omega
        cases hp : isPt (k, nm) with
        | true =>
          rw [hp] at IP
          gi_wp2_with (refine ⟨trivial, ?_⟩; gi_at_call 67; refine (CallsIn.inRound l (callsIn_wide.2 (IP _))).mono ?_; rintro e w2 ⟨rfl, h⟩; rw [h]; clear h)
          exact ⟨KeepsOthers.setCell _ _ _, hk1, by rw [hpe, cntP_app, HCN.out]; simp only [cntP, if_neg hk]; exact hc1, hr1, hb1, by rw [hpe]; exact hok.snoc (by rw [if_neg hk, HCN.out]; omega) hp⟩
        | false =>
          rw [hp] at IP
          gi_wp2_with (refine ⟨trivial, ?_⟩; gi_at_call 67; refine (CallsIn.inRound l (callsIn_wide.2 (IP _))).mono ?_; rintro e w2 ⟨rfl, h⟩; rw [h]; clear h)
          exact ⟨(KeepsOthers.setCell _ _ _).trans (KeepsOthers.setCell _ _ _), rfl, fun rest => by rw [hpe]; exact hok.bad (.inr hp) rest, set_one hr1 _, hb1.setCell (Nat.le_refl _) _⟩
  case done =>
    rintro D xs X hD hS ⟨hc, hr, hb, hok⟩ hK
    have hv : isStM s = !s.isEmpty := by
      have h1 := hok []
      rw [hS, List.append_nil] at h1
      unfold isStM
      rw [show ptsOf s = pts 0 s from rfl, h1]
      cases s <;> rfl
    have c2 := cell_one hr
    have f2 := froz_one hr
    gi_wp2
    have hK' := (KeepsOthers.setCell X ⟨W.heap.size, 0, none⟩ (.bool !s.isEmpty)).same D _ hK rfl
    refine ⟨by simp, .inl ⟨_, _, rfl, run_takeDeferred hK', ?_⟩⟩
    have hr2 := set_one hr (.bool !s.isEmpty)
    have hr3 := (World.putObj_heap_other (w := X.setCell ⟨W.heap.size, 0, none⟩ (.bool !s.isEmpty)) (o := .deferred none) (show W.heap.size ≠ D by omega)).trans hr2
    have oc := cell_one hr3
    refine ⟨.bool !s.isEmpty, ?_, by rw [hv], (hb.setCell (Nat.le_refl _) _).trans (belowK_b (w := W) (Nat.le_refl _) _ D _ _ (by omega) hK' rfl rfl)⟩
    simp [results, Tryd.results43, go_sem, oc]
  case stop =>
    rintro D c pre X hD hpre ⟨rfl, hbad, hr, hb⟩ hK
    have hv : isStM s = false := by
      obtain ⟨rest, hrest⟩ := hpre
      have h1 := hbad rest
      rw [hrest] at h1
      unfold isStM
      rw [show ptsOf s = pts 0 s from rfl, h1]
      rfl
    gi_wp2
    refine ⟨by simp, .inl ⟨_, _, rfl, run_takeDeferred hK, ?_⟩⟩
    have hr3 := (World.putObj_heap_other (w := X) (o := .deferred none) (show W.heap.size ≠ D by omega)).trans hr
    have oc := cell_one hr3
    refine ⟨.bool false, ?_, by rw [hv], hb.trans (belowK_b (w := W) (Nat.le_refl _) X D _ _ (by omega) hK rfl rfl)⟩
    simp [results, Tryd.results43, go_sem, oc]
theorem isStep_any (s : Bs) (hs : s.length ≤ 1000000) (W : World) : Calls Tryd.prog 43 #[bV s] W fun e w' => e = .returned (.bool (isStM s)) ∧ Below W.heap.size W w' := callsIn_wide.1 (isStep_in s hs W)

end Go.Proofs.YtmlajdhkkcmjnacDoor

namespace Go.Proofs.YtmlajdhkkcmjnacDoor
open Go.RowKit Go.Shelf

attribute [local go_sem] Oper.semAt_some

theorem four_blocks (W : World) (o0 o1 o2 o3 : Obj) : ((((W.alloc o0).alloc o1).alloc o2).alloc o3).heap[W.heap.size]? = some o0 ∧ ((((W.alloc o0).alloc o1).alloc o2).alloc o3).heap[W.heap.size + 1]? = some o1 ∧ ((((W.alloc o0).alloc o1).alloc o2).alloc o3).heap[W.heap.size + 1 + 1]? = some o2 ∧ ((((W.alloc o0).alloc o1).alloc o2).alloc o3).heap[W.heap.size + 1 + 1 + 1]? = some o3 ∧ ((((W.alloc o0).alloc o1).alloc o2).alloc o3).heap.size = W.heap.size + 4 ∧ Below W.heap.size W ((((W.alloc o0).alloc o1).alloc o2).alloc o3) := by
  obtain ⟨h1, h2, h3, h4, h5⟩ := three_blocks (W.alloc o0) o1 o2 o3
  have s0 : (W.alloc o0).heap.size = W.heap.size + 1 := World.size_alloc W o0
  rw [s0] at h1 h2 h3 h4
  have n0 := World.alloc_heap_new W o0
  refine ⟨(h5.block _ (by rw [s0]; omega)).trans n0, h1, h2, h3, h4, ?_⟩
  exact ((Below.refl W.heap.size W).alloc (Nat.le_refl _) _).trans (h5.mono (by rw [s0]; omega))
theorem below_oth {A C : World} (h : Below A.heap.size A C) : KeepsOthers A C := ⟨h.size, fun l _ ho _ => (h.block l (Array.getElem?_eq_some_iff.1 ho).1).trans ho⟩
theorem bel_blk {A C : World} (h : Below A.heap.size A C) {k : Nat} {o : Obj} (ho : A.heap[k]? = some o) : C.heap[k]? = some o := (h.block k (Array.getElem?_eq_some_iff.1 ho).1).trans ho
/-- As far as looked all steps are well. -/
def OkS (l : List Bs) : Prop := ∀ rest, okSts 0 (l ++ rest) = okSts l.length rest
theorem OkS.nil : OkS [] := fun _ => rfl
theorem OkS.snoc {l : List Bs} {x : Bs} (h : OkS l) (h1 : l.length + 1 ≤ 5) (h2 : isStM x = true) : OkS (l ++ [x]) := fun rest => by
  rw [List.append_assoc, h, List.singleton_append, okSts, h2, decide_eq_true h1, List.length_append, List.length_singleton]
  simp only [Bool.true_and]
theorem OkS.bad {l : List Bs} {x : Bs} (h : OkS l) (hb : ¬ l.length + 1 ≤ 5 ∨ isStM x = false) (rest : List Bs) : okSts 0 (l ++ [x] ++ rest) = false := by
  rw [List.append_assoc, h, List.singleton_append, okSts]
  rcases hb with hb | hb
  · rw [decide_eq_false hb]; simp
  · rw [hb]; simp
theorem stepsM_count : ∀ (f : Nat) (s : Bs), (stepsM f s).length ≤ f
  | 0, _ => Nat.le_refl _
  | f + 1, s => by
    rw [stepsM]
    obtain ⟨a, k, b, hc⟩ : ∃ a k b, cutM s = (a, k, b) := ⟨_, _, _, rfl⟩
    rw [hc]
    cases k with
    | no => simp
    | right => have := stepsM_count f a; simp only [List.length_cons]; omega
    | below => have := stepsM_count f a; simp only [List.length_cons]; omega
theorem bad_end {W Z : World} {er : Value} (hr : Z.heap[W.heap.size]? = some (.cells #[.string ⟨#[]⟩] 55)) (hq : Z.heap[W.heap.size + 1]? = some (.cells #[.nilIface] 32)) (hb : Below W.heap.size W Z) :
    KeepsOthers Z ((Z.setCell ⟨W.heap.size, 0, none⟩ (.string ⟨#[]⟩)).setCell ⟨W.heap.size + 1, 0, none⟩ er).drew ∧ ((Z.setCell ⟨W.heap.size, 0, none⟩ (.string ⟨#[]⟩)).setCell ⟨W.heap.size + 1, 0, none⟩ er).drew.heap[W.heap.size]? = some (.cells #[.string ⟨#[]⟩] 55) ∧ ((Z.setCell ⟨W.heap.size, 0, none⟩ (.string ⟨#[]⟩)).setCell ⟨W.heap.size + 1, 0, none⟩ er).drew.heap[W.heap.size + 1]? = some (.cells #[er] 32) ∧ Below W.heap.size W ((Z.setCell ⟨W.heap.size, 0, none⟩ (.string ⟨#[]⟩)).setCell ⟨W.heap.size + 1, 0, none⟩ er).drew := by
  have hr1 := set_one hr (.string ⟨#[]⟩)
  have hq1 : (Z.setCell ⟨W.heap.size, 0, none⟩ (.string ⟨#[]⟩)).heap[W.heap.size + 1]? = some (.cells #[.nilIface] 32) := (Below.heap_setCell _ _ _ _ (by simp only; omega)).trans hq
  refine ⟨((KeepsOthers.setCell _ _ _).trans (KeepsOthers.setCell _ _ _)).trans (KeepsOthers.drew _), ?_, ?_, ?_⟩
  · exact (Below.heap_setCell _ _ _ _ (by simp only; omega)).trans hr1
  · exact set_one hq1 er
  · exact ((hb.setCell (p := ⟨W.heap.size, 0, none⟩) (Nat.le_refl _) _).setCell (p := ⟨W.heap.size + 1, 0, none⟩) (by simp only; omega) _).drew
set_option maxRecDepth 100000 in
set_option maxHeartbeats 8000000 in
theorem Read_sel (s : Bs) (hs : s.length ≤ 1000000) (W : World) (ea : Addr) (rv : Array Value) (hv1 : isSelM s = true → rv = #[.agg #[bV s], .nilIface]) (hv2 : isSelM s = false → rv = #[.agg #[.string ⟨#[]⟩], .iface 181 (.pointer (some ea))]) (hE : W.cell? ⟨7, 0, none⟩ = some (.iface 181 (.pointer (some ea)))) :
    CallsIn Fence.wide 9 Tryd.prog 21 #[bV s] W fun e w' => e = .returned (.tuple rv) ∧ Below W.heap.size W w' := by
  obtain ⟨hR0, hQ0, hC0, hB0, hsz0, b0⟩ := four_blocks W (.cells #[.string ⟨#[]⟩] 55) (.cells #[.nilIface] 32) (.cells #[.int .i64 0] 3) (.cells #[bV s] 9)
  have hg := cell_lt3 hE
  simp only at hg
  refine callsIn_of_wp_marks Tryd.func21 rfl trivial ?_ rfl
  simp only [Tryd.ntmps21, List.size_toArray, List.length_cons, List.length_nil, Nat.reduceAdd, Nat.reduceSub, Array.replicate_succ, Array.replicate_zero, List.push_toArray, List.append_toArray, List.nil_append, List.cons_append]
  gi_wp2_with (refine ⟨trivial, ?_⟩; gi_at_call 42; refine (callsIn_wide.2 (stepsOf_any s _)).mono ?_; rintro e w1 ⟨rfl, h1⟩; rw [h1]; clear h1)
  obtain ⟨U, hU⟩ : ∃ U, ((((W.alloc (.cells #[.string ⟨#[]⟩] 55)).alloc (.cells #[.nilIface] 32)).alloc (.cells #[.int .i64 0] 3)).alloc (.cells #[bV s] 9)) = U := ⟨_, rfl⟩
  rw [hU] at b0 hR0 hQ0 hC0 hB0 hsz0 ⊢
  clear hU
  refine wpIn_rangeFunc_ownF rfl (by omega) (gf := 66) (lb := #[.pointer (some ⟨W.heap.size + 1 + 1 + 1, 0, none⟩)]) rfl trivial (enters_of Tryd.func66 (by kernel_rfl) rfl)
    (encs := fun x : StB => #[bV x.1]) (Kp := KpB (W.heap.size + 1 + 1 + 1)) (S := fun xs => stL xs = stsOf s) (Sp := fun p => stL p <+: stsOf s) (N := (stsOf s).length) (w0 := U)
    (steps_seq s hs _ _ U hB0) KpB.trans (fun X l o o' hl h1 h2 h3 => KpB.put (w := U) (by omega) X l o o' hl h1 h2 h3) (Below.refl _ _) (fun _ => rfl)
    (fun pre X => X.heap[W.heap.size + 1 + 1]? = some (.cells #[.int .i64 (pre.length : Nat)] 3) ∧ X.heap[W.heap.size]? = some (.cells #[.string ⟨#[]⟩] 55) ∧ X.heap[W.heap.size + 1]? = some (.cells #[.nilIface] 32) ∧ Below W.heap.size W X ∧ OkS (stL pre) ∧ U.heap.size ≤ X.heap.size)
    (fun c pre X => c = .ret ∧ (∀ rest, okSts 0 (stL pre ++ rest) = false) ∧ X.heap[W.heap.size]? = some (.cells #[.string ⟨#[]⟩] 55) ∧ X.heap[W.heap.size + 1]? = some (.cells #[.iface 181 (.pointer (some ea))] 32) ∧ Below W.heap.size W X)
    (fun pre A C row hs hg hr => ⟨blk_own hs.1 (by omega) hg hr, blk_own hs.2.1 (by omega) hg hr, blk_own hs.2.2.1 (by omega) hg hr, bel_own hs.2.2.2.1 (by omega) hg hr, hs.2.2.2.2.1, Nat.le_trans hs.2.2.2.2.2 hg.size⟩)
    (fun c pre A C row hs hg hr => ⟨hs.1, hs.2.1, blk_own hs.2.2.1 (by omega) hg hr, blk_own hs.2.2.2.1 (by omega) hg hr, bel_own hs.2.2.2.2 (by omega) hg hr⟩)
    ⟨hC0, hR0, hQ0, b0, OkS.nil, Nat.le_refl _⟩
    (fun x => { tmps := #[bV s, undef, .pointer (some ⟨W.heap.size, 0, none⟩), .pointer (some ⟨W.heap.size + 1, 0, none⟩), .pointer (some ⟨W.heap.size + 1 + 1, 0, none⟩), bV x.1, bV s, .func (.func 66) #[] #[.pointer (some ⟨W.heap.size + 1 + 1 + 1, 0, none⟩)], bV x.1, undef, undef, undef, undef, undef, undef, undef, undef, undef, undef, undef, undef, undef], defers := [] })
    ?assign ?body ?done ?stop
  case assign =>
    intro l x X K hK
    gi_wp2
    exact hK
  case body =>
    rintro l pre x X ⟨hc, hr, hq, hb, hok, hu⟩ hlen
    obtain ⟨st, hnl⟩ := x
    have c1 := cell_one hc
    have f1 := froz_one hc
    have hcl : pre.length ≤ 1000001 := by
      have := stepsM_count (s.length + 1) s
      unfold stsOf at hlen
      omega
    have hpe : stL (pre ++ [⟨st, hnl⟩]) = stL pre ++ [st] := by simp
    have hpl : (stL pre).length = pre.length := List.length_map _
    have hpl2 : (pre ++ [(⟨st, hnl⟩ : StB)]).length = pre.length + 1 := by simp
    have IS := fun V => isStep_any st hnl V
    have HPL : Hid ((stL pre).length = pre.length) := hpl
    have HPL2 : Hid ((pre ++ [(⟨st, hnl⟩ : StB)]).length = pre.length + 1) := hpl2
    obtain ⟨c, hcn⟩ : ∃ c, pre.length = c := ⟨_, rfl⟩
    rw [hcn] at c1 hc hcl
    have HCN : Hid (pre.length = c) := hcn
    clear hcn hpl hpl2
    have hc1 := set_one hc (.int .i64 ((c : Int) + 1))
    have hr1 : (X.setCell ⟨W.heap.size + 1 + 1, 0, none⟩ (.int .i64 ((c : Int) + 1))).heap[W.heap.size]? = some (.cells #[.string ⟨#[]⟩] 55) := (Below.heap_setCell _ _ _ _ (by simp only; omega)).trans hr
    have hq1 : (X.setCell ⟨W.heap.size + 1 + 1, 0, none⟩ (.int .i64 ((c : Int) + 1))).heap[W.heap.size + 1]? = some (.cells #[.nilIface] 32) := (Below.heap_setCell _ _ _ _ (by simp only; omega)).trans hq
    have hb1 : Below W.heap.size W (X.setCell ⟨W.heap.size + 1 + 1, 0, none⟩ (.int .i64 ((c : Int) + 1))) := hb.setCell (by simp only; omega) _
    have hk1 : KpB (W.heap.size + 1 + 1 + 1) X (X.setCell ⟨W.heap.size + 1 + 1, 0, none⟩ (.int .i64 ((c : Int) + 1))) := Below.heap_setCell _ _ _ _ (by simp only; omega)
    have hz1 : X.heap.size ≤ (X.setCell ⟨W.heap.size + 1 + 1, 0, none⟩ (.int .i64 ((c : Int) + 1))).heap.size := ((Below.refl 0 X).setCell (Nat.zero_le _) _).size
    have ko1 := KeepsOthers.setCell X ⟨W.heap.size + 1 + 1, 0, none⟩ (.int .i64 ((c : Int) + 1))
    have c1' : (X.setCell ⟨W.heap.size + 1 + 1, 0, none⟩ (.int .i64 ((c : Int) + 1))).cell? ⟨W.heap.size + 1 + 1, 0, none⟩ = some (.int .i64 ((c : Int) + 1)) := cell_one hc1
    by_cases h5 : 5 < c + 1
    · have h5' : 5 < (c : Int) + 1 := by omega
      gi_wp2
      refine ⟨trivial, ?_⟩
      obtain ⟨X1, hX1⟩ : ∃ X1, X.setCell ⟨W.heap.size + 1 + 1, 0, none⟩ (.int .i64 ((c : Int) + 1)) = X1 := ⟨_, rfl⟩
      rw [hX1] at hc1 hr1 hq1 hb1 hk1 ko1 c1' ⊢
      clear hX1
      have cR := cell_one hr1
      have fR := froz_one hr1
      have cQ := cell_one hq1
      have fQ := froz_one hq1
      have cG := (hb1.cell hg).trans hE
      have neRQ : ¬ W.heap.size = W.heap.size + 1 := by omega
      have neQR : ¬ W.heap.size + 1 = W.heap.size := by omega
      gi_wp2
      have hbe := bad_end (er := .iface 181 (.pointer (some ea))) hr1 hq1 hb1
      gi_region
      all_goals gi_wp2
      all_goals exact ⟨ko1.trans hbe.1, rfl, fun rest => by rw [hpe]; exact hok.bad (.inl (by rw [HPL.out, HCN.out]; omega)) rest, hbe.2.1, hbe.2.2.1, hbe.2.2.2⟩
    · have h5' : ¬ 5 < (c : Int) + 1 := by omega
      cases hp : isStM st with
      | true =>
        rw [hp] at IS
        gi_wp2_with (refine ⟨trivial, ?_⟩; gi_at_call 43; refine (CallsIn.inRound l (callsIn_wide.2 (IS _))).mono ?_; rintro e w2 ⟨rfl, b2⟩)
        have hBx := bel_blk b2 hc1
        exact ⟨ko1.trans (below_oth b2), hk1.trans (b2.block _ (by omega)), by rw [HPL2.out, HCN.out]; exact hBx, bel_blk b2 hr1, bel_blk b2 hq1, hb1.trans (b2.mono hb1.size), by rw [hpe]; exact hok.snoc (by rw [HPL.out, HCN.out]; omega) hp, Nat.le_trans hu (Nat.le_trans hz1 b2.size)⟩
      | false =>
        rw [hp] at IS
        gi_wp2_with (refine ⟨trivial, ?_⟩; gi_at_call 43; refine (CallsIn.inRound l (callsIn_wide.2 (IS _))).mono ?_; rintro e w2 ⟨rfl, b2⟩; have cR := cell_one (bel_blk b2 hr1); have fR := froz_one (bel_blk b2 hr1); have cQ := cell_one (bel_blk b2 hq1); have fQ := froz_one (bel_blk b2 hq1); have cG := ((hb1.trans (b2.mono hb1.size)).cell hg).trans hE)
        have hbe := bad_end (er := .iface 181 (.pointer (some ea))) (bel_blk b2 hr1) (bel_blk b2 hq1) (hb1.trans (b2.mono hb1.size))
        gi_region
        all_goals gi_wp2
        all_goals exact ⟨(ko1.trans (below_oth b2)).trans hbe.1, rfl, fun rest => by rw [hpe]; exact hok.bad (.inr hp) rest, hbe.2.1, hbe.2.2.1, hbe.2.2.2⟩
  case done =>
    rintro D xs X hD hS ⟨hc, hr, hq, hb, hok, -⟩ hK
    have hv : isSelM s = true := by
      have h1 := hok []
      rw [hS, List.append_nil] at h1
      exact h1
    have hrv := hv1 hv
    clear hv1 hv2 hv
    subst hrv
    have c1 := cell_one hr
    have f1 := froz_one hr
    have c2 := cell_one hq
    have f2 := froz_one hq
    have neRQ : ¬ W.heap.size = W.heap.size + 1 := by omega
    have neQR : ¬ W.heap.size + 1 = W.heap.size := by omega
    gi_wp2
    have hK' := ((KeepsOthers.setCell X ⟨W.heap.size, 0, none⟩ (bV s)).trans (KeepsOthers.setCell _ ⟨W.heap.size + 1, 0, none⟩ .nilIface)).same D _ hK rfl
    refine ⟨by simp, .inl ⟨_, _, rfl, run_takeDeferred hK', ?_⟩⟩
    have hr1 := set_one hr (bV s)
    have hr2 : ((X.setCell ⟨W.heap.size, 0, none⟩ (bV s)).setCell ⟨W.heap.size + 1, 0, none⟩ .nilIface).heap[W.heap.size]? = some (.cells #[bV s] 55) := (Below.heap_setCell _ _ _ _ (by simp only; omega)).trans hr1
    have hq1 : (X.setCell ⟨W.heap.size, 0, none⟩ (bV s)).heap[W.heap.size + 1]? = some (.cells #[.nilIface] 32) := (Below.heap_setCell _ _ _ _ (by simp only; omega)).trans hq
    have hq2 := set_one hq1 .nilIface
    have oc := cell_one ((World.putObj_heap_other (w := (X.setCell ⟨W.heap.size, 0, none⟩ (bV s)).setCell ⟨W.heap.size + 1, 0, none⟩ .nilIface) (o := .deferred none) (show W.heap.size ≠ D by omega)).trans hr2)
    have oq := cell_one ((World.putObj_heap_other (w := (X.setCell ⟨W.heap.size, 0, none⟩ (bV s)).setCell ⟨W.heap.size + 1, 0, none⟩ .nilIface) (o := .deferred none) (show W.heap.size + 1 ≠ D by omega)).trans hq2)
    refine ⟨.tuple #[.agg #[bV s], .nilIface], ?_, rfl, ((hb.setCell (p := ⟨W.heap.size, 0, none⟩) (Nat.le_refl _) _).setCell (p := ⟨W.heap.size + 1, 0, none⟩) (by simp only; omega) _).trans (belowK_b (w := W) (Nat.le_refl _) _ D _ _ (by omega) hK' rfl rfl)⟩
    simp [results, Tryd.results21, go_sem, oc, oq]
  case stop =>
    rintro D c pre X hD hpre ⟨rfl, hbad, hr, hq, hb⟩ hK
    have hv : isSelM s = false := by
      obtain ⟨rest, hrest⟩ := hpre
      have h1 := hbad rest
      rw [hrest] at h1
      exact h1
    have hrv := hv2 hv
    clear hv1 hv2 hv
    subst hrv
    gi_wp2
    refine ⟨by simp, .inl ⟨_, _, rfl, run_takeDeferred hK, ?_⟩⟩
    have hr3 := (World.putObj_heap_other (w := X) (o := .deferred none) (show W.heap.size ≠ D by omega)).trans hr
    have hq3 := (World.putObj_heap_other (w := X) (o := .deferred none) (show W.heap.size + 1 ≠ D by omega)).trans hq
    have oc := cell_one hr3
    have oq := cell_one hq3
    refine ⟨.tuple #[.agg #[.string ⟨#[]⟩], .iface 181 (.pointer (some ea))], ?_, rfl, hb.trans (belowK_b (w := W) (Nat.le_refl _) X D _ _ (by omega) hK rfl rfl)⟩
    simp [results, Tryd.results21, go_sem, oc, oq]
theorem Read_any (s : Bs) (hs : s.length ≤ 1000000) (W : World) (ea : Addr) (hE : W.cell? ⟨7, 0, none⟩ = some (.iface 181 (.pointer (some ea)))) :
    Calls Tryd.prog 21 #[bV s] W fun e w' => e = .returned (.tuple (if isSelM s then #[.agg #[bV s], .nilIface] else #[.agg #[.string ⟨#[]⟩], .iface 181 (.pointer (some ea))])) ∧ Below W.heap.size W w' :=
  callsIn_wide.1 (Read_sel s hs W ea _ (fun h => by rw [h]; rfl) (fun h => by rw [h]; rfl) hE)

end Go.Proofs.YtmlajdhkkcmjnacDoor

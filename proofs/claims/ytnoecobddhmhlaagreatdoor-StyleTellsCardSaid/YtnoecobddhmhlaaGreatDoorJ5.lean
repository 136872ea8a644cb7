/-
  Package pick: the parts of a step, as a function that is ranged over.
-/
import Derived.Test.YtnoecobddhmhlaaGreatDoorJ3
import Derived.Test.YtnoecobddhmhlaaGreatDoorJ4
import Derived.RegionIn
import Derived.Test.YtnoecobddhmhlaaGreatDoorJ2
import Derived.ChangeArms
import Derived.ChangeMaps5
namespace Go.Proofs.YtnoecobddhmhlaaGreatDoor
open Go.RowKit Go.Shelf

attribute [local go_sem] Oper.semAt_some

theorem partsOf_any (s : Bs) (w : World) : Calls Tryz.prog 82 #[bV s] w fun e w' => e = .returned (.func (.func 120) #[] #[.pointer (some ⟨w.heap.size, 0, none⟩)]) ∧ w' = w.alloc (.cells #[bV s] 9) := by
  go_enter Tryz.func82, Tryz.ntmps82
  go_wp2
  go_ret
  exact ⟨rfl, rfl⟩

/-- A part whose name has no more than so many bytes. -/
abbrev PtB := { x : UInt8 × Bs // x.2.length ≤ 1000000 }
abbrev ptL (l : List PtB) : List (UInt8 × Bs) := l.map Subtype.val
abbrev ptV (x : PtB) : Array Value := #[.int .u8 x.1.1.toNat, bV x.1.2]
set_option maxRecDepth 100000 in
set_option maxHeartbeats 8000000 in
theorem parts_seq (s : Bs) (hs : s.length ≤ 1000000) (n : Nat) (B : Nat) (w0 : World) (hB : w0.heap[B]? = some (.cells #[bV s] 9)) :
    SeqStopsK Fence.wide n Tryz.prog 120 #[.pointer (some ⟨B, 0, none⟩)] ptV (KpB B) (fun xs => ptL xs = pts 0 s) (fun p => ptL p <+: pts 0 s) (pts 0 s).length w0 := by
  intro l J Jx W hW hJ hJx hY h0
  have hBl : B < w0.heap.size := (Array.getElem?_eq_some_iff.1 hB).1
  have hBW : W.heap[B]? = some (.cells #[bV s] 9) := (hW.block B hBl).trans hB
  have c0 : W.cell? ⟨B, 0, none⟩ = some (bV s) := by simp [World.cell?, hBW]
  have hJb : ∀ p A C, J p A → Below A.heap.size A C → J p C := fun p A C h hb => hJ p A C none h (grown_of_below hb) (fun r e => by cases e)
  refine callsIn_of_wp Tryz.func120 rfl trivial ?_ rfl
  simp only [Tryz.ntmps120, List.size_toArray, List.length_cons, List.length_nil, Nat.reduceAdd, Nat.reduceSub, Array.replicate_succ, Array.replicate_zero, List.push_toArray, List.append_toArray, List.nil_append, List.cons_append]
  gi_wp2
  gi_region
  gi_wp2
  gi_loopw [3, 4] (fun y3 y4 wr => ∃ (pre : List PtB) (k : UInt8) (t : Bs), t.length ≤ 1000000 ∧ ptL pre ++ pts k t = pts 0 s ∧ y3 = .int .u8 k.toNat ∧ y4 = bV t ∧ J pre wr ∧ KpB B W wr) (fun _ y4 _ => lenV y4)
  case atStart => exact ⟨[], 0, s, hs, rfl, rfl, rfl, hJb _ _ _ h0 (Below.refl _ _).drew, rfl⟩
  case round =>
    obtain ⟨pre, k, t, htl, hps, rfl, rfl, hJp, hKp⟩ := hrel
    have IA := IndexAny_any t htl wr
    cases hf : firstMk t with
    | none =>
      rw [any_none hf] at IA
      rw [pts_no hf] at hps
      have hpl : pre.length < (pts 0 s).length := by
        rw [← hps, List.length_append, List.length_cons, List.length_map]
        omega
      have hnl : (nmIn k t).length ≤ 1000000 := Nat.le_trans (nmIn_len k t) htl
      have HPS : Hid (ptL pre ++ [(k, nmIn k t)] = pts 0 s) := hps
      have hNI : ∀ V, Calls Tryz.prog 122 #[.int .u8 k.toNat, bV t] V fun e w' => e = .returned (bV (nmIn k t)) ∧ w' = V := fun V => nameIn_any k t htl V
      have hYx : ∀ W1, J pre W1 → YieldAt Fence.wide (n - 1) Tryz.prog l #[.int .u8 k.toNat, bV (nmIn k t)] W1 fun e W' => (e = .returned (.bool true) ∧ J (pre ++ [⟨(k, nmIn k t), hnl⟩]) W' ∧ KpB B W1 W') ∨ (e = .returned (.bool false) ∧ Jx (pre ++ [⟨(k, nmIn k t), hnl⟩]) W') := fun W1 h => hY pre ⟨(k, nmIn k t), hnl⟩ W1 h hpl
      revert hnl HPS hNI hYx
      generalize nmIn k t = nm
      intro hnl HPS hNI hYx
      clear hps hf
      gi_wp2_with (first | (refine ⟨trivial, (fun h => by cases h), ?_⟩; gi_at_call 121; refine (callsIn_wide.2 IA).mono ?_; rintro e w1 ⟨rfl, hb1⟩) | (refine ⟨trivial, (fun h => by cases h), ?_⟩; gi_at_call 122; refine (callsIn_wide.2 (hNI _)).mono ?_; rintro e w2 ⟨rfl, h⟩; rw [h]; clear h; obtain ⟨fn, tmps, assign, body, hy, hR⟩ := hYx w1 (hJb _ _ _ hJp hb1)))
      refine ⟨(fun h => by cases h), hR.mono ?_⟩
      rintro e W3 (⟨rfl, hJ3, hk3⟩ | ⟨rfl, hJx3⟩)
      · gi_wp2
        refine bodyPost_ret (results_none rfl _ _ _) rfl ?_
        exact ⟨⟨_, rfl⟩, .inl ⟨_, by rw [← HPS.out]; simp, hJ3⟩⟩
      · gi_wp2
        refine bodyPost_ret (results_none rfl _ _ _) rfl ?_
        exact ⟨⟨_, rfl⟩, .inr ⟨_, by rw [← HPS.out]; simp, hJx3⟩⟩
    | some x =>
      obtain ⟨a, m, r⟩ := x
      rw [any_some hf] at IA
      rw [pts_more hf] at hps
      have hpl : pre.length < (pts 0 s).length := by
        rw [← hps, List.length_append, List.length_cons, List.length_map]
        omega
      obtain ⟨h1, -, -⟩ := firstMk_some hf
      have hlen : t.length = a.length + (r.length + 1) := by rw [h1]; simp
      have hal : a.length ≤ 1000000 := by omega
      have hsz : (⟨t.toArray⟩ : ByteArray).size = t.length := ba_size t
      have hua : (a.length : Int) ≤ ((⟨t.toArray⟩ : ByteArray).size : Int) := by rw [hsz]; omega
      have hub : (a.length : Int) < ((⟨t.toArray⟩ : ByteArray).size : Int) := by rw [hsz]; omega
      have hub' : a.length < (⟨t.toArray⟩ : ByteArray).size := by rw [hsz]; omega
      have hmi : (⟨t.toArray⟩ : ByteArray)[a.length]'hub' = m := by
        subst h1
        simp [ByteArray.getElem_eq_getElem_data]
      have hua0 : ¬ (a.length : Int) < 0 := by omega
      obtain ⟨K1, hK1⟩ : ∃ K1 : Nat, (a.length : Int) + 1 = K1 := ⟨a.length + 1, by omega⟩
      have hK2 : (K1 : Int) ≤ ((⟨t.toArray⟩ : ByteArray).size : Int) := by rw [hsz]; omega
      have hubl : (a.length : Int) < (t.length : Int) := by omega
      have hubl' : a.length < t.length := by omega
      have hK3 : (K1 : Int) ≤ (t.length : Int) := by omega
      have hwk : IntKind.i64.wrap (K1 : Int) = (K1 : Int) := IntWalk.i64_in _ (by omega)
      have HDR : Hid ((⟨t.toArray⟩ : ByteArray).extract K1 t.length = ⟨r.toArray⟩) := (by
        rw [show K1 = a.length + 1 from by omega, h1]
        exact ba_drop a r m _ rfl : (⟨t.toArray⟩ : ByteArray).extract K1 t.length = ⟨r.toArray⟩)
      have hNI : ∀ V, Calls Tryz.prog 122 #[.int .u8 k.toNat, .string ((⟨t.toArray⟩ : ByteArray).extract 0 a.length)] V fun e w' => e = .returned (bV (nmIn k a)) ∧ w' = V := fun V => by
        rw [show (⟨t.toArray⟩ : ByteArray).extract 0 a.length = ⟨a.toArray⟩ from by rw [h1]; exact ba_take a (m :: r)]
        exact nameIn_any k a hal V
      have hnl : (nmIn k a).length ≤ 1000000 := Nat.le_trans (nmIn_len k a) hal
      have hYx : ∀ W1, J pre W1 → YieldAt Fence.wide (n - 1) Tryz.prog l #[.int .u8 k.toNat, bV (nmIn k a)] W1 fun e W' => (e = .returned (.bool true) ∧ J (pre ++ [⟨(k, nmIn k a), hnl⟩]) W' ∧ KpB B W1 W') ∨ (e = .returned (.bool false) ∧ Jx (pre ++ [⟨(k, nmIn k a), hnl⟩]) W') := fun W1 h => hY pre ⟨(k, nmIn k a), hnl⟩ W1 h hpl
      have HPS : Hid (ptL pre ++ ((k, nmIn k a) :: pts m r) = pts 0 s) := hps
      have HLR : Hid (r.length < t.length) := (by omega : r.length < t.length)
      revert hnl HPS hNI hYx
      generalize nmIn k a = nm
      intro hNI hnl hYx HPS
      clear hps hf h1 hlen hsz
      gi_wp2_with (first | (refine ⟨trivial, (fun h => by cases h), ?_⟩; gi_at_call 121; refine (callsIn_wide.2 IA).mono ?_; rintro e w1 ⟨rfl, hb1⟩) | (refine ⟨trivial, (fun h => by cases h), ?_⟩; gi_at_call 122; refine (callsIn_wide.2 (hNI _)).mono ?_; rintro e w2 ⟨rfl, h⟩; rw [h]; clear h; obtain ⟨fn, tmps, assign, body, hy, hR⟩ := hYx w1 (hJb _ _ _ hJp hb1)))
      refine ⟨(fun h => by cases h), hR.mono ?_⟩
      rintro e W3 (⟨rfl, hJ3, hk3⟩ | ⟨rfl, hJx3⟩)
      · gi_wp2
        gi_region
        gi_wp2
        go_roundw
        case rel => exact ⟨pre ++ [⟨(k, nm), hnl⟩], m, r, by have := HLR.out; omega, by rw [← HPS.out]; simp, by first | rfl | simp, by rw [HDR.out], hJb _ _ _ hJ3 (Below.refl _ _).drew, (hKp.trans (KpB.of_below hb1 (Array.getElem?_eq_some_iff.1 (Eq.trans (show wr.heap[B]? = W.heap[B]? from hKp) hBW)).1)).trans hk3⟩
        case measure =>
          rw [HDR.out, lenV_b, lenV_b]
          exact HLR.out
      · gi_wp2
        refine bodyPost_ret (results_none rfl _ _ _) rfl ?_
        exact ⟨⟨_, rfl⟩, .inr ⟨_, by rw [← HPS.out]; exact ⟨pts m r, by simp⟩, hJx3⟩⟩

end Go.Proofs.YtnoecobddhmhlaaGreatDoor

namespace Go.Proofs.YtnoecobddhmhlaaGreatDoor
open Go.RowKit Go.Shelf

attribute [local go_sem] Oper.semAt_some

/-- So many of these parts are more than the element's. -/
def cntP : List (UInt8 × Bs) → Nat
  | [] => 0
  | x :: l => (if x.1 = 0 then 0 else 1) + cntP l
theorem cntP_app (a b : List (UInt8 × Bs)) : cntP (a ++ b) = cntP a + cntP b := by
  induction a with
  | nil => simp [cntP]
  | cons x l ih => rw [List.cons_append, cntP, cntP, ih]; omega
theorem cntP_le : ∀ l : List (UInt8 × Bs), cntP l ≤ l.length
  | [] => Nat.le_refl _
  | x :: l => by
    have := cntP_le l
    rw [cntP, List.length_cons]
    split <;> omega
theorem pts_len : ∀ (f : Nat) (k : UInt8) (s : Bs), s.length ≤ f → (pts k s).length ≤ s.length + 1
  | f, k, s, hf => by
    cases hs : firstMk s with
    | none => rw [pts_no hs]; simp
    | some x =>
      obtain ⟨a, m, r⟩ := x
      have hl := firstMk_len hs
      rw [pts_more hs, List.length_cons]
      have := pts_len (f - 1) m r (by omega)
      omega
termination_by _ _ s => s.length
/-- As far as looked all is well. -/
def OkTo (l : List (UInt8 × Bs)) : Prop := ∀ rest, okPts 0 (l ++ rest) = okPts (cntP l) rest
theorem OkTo.nil : OkTo [] := fun _ => rfl
theorem OkTo.snoc {l : List (UInt8 × Bs)} {x : UInt8 × Bs} (h : OkTo l) (h1 : (if x.1 = 0 then cntP l else cntP l + 1) ≤ 8) (h2 : isPt x = true) : OkTo (l ++ [x]) := fun rest => by
  rw [List.append_assoc, h, List.singleton_append, okPts, h2, decide_eq_true h1, cntP_app]
  simp only [Bool.true_and]
  congr 1
  unfold cntP cntP
  split <;> omega
theorem OkTo.bad {l : List (UInt8 × Bs)} {x : UInt8 × Bs} (h : OkTo l) (hb : ¬ ((if x.1 = 0 then cntP l else cntP l + 1) ≤ 8) ∨ isPt x = false) (rest : List (UInt8 × Bs)) : okPts 0 (l ++ [x] ++ rest) = false := by
  rw [List.append_assoc, h, List.singleton_append, okPts]
  rcases hb with hb | hb
  · rw [decide_eq_false hb]; simp
  · rw [hb]; simp
theorem three_blocks (W : World) (o1 o2 o3 : Obj) : (((W.alloc o1).alloc o2).alloc o3).heap[W.heap.size]? = some o1 ∧ (((W.alloc o1).alloc o2).alloc o3).heap[W.heap.size + 1]? = some o2 ∧ (((W.alloc o1).alloc o2).alloc o3).heap[W.heap.size + 1 + 1]? = some o3 ∧ (((W.alloc o1).alloc o2).alloc o3).heap.size = W.heap.size + 3 ∧ Below W.heap.size W (((W.alloc o1).alloc o2).alloc o3) := by
  have s1 : (W.alloc o1).heap.size = W.heap.size + 1 := World.size_alloc W o1
  have s2 : ((W.alloc o1).alloc o2).heap.size = W.heap.size + 1 + 1 := by rw [World.size_alloc, s1]
  have n1 := World.alloc_heap_new W o1
  have n2 := World.alloc_heap_new (W.alloc o1) o2
  have n3 := World.alloc_heap_new ((W.alloc o1).alloc o2) o3
  rw [s1] at n2
  rw [s2] at n3
  refine ⟨(Below.heap_alloc _ _ _ (by rw [s2]; omega)).trans ((Below.heap_alloc _ _ _ (by rw [s1]; omega)).trans n1), (Below.heap_alloc _ _ _ (by rw [s2]; omega)).trans n2, n3, by rw [World.size_alloc, s2], ?_⟩
  exact (((Below.refl W.heap.size W).alloc (Nat.le_refl _) _).alloc (by rw [s1]; omega) _).alloc (by rw [s2]; omega) _
theorem blk_own {A C : World} {row : Option Nat} {U k : Nat} {o : Obj} (h : A.heap[k]? = some o) (hk : k < U) (hg : A.grownBy C row) (hr : ∀ r, row = some r → U ≤ r ∧ ∃ o : Obj, A.heap[r]? = some o ∧ o.isCells = false) : C.heap[k]? = some o :=
  (hg.block k (Array.getElem?_eq_some_iff.1 h).1 (fun e => by have := (hr k e.symm).1; omega)).trans h
theorem bel_own {V A C : World} {row : Option Nat} {U : Nat} (h : Below V.heap.size V A) (hU : V.heap.size ≤ U) (hg : A.grownBy C row) (hr : ∀ r, row = some r → U ≤ r ∧ ∃ o : Obj, A.heap[r]? = some o ∧ o.isCells = false) : Below V.heap.size V C :=
  ⟨hg.os.trans h.os, hg.tape.trans h.tape, hg.output.trans h.output, Nat.le_trans h.size hg.size, fun k hk => (hg.block k (Nat.lt_of_lt_of_le hk h.size) (fun e => by have := (hr k e.symm).1; omega)).trans (h.block k hk)⟩
theorem cell_one {w : World} {b : Nat} {v : Value} {t : TypeId} (h : w.heap[b]? = some (.cells #[v] t)) : w.cell? ⟨b, 0, none⟩ = some v := by simp [World.cell?, h]
theorem froz_one {w : World} {b : Nat} {v : Value} {t : TypeId} (h : w.heap[b]? = some (.cells #[v] t)) : w.frozen? ⟨b, 0, none⟩ = false := by
  unfold World.frozen?
  rw [h]
  simp
theorem set_one {w : World} {b : Nat} {v : Value} {t : TypeId} (h : w.heap[b]? = some (.cells #[v] t)) (u : Value) : (w.setCell ⟨b, 0, none⟩ u).heap[b]? = some (.cells #[u] t) := by
  rw [heap_setCell_same w b 0 _ _ _ h]
  rfl
set_option maxRecDepth 100000 in
set_option maxHeartbeats 8000000 in
theorem isStep_in (s : Bs) (hs : s.length ≤ 1000000) (W : World) : CallsIn Fence.wide 9 Tryz.prog 79 #[bV s] W fun e w' => e = .returned (.bool (isStM s)) ∧ Below W.heap.size W w' := by
  obtain ⟨hR0, hC0, hB0, hsz0, b0⟩ := three_blocks W (.cells #[.bool false] 4) (.cells #[.int .i64 0] 3) (.cells #[bV s] 9)
  refine callsIn_of_wp_marks Tryz.func79 rfl trivial ?_ rfl
  simp only [Tryz.ntmps79, List.size_toArray, List.length_cons, List.length_nil, Nat.reduceAdd, Nat.reduceSub, Array.replicate_succ, Array.replicate_zero, List.push_toArray, List.append_toArray, List.nil_append, List.cons_append]
  gi_wp2_with (refine ⟨trivial, ?_⟩; gi_at_call 82; refine (callsIn_wide.2 (partsOf_any s _)).mono ?_; rintro e w1 ⟨rfl, h1⟩; rw [h1]; clear h1)
  obtain ⟨U, hU⟩ : ∃ U, (((W.alloc (.cells #[.bool false] 4)).alloc (.cells #[.int .i64 0] 3)).alloc (.cells #[bV s] 9)) = U := ⟨_, rfl⟩
  rw [hU] at b0 hR0 hC0 hB0 hsz0 ⊢
  clear hU
  refine wpIn_rangeFunc_ownF rfl (by omega) (gf := 120) (lb := #[.pointer (some ⟨W.heap.size + 1 + 1, 0, none⟩)]) rfl trivial (enters_of Tryz.func120 (by kernel_rfl) rfl)
    (encs := ptV) (Kp := KpB (W.heap.size + 1 + 1)) (S := fun xs => ptL xs = pts 0 s) (Sp := fun p => ptL p <+: pts 0 s) (N := (pts 0 s).length) (w0 := U)
    (parts_seq s hs _ _ U hB0) KpB.trans (fun X l o o' hl h1 h2 h3 => KpB.put (w := U) (by omega) X l o o' hl h1 h2 h3) (Below.refl _ _) (fun _ => rfl)
    (fun pre X => X.heap[W.heap.size + 1]? = some (.cells #[.int .i64 (cntP (ptL pre) : Nat)] 3) ∧ X.heap[W.heap.size]? = some (.cells #[.bool false] 4) ∧ Below W.heap.size W X ∧ OkTo (ptL pre))
    (fun c pre X => c = .ret ∧ (∀ rest, okPts 0 (ptL pre ++ rest) = false) ∧ X.heap[W.heap.size]? = some (.cells #[.bool false] 4) ∧ Below W.heap.size W X)
    (fun pre A C row hs hg hr => ⟨blk_own hs.1 (by omega) hg hr, blk_own hs.2.1 (by omega) hg hr, bel_own hs.2.2.1 (by omega) hg hr, hs.2.2.2⟩)
    (fun c pre A C row hs hg hr => ⟨hs.1, hs.2.1, blk_own hs.2.2.1 (by omega) hg hr, bel_own hs.2.2.2 (by omega) hg hr⟩)
    ⟨hC0, hR0, b0, OkTo.nil⟩
    (fun x => { tmps := #[bV s, undef, .pointer (some ⟨W.heap.size, 0, none⟩), .pointer (some ⟨W.heap.size + 1, 0, none⟩), .int .u8 x.1.1.toNat, bV x.1.2, bV s, .func (.func 120) #[] #[.pointer (some ⟨W.heap.size + 1 + 1, 0, none⟩)], .int .u8 x.1.1.toNat, bV x.1.2, undef, undef, undef, undef, undef, undef, undef, undef, undef, undef, undef, undef, undef, undef], defers := [] })
    ?assign ?body ?done ?stop
  case assign =>
    intro l x X K hK
    gi_wp2
    exact hK
  case body =>
    rintro l pre x X ⟨hc, hr, hb, hok⟩ hlen
    obtain ⟨⟨k, nm⟩, hnl⟩ := x
    have c1 := cell_one hc
    have f1 := froz_one hc
    have c2 := cell_one hr
    have f2 := froz_one hr
    have hcl : cntP (ptL pre) ≤ 1000001 := by
      have h1 := cntP_le (ptL pre)
      have h2 := pts_len s.length 0 s (Nat.le_refl _)
      rw [List.length_map] at h1
      omega
    have hpe : ptL (pre ++ [⟨(k, nm), hnl⟩]) = ptL pre ++ [(k, nm)] := by simp
    have IP := fun V => isPart_any k nm hnl V
    have h0 : ((k.toNat : Int) == 0) = (k == 0) := u8_eq k 0
    have hn0 : ((k.toNat : Int) != 0) = !(k == 0) := by rw [bne, h0]
    obtain ⟨c, hcn⟩ : ∃ c, cntP (ptL pre) = c := ⟨_, rfl⟩
    rw [hcn] at c1 hc hcl
    have HCN : Hid (cntP (ptL pre) = c) := hcn
    clear hcn h0
    have neR : ¬ W.heap.size + 1 = W.heap.size := by omega
    have neR' : ¬ W.heap.size = W.heap.size + 1 := by omega
    by_cases hk : k = 0
    · have hk' : (k == 0) = true := by rw [hk]; rfl
      rw [hk'] at hn0
      have HK : Hid (k = 0) := hk
      clear hk
      by_cases h8 : 8 < c
      · have h8' : 8 < (c : Int) := by omega
        gi_wp2
        refine ⟨trivial, ?_⟩
        gi_wp2
        exact ⟨KeepsOthers.setCell _ _ _, rfl, fun rest => by rw [hpe]; exact hok.bad (.inl (by rw [if_pos HK.out, HCN.out]; omega)) rest, set_one hr _, hb.setCell (Nat.le_refl _) _⟩
      · have h8' : ¬ 8 < (c : Int) := by omega
        cases hp : isPt (k, nm) with
        | true =>
          rw [hp] at IP
          gi_wp2_with (refine ⟨trivial, ?_⟩; gi_at_call 119; refine (CallsIn.inRound l (callsIn_wide.2 (IP _))).mono ?_; rintro e w2 ⟨rfl, h⟩; rw [h]; clear h)
          exact ⟨KeepsOthers.refl _, rfl, by rw [hpe, cntP_app, HCN.out]; simp only [cntP, if_pos HK.out]; exact hc, hr, hb, by rw [hpe]; exact hok.snoc (by rw [if_pos HK.out, HCN.out]; omega) hp⟩
        | false =>
          rw [hp] at IP
          gi_wp2_with (refine ⟨trivial, ?_⟩; gi_at_call 119; refine (CallsIn.inRound l (callsIn_wide.2 (IP _))).mono ?_; rintro e w2 ⟨rfl, h⟩; rw [h]; clear h)
          exact ⟨KeepsOthers.setCell _ _ _, rfl, fun rest => by rw [hpe]; exact hok.bad (.inr hp) rest, set_one hr _, hb.setCell (Nat.le_refl _) _⟩
    · have hk' : (k == 0) = false := by rw [beq_eq_false_iff_ne]; exact hk
      rw [hk'] at hn0
      have hc1 := set_one hc (.int .i64 ((c : Int) + 1))
      have hr1 : (X.setCell ⟨W.heap.size + 1, 0, none⟩ (.int .i64 ((c : Int) + 1))).heap[W.heap.size]? = some (.cells #[.bool false] 4) := (Below.heap_setCell _ _ _ W.heap.size (fun e => neR' e)).trans hr
      have hb1 : Below W.heap.size W (X.setCell ⟨W.heap.size + 1, 0, none⟩ (.int .i64 ((c : Int) + 1))) := hb.setCell (by simp only; omega) _
      have hk1 : KpB (W.heap.size + 1 + 1) X (X.setCell ⟨W.heap.size + 1, 0, none⟩ (.int .i64 ((c : Int) + 1))) := Below.heap_setCell _ _ _ _ (by simp only; omega)
      by_cases h8 : 8 < c + 1
      · have h8' : 8 < (c : Int) + 1 := by omega
        gi_wp2
        refine ⟨trivial, ?_⟩
        gi_wp2
        exact ⟨(KeepsOthers.setCell _ _ _).trans (KeepsOthers.setCell _ _ _), rfl, fun rest => by rw [hpe]; exact hok.bad (.inl (by rw [if_neg hk, HCN.out]; omega)) rest, set_one hr1 _, hb1.setCell (Nat.le_refl _) _⟩
      · have h8' : ¬ 8 < (c : Int) + 1 := by omega
        cases hp : isPt (k, nm) with
        | true =>
          rw [hp] at IP
          gi_wp2_with (refine ⟨trivial, ?_⟩; gi_at_call 119; refine (CallsIn.inRound l (callsIn_wide.2 (IP _))).mono ?_; rintro e w2 ⟨rfl, h⟩; rw [h]; clear h)
          exact ⟨KeepsOthers.setCell _ _ _, hk1, by rw [hpe, cntP_app, HCN.out]; simp only [cntP, if_neg hk]; exact hc1, hr1, hb1, by rw [hpe]; exact hok.snoc (by rw [if_neg hk, HCN.out]; omega) hp⟩
        | false =>
          rw [hp] at IP
          gi_wp2_with (refine ⟨trivial, ?_⟩; gi_at_call 119; refine (CallsIn.inRound l (callsIn_wide.2 (IP _))).mono ?_; rintro e w2 ⟨rfl, h⟩; rw [h]; clear h)
          exact ⟨(KeepsOthers.setCell _ _ _).trans (KeepsOthers.setCell _ _ _), rfl, fun rest => by rw [hpe]; exact hok.bad (.inr hp) rest, set_one hr1 _, hb1.setCell (Nat.le_refl _) _⟩
  case done =>
    rintro D xs X hD hS ⟨hc, hr, hb, hok⟩ hK
    have hv : isStM s = !s.isEmpty := by
      have h1 := hok []
      rw [hS, List.append_nil] at h1
      unfold isStM
      rw [show ptsOf s = pts 0 s from rfl, h1]
      cases s <;> rfl
    have c2 := cell_one hr
    have f2 := froz_one hr
    gi_wp2
    have hK' := (KeepsOthers.setCell X ⟨W.heap.size, 0, none⟩ (.bool !s.isEmpty)).same D _ hK rfl
    refine ⟨by simp, .inl ⟨_, _, rfl, run_takeDeferred hK', ?_⟩⟩
    have hr2 := set_one hr (.bool !s.isEmpty)
    have hr3 := (World.putObj_heap_other (w := X.setCell ⟨W.heap.size, 0, none⟩ (.bool !s.isEmpty)) (o := .deferred none) (show W.heap.size ≠ D by omega)).trans hr2
    have oc := cell_one hr3
    refine ⟨.bool !s.isEmpty, ?_, by rw [hv], (hb.setCell (Nat.le_refl _) _).trans (belowK_b (w := W) (Nat.le_refl _) _ D _ _ (by omega) hK' rfl rfl)⟩
    simp [results, Tryz.results79, go_sem, oc]
  case stop =>
    rintro D c pre X hD hpre ⟨rfl, hbad, hr, hb⟩ hK
    have hv : isStM s = false := by
      obtain ⟨rest, hrest⟩ := hpre
      have h1 := hbad rest
      rw [hrest] at h1
      unfold isStM
      rw [show ptsOf s = pts 0 s from rfl, h1]
      rfl
    gi_wp2
    refine ⟨by simp, .inl ⟨_, _, rfl, run_takeDeferred hK, ?_⟩⟩
    have hr3 := (World.putObj_heap_other (w := X) (o := .deferred none) (show W.heap.size ≠ D by omega)).trans hr
    have oc := cell_one hr3
    refine ⟨.bool false, ?_, by rw [hv], hb.trans (belowK_b (w := W) (Nat.le_refl _) X D _ _ (by omega) hK rfl rfl)⟩
    simp [results, Tryz.results79, go_sem, oc]
theorem isStep_any (s : Bs) (hs : s.length ≤ 1000000) (W : World) : Calls Tryz.prog 79 #[bV s] W fun e w' => e = .returned (.bool (isStM s)) ∧ Below W.heap.size W w' := callsIn_wide.1 (isStep_in s hs W)

end Go.Proofs.YtnoecobddhmhlaaGreatDoor

namespace Go.Proofs.YtnoecobddhmhlaaGreatDoor
open Go.RowKit

/-- A text's value. -/
def strV (s : Bs) : Value := .string ⟨s.toArray⟩
theorem strV_of (s : ByteArray) : Value.string s = strV s.data.toList := by cases s; rfl
theorem strV_size (s : Bs) : (⟨s.toArray⟩ : ByteArray).size = s.length := by simp [ByteArray.size]

/-- Attributes in memory. -/
def AtsAt (w : World) (o : Option Addr) (ats : List (Bs × Bs)) : Prop := ∀ i x, ats[i]? = some x → ∃ b off, o = some ⟨b, off, none⟩ ∧ w.cell? ⟨b, off + i * 2, none⟩ = some (strV x.1) ∧ w.cell? ⟨b, off + i * 2 + 1, none⟩ = some (strV x.2) ∧ x.1.length ≤ maxLen ∧ x.2.length ≤ maxLen
def AtsIn (w : World) (v : Value) (ats : List (Bs × Bs)) : Prop := ∃ o cap, v = .slice o ats.length cap ∧ ats.length ≤ cap ∧ cap ≤ maxLen ∧ (o = none → cap = 0) ∧ AtsAt w o ats
mutual
/-- A node in memory, by its three cells. -/
def NdC (w : World) (c0 c1 c2 : Value) : Nd → Prop
  | .mk nm ats ks => c0 = strV nm ∧ nm.length ≤ maxLen ∧ AtsIn w c1 ats ∧ ∃ o cap, c2 = .slice o ks.length cap ∧ ks.length ≤ cap ∧ cap ≤ maxLen ∧ (o = none → cap = 0) ∧ KdsAt w o 0 ks
def KdsAt (w : World) (o : Option Addr) (i : Nat) : List Nd → Prop
  | [] => True
  | k :: l => (∃ b off c0 c1 c2, o = some ⟨b, off, none⟩ ∧ w.cell? ⟨b, off + i * 3, none⟩ = some c0 ∧ w.cell? ⟨b, off + i * 3 + 1, none⟩ = some c1 ∧ w.cell? ⟨b, off + i * 3 + 2, none⟩ = some c2 ∧ NdC w c0 c1 c2 k) ∧ KdsAt w o (i + 1) l
end

theorem cell_lt3 {w : World} {a : Addr} {v : Value} (h : w.cell? a = some v) : a.block < w.heap.size := by
  rcases Nat.lt_or_ge a.block w.heap.size with h' | h'
  · exact h'
  · simp [World.cell?, Array.getElem?_eq_none h'] at h
theorem AtsAt.below {w w' : World} {o : Option Addr} {ats : List (Bs × Bs)} (h : AtsAt w o ats) (hb : Below w.heap.size w w') : AtsAt w' o ats := fun i x hx => by
  obtain ⟨b, off, h1, h2, h3, h4⟩ := h i x hx
  exact ⟨b, off, h1, (hb.cell (cell_lt3 h2)).trans h2, (hb.cell (cell_lt3 h3)).trans h3, h4⟩
theorem AtsIn.below {w w' : World} {v : Value} {ats : List (Bs × Bs)} (h : AtsIn w v ats) (hb : Below w.heap.size w w') : AtsIn w' v ats := by
  obtain ⟨o, cap, h1, h2, h3, h5, h4⟩ := h
  exact ⟨o, cap, h1, h2, h3, h5, h4.below hb⟩
mutual
theorem NdC.below {w w' : World} (hb : Below w.heap.size w w') : ∀ {c0 c1 c2 : Value} (n : Nd), NdC w c0 c1 c2 n → NdC w' c0 c1 c2 n
  | _, _, _, .mk _ _ ks, h => by
    unfold NdC at h ⊢
    obtain ⟨h1, h2, h3, o, cap, h4, h5, h6, h8, h7⟩ := h
    exact ⟨h1, h2, h3.below hb, o, cap, h4, h5, h6, h8, KdsAt.below hb ks h7⟩
theorem KdsAt.below {w w' : World} (hb : Below w.heap.size w w') : ∀ {o : Option Addr} {i : Nat} (l : List Nd), KdsAt w o i l → KdsAt w' o i l
  | _, _, [], _ => by unfold KdsAt; trivial
  | _, _, k :: l, h => by
    unfold KdsAt at h ⊢
    obtain ⟨⟨b, off, c0, c1, c2, h1, h2, h3, h4, h5⟩, h6⟩ := h
    exact ⟨⟨b, off, c0, c1, c2, h1, (hb.cell (cell_lt3 h2)).trans h2, (hb.cell (cell_lt3 h3)).trans h3, (hb.cell (cell_lt3 h4)).trans h4, NdC.below hb k h5⟩, KdsAt.below hb l h6⟩
end
theorem KdsAt.get {w : World} {o : Option Addr} : ∀ {l : List Nd} {i j : Nat} {k : Nd}, KdsAt w o i l → l[j]? = some k → ∃ b off c0 c1 c2, o = some ⟨b, off, none⟩ ∧ w.cell? ⟨b, off + (i + j) * 3, none⟩ = some c0 ∧ w.cell? ⟨b, off + (i + j) * 3 + 1, none⟩ = some c1 ∧ w.cell? ⟨b, off + (i + j) * 3 + 2, none⟩ = some c2 ∧ NdC w c0 c1 c2 k
  | [], _, _, _, _, hk => by simp at hk
  | k :: l, i, j, k', h, hk => by
    unfold KdsAt at h
    cases j with
    | zero => simp at hk; subst hk; exact h.1
    | succ j =>
      have := KdsAt.get (i := i + 1) (j := j) h.2 (by simpa using hk)
      rw [show i + 1 + j = i + (j + 1) from by omega] at this
      exact this
theorem kdsAt_of {w : World} {o : Option Addr} : ∀ {l : List Nd} {i : Nat}, (∀ j k, l[j]? = some k → ∃ b off c0 c1 c2, o = some ⟨b, off, none⟩ ∧ w.cell? ⟨b, off + (i + j) * 3, none⟩ = some c0 ∧ w.cell? ⟨b, off + (i + j) * 3 + 1, none⟩ = some c1 ∧ w.cell? ⟨b, off + (i + j) * 3 + 2, none⟩ = some c2 ∧ NdC w c0 c1 c2 k) → KdsAt w o i l
  | [], _, _ => by unfold KdsAt; trivial
  | k :: l, i, h => by
    unfold KdsAt
    refine ⟨h 0 k rfl, kdsAt_of fun j k' hk => ?_⟩
    have := h (j + 1) k' (by simpa using hk)
    rw [show i + (j + 1) = i + 1 + j from by omega] at this
    exact this

/-- One of each, in a list. -/
theorem list_of {α : Type} {P : Nat → α → Prop} : ∀ (n : Nat), (∀ i, i < n → ∃ x, P i x) → ∃ l : List α, l.length = n ∧ ∀ i x, l[i]? = some x → P i x
  | 0, _ => ⟨[], rfl, fun i x h => by simp at h⟩
  | n + 1, h => by
    obtain ⟨l, hl, hP⟩ := list_of n (fun i hi => h i (by omega))
    obtain ⟨x, hx⟩ := h n (by omega)
    refine ⟨l ++ [x], by simp [hl], fun i y hy => ?_⟩
    rcases Nat.lt_or_ge i n with hi | hi
    · rw [List.getElem?_append_left (by omega)] at hy; exact hP i y hy
    · rw [List.getElem?_append_right (by omega)] at hy
      have : i - l.length = 0 := by
        rcases Nat.eq_zero_or_pos (i - l.length) with e | e
        · exact e
        · rw [List.getElem?_eq_none (by simp; omega)] at hy; cases hy
      rw [this] at hy
      simp at hy
      subst hy
      obtain rfl : i = n := by omega
      exact hx
theorem cells_two {w : World} {base : Nat} {a : Addr} {cs : List Value} (h : w.cells? base a 2 = some cs) : ∃ b off c0 c1, a = ⟨b, off, none⟩ ∧ cs = [c0, c1] ∧ w.cell? ⟨b, off, none⟩ = some c0 ∧ w.cell? ⟨b, off + 1, none⟩ = some c1 := by
  unfold World.cells? at h
  split at h
  · simp only [List.range_succ, List.range_zero, List.nil_append, List.cons_append, List.mapM_cons, List.mapM_nil] at h
    cases h0 : w.cell? (a.add 0) with
    | none => simp [h0] at h
    | some c0 =>
      cases h1 : w.cell? (a.add 1) with
      | none => simp [h0, h1] at h
      | some c1 =>
        simp [h0, h1] at h
        obtain ⟨b, off, sp⟩ := a
        cases sp with
        | some s =>
          simp [Addr.add, World.cell?] at h0
          split at h0 <;> cases h0
        | none => exact ⟨b, off, c0, c1, rfl, h.symm, by simpa [Addr.add] using h0, by simpa [Addr.add] using h1⟩
  · cases h
theorem cells_three {w : World} {base : Nat} {a : Addr} {cs : List Value} (h : w.cells? base a 3 = some cs) : ∃ b off c0 c1 c2, a = ⟨b, off, none⟩ ∧ cs = [c0, c1, c2] ∧ w.cell? ⟨b, off, none⟩ = some c0 ∧ w.cell? ⟨b, off + 1, none⟩ = some c1 ∧ w.cell? ⟨b, off + 2, none⟩ = some c2 := by
  unfold World.cells? at h
  split at h
  · simp only [List.range_succ, List.range_zero, List.nil_append, List.cons_append, List.mapM_cons, List.mapM_nil] at h
    cases h0 : w.cell? (a.add 0) with
    | none => simp [h0] at h
    | some c0 =>
      cases h1 : w.cell? (a.add 1) with
      | none => simp [h0, h1] at h
      | some c1 =>
        cases h2 : w.cell? (a.add 2) with
        | none => simp [h0, h1, h2] at h
        | some c2 =>
          simp [h0, h1, h2] at h
          obtain ⟨b, off, sp⟩ := a
          cases sp with
          | some s =>
            simp [Addr.add, World.cell?] at h0
            split at h0 <;> cases h0
          | none => exact ⟨b, off, c0, c1, c2, rfl, h.symm, by simpa [Addr.add] using h0, by simpa [Addr.add] using h1, by simpa [Addr.add] using h2⟩
  · cases h

end Go.Proofs.YtnoecobddhmhlaaGreatDoor

namespace Go.Proofs.YtnoecobddhmhlaaGreatDoor
open Go.RowKit Go.Shelf

attribute [local go_sem] Oper.semAt_some

theorem four_blocks (W : World) (o0 o1 o2 o3 : Obj) : ((((W.alloc o0).alloc o1).alloc o2).alloc o3).heap[W.heap.size]? = some o0 ∧ ((((W.alloc o0).alloc o1).alloc o2).alloc o3).heap[W.heap.size + 1]? = some o1 ∧ ((((W.alloc o0).alloc o1).alloc o2).alloc o3).heap[W.heap.size + 1 + 1]? = some o2 ∧ ((((W.alloc o0).alloc o1).alloc o2).alloc o3).heap[W.heap.size + 1 + 1 + 1]? = some o3 ∧ ((((W.alloc o0).alloc o1).alloc o2).alloc o3).heap.size = W.heap.size + 4 ∧ Below W.heap.size W ((((W.alloc o0).alloc o1).alloc o2).alloc o3) := by
  obtain ⟨h1, h2, h3, h4, h5⟩ := three_blocks (W.alloc o0) o1 o2 o3
  have s0 : (W.alloc o0).heap.size = W.heap.size + 1 := World.size_alloc W o0
  rw [s0] at h1 h2 h3 h4
  have n0 := World.alloc_heap_new W o0
  refine ⟨(h5.block _ (by rw [s0]; omega)).trans n0, h1, h2, h3, h4, ?_⟩
  exact ((Below.refl W.heap.size W).alloc (Nat.le_refl _) _).trans (h5.mono (by rw [s0]; omega))
theorem below_oth {A C : World} (h : Below A.heap.size A C) : KeepsOthers A C := ⟨h.size, fun l _ ho _ => (h.block l (Array.getElem?_eq_some_iff.1 ho).1).trans ho⟩
theorem bel_blk {A C : World} (h : Below A.heap.size A C) {k : Nat} {o : Obj} (ho : A.heap[k]? = some o) : C.heap[k]? = some o := (h.block k (Array.getElem?_eq_some_iff.1 ho).1).trans ho
/-- As far as looked all steps are well. -/
def OkS (l : List Bs) : Prop := ∀ rest, okSts 0 (l ++ rest) = okSts l.length rest
theorem OkS.nil : OkS [] := fun _ => rfl
theorem OkS.snoc {l : List Bs} {x : Bs} (h : OkS l) (h1 : l.length + 1 ≤ 5) (h2 : isStM x = true) : OkS (l ++ [x]) := fun rest => by
  rw [List.append_assoc, h, List.singleton_append, okSts, h2, decide_eq_true h1, List.length_append, List.length_singleton]
  simp only [Bool.true_and]
theorem OkS.bad {l : List Bs} {x : Bs} (h : OkS l) (hb : ¬ l.length + 1 ≤ 5 ∨ isStM x = false) (rest : List Bs) : okSts 0 (l ++ [x] ++ rest) = false := by
  rw [List.append_assoc, h, List.singleton_append, okSts]
  rcases hb with hb | hb
  · rw [decide_eq_false hb]; simp
  · rw [hb]; simp
theorem stepsM_count : ∀ (f : Nat) (s : Bs), (stepsM f s).length ≤ f
  | 0, _ => Nat.le_refl _
  | f + 1, s => by
    rw [stepsM]
    obtain ⟨a, k, b, hc⟩ : ∃ a k b, cutM s = (a, k, b) := ⟨_, _, _, rfl⟩
    rw [hc]
    cases k with
    | no => simp
    | right => have := stepsM_count f a; simp only [List.length_cons]; omega
    | below => have := stepsM_count f a; simp only [List.length_cons]; omega
theorem bad_end {W Z : World} {er : Value} (hr : Z.heap[W.heap.size]? = some (.cells #[.string ⟨#[]⟩] 69)) (hq : Z.heap[W.heap.size + 1]? = some (.cells #[.nilIface] 32)) (hb : Below W.heap.size W Z) :
    KeepsOthers Z ((Z.setCell ⟨W.heap.size, 0, none⟩ (.string ⟨#[]⟩)).setCell ⟨W.heap.size + 1, 0, none⟩ er).drew ∧ ((Z.setCell ⟨W.heap.size, 0, none⟩ (.string ⟨#[]⟩)).setCell ⟨W.heap.size + 1, 0, none⟩ er).drew.heap[W.heap.size]? = some (.cells #[.string ⟨#[]⟩] 69) ∧ ((Z.setCell ⟨W.heap.size, 0, none⟩ (.string ⟨#[]⟩)).setCell ⟨W.heap.size + 1, 0, none⟩ er).drew.heap[W.heap.size + 1]? = some (.cells #[er] 32) ∧ Below W.heap.size W ((Z.setCell ⟨W.heap.size, 0, none⟩ (.string ⟨#[]⟩)).setCell ⟨W.heap.size + 1, 0, none⟩ er).drew := by
  have hr1 := set_one hr (.string ⟨#[]⟩)
  have hq1 : (Z.setCell ⟨W.heap.size, 0, none⟩ (.string ⟨#[]⟩)).heap[W.heap.size + 1]? = some (.cells #[.nilIface] 32) := (Below.heap_setCell _ _ _ _ (by simp only; omega)).trans hq
  refine ⟨((KeepsOthers.setCell _ _ _).trans (KeepsOthers.setCell _ _ _)).trans (KeepsOthers.drew _), ?_, ?_, ?_⟩
  · exact (Below.heap_setCell _ _ _ _ (by simp only; omega)).trans hr1
  · exact set_one hq1 er
  · exact ((hb.setCell (p := ⟨W.heap.size, 0, none⟩) (Nat.le_refl _) _).setCell (p := ⟨W.heap.size + 1, 0, none⟩) (by simp only; omega) _).drew
set_option maxRecDepth 100000 in
set_option maxHeartbeats 8000000 in
theorem Read_sel (s : Bs) (hs : s.length ≤ 1000000) (W : World) (ea : Addr) (rv : Array Value) (hv1 : isSelM s = true → rv = #[.agg #[bV s], .nilIface]) (hv2 : isSelM s = false → rv = #[.agg #[.string ⟨#[]⟩], .iface 245 (.pointer (some ea))]) (hE : W.cell? ⟨8, 0, none⟩ = some (.iface 245 (.pointer (some ea)))) :
    CallsIn Fence.wide 9 Tryz.prog 27 #[bV s] W fun e w' => e = .returned (.tuple rv) ∧ Below W.heap.size W w' := by
  obtain ⟨hR0, hQ0, hC0, hB0, hsz0, b0⟩ := four_blocks W (.cells #[.string ⟨#[]⟩] 69) (.cells #[.nilIface] 32) (.cells #[.int .i64 0] 3) (.cells #[bV s] 9)
  have hg := cell_lt3 hE
  simp only at hg
  refine callsIn_of_wp_marks Tryz.func27 rfl trivial ?_ rfl
  simp only [Tryz.ntmps27, List.size_toArray, List.length_cons, List.length_nil, Nat.reduceAdd, Nat.reduceSub, Array.replicate_succ, Array.replicate_zero, List.push_toArray, List.append_toArray, List.nil_append, List.cons_append]
  gi_wp2_with (refine ⟨trivial, ?_⟩; gi_at_call 78; refine (callsIn_wide.2 (stepsOf_any s _)).mono ?_; rintro e w1 ⟨rfl, h1⟩; rw [h1]; clear h1)
  obtain ⟨U, hU⟩ : ∃ U, ((((W.alloc (.cells #[.string ⟨#[]⟩] 69)).alloc (.cells #[.nilIface] 32)).alloc (.cells #[.int .i64 0] 3)).alloc (.cells #[bV s] 9)) = U := ⟨_, rfl⟩
  rw [hU] at b0 hR0 hQ0 hC0 hB0 hsz0 ⊢
  clear hU
  refine wpIn_rangeFunc_ownF rfl (by omega) (gf := 118) (lb := #[.pointer (some ⟨W.heap.size + 1 + 1 + 1, 0, none⟩)]) rfl trivial (enters_of Tryz.func118 (by kernel_rfl) rfl)
    (encs := fun x : StB => #[bV x.1]) (Kp := KpB (W.heap.size + 1 + 1 + 1)) (S := fun xs => stL xs = stsOf s) (Sp := fun p => stL p <+: stsOf s) (N := (stsOf s).length) (w0 := U)
    (steps_seq s hs _ _ U hB0) KpB.trans (fun X l o o' hl h1 h2 h3 => KpB.put (w := U) (by omega) X l o o' hl h1 h2 h3) (Below.refl _ _) (fun _ => rfl)
    (fun pre X => X.heap[W.heap.size + 1 + 1]? = some (.cells #[.int .i64 (pre.length : Nat)] 3) ∧ X.heap[W.heap.size]? = some (.cells #[.string ⟨#[]⟩] 69) ∧ X.heap[W.heap.size + 1]? = some (.cells #[.nilIface] 32) ∧ Below W.heap.size W X ∧ OkS (stL pre) ∧ U.heap.size ≤ X.heap.size)
    (fun c pre X => c = .ret ∧ (∀ rest, okSts 0 (stL pre ++ rest) = false) ∧ X.heap[W.heap.size]? = some (.cells #[.string ⟨#[]⟩] 69) ∧ X.heap[W.heap.size + 1]? = some (.cells #[.iface 245 (.pointer (some ea))] 32) ∧ Below W.heap.size W X)
    (fun pre A C row hs hg hr => ⟨blk_own hs.1 (by omega) hg hr, blk_own hs.2.1 (by omega) hg hr, blk_own hs.2.2.1 (by omega) hg hr, bel_own hs.2.2.2.1 (by omega) hg hr, hs.2.2.2.2.1, Nat.le_trans hs.2.2.2.2.2 hg.size⟩)
    (fun c pre A C row hs hg hr => ⟨hs.1, hs.2.1, blk_own hs.2.2.1 (by omega) hg hr, blk_own hs.2.2.2.1 (by omega) hg hr, bel_own hs.2.2.2.2 (by omega) hg hr⟩)
    ⟨hC0, hR0, hQ0, b0, OkS.nil, Nat.le_refl _⟩
    (fun x => { tmps := #[bV s, undef, .pointer (some ⟨W.heap.size, 0, none⟩), .pointer (some ⟨W.heap.size + 1, 0, none⟩), .pointer (some ⟨W.heap.size + 1 + 1, 0, none⟩), bV x.1, bV s, .func (.func 118) #[] #[.pointer (some ⟨W.heap.size + 1 + 1 + 1, 0, none⟩)], bV x.1, undef, undef, undef, undef, undef, undef, undef, undef, undef, undef, undef, undef, undef], defers := [] })
    ?assign ?body ?done ?stop
  case assign =>
    intro l x X K hK
    gi_wp2
    exact hK
  case body =>
    rintro l pre x X ⟨hc, hr, hq, hb, hok, hu⟩ hlen
    obtain ⟨st, hnl⟩ := x
    have c1 := cell_one hc
    have f1 := froz_one hc
    have hcl : pre.length ≤ 1000001 := by
      have := stepsM_count (s.length + 1) s
      unfold stsOf at hlen
      omega
    have hpe : stL (pre ++ [⟨st, hnl⟩]) = stL pre ++ [st] := by simp
    have hpl : (stL pre).length = pre.length := List.length_map _
    have hpl2 : (pre ++ [(⟨st, hnl⟩ : StB)]).length = pre.length + 1 := by simp
    have IS := fun V => isStep_any st hnl V
    have HPL : Hid ((stL pre).length = pre.length) := hpl
    have HPL2 : Hid ((pre ++ [(⟨st, hnl⟩ : StB)]).length = pre.length + 1) := hpl2
    obtain ⟨c, hcn⟩ : ∃ c, pre.length = c := ⟨_, rfl⟩
    rw [hcn] at c1 hc hcl
    have HCN : Hid (pre.length = c) := hcn
    clear hcn hpl hpl2
    have hc1 := set_one hc (.int .i64 ((c : Int) + 1))
    have hr1 : (X.setCell ⟨W.heap.size + 1 + 1, 0, none⟩ (.int .i64 ((c : Int) + 1))).heap[W.heap.size]? = some (.cells #[.string ⟨#[]⟩] 69) := (Below.heap_setCell _ _ _ _ (by simp only; omega)).trans hr
    have hq1 : (X.setCell ⟨W.heap.size + 1 + 1, 0, none⟩ (.int .i64 ((c : Int) + 1))).heap[W.heap.size + 1]? = some (.cells #[.nilIface] 32) := (Below.heap_setCell _ _ _ _ (by simp only; omega)).trans hq
    have hb1 : Below W.heap.size W (X.setCell ⟨W.heap.size + 1 + 1, 0, none⟩ (.int .i64 ((c : Int) + 1))) := hb.setCell (by simp only; omega) _
    have hk1 : KpB (W.heap.size + 1 + 1 + 1) X (X.setCell ⟨W.heap.size + 1 + 1, 0, none⟩ (.int .i64 ((c : Int) + 1))) := Below.heap_setCell _ _ _ _ (by simp only; omega)
    have hz1 : X.heap.size ≤ (X.setCell ⟨W.heap.size + 1 + 1, 0, none⟩ (.int .i64 ((c : Int) + 1))).heap.size := ((Below.refl 0 X).setCell (Nat.zero_le _) _).size
    have ko1 := KeepsOthers.setCell X ⟨W.heap.size + 1 + 1, 0, none⟩ (.int .i64 ((c : Int) + 1))
    have c1' : (X.setCell ⟨W.heap.size + 1 + 1, 0, none⟩ (.int .i64 ((c : Int) + 1))).cell? ⟨W.heap.size + 1 + 1, 0, none⟩ = some (.int .i64 ((c : Int) + 1)) := cell_one hc1
    by_cases h5 : 5 < c + 1
    · have h5' : 5 < (c : Int) + 1 := by omega
      gi_wp2
      refine ⟨trivial, ?_⟩
      obtain ⟨X1, hX1⟩ : ∃ X1, X.setCell ⟨W.heap.size + 1 + 1, 0, none⟩ (.int .i64 ((c : Int) + 1)) = X1 := ⟨_, rfl⟩
      rw [hX1] at hc1 hr1 hq1 hb1 hk1 ko1 c1' ⊢
      clear hX1
      have cR := cell_one hr1
      have fR := froz_one hr1
      have cQ := cell_one hq1
      have fQ := froz_one hq1
      have cG := (hb1.cell hg).trans hE
      have neRQ : ¬ W.heap.size = W.heap.size + 1 := by omega
      have neQR : ¬ W.heap.size + 1 = W.heap.size := by omega
      gi_wp2
      have hbe := bad_end (er := .iface 245 (.pointer (some ea))) hr1 hq1 hb1
      gi_region
      all_goals gi_wp2
      all_goals exact ⟨ko1.trans hbe.1, rfl, fun rest => by rw [hpe]; exact hok.bad (.inl (by rw [HPL.out, HCN.out]; omega)) rest, hbe.2.1, hbe.2.2.1, hbe.2.2.2⟩
    · have h5' : ¬ 5 < (c : Int) + 1 := by omega
      cases hp : isStM st with
      | true =>
        rw [hp] at IS
        gi_wp2_with (refine ⟨trivial, ?_⟩; gi_at_call 79; refine (CallsIn.inRound l (callsIn_wide.2 (IS _))).mono ?_; rintro e w2 ⟨rfl, b2⟩)
        have hBx := bel_blk b2 hc1
        exact ⟨ko1.trans (below_oth b2), hk1.trans (b2.block _ (by omega)), by rw [HPL2.out, HCN.out]; exact hBx, bel_blk b2 hr1, bel_blk b2 hq1, hb1.trans (b2.mono hb1.size), by rw [hpe]; exact hok.snoc (by rw [HPL.out, HCN.out]; omega) hp, Nat.le_trans hu (Nat.le_trans hz1 b2.size)⟩
      | false =>
        rw [hp] at IS
        gi_wp2_with (refine ⟨trivial, ?_⟩; gi_at_call 79; refine (CallsIn.inRound l (callsIn_wide.2 (IS _))).mono ?_; rintro e w2 ⟨rfl, b2⟩; have cR := cell_one (bel_blk b2 hr1); have fR := froz_one (bel_blk b2 hr1); have cQ := cell_one (bel_blk b2 hq1); have fQ := froz_one (bel_blk b2 hq1); have cG := ((hb1.trans (b2.mono hb1.size)).cell hg).trans hE)
        have hbe := bad_end (er := .iface 245 (.pointer (some ea))) (bel_blk b2 hr1) (bel_blk b2 hq1) (hb1.trans (b2.mono hb1.size))
        gi_region
        all_goals gi_wp2
        all_goals exact ⟨(ko1.trans (below_oth b2)).trans hbe.1, rfl, fun rest => by rw [hpe]; exact hok.bad (.inr hp) rest, hbe.2.1, hbe.2.2.1, hbe.2.2.2⟩
  case done =>
    rintro D xs X hD hS ⟨hc, hr, hq, hb, hok, -⟩ hK
    have hv : isSelM s = true := by
      have h1 := hok []
      rw [hS, List.append_nil] at h1
      exact h1
    have hrv := hv1 hv
    clear hv1 hv2 hv
    subst hrv
    have c1 := cell_one hr
    have f1 := froz_one hr
    have c2 := cell_one hq
    have f2 := froz_one hq
    have neRQ : ¬ W.heap.size = W.heap.size + 1 := by omega
    have neQR : ¬ W.heap.size + 1 = W.heap.size := by omega
    gi_wp2
    have hK' := ((KeepsOthers.setCell X ⟨W.heap.size, 0, none⟩ (bV s)).trans (KeepsOthers.setCell _ ⟨W.heap.size + 1, 0, none⟩ .nilIface)).same D _ hK rfl
    refine ⟨by simp, .inl ⟨_, _, rfl, run_takeDeferred hK', ?_⟩⟩
    have hr1 := set_one hr (bV s)
    have hr2 : ((X.setCell ⟨W.heap.size, 0, none⟩ (bV s)).setCell ⟨W.heap.size + 1, 0, none⟩ .nilIface).heap[W.heap.size]? = some (.cells #[bV s] 69) := (Below.heap_setCell _ _ _ _ (by simp only; omega)).trans hr1
    have hq1 : (X.setCell ⟨W.heap.size, 0, none⟩ (bV s)).heap[W.heap.size + 1]? = some (.cells #[.nilIface] 32) := (Below.heap_setCell _ _ _ _ (by simp only; omega)).trans hq
    have hq2 := set_one hq1 .nilIface
    have oc := cell_one ((World.putObj_heap_other (w := (X.setCell ⟨W.heap.size, 0, none⟩ (bV s)).setCell ⟨W.heap.size + 1, 0, none⟩ .nilIface) (o := .deferred none) (show W.heap.size ≠ D by omega)).trans hr2)
    have oq := cell_one ((World.putObj_heap_other (w := (X.setCell ⟨W.heap.size, 0, none⟩ (bV s)).setCell ⟨W.heap.size + 1, 0, none⟩ .nilIface) (o := .deferred none) (show W.heap.size + 1 ≠ D by omega)).trans hq2)
    refine ⟨.tuple #[.agg #[bV s], .nilIface], ?_, rfl, ((hb.setCell (p := ⟨W.heap.size, 0, none⟩) (Nat.le_refl _) _).setCell (p := ⟨W.heap.size + 1, 0, none⟩) (by simp only; omega) _).trans (belowK_b (w := W) (Nat.le_refl _) _ D _ _ (by omega) hK' rfl rfl)⟩
    simp [results, Tryz.results27, go_sem, oc, oq]
  case stop =>
    rintro D c pre X hD hpre ⟨rfl, hbad, hr, hq, hb⟩ hK
    have hv : isSelM s = false := by
      obtain ⟨rest, hrest⟩ := hpre
      have h1 := hbad rest
      rw [hrest] at h1
      exact h1
    have hrv := hv2 hv
    clear hv1 hv2 hv
    subst hrv
    gi_wp2
    refine ⟨by simp, .inl ⟨_, _, rfl, run_takeDeferred hK, ?_⟩⟩
    have hr3 := (World.putObj_heap_other (w := X) (o := .deferred none) (show W.heap.size ≠ D by omega)).trans hr
    have hq3 := (World.putObj_heap_other (w := X) (o := .deferred none) (show W.heap.size + 1 ≠ D by omega)).trans hq
    have oc := cell_one hr3
    have oq := cell_one hq3
    refine ⟨.tuple #[.agg #[.string ⟨#[]⟩], .iface 245 (.pointer (some ea))], ?_, rfl, hb.trans (belowK_b (w := W) (Nat.le_refl _) X D _ _ (by omega) hK rfl rfl)⟩
    simp [results, Tryz.results27, go_sem, oc, oq]
theorem Read_any (s : Bs) (hs : s.length ≤ 1000000) (W : World) (ea : Addr) (hE : W.cell? ⟨8, 0, none⟩ = some (.iface 245 (.pointer (some ea)))) :
    Calls Tryz.prog 27 #[bV s] W fun e w' => e = .returned (.tuple (if isSelM s then #[.agg #[bV s], .nilIface] else #[.agg #[.string ⟨#[]⟩], .iface 245 (.pointer (some ea))])) ∧ Below W.heap.size W w' :=
  callsIn_wide.1 (Read_sel s hs W ea _ (fun h => by rw [h]; rfl) (fun h => by rw [h]; rfl) hE)

end Go.Proofs.YtnoecobddhmhlaaGreatDoor

namespace Go.Proofs.YtnoecobddhmhlaaGreatDoor
open Go.RowKit Go.Shelf

attribute [local go_sem] Oper.semAt_some

def wtS (l : List Bs) : Nat := (l.map fun t => wtPts (ptsOf t)).sum
theorem wtS_snoc (l : List Bs) (x : Bs) : wtS (l ++ [x]) = wtS l + wtPts (pts 0 x) := by
  unfold wtS
  rw [List.map_append, List.sum_append]
  simp [ptsOf, pts]
theorem wtPt_le (x : UInt8 × Bs) : wtPt x ≤ 100 := by
  unfold wtPt
  split
  · exact Nat.le_refl _
  · split
    · decide
    · split <;> decide
theorem wtPts_le : ∀ l : List (UInt8 × Bs), wtPts l ≤ 100 * l.length
  | [] => Nat.le_refl _
  | x :: l => by
    have h1 := wtPt_le x
    have h2 := wtPts_le l
    unfold wtPts at h2 ⊢
    rw [List.map_cons, List.sum_cons, List.length_cons]
    omega
theorem wtS_le : ∀ l : List Bs, (∀ x ∈ l, x.length ≤ 1000000) → wtS l ≤ 100000100 * l.length
  | [], _ => Nat.le_refl _
  | x :: l, h => by
    have h1 := wtPts_le (pts 0 x)
    have h2 := pts_len x.length 0 x (Nat.le_refl _)
    have h3 := h x (by simp)
    have h4 := wtS_le l (fun y hy => h y (by simp [hy]))
    unfold wtS at h4 ⊢
    rw [List.map_cons, List.sum_cons, List.length_cons, show ptsOf x = pts 0 x from rfl]
    omega
set_option maxRecDepth 100000 in
set_option maxHeartbeats 8000000 in
theorem Weight_in (s : Bs) (hs : s.length ≤ 1000000) (W : World) : CallsIn Fence.wide 12 Tryz.prog 30 #[.agg #[bV s]] W fun e w' => e = .returned (.int .i64 (wtM s : Nat)) ∧ Below W.heap.size W w' := by
  obtain ⟨hS0, hT0, hB0, hsz0, b0⟩ := three_blocks W (.cells #[bV s] 69) (.cells #[.int .i64 0] 3) (.cells #[bV s] 9)
  have hmx : Tryz.prog.follows .mixedOrders = true := by kernel_rfl
  refine callsIn_of_wp_marks Tryz.func30 rfl trivial ?_ rfl
  simp only [Tryz.ntmps30, List.size_toArray, List.length_cons, List.length_nil, Nat.reduceAdd, Nat.reduceSub, Array.replicate_succ, Array.replicate_zero, List.push_toArray, List.append_toArray, List.nil_append, List.cons_append]
  gi_wp2_with (refine ⟨trivial, ?_⟩; gi_at_call 78; refine (callsIn_wide.2 (stepsOf_any s _)).mono ?_; rintro e w1 ⟨rfl, h1⟩; rw [h1]; clear h1)
  obtain ⟨U, hU⟩ : ∃ U, (((W.alloc (.cells #[bV s] 69)).alloc (.cells #[.int .i64 0] 3)).alloc (.cells #[bV s] 9)) = U := ⟨_, rfl⟩
  rw [hU] at b0 hS0 hT0 hB0 hsz0 ⊢
  clear hU
  refine wpIn_rangeFunc_ownH rfl (by omega) (gf := 118) (lb := #[.pointer (some ⟨W.heap.size + 1 + 1, 0, none⟩)]) rfl trivial (enters_of Tryz.func118 (by kernel_rfl) rfl)
    (encs := fun x : StB => #[bV x.1]) (Kp := KpB (W.heap.size + 1 + 1)) (S := fun xs => stL xs = stsOf s) (Sp := fun p => stL p <+: stsOf s) (N := (stsOf s).length) (w0 := U)
    (steps_seq s hs _ _ U hB0) KpB.trans (fun X l o o' hl h1 h2 h3 => KpB.put (w := U) (by omega) X l o o' hl h1 h2 h3) (Below.refl _ _) (fun _ => rfl)
    (fun pre X => X.heap[W.heap.size + 1]? = some (.cells #[.int .i64 (wtS (stL pre) : Nat)] 3) ∧ Below W.heap.size W X ∧ U.heap.size ≤ X.heap.size)
    (fun _ _ _ => False)
    (fun pre A C row hs hg hr => ⟨blk_own hs.1 (by omega) hg hr, bel_own hs.2.1 (by omega) hg hr, Nat.le_trans hs.2.2 hg.size⟩)
    (fun _ _ _ _ _ h _ _ => h)
    ⟨hT0, b0, Nat.le_refl _⟩
    (fun x a' _ => a' = { tmps := #[.agg #[bV s], .pointer (some ⟨W.heap.size, 0, none⟩), .int .i64 0, .pointer (some ⟨W.heap.size + 1, 0, none⟩), bV x.1, undef, undef, .pointer (some ⟨W.heap.size, 0, none⟩), bV s, .func (.func 118) #[] #[.pointer (some ⟨W.heap.size + 1 + 1, 0, none⟩)], bV x.1, undef, undef, undef, undef, undef, undef, undef, undef, undef, undef], defers := [] })
    (fun _ _ _ _ _ _ h _ _ => h)
    ?assign ?body ?done ?stop
  case assign =>
    intro l pre x X K hI hK
    gi_wp2
    exact hK _ _ (KeepsFrom.refl _ _) rfl hI rfl
  case body =>
    rintro l pre x a' X hl ⟨r₀, hl₀⟩ ⟨hT, hb, hu⟩ rfl hlen
    obtain ⟨st, hnl⟩ := x
    gi_wp2_with (refine ⟨trivial, ?_⟩; gi_at_call 82; refine (CallsIn.inRound l (callsIn_wide.2 (partsOf_any st _))).mono ?_; rintro e w2 ⟨rfl, h⟩; rw [h]; clear h)
    have hB2 := World.alloc_heap_new X (.cells #[bV st] 9)
    have hT2 : (X.alloc (.cells #[bV st] 9)).heap[W.heap.size + 1]? = some (.cells #[.int .i64 (wtS (stL pre) : Nat)] 3) := (Below.heap_alloc _ _ _ (by omega)).trans hT
    have hl2 : (X.alloc (.cells #[bV st] 9)).heap[l]? = some (.loop r₀) := (Below.heap_alloc _ _ _ (by have := (Array.getElem?_eq_some_iff.1 hl₀).1; omega)).trans hl₀
    have hb2 : Below W.heap.size W (X.alloc (.cells #[bV st] 9)) := hb.alloc hb.size _
    have hk2 : KpB (W.heap.size + 1 + 1) X (X.alloc (.cells #[bV st] 9)) := Below.heap_alloc _ _ _ (by omega)
    have kf2 : KeepsFrom U.heap.size X (X.alloc (.cells #[bV st] 9)) := (KeepsOthers.alloc _ _).from _
    have hz2 : (X.alloc (.cells #[bV st] 9)).heap.size = X.heap.size + 1 := World.size_alloc _ _
    obtain ⟨X2, hX2⟩ : ∃ X2, X.alloc (.cells #[bV st] 9) = X2 := ⟨_, rfl⟩
    rw [hX2] at hB2 hT2 hl2 hb2 hk2 kf2 hz2 ⊢
    clear hX2
    have hwl := wtS_le (stL pre) (fun y hy => by obtain ⟨z, -, rfl⟩ := List.mem_map.1 hy; exact z.2)
    rw [List.length_map] at hwl
    have hpc : pre.length ≤ 1000001 := by
      have := stepsM_count (s.length + 1) s
      unfold stsOf at hlen
      omega
    have HWS : Hid (wtS (stL pre ++ [st]) = wtS (stL pre) + wtPts (pts 0 st)) := wtS_snoc _ _
    obtain ⟨a0, ha0⟩ : ∃ a0, wtS (stL pre) = a0 := ⟨_, rfl⟩
    rw [ha0] at hT2 hwl HWS
    clear ha0 hT
    refine wpIn_rangeFunc_ownN (l₀ := l) (r₀ := r₀) rfl hl2 (by omega) (gf := 120) (lb := #[.pointer (some ⟨X.heap.size, 0, none⟩)]) rfl trivial (enters_of Tryz.func120 (by kernel_rfl) rfl)
      (encs := ptV) (Kp := KpB X.heap.size) (S := fun xs => ptL xs = pts 0 st) (Sp := fun p => ptL p <+: pts 0 st) (N := (pts 0 st).length) (w0 := X2)
      (SeqStopsK.inRound l (parts_seq st hnl _ _ X2 hB2)) KpB.trans (fun Y l o o' hl h1 h2 h3 => KpB.put (w := X2) (by omega) Y l o o' hl h1 h2 h3) (Below.refl _ _) (fun _ => rfl)
      (fun pre' Y => Y.heap[W.heap.size + 1]? = some (.cells #[.int .i64 (a0 + wtPts (ptL pre') : Nat)] 3) ∧ Below W.heap.size W Y ∧ KeepsFrom U.heap.size X Y ∧ KpB (W.heap.size + 1 + 1) X Y ∧ X2.heap.size ≤ Y.heap.size)
      (fun _ _ _ => False)
      (fun pre' A C row hs hg hr => ⟨blk_own hs.1 (by omega) hg hr, bel_own hs.2.1 (by omega) hg hr, ownFrom_keepsFrom (β := Unit) (w₀ := X) (B' := X2.heap.size) (by omega) () A C row hs.2.2.1 hg hr, hs.2.2.2.1.trans (hg.block _ (by omega) (fun e => by have := (hr _ e.symm).1; omega)), Nat.le_trans hs.2.2.2.2 hg.size⟩)
      (fun _ _ _ _ _ h _ _ => h)
      ⟨hT2, hb2, kf2, hk2, Nat.le_refl _⟩
      (fun y a' _ => a' = { tmps := #[.agg #[bV s], .pointer (some ⟨W.heap.size, 0, none⟩), .int .i64 0, .pointer (some ⟨W.heap.size + 1, 0, none⟩), bV st, .int .u8 y.1.1.toNat, bV y.1.2, .pointer (some ⟨W.heap.size, 0, none⟩), bV s, .func (.func 118) #[] #[.pointer (some ⟨W.heap.size + 1 + 1, 0, none⟩)], bV st, bV st, .func (.func 120) #[] #[.pointer (some ⟨X.heap.size, 0, none⟩)], .int .u8 y.1.1.toNat, bV y.1.2, undef, undef, undef, undef, undef, undef], defers := [] })
      (fun _ _ _ _ _ _ h _ _ => h)
      ?assign2 ?body2 ?done2 ?stop2
    case assign2 =>
      intro l2 pre' y Y K hI hK
      gi_wp2
      exact hK _ _ (KeepsFrom.refl _ _) rfl hI rfl
    case body2 =>
      rintro l2 pre' y a' Y hl2 - ⟨hT3, hb3, kf3, hk3, hz3⟩ rfl hlen2
      obtain ⟨⟨k, nm⟩, hnm⟩ := y
      have c1 := cell_one hT3
      have f1 := froz_one hT3
      have WO := fun V => weightOf_any k nm V
      have hp1 := wtPts_le (ptL pre')
      have hp2 := pts_len st.length 0 st (Nat.le_refl _)
      have hp3 := wtPt_le (k, nm)
      rw [List.length_map] at hp1
      have hpe : ptL (pre' ++ [⟨(k, nm), hnm⟩]) = ptL pre' ++ [(k, nm)] := by simp
      have HV : Hid (a0 + wtPts (ptL (pre' ++ [⟨(k, nm), hnm⟩])) = (a0 + wtPts (ptL pre')) + wtPt (k, nm)) := (by
        rw [hpe, wtPts_app]
        simp [wtPts]
        omega : a0 + wtPts (ptL (pre' ++ [⟨(k, nm), hnm⟩])) = (a0 + wtPts (ptL pre')) + wtPt (k, nm))
      have hbc : a0 + wtPts (ptL pre') ≤ 1000000000000000 := by omega
      obtain ⟨c, hc⟩ : ∃ c, a0 + wtPts (ptL pre') = c := ⟨_, rfl⟩
      obtain ⟨wk, hwk⟩ : ∃ wk, wtPt (k, nm) = wk := ⟨_, rfl⟩
      rw [hc] at c1 hT3 HV hbc
      rw [hwk] at WO hp3 HV
      clear hc hwk hpe hp1 hp2
      have hwr : IntKind.i64.wrap ((c : Int) + (wk : Int)) = ((c + wk : Nat) : Int) := by
        rw [IntWalk.i64_in _ (by omega)]
        omega
      have h4 := set_one hT3 (.int .i64 ((c : Int) + (wk : Int)))
      have HT4 : Hid ((Y.setCell ⟨W.heap.size + 1, 0, none⟩ (.int .i64 ((c : Int) + (wk : Int)))).drew.heap[W.heap.size + 1]? = some (.cells #[.int .i64 ((c : Int) + (wk : Int))] 3)) := h4
      have hb4 := (hb3.setCell (p := ⟨W.heap.size + 1, 0, none⟩) (by simp only; omega) (.int .i64 ((c : Int) + (wk : Int)))).drew
      have ko4 := (KeepsOthers.setCell Y ⟨W.heap.size + 1, 0, none⟩ (.int .i64 ((c : Int) + (wk : Int)))).trans (KeepsOthers.drew _)
      have hk4 : KpB X.heap.size Y (Y.setCell ⟨W.heap.size + 1, 0, none⟩ (.int .i64 ((c : Int) + (wk : Int)))).drew := Below.heap_setCell Y ⟨W.heap.size + 1, 0, none⟩ _ X.heap.size (by simp only; omega)
      have hk5 : KpB (W.heap.size + 1 + 1) Y (Y.setCell ⟨W.heap.size + 1, 0, none⟩ (.int .i64 ((c : Int) + (wk : Int)))).drew := Below.heap_setCell Y ⟨W.heap.size + 1, 0, none⟩ _ (W.heap.size + 1 + 1) (by simp only; omega)
      clear h4
      gi_wp2
      gi_region_with_o ((refine ⟨trivial, ?_⟩; gi_at_call 83; refine (CallsIn.inRound l2 (CallsIn.inRound l (callsIn_wide.2 (WO _)))).mono ?_; rintro e w3 ⟨rfl, h⟩; rw [h]; clear h))
      all_goals gi_wp2
      all_goals exact ⟨ko4.from _, hk4, by rw [HV.out, Int.natCast_add]; exact HT4.out, hb4, kf3.trans (ko4.from _), hk3.trans hk5, Nat.le_trans hz3 ko4.size⟩
    case done2 =>
      rintro xs Y hS ⟨hT3, hb3, kf3, hk3, hz3⟩
      rw [hS] at hT3
      have hpe : stL (pre ++ [⟨st, hnl⟩]) = stL pre ++ [st] := by simp
      gi_wp2
      exact ⟨kf3, hk3, by rw [hpe, HWS.out]; exact hT3, hb3, by omega⟩
    case stop2 =>
      rintro c pre' Y - h
      exact h.elim
  case done =>
    rintro D xs X hD hS ⟨hT, hb, -⟩ hK
    rw [hS] at hT
    have c1 := cell_one hT
    gi_wp2
    refine ⟨by simp, .inl ⟨_, _, rfl, run_takeDeferred hK, ?_⟩⟩
    refine ⟨.int .i64 (wtS (stsOf s) : Nat), ?_, rfl, hb.trans (belowK_b (w := W) (Nat.le_refl _) X D _ _ (by omega) hK rfl rfl)⟩
    simp [results, Tryz.results30, go_sem]
  case stop =>
    rintro D c pre X - - h -
    exact h.elim
theorem Weight_any (s : Bs) (hs : s.length ≤ 1000000) (W : World) : Calls Tryz.prog 30 #[.agg #[bV s]] W fun e w' => e = .returned (.int .i64 (wtM s : Nat)) ∧ Below W.heap.size W w' := callsIn_wide.1 (Weight_in s hs W)

end Go.Proofs.YtnoecobddhmhlaaGreatDoor

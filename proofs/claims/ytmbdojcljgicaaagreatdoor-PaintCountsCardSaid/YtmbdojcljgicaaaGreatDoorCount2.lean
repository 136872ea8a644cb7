/-
  Package paint: Count and Same.
-/
import Derived.Test.YtmbdojcljgicaaaGreatDoorCount1
import Derived.Test.YtmbdojcljgicaaaGreatDoorShelfQ
namespace Go.Proofs.YtmbdojcljgicaaaGreatDoor
open Go.RowKit Go.Maps Go.Sort Go.WideMaps

abbrev tl (l : List ByteArray) : List By := l.map fun s => s.data.toList
theorem tl_take (l : List ByteArray) (k : Nat) {s : ByteArray} (h : l[k]? = some s) : tl (l.take (k + 1)) = tl (l.take k) ++ [s.data.toList] := by
  rw [List.take_add_one, h]
  simp [tl]
/-- names as texts -/
abbrev nmB (N : List By) : List ByteArray := N.map fun s => ⟨s.toArray⟩
theorem nm_enc (N : List By) : N.map encStr = (nmB N).map .string := by simp [nmB, encStr]
theorem infoInt : (Tryz.prog.info? 3).map (fun i => (i.zero, i.size, i.bytes)) = some (some (.int .i64 0), 1, 8) := by kernel_rfl
abbrev cntV (T : List By) (N : List By) : List Value := N.map fun s => .int .i64 (T.count s : Nat)
theorem int_one (l : List Value) (h : ∀ v ∈ l, ∃ k, v = .int .i64 k) : ∀ v ∈ l, v.oneCell' = true := fun v hv => by
  obtain ⟨k, rfl⟩ := h v hv
  rfl
set_option maxRecDepth 20000 in
set_option maxHeartbeats 8000000 in
theorem Count_any (l : List ByteArray) (o : Option Addr) (cap : Nat) (n h : Int) (w : World) (hl : l.length ≤ 1000) (hs : ∀ s ∈ l, s.size ≤ 60) (hT : TxAt w o l) :
    Calls Tryz.prog 8 #[.agg #[.int .i64 n, .int .i64 h, .slice o l.length cap]] w fun e W => ∃ N v1 v2, e = .returned (.tuple #[v1, v2]) ∧ NamesOf (tl l) N ∧ W.ownsRow w.heap.size 9 1 v1 N.length (N.map encStr) ∧ W.ownsRow w.heap.size 3 1 v2 N.length (cntV (tl l) N) ∧ Below w.heap.size w W := by
  have hmm := @run_makeMap Tryz.prog
  have b0 := mbelow w (.cells #[.int .i64 n, .int .i64 h, .slice o l.length cap] 27)
  have r0 := World.alloc_heap_new w (.cells #[.int .i64 n, .int .i64 h, .slice o l.length cap] 27)
  go_enter Tryz.func8, Tryz.ntmps8
  go_upto_region 1 with fail
  obtain ⟨U, hU⟩ : ∃ U, w.alloc (.cells #[.int .i64 n, .int .i64 h, .slice o l.length cap] 27) = U := ⟨_, rfl⟩
  rw [hU] at b0 r0 ⊢
  clear hU
  have hwU : w.heap.size < U.heap.size := (Array.getElem?_eq_some_iff.1 r0).1
  have b1 := mbelow U (.map #[] 0)
  have hM := CMap.made U
  go_upto_region 2 with fail
  obtain ⟨V, hV⟩ : ∃ V, U.alloc (.map #[] 0) = V := ⟨_, rfl⟩
  obtain ⟨B, hB⟩ : ∃ B, U.heap.size = B := ⟨_, rfl⟩
  rw [hV] at b1 hM ⊢
  have r1 := (b1.block _ hwU).trans r0
  have bB : Below B U V := by rw [← hB]; exact b1
  rw [hB] at hM hwU ⊢
  have HB : Hid (U.heap.size = B) := hB
  clear hV hB b1
  obtain ⟨p0, p1, p2, -, -, -⟩ := Blk3.of r1
  have hTU := hT.below b0
  go_wp2_with fail
  clear p0 p1 p2
  go_loopw [13] (fun i wr => ∃ k : Nat, k ≤ l.length ∧ i = .int .i64 k ∧ CMap wr B k (tl (l.take k)) ∧ Below B U wr) (fun i _ => l.length - (intOf i).toNat)
  case atStart => exact ⟨0, Nat.zero_le _, rfl, hM, bB⟩
  case round =>
    obtain ⟨k, hk, rfl, hm, hb⟩ := hrel
    have hbU : Below U.heap.size U wr := by rw [HB.out]; exact hb
    by_cases hlt : k < l.length
    · have hlt' : (k : Int) < (l.length : Int) := by omega
      obtain ⟨s, hsk⟩ : ∃ s, l[k]? = some s := ⟨_, List.getElem?_eq_getElem hlt⟩
      obtain ⟨b, off, rfl, c0⟩ := hTU.below hbU k s hsk
      have hsz : s.size ≤ maxLen := by have := hs s (List.mem_of_getElem? hsk); simp only [maxLen]; omega
      have hget := hm.get hsz
      have hkey := keyOf_string_mk (P := Tryz.prog) Tryz.underlying9 hsz
      obtain ⟨D, hD, hD2⟩ := hm
      have hcl : (tl (l.take k)).count s.data.toList ≤ 1000 := Nat.le_trans List.count_le_length (by simp [tl]; omega)
      have HT : Hid (tl (l.take (k + 1)) = tl (l.take k) ++ [s.data.toList]) := tl_take l k hsk
      clear hsk
      obtain ⟨cn, hcn⟩ : ∃ cn, (tl (l.take k)).count s.data.toList = cn := ⟨_, rfl⟩
      rw [hcn] at hget hcl
      have HC : Hid ((tl (l.take k)).count s.data.toList = cn) := hcn
      clear hcn
      go_wp2_with (first | (at_mapUpdate; refine wpList_mapUpdate_own _ rfl _ _ _ 53 rfl 9 3 strKeyed Tryz.underlying53 _ B k _ rfl hD (by simp only [maxLen]; omega) _ _ _ rfl rfl hkey (.lit (.int .i64 ((cn : Int) + 1))) [] (plainElem_int Tryz.underlying3 (by simp [Lit.wf, IntKind.min, IntKind.max, IntKind.signed, IntKind.bits]; omega)) ?_; intro w1 hown1 hgrow1) | go_in)
      have hC2 : CMap w1 B (k + 1) (tl (l.take (k + 1))) := by
        rw [HT.out]
        refine CMap.step hD hD2 ?_
        rw [HC.out]
        exact hown1
      have hb2 : Below B U w1 := hb.grown hgrow1 (by have := hD.lt; omega) (fun r e => by cases e; exact Nat.le_refl _)
      clear hown1 hgrow1 hD hD2 hget hkey
      go_wp2_with fail
      go_roundw
      case rel => exact ⟨k + 1, by omega, by go_num, hC2, hb2⟩
      case measure => simp [intOf]; omega
    · obtain rfl : k = l.length := by omega
      rw [List.take_length] at hm
      obtain ⟨D, hD, hD2⟩ := hm
      have hsz := hD.size_le
      have KY := callsIn_wide.1 (Tryz.maps_Keys_q (some B) wr)
      have SO := callsIn_wide.1 (Tryz.slices_Sorted_q B l.length D _ wr hD (by simp only [maxLen]; omega) (by omega))
      have hperm := CMap.keys hD hD2
      have bK := mbelow wr (.cells #[.map (some B)] 53)
      have HD2 : Hid (∀ s, Maps.has D (.string s) = decide (s ∈ tl l) ∧ D.atKey (.string s) (.lit (.int .i64 0)) = .lit (.int .i64 ((tl l).count s : Nat))) := hD2
      clear hD2
      go_upto_region 8 with (first | (go_at_call 17; refine SO.mono ?_; rintro e w3 ⟨v1, ss, rfl, hS, hrow, -, b3⟩) | (go_at_call 18; refine KY.mono ?_; rintro e w2 ⟨rfl, rfl⟩))
      clear KY SO
      have b23 := bel_more bK b3
      have bw3 := bel_more b0 (bel_more hbU b23)
      have hN : NamesOf (tl l) (ss.mergeSort leB) := names_sorted (hS.trans hperm.symm)
      have hNl : (ss.mergeSort leB).length = ss.length := List.length_mergeSort ss
      have hrow2 : w3.ownsRow (wr.heap.size + 1) 9 1 v1 (ss.mergeSort leB).length ((ss.mergeSort leB).map encStr) := by
        rw [hNl]
        have : (wr.alloc (.cells #[.map (some B)] 53)).heap.size = wr.heap.size + 1 := by simp
        rw [this] at hrow
        exact hrow
      clear hrow hS hNl
      generalize ss.mergeSort leB = N at hN hrow2
      have hM3 : CMap w3 B l.length (tl l) := CMap.below ⟨D, hD, HD2.out⟩ b23
      clear hD HD2 hperm hsz
      have hNle : N.length ≤ 1000 := by
        have h1 := hN.perm.length_eq
        have h2 : (ded (tl l)).length ≤ (tl l).length := (ded_nodup (tl l)).length_le_of_subset (fun x hx => (ded_mem (tl l) x).1 hx)
        have h3 : (tl l).length = l.length := List.length_map _
        omega
      have hNs : ∀ s ∈ N, s.length ≤ 60 := fun s hs' => by
        obtain ⟨c, hc, rfl⟩ := List.mem_map.1 (hN.mem hs')
        exact hs c hc
      have hw3 := own_base hrow2 (show w.heap.size ≤ wr.heap.size + 1 by have := b0.size; have := hbU.size; omega)
      rw [nm_enc] at hrow2
      obtain ⟨o1, c1, rfl, -, -, hT1⟩ := TxAt.own hrow2
      have hnl : (nmB N).length = N.length := by simp [nmB]
      have HNL : Hid ((nmB N).length = N.length) := hnl
      rw [hnl] at hw3 ⊢
      clear hnl hrow2
      obtain ⟨i0, hi, hz0, hz1, hz2⟩ := info_parts infoInt
      go_wp2_with fail
      go_loopw [3, 27] (fun v i wr' => ∃ k : Nat, k ≤ N.length ∧ i = .int .i64 k ∧ wr'.ownsRow w3.heap.size 3 1 v k (cntV (tl l) (N.take k)) ∧ Below w3.heap.size w3 wr') (fun _ i _ => N.length - (intOf i).toNat)
      case atStart => exact ⟨0, Nat.zero_le _, rfl, World.ownsRow_nil _ _ _ _, Below.refl _ _⟩
      case round =>
        obtain ⟨k, hk, rfl, hown, hb'⟩ := hrel
        by_cases hlt : k < N.length
        · have hlt' : (k : Int) < (N.length : Int) := by omega
          obtain ⟨s, hsk⟩ : ∃ s, N[k]? = some s := ⟨_, List.getElem?_eq_getElem hlt⟩
          obtain ⟨b, off, rfl, c0⟩ := hT1.below hb' k ⟨s.toArray⟩ (by rw [nmB, List.getElem?_map, hsk]; rfl)
          have hsl := hNs s (List.mem_of_getElem? hsk)
          have hget0 := (hM3.below hb').get (s := ⟨s.toArray⟩) (by show s.toArray.size ≤ maxLen; simp only [List.size_toArray, maxLen]; omega)
          have hget : (Instr.lookup 53 (.map (some B)) (.string ⟨s.toArray⟩) false).run Tryz.prog wr = .ok (.int .i64 ((tl l).count s : Nat)) wr := hget0
          clear hget0
          have htk : cntV (tl l) (N.take (k + 1)) = cntV (tl l) (N.take k) ++ [.int .i64 ((tl l).count s : Nat)] := by rw [cntV, List.take_add_one, hsk]; simp
          have HTK : Hid (cntV (tl l) (N.take (k + 1)) = cntV (tl l) (N.take k) ++ [.int .i64 ((tl l).count s : Nat)]) := htk
          have HOW : Hid (wr.ownsRow w3.heap.size 3 1 u3 k (cntV (tl l) (N.take k))) := hown
          have hs90 := hb'.size
          generalize hcn : (tl l).count s = cn at hget HTK
          have H0 := World.alloc_heap_new wr (.cells #[.int .i64 (cn : Int)] 3)
          clear hsk htk hcn
          go_wp2_with (at_builtin; refine wpList_append_own _ rfl _ _ 34 rfl w3.heap.size 3 i0 (.int .i64 0) 1 8 Tryz.underlying34 hi hz0 hz1 hz2 rfl (by decide) _ _ _ rfl (World.ownsRow.alloc HOW.out _) ⟨wr.heap.size, 0, none⟩ 1 1 [.int .i64 (cn : Int)] rfl rfl (World.news_of_block H0) (fun u hu => by simp at hu; subst hu; rfl) (by simp only [maxLen]; omega) (by omega) (by simp; omega) ?_; intro v7 w7 ow7 gr7 _)
          go_roundw
          case rel =>
            refine ⟨k + 1, by omega, by go_num, by rw [HTK.out]; exact ow7, (hb'.alloc hs90 _).grown gr7 (by simp; omega) (fun r e => (HOW.out.lt r e).1)⟩
          case measure => simp [intOf]; omega
        · obtain rfl : k = N.length := by omega
          rw [List.take_length] at hown
          go_wp2_with fail
          refine bodyPost_ret (results_tmp2 rfl _ _ _) rfl ?_
          refine ⟨N, _, _, rfl, hN, own_below hw3 hb', own_base hown (by have := bw3.size; omega), bel_more bw3 hb'⟩
end Go.Proofs.YtmbdojcljgicaaaGreatDoor

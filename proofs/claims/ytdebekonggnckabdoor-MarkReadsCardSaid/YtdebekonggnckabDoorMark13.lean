/-
  mark.Text of any node.
-/
import Derived.Test.YtdebekonggnckabDoorMark12
import Derived.Test.YtdebekonggnckabDoorShelfM
namespace Go.Proofs.YtdebekonggnckabDoor
open Go.RowKit

/-- How long a checked node's text may be. -/
theorem atT_len {a : Bs × Bs} (h1 : isNm a.1 = true) (h2 : isVal a.2 = true) : (atT a).length ≤ 1216 := by
  have := isNm_len h1
  have := isVal_len h2
  have := escV_len a.2
  simp [atT]
  omega
theorem atsT_len : ∀ (l : List (Bs × Bs)), (∀ a ∈ l, isNm a.1 = true ∧ isVal a.2 = true) → (atsT l).length ≤ 1216 * l.length
  | [], _ => by simp [atsT]
  | a :: l, h => by
    have h1 := atT_len (h a (by simp)).1 (h a (by simp)).2
    have h2 := atsT_len l (fun b hb => h b (by simp [hb]))
    simp [atsT]
    omega
mutual
theorem ckN_len : ∀ (n : Nd) (deep ahead : Nat), (ckN n deep ahead).1 = 0 → (txt n).length + 20000 * ahead ≤ 20000 * (ckN n deep ahead).2
  | .mk nm ats ks, deep, ahead, h => by
    have hz : ck1 nm ats deep ahead = 0 := by
      unfold ckN at h
      split at h
      · assumption
      · rename_i h1; exact (h1 h).elim
    rw [ckN_zero hz] at h ⊢
    obtain ⟨h1, h2, h3⟩ := ck1_ok hz
    have l1 := isNm_len h1
    have l2 := atsT_len ats h3
    have l3 := ckK_len ks _ _ h
    cases ks with
    | nil => rw [txt_nil]; simp [txtL] at l3 ⊢; omega
    | cons k r => rw [txt_cons]; simp at l3 ⊢; omega
theorem ckK_len : ∀ (l : List Nd) (deep ahead : Nat), (ckK l deep ahead).1 = 0 → (txtL l).length + 20000 * ahead ≤ 20000 * (ckK l deep ahead).2
  | [], deep, ahead, _ => by simp [txtL, ckK]
  | k :: l, deep, ahead, h => by
    have hz : (ckN k deep ahead).1 = 0 := by
      unfold ckK at h
      split at h
      · assumption
      · rename_i h1; exact (h1 h).elim
    rw [ckK_zero hz] at h ⊢
    have l1 := ckN_len k _ _ hz
    have l2 := ckK_len l _ _ h
    simp [txtL]
    omega
end

theorem Bd.fresh (B : Nat) (w : World) (hB : B ≤ w.heap.size) : Bd B w.heap.size [] (w.alloc (.cells #[.pointer none, .slice none 0 0] 85)) :=
  .inl ⟨hB, .slice none 0 0, mbox w _ _, World.ownsRowF_of (World.ownsRow_nil _ _ _ _), by simp [Value.ownBlock]⟩

theorem mdrew {B : Nat} {w : World} : ∀ (k : Nat) {v : World}, Below B w v → Below B w (v.drewN k) := fun _ _ h => ⟨h.os, h.tape, h.output, h.size, h.block⟩
/-- What Text tells of a node. -/
def TextR (E : Nat → Addr) (B : Nat) (n : Nd) (e : Ending) (w : World) : Prop :=
  ((ckN n 1 0).1 ≠ 0 ∧ ∃ pb, B ≤ pb ∧ e = .returned (.tuple #[.string ⟨#[]⟩, .iface 93 (.pointer (some ⟨pb, 0, none⟩))]) ∧ w.cell? ⟨pb, 0, none⟩ = some (.int .i64 (ckN n 1 0).2) ∧ w.cell? ⟨pb, 1, none⟩ = some (.iface 209 (.pointer (some (E (ckN n 1 0).1))))) ∨
  ((ckN n 1 0).1 = 0 ∧ 10000 < (txt n).length ∧ e = .returned (.tuple #[.string ⟨#[]⟩, .iface 209 (.pointer (some (E 2)))])) ∨
  ((ckN n 1 0).1 = 0 ∧ (txt n).length ≤ 10000 ∧ e = .returned (.tuple #[.string ⟨(txt n).toArray⟩, .nilIface]))

set_option maxRecDepth 20000 in
set_option maxHeartbeats 4000000 in
theorem Text_nd (E : Nat → Addr) (n : Nd) (c0 c1 c2 : Value) (W : World) (hE : ME E W) (hn : NdC W c0 c1 c2 n) :
    Calls Tryd.prog 14 #[.agg #[c0, c1, c2]] W fun e w' => Below W.heap.size W w' ∧ TextR E W.heap.size n e w' := by
  have hn' := hn
  obtain ⟨nm, ats, ks⟩ := n
  unfold NdC at hn'
  obtain ⟨rfl, -, ⟨o1, cap1, rfl, -⟩, ok, capk, rfl, -⟩ := hn'
  generalize hN : Nd.mk nm ats ks = n at hn ⊢
  clear hN
  unfold strV at *
  have b1 := mal W (.cells #[.string ⟨nm.toArray⟩, .slice o1 ats.length cap1, .slice ok ks.length capk] 40)
  have n0 := mnew W #[.string ⟨nm.toArray⟩, .slice o1 ats.length cap1, .slice ok ks.length capk] 40 0 (.string ⟨nm.toArray⟩) rfl
  have n1 := mnew W #[.string ⟨nm.toArray⟩, .slice o1 ats.length cap1, .slice ok ks.length capk] 40 1 (.slice o1 ats.length cap1) rfl
  have n2 := mnew W #[.string ⟨nm.toArray⟩, .slice o1 ats.length cap1, .slice ok ks.length capk] 40 2 (.slice ok ks.length capk) rfl
  have HC := Check_nd E n _ _ _ _ (hE.below b1) (NdC.below b1 n hn)
  unfold TextR
  by_cases hz : (ckN n 1 0).1 = 0
  · have HC0 := HC.mono (R' := fun e w' => e = .returned .nilIface ∧ Below (W.alloc (.cells #[.string ⟨nm.toArray⟩, .slice o1 ats.length cap1, .slice ok ks.length capk] 40)).heap.size (W.alloc (.cells #[.string ⟨nm.toArray⟩, .slice o1 ats.length cap1, .slice ok ks.length capk] 40)) w') (fun e w' h => by
      rcases h.2 with h2 | h2
      · exact ⟨h2.2, h.1⟩
      · exact (h2.1 hz).elim)
    have hok := ckN_ok n 1 0 hz
    have hlen : (txt n).length ≤ 2000000 := by have := ckN_len n 1 0 hz; have := ckN_le n 1 0 hz; omega
    have HZ : Hid ((ckN n 1 0).1 = 0) := hz
    clear HC hz
    have WR := fun b => writeNode_any W b n
    unfold Wr at WR
    by_cases hbig : 10000 < (txt n).length
    · have hbig' : 10000 < ((txt n).length : Int) := by omega
      go_enter Tryd.func14, Tryd.ntmps14
      go_upto_region 7 with (first | (go_at_call 16; refine HC0.mono ?_; rintro e w1 ⟨rfl, hb1⟩; have m0 := mcell_al (.cells #[.pointer none, .slice none 0 0] 85) ((hb1.cell (cell_lt3 n0)).trans n0); have m1 := mcell_al (.cells #[.pointer none, .slice none 0 0] 85) ((hb1.cell (cell_lt3 n1)).trans n1); have m2 := mcell_al (.cells #[.pointer none, .slice none 0 0] 85) ((hb1.cell (cell_lt3 n2)).trans n2); have bw := mbel b1 hb1) | (go_at_call 34; refine (WR _ _ _ _ [] _ hn hok (bw.trans ((mal w1 _).mono bw.size)) (Bd.fresh _ w1 bw.size) (by simp; omega)).mono ?_; rintro e w2 ⟨rfl, hbd2, hk2⟩; have bw2 := (bw.trans ((mal w1 _).mono bw.size)).trans hk2.low) | (go_at_call 35; refine (Tryd.Builder_Len_f W.heap.size _ _ _ hbd2).mono ?_; rintro e w3 ⟨rfl, rfl⟩; rw [Lib.byteCells_length]; simp only [List.nil_append]))
      have e2 := (hE.below bw2).c2
      go_quiet (fail)
      go_wp2_with fail
      go_ret2
      exact ⟨mdrew _ bw2, .inr (.inl ⟨HZ.out, hbig, rfl⟩)⟩
    · have hbig' : ((txt n).length : Int) ≤ 10000 := by omega
      go_enter Tryd.func14, Tryd.ntmps14
      go_wp2_with (first | (go_at_call 16; refine HC0.mono ?_; rintro e w1 ⟨rfl, hb1⟩; have m0 := mcell_al (.cells #[.pointer none, .slice none 0 0] 85) ((hb1.cell (cell_lt3 n0)).trans n0); have m1 := mcell_al (.cells #[.pointer none, .slice none 0 0] 85) ((hb1.cell (cell_lt3 n1)).trans n1); have m2 := mcell_al (.cells #[.pointer none, .slice none 0 0] 85) ((hb1.cell (cell_lt3 n2)).trans n2); have bw := mbel b1 hb1) | (go_at_call 34; refine (WR _ _ _ _ [] _ hn hok (bw.trans ((mal w1 _).mono bw.size)) (Bd.fresh _ w1 bw.size) (by simp; omega)).mono ?_; rintro e w2 ⟨rfl, hbd2, hk2⟩; have bw2 := (bw.trans ((mal w1 _).mono bw.size)).trans hk2.low) | (go_at_call 35; refine (Tryd.Builder_Len_f W.heap.size _ _ _ hbd2).mono ?_; rintro e w3 ⟨rfl, rfl⟩; rw [Lib.byteCells_length]; simp only [List.nil_append]) | (go_at_call 36; refine (Tryd.Builder_String_any_k W.heap.size _ _ _ hbd2 bw2.size).mono ?_; rintro e w4 ⟨rfl, -, hb4, -⟩; simp only [List.nil_append]))
      go_ret2
      exact ⟨bw2.trans hb4, .inr (.inr ⟨HZ.out, by omega, rfl⟩)⟩
  · have HCn := HC.mono (R' := fun e w' => Below (W.alloc (.cells #[.string ⟨nm.toArray⟩, .slice o1 ats.length cap1, .slice ok ks.length capk] 40)).heap.size (W.alloc (.cells #[.string ⟨nm.toArray⟩, .slice o1 ats.length cap1, .slice ok ks.length capk] 40)) w' ∧ Flt E (W.alloc (.cells #[.string ⟨nm.toArray⟩, .slice o1 ats.length cap1, .slice ok ks.length capk] 40)).heap.size (ckN n 1 0) e w') (fun e w' h => by
      rcases h.2 with h2 | h2
      · exact (hz h2.1).elim
      · exact ⟨h.1, h2.2⟩)
    have HZ : Hid ((ckN n 1 0).1 ≠ 0) := hz
    clear HC hz
    go_enter Tryd.func14, Tryd.ntmps14
    go_wp2_with (go_at_call 16; refine HCn.mono ?_; rintro e w1 ⟨hb1, pb, hpb, rfl, z0, z1⟩)
    go_ret2
    exact ⟨mbel b1 hb1, .inl ⟨HZ.out, pb, Nat.le_trans b1.size hpb, rfl, z0, z1⟩⟩

end Go.Proofs.YtdebekonggnckabDoor

/-
  The walk of package frac's Read, for every text that is not too long.
-/
import Derived.Test.YtdilieoobkldhabDoorRead2
import Derived.Test.YtdilieoobkldhabDoorFrac5
namespace Go.Proofs.YtdilieoobkldhabDoor
open Go.RowKit

/-- a fraction that is read: the parts where they are right, else Check's error -/
def ck (n d : Int) : R3 := if chk n d = 0 then ⟨n, d, 0⟩ else ⟨0, 0, chk n d⟩
/-- a fraction's text: the answer, or an error's number -/
def rd (l : List UInt8) : R3 :=
  match numTxt (ahead 47 l) with
  | none => ⟨0, 0, 1⟩
  | some n => match behind 47 l with
    | none => ck n 1
    | some b => if digs b = true ∧ val b ≠ 1 then ck n (val b) else ⟨0, 0, 1⟩

/-- an error by its number, ErrText among them -/
def er4 (aT aB aS aZ : Addr) (c : Nat) : Value := if c = 1 then .iface 209 (.pointer (some aT)) else er aB aS aZ c

theorem numTxt_bound {l : List UInt8} {v : Int} (h : numTxt l = some v) : -10000000000 < v ∧ v < 10000000000 := by
  unfold numTxt at h
  split at h
  · rename_i hc
    have := digs_bound hc.1
    simp only [Option.some.injEq] at h
    split at h <;> omega
  · cases h

theorem num_none (s : ByteArray) (w : World) (h : numTxt s.data.toList = none) :
    Calls Tryd.prog 119 #[.string s] w fun e w' => e = .returned (.tuple #[.int .i64 0, .bool false]) ∧ w' = w := readNum_any s false 0 w (Or.inl ⟨h, rfl, rfl⟩)
theorem num_some (s : ByteArray) (v : Int) (w : World) (h : numTxt s.data.toList = some v) :
    Calls Tryd.prog 119 #[.string s] w fun e w' => e = .returned (.tuple #[.int .i64 v, .bool true]) ∧ w' = w := readNum_any s true v w (Or.inr ⟨h, rfl⟩)
theorem check_ok (aB aS aZ : Addr) (n d : Int) (w : World) (n1 : -9223372036854775808 ≤ n) (n2 : n ≤ 9223372036854775807) (d1 : -9223372036854775808 ≤ d) (d2 : d ≤ 9223372036854775807) (h : E3 aB aS aZ w) (hc : chk n d = 0) :
    Calls Tryd.prog 74 #[.int .i64 n, .int .i64 d] w fun e w' => e = .returned .nilIface ∧ ∃ k, w' = w.drewN k := by
  have := check_any aB aS aZ n d w n1 n2 d1 d2 h
  rw [hc] at this; exact this
theorem check_no (aB aS aZ : Addr) (n d : Int) (a : Addr) (w : World) (n1 : -9223372036854775808 ≤ n) (n2 : n ≤ 9223372036854775807) (d1 : -9223372036854775808 ≤ d) (d2 : d ≤ 9223372036854775807) (h : E3 aB aS aZ w) (hc : er aB aS aZ (chk n d) = .iface 209 (.pointer (some a))) :
    Calls Tryd.prog 74 #[.int .i64 n, .int .i64 d] w fun e w' => e = .returned (.iface 209 (.pointer (some a))) ∧ ∃ k, w' = w.drewN k := by
  rw [← hc]; exact check_any aB aS aZ n d w n1 n2 d1 d2 h
theorem er4_er (aT aB aS aZ : Addr) {c : Nat} (h : c ≠ 1) : er4 aT aB aS aZ c = er aB aS aZ c := by unfold er4; rw [if_neg h]

set_option maxHeartbeats 2000000 in
theorem Read_none (aT aB aS aZ : Addr) (s : ByteArray) (w : World) (h : E3 aB aS aZ w) (hT : w.cell? ⟨1, 0, none⟩ = some (.iface 209 (.pointer (some aT)))) (hb : behind 47 s.data.toList = none) :
    Calls Tryd.prog 100 #[.string s] w fun e w' => e = .returned (.tuple #[.agg #[.int .i64 (rd s.data.toList).n, .int .i64 (rd s.data.toList).d], er4 aT aB aS aZ (rd s.data.toList).c]) ∧ Below w.heap.size w w' := by
  have ha := (index_none 47 _ hb).2
  have HB : Hid (behind 47 s.data.toList = none) := hb
  have hlt := cell_lt hT
  simp only at hlt
  have hne : ¬ w.heap.size = 1 := by omega
  have hne' : ¬ 1 = w.heap.size := by omega
  have hcT : ∀ o, (w.alloc o).cell? ⟨1, 0, none⟩ = some (.iface 209 (.pointer (some aT))) := fun o => by
    rw [World.cell?_alloc_lt _ _ ⟨1, 0, none⟩ hlt]; exact hT
  cases hn : numTxt s.data.toList with
  | none =>
    have hr : rd s.data.toList = ⟨0, 0, 1⟩ := by unfold rd; rw [ha, hn]
    rw [hr]
    have HN : Hid (numTxt s.data.toList = none) := hn
    clear hn hr ha hb hT hlt
    go_enter Tryd.func100, Tryd.ntmps100
    go_wp2_with (first | (go_at_call 118; refine (Cut_none s _ HB.out).mono ?_; rintro e w' ⟨rfl, k, rfl⟩) | (go_at_call 119; refine (num_none s _ HN.out).mono ?_; rintro e w' ⟨rfl, rfl⟩))
    go_region
    go_wp2
    refine bodyPost_ret (v := .tuple #[.agg #[.int .i64 0, .int .i64 0], .iface 209 (.pointer (some aT))]) (by simp [results, Tryd.results100, go_sem]) rfl ⟨rfl, ?_⟩
    first | exact below_drewN ((Below.refl _ _).alloc (Nat.le_refl _) _) _ | exact ((below_drewN ((Below.refl _ _).alloc (Nat.le_refl _) _) _).setCell (by simp) _).setCell (by simp) _
  | some n =>
    have hr : rd s.data.toList = ck n 1 := by unfold rd; rw [ha, hn, hb]
    rw [hr]
    have HN : Hid (numTxt s.data.toList = some n) := hn
    obtain ⟨n1, n2⟩ := numTxt_bound hn
    clear hn hr ha hb hT hlt
    by_cases hc : chk n 1 = 0
    · have e : ck n 1 = ⟨n, 1, 0⟩ := by unfold ck; rw [if_pos hc]
      rw [e]
      have HC : Hid (chk n 1 = 0) := hc
      clear e hc
      go_enter Tryd.func100, Tryd.ntmps100
      go_wp2_with (first | (go_at_call 118; refine (Cut_none s _ HB.out).mono ?_; rintro e w' ⟨rfl, k, rfl⟩) | (go_at_call 119; refine (num_some s n _ HN.out).mono ?_; rintro e w' ⟨rfl, rfl⟩) | (go_at_call 74; refine (check_ok aB aS aZ _ _ _ (by omega) (by omega) (by omega) (by omega) ?_ HC.out).mono ?_; exact (h.alloc _).drewN _; rintro e w' ⟨rfl, k2, rfl⟩))
      refine bodyPost_ret (v := .tuple #[.agg #[.int .i64 n, .int .i64 1], .nilIface]) (by simp [results, Tryd.results100, go_sem]) rfl ⟨rfl, ?_⟩
      first | exact below_drewN ((Below.refl _ _).alloc (Nat.le_refl _) _) _ | exact ((below_drewN ((Below.refl _ _).alloc (Nat.le_refl _) _) _).setCell (by simp) _).setCell (by simp) _
    · have hc' : chk n 1 = 2 ∨ chk n 1 = 3 := by rcases chk_cases n 1 with e | e | e <;> simp_all
      have e : ck n 1 = ⟨0, 0, chk n 1⟩ := by unfold ck; rw [if_neg hc]
      obtain ⟨a, hera⟩ := er_cases aB aS aZ hc'
      rw [e]
      simp only
      rw [er4_er aT aB aS aZ (show chk n 1 ≠ 1 by omega), hera]
      have HC : Hid (er aB aS aZ (chk n 1) = .iface 209 (.pointer (some a))) := hera
      clear e hc hc' hera
      go_enter Tryd.func100, Tryd.ntmps100
      go_wp2_with (first | (go_at_call 118; refine (Cut_none s _ HB.out).mono ?_; rintro e w' ⟨rfl, k, rfl⟩) | (go_at_call 119; refine (num_some s n _ HN.out).mono ?_; rintro e w' ⟨rfl, rfl⟩) | (go_at_call 74; refine (check_no aB aS aZ _ _ a _ (by omega) (by omega) (by omega) (by omega) ?_ HC.out).mono ?_; exact (h.alloc _).drewN _; rintro e w' ⟨rfl, k2, rfl⟩))
      refine bodyPost_ret (v := .tuple #[.agg #[.int .i64 0, .int .i64 0], .iface 209 (.pointer (some a))]) (by simp [results, Tryd.results100, go_sem]) rfl ⟨rfl, ?_⟩
      first | exact below_drewN ((Below.refl _ _).alloc (Nat.le_refl _) _) _ | exact ((below_drewN ((Below.refl _ _).alloc (Nat.le_refl _) _) _).setCell (by simp) _).setCell (by simp) _

set_option maxHeartbeats 4000000 in
theorem Read_some (aT aB aS aZ : Addr) (s a b : ByteArray) (w : World) (h : E3 aB aS aZ w) (hT : w.cell? ⟨1, 0, none⟩ = some (.iface 209 (.pointer (some aT)))) (hb : behind 47 s.data.toList = some b.data.toList) (ha : ahead 47 s.data.toList = a.data.toList) (hm : s.size ≤ 9223372036854775807) :
    Calls Tryd.prog 100 #[.string s] w fun e w' => e = .returned (.tuple #[.agg #[.int .i64 (rd s.data.toList).n, .int .i64 (rd s.data.toList).d], er4 aT aB aS aZ (rd s.data.toList).c]) ∧ Below w.heap.size w w' := by
  have HB : Hid (behind 47 s.data.toList = some b.data.toList) := hb
  have HA : Hid (ahead 47 s.data.toList = a.data.toList) := ha
  have hlt := cell_lt hT
  simp only at hlt
  have hne : ¬ w.heap.size = 1 := by omega
  have hne' : ¬ 1 = w.heap.size := by omega
  have hcT : ∀ o, (w.alloc o).cell? ⟨1, 0, none⟩ = some (.iface 209 (.pointer (some aT))) := fun o => by
    rw [World.cell?_alloc_lt _ _ ⟨1, 0, none⟩ hlt]; exact hT
  cases hn : numTxt a.data.toList with
  | none =>
    have hr : rd s.data.toList = ⟨0, 0, 1⟩ := by unfold rd; rw [ha, hn]
    rw [hr]
    have HN : Hid (numTxt a.data.toList = none) := hn
    clear hn hr ha hb hT hlt
    go_enter Tryd.func100, Tryd.ntmps100
    go_wp2_with (first | (go_at_call 118; refine (Cut_some s a b _ HB.out HA.out hm).mono ?_; rintro e w' ⟨rfl, k, rfl⟩) | (go_at_call 119; refine (num_none a _ HN.out).mono ?_; rintro e w' ⟨rfl, rfl⟩))
    go_region
    go_wp2
    refine bodyPost_ret (v := .tuple #[.agg #[.int .i64 0, .int .i64 0], .iface 209 (.pointer (some aT))]) (by simp [results, Tryd.results100, go_sem]) rfl ⟨rfl, ?_⟩
    first | exact below_drewN ((Below.refl _ _).alloc (Nat.le_refl _) _) _ | exact ((below_drewN ((Below.refl _ _).alloc (Nat.le_refl _) _) _).setCell (by simp) _).setCell (by simp) _
  | some n =>
    have hr : rd s.data.toList = if digs b.data.toList = true ∧ val b.data.toList ≠ 1 then ck n (val b.data.toList) else ⟨0, 0, 1⟩ := by unfold rd; rw [ha, hn, hb]
    rw [hr]
    have HN : Hid (numTxt a.data.toList = some n) := hn
    obtain ⟨n1, n2⟩ := numTxt_bound hn
    clear hn hr ha hb hT hlt
    cases hd : digs b.data.toList with
    | false =>
      rw [if_neg (by simp)]
      have HD : Hid (digs b.data.toList = false) := hd
      clear hd
      go_enter Tryd.func100, Tryd.ntmps100
      go_wp2_with (first | (go_at_call 118; refine (Cut_some s a b _ HB.out HA.out hm).mono ?_; rintro e w' ⟨rfl, k, rfl⟩) | (go_at_call 119; refine (num_some a n _ HN.out).mono ?_; rintro e w' ⟨rfl, rfl⟩) | (go_at_call 120; refine (digits_at b false 0 _ HD.out (by simp)).mono ?_; rintro e w' ⟨rfl, rfl⟩))
      go_region
      go_wp2
      refine bodyPost_ret (v := .tuple #[.agg #[.int .i64 0, .int .i64 0], .iface 209 (.pointer (some aT))]) (by simp [results, Tryd.results100, go_sem]) rfl ⟨rfl, ?_⟩
      first | exact below_drewN ((Below.refl _ _).alloc (Nat.le_refl _) _) _ | exact ((below_drewN ((Below.refl _ _).alloc (Nat.le_refl _) _) _).setCell (by simp) _).setCell (by simp) _
    | true =>
      have hv := digs_bound hd
      obtain ⟨d, hdv⟩ : ∃ d : Nat, val b.data.toList = d := ⟨_, rfl⟩
      rw [hdv]
      rw [hdv] at hv
      have HD : Hid (digs b.data.toList = true) := hd
      have HV : Hid ((if true = true then (val b.data.toList : Int) else 0) = d) := by show _ = _; rw [if_pos rfl, hdv]
      clear hd hdv
      by_cases hd1 : d = 1
      · subst hd1
        rw [if_neg (by simp)]
        go_enter Tryd.func100, Tryd.ntmps100
        go_wp2_with (first | (go_at_call 118; refine (Cut_some s a b _ HB.out HA.out hm).mono ?_; rintro e w' ⟨rfl, k, rfl⟩) | (go_at_call 119; refine (num_some a n _ HN.out).mono ?_; rintro e w' ⟨rfl, rfl⟩) | (go_at_call 120; refine (digits_at b true 1 _ HD.out HV.out).mono ?_; rintro e w' ⟨rfl, rfl⟩))
        go_region
        go_wp2
        refine bodyPost_ret (v := .tuple #[.agg #[.int .i64 0, .int .i64 0], .iface 209 (.pointer (some aT))]) (by simp [results, Tryd.results100, go_sem]) rfl ⟨rfl, ?_⟩
        first | exact below_drewN ((Below.refl _ _).alloc (Nat.le_refl _) _) _ | exact ((below_drewN ((Below.refl _ _).alloc (Nat.le_refl _) _) _).setCell (by simp) _).setCell (by simp) _
      · rw [if_pos ⟨rfl, hd1⟩]
        have hd2 : ((d : Int) == 1) = false := by rw [beq_eq_false_iff_ne]; omega
        have hd3 : (0 : Int) ≤ (d : Int) := by omega
        clear hd1
        by_cases hc : chk n d = 0
        · have e : ck n d = ⟨n, d, 0⟩ := by unfold ck; rw [if_pos hc]
          rw [e]
          have HC : Hid (chk n d = 0) := hc
          clear e hc
          go_enter Tryd.func100, Tryd.ntmps100
          go_wp2_with (first | (go_at_call 118; refine (Cut_some s a b _ HB.out HA.out hm).mono ?_; rintro e w' ⟨rfl, k, rfl⟩) | (go_at_call 119; refine (num_some a n _ HN.out).mono ?_; rintro e w' ⟨rfl, rfl⟩) | (go_at_call 120; refine (digits_at b true d _ HD.out HV.out).mono ?_; rintro e w' ⟨rfl, rfl⟩) | (go_at_call 74; refine (check_ok aB aS aZ _ _ _ (by omega) (by omega) (by omega) (by omega) ?_ HC.out).mono ?_; exact (h.alloc _).drewN _; rintro e w' ⟨rfl, k2, rfl⟩))
          refine bodyPost_ret (v := .tuple #[.agg #[.int .i64 n, .int .i64 d], .nilIface]) (by simp [results, Tryd.results100, go_sem]) rfl ⟨rfl, ?_⟩
          first | exact below_drewN ((Below.refl _ _).alloc (Nat.le_refl _) _) _ | exact ((below_drewN ((Below.refl _ _).alloc (Nat.le_refl _) _) _).setCell (by simp) _).setCell (by simp) _
        · have hc' : chk n d = 2 ∨ chk n d = 3 := by rcases chk_cases n d with e | e | e <;> simp_all
          have e : ck n d = ⟨0, 0, chk n d⟩ := by unfold ck; rw [if_neg hc]
          obtain ⟨ae, hera⟩ := er_cases aB aS aZ hc'
          rw [e]
          simp only
          rw [er4_er aT aB aS aZ (show chk n d ≠ 1 by omega), hera]
          have HC : Hid (er aB aS aZ (chk n d) = .iface 209 (.pointer (some ae))) := hera
          clear e hc hc' hera
          go_enter Tryd.func100, Tryd.ntmps100
          go_wp2_with (first | (go_at_call 118; refine (Cut_some s a b _ HB.out HA.out hm).mono ?_; rintro e w' ⟨rfl, k, rfl⟩) | (go_at_call 119; refine (num_some a n _ HN.out).mono ?_; rintro e w' ⟨rfl, rfl⟩) | (go_at_call 120; refine (digits_at b true d _ HD.out HV.out).mono ?_; rintro e w' ⟨rfl, rfl⟩) | (go_at_call 74; refine (check_no aB aS aZ _ _ ae _ (by omega) (by omega) (by omega) (by omega) ?_ HC.out).mono ?_; exact (h.alloc _).drewN _; rintro e w' ⟨rfl, k2, rfl⟩))
          refine bodyPost_ret (v := .tuple #[.agg #[.int .i64 0, .int .i64 0], .iface 209 (.pointer (some ae))]) (by simp [results, Tryd.results100, go_sem]) rfl ⟨rfl, ?_⟩
          first | exact below_drewN ((Below.refl _ _).alloc (Nat.le_refl _) _) _ | exact ((below_drewN ((Below.refl _ _).alloc (Nat.le_refl _) _) _).setCell (by simp) _).setCell (by simp) _

theorem Read_any (aT aB aS aZ : Addr) (s : ByteArray) (w : World) (h : E3 aB aS aZ w) (hT : w.cell? ⟨1, 0, none⟩ = some (.iface 209 (.pointer (some aT)))) (hm : s.size ≤ 9223372036854775807) :
    Calls Tryd.prog 100 #[.string s] w fun e w' => e = .returned (.tuple #[.agg #[.int .i64 (rd s.data.toList).n, .int .i64 (rd s.data.toList).d], er4 aT aB aS aZ (rd s.data.toList).c]) ∧ Below w.heap.size w w' := by
  cases hb : behind 47 s.data.toList with
  | none => exact Read_none aT aB aS aZ s w h hT hb
  | some b => exact Read_some aT aB aS aZ s ⟨(ahead 47 s.data.toList).toArray⟩ ⟨b.toArray⟩ w h hT (by rw [hb]) rfl hm
end Go.Proofs.YtdilieoobkldhabDoor

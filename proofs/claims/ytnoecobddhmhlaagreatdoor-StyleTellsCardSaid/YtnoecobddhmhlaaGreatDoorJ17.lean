/-
  A document: Move where it answers an error.
-/
import Derived.Test.YtnoecobddhmhlaaGreatDoorJ16
import Derived.Test.YtnoecobddhmhlaaGreatDoorJ15
namespace Go.Proofs.YtnoecobddhmhlaaGreatDoor
open Go.RowKit

set_option maxRecDepth 20000 in
set_option maxHeartbeats 4000000 in
theorem Move_no {E : Nat → Addr} {B : Nat} {tg : Tags} {W : World} {DB MB : Nat} {p : Int → Option Nat} {M : Dm} {nx c : Nat} (hE : DE E W) (hd : DocW B tg W DB MB p M nx c) (n par a : Int) (hwn : Wf64 n) (hwp : Wf64 par) (hn : M n = none) (hq : M par = none) :
    Calls Tryz.prog 17 #[.pointer (some ⟨DB, 0, none⟩), .int .i64 n, .int .i64 par, .int .i64 a] W fun r w' => r = .returned (eV (E 5)) ∧ Below W.heap.size W w' := by
  have d0 := hd.d0
  have ck := hE.c5
  unfold eV
  have hpe := hd.non n hn
  have hpq := hd.non par hq
  go_enter Tryz.func17, Tryz.ntmps17
  go_wp2_with (at_lookup; first | refine look_no _ rfl _ _ 100 rfl Tryz.underlying3 Tryz.underlying100 (zeroEl _) rfl hd.map n rfl hwn hpe ?_ | refine look_no _ rfl _ _ 100 rfl Tryz.underlying3 Tryz.underlying100 (zeroEl _) rfl hd.map par rfl hwp hpq ?_)
  go_ret
  exact ⟨rfl, Below.refl _ _⟩
set_option maxRecDepth 20000 in
set_option maxHeartbeats 4000000 in
theorem Move_noN {E : Nat → Addr} {B : Nat} {tg : Tags} {W : World} {DB MB : Nat} {p : Int → Option Nat} {M : Dm} {nx c : Nat} (hE : DE E W) (hd : DocW B tg W DB MB p M nx c) (n par a : Int) (hwn : Wf64 n) (hwp : Wf64 par) (q : Elm) (hn : M n = none) (hq : M par = some q) :
    Calls Tryz.prog 17 #[.pointer (some ⟨DB, 0, none⟩), .int .i64 n, .int .i64 par, .int .i64 a] W fun r w' => r = .returned (eV (E 5)) ∧ Below W.heap.size W w' := by
  have d0 := hd.d0
  have ck := hE.c5
  unfold eV
  have hpe := hd.non n hn
  obtain ⟨QB, qa, qk, hpq, heq⟩ := hd.els par q hq
  go_enter Tryz.func17, Tryz.ntmps17
  go_wp2_with (at_lookup; first | refine look_no _ rfl _ _ 100 rfl Tryz.underlying3 Tryz.underlying100 (zeroEl _) rfl hd.map n rfl hwn hpe ?_ | refine look_yes _ rfl _ _ 100 rfl Tryz.underlying3 Tryz.underlying100 (zeroEl _) rfl hd.map par rfl hwp QB hpq ?_)
  go_ret
  exact ⟨rfl, Below.refl _ _⟩
set_option maxRecDepth 20000 in
set_option maxHeartbeats 4000000 in
theorem Move_noP {E : Nat → Addr} {B : Nat} {tg : Tags} {W : World} {DB MB : Nat} {p : Int → Option Nat} {M : Dm} {nx c : Nat} (hE : DE E W) (hd : DocW B tg W DB MB p M nx c) (n par a : Int) (hwn : Wf64 n) (hwp : Wf64 par) (e : Elm) (hn : M n = some e) (hq : M par = none) :
    Calls Tryz.prog 17 #[.pointer (some ⟨DB, 0, none⟩), .int .i64 n, .int .i64 par, .int .i64 a] W fun r w' => r = .returned (eV (E 5)) ∧ Below W.heap.size W w' := by
  have d0 := hd.d0
  have ck := hE.c5
  unfold eV
  obtain ⟨EB, va, vk, hpe, he⟩ := hd.els n e hn
  have hpq := hd.non par hq
  go_enter Tryz.func17, Tryz.ntmps17
  go_wp2_with (at_lookup; first | refine look_yes _ rfl _ _ 100 rfl Tryz.underlying3 Tryz.underlying100 (zeroEl _) rfl hd.map n rfl hwn EB hpe ?_ | refine look_no _ rfl _ _ 100 rfl Tryz.underlying3 Tryz.underlying100 (zeroEl _) rfl hd.map par rfl hwp hpq ?_)
  go_ret
  exact ⟨rfl, Below.refl _ _⟩
set_option maxRecDepth 20000 in
set_option maxHeartbeats 4000000 in
theorem Move_root {E : Nat → Addr} {B : Nat} {tg : Tags} {W : World} {DB MB : Nat} {p : Int → Option Nat} {M : Dm} {nx c : Nat} (hE : DE E W) (hd : DocW B tg W DB MB p M nx c) (n par a : Int) (hwn : Wf64 n) (hwp : Wf64 par) (e q : Elm) (hn : M n = some e) (hq : M par = some q) (hn0 : n = 0) :
    Calls Tryz.prog 17 #[.pointer (some ⟨DB, 0, none⟩), .int .i64 n, .int .i64 par, .int .i64 a] W fun r w' => r = .returned (eV (E 3)) ∧ Below W.heap.size W w' := by
  have d0 := hd.d0
  have ck := hE.c3
  unfold eV
  obtain ⟨EB, va, vk, hpe, he⟩ := hd.els n e hn
  obtain ⟨QB, qa, qk, hpq, heq⟩ := hd.els par q hq
  have hn0' : (n == 0) = true := by rw [beq_iff_eq]; exact hn0
  have HN0 : Hid (n = 0) := hn0
  clear hn0
  go_enter Tryz.func17, Tryz.ntmps17
  go_wp2_with (at_lookup; first | refine look_yes _ rfl _ _ 100 rfl Tryz.underlying3 Tryz.underlying100 (zeroEl _) rfl hd.map n rfl hwn EB hpe ?_ | refine look_yes _ rfl _ _ 100 rfl Tryz.underlying3 Tryz.underlying100 (zeroEl _) rfl hd.map par rfl hwp QB hpq ?_)
  go_ret
  exact ⟨rfl, Below.refl _ _⟩
set_option maxRecDepth 20000 in
set_option maxHeartbeats 4000000 in
theorem Move_cycle {E : Nat → Addr} {B : Nat} {tg : Tags} {W : World} {DB MB : Nat} {p : Int → Option Nat} {M : Dm} {nx c : Nat} (hE : DE E W) (hd : DocW B tg W DB MB p M nx c) (n par a : Int) (e q : Elm) (hn : M n = some e) (hq : M par = some q) (hn0 : n ≠ 0) (hwn : Wf64 n) (hwp : Wf64 par) (f : Nat) (hf : f ≤ 900000) (hp : Dp M f n) (hl : (pre M f n 1).length ≤ 1000000) (hin : par ∈ fromL M f n) :
    Calls Tryz.prog 17 #[.pointer (some ⟨DB, 0, none⟩), .int .i64 n, .int .i64 par, .int .i64 a] W fun r w' => r = .returned (eV (E 9)) ∧ Below W.heap.size W w' := by
  have d0 := hd.d0
  have ck := hE.c9
  unfold eV
  obtain ⟨EB, va, vk, hpe, he⟩ := hd.els n e hn
  obtain ⟨QB, qa, qk, hpq, heq⟩ := hd.els par q hq
  have hn0' : (n == 0) = false := by rw [beq_eq_false_iff_ne]; exact hn0
  have hll : (fromL M f n).length ≤ 1000000 := by unfold fromL; rw [List.length_map]; exact hl
  have FD := from_doc hd f n hf hp hwn hll
  have HD : Hid (DocW B tg W DB MB p M nx c) := hd
  have HE : Hid (DE E W) := hE
  have hin' : decide (par ∈ fromL M f n) = true := decide_eq_true hin
  go_enter Tryz.func17, Tryz.ntmps17
  go_upto_region 7 with (at_lookup; first | refine look_yes _ rfl _ _ 100 rfl Tryz.underlying3 Tryz.underlying100 (zeroEl _) rfl hd.map n rfl hwn EB hpe ?_ | refine look_yes _ rfl _ _ 100 rfl Tryz.underlying3 Tryz.underlying100 (zeroEl _) rfl hd.map par rfl hwp QB hpq ?_)
  go_wp2_with (first | (go_at_call 63; refine FD.mono ?_; rintro r w1 ⟨o1, k1, rfl, b1, ow1⟩; have CI := Contains_ints w1 _ (fromL M f n) par ow1 hll; have ck1 := (HE.out.below b1 (Nat.le_refl _)).c9) | (go_at_call 66; refine CI.mono ?_; rintro r w2 ⟨rfl, rfl⟩))
  go_ret
  exact ⟨rfl, b1⟩
set_option maxRecDepth 20000 in
set_option maxHeartbeats 4000000 in
theorem Move_neg {E : Nat → Addr} {B : Nat} {tg : Tags} {W : World} {DB MB : Nat} {p : Int → Option Nat} {M : Dm} {nx c : Nat} (hE : DE E W) (hd : DocW B tg W DB MB p M nx c) (n par a : Int) (e q : Elm) (hn : M n = some e) (hq : M par = some q) (hn0 : n ≠ 0) (hwn : Wf64 n) (hwp : Wf64 par) (f : Nat) (hf : f ≤ 900000) (hp : Dp M f n) (hl : (pre M f n 1).length ≤ 1000000) (hnot : par ∉ fromL M f n) (ha : a < 0) :
    Calls Tryz.prog 17 #[.pointer (some ⟨DB, 0, none⟩), .int .i64 n, .int .i64 par, .int .i64 a] W fun r w' => r = .returned (eV (E 2)) ∧ Below W.heap.size W w' := by
  have d0 := hd.d0
  have ck := hE.c2
  unfold eV
  obtain ⟨EB, va, vk, hpe, he⟩ := hd.els n e hn
  obtain ⟨QB, qa, qk, hpq, heq⟩ := hd.els par q hq
  have hn0' : (n == 0) = false := by rw [beq_eq_false_iff_ne]; exact hn0
  have hll : (fromL M f n).length ≤ 1000000 := by unfold fromL; rw [List.length_map]; exact hl
  have FD := from_doc hd f n hf hp hwn hll
  have HD : Hid (DocW B tg W DB MB p M nx c) := hd
  have HE : Hid (DE E W) := hE
  have hnot' : decide (par ∈ fromL M f n) = false := decide_eq_false hnot
  go_enter Tryz.func17, Tryz.ntmps17
  go_upto_region 7 with (at_lookup; first | refine look_yes _ rfl _ _ 100 rfl Tryz.underlying3 Tryz.underlying100 (zeroEl _) rfl hd.map n rfl hwn EB hpe ?_ | refine look_yes _ rfl _ _ 100 rfl Tryz.underlying3 Tryz.underlying100 (zeroEl _) rfl hd.map par rfl hwp QB hpq ?_)
  go_wp2_with (first | (go_at_call 63; refine FD.mono ?_; rintro r w1 ⟨o1, k1, rfl, b1, ow1⟩; have CI := Contains_ints w1 _ (fromL M f n) par ow1 hll; have ck1 := (HE.out.below b1 (Nat.le_refl _)).c2) | (go_at_call 66; refine CI.mono ?_; rintro r w2 ⟨rfl, rfl⟩))
  go_ret
  exact ⟨rfl, b1⟩
set_option maxRecDepth 20000 in
set_option maxHeartbeats 4000000 in
theorem Move_bound {E : Nat → Addr} {B : Nat} {tg : Tags} {W : World} {DB MB : Nat} {p : Int → Option Nat} {M : Dm} {nx c : Nat} (hE : DE E W) (hd : DocW B tg W DB MB p M nx c) (n par a : Int) (e q : Elm) (hn : M n = some e) (hq : M par = some q) (hn0 : n ≠ 0) (hwn : Wf64 n) (hwp : Wf64 par) (f : Nat) (hf : f ≤ 900000) (hp : Dp M f n) (hl : (pre M f n 1).length ≤ 1000000) (hnot : par ∉ fromL M f n) (ha : ¬ a < 0) (hql : q.kids.length ≤ 1000000) (hal : (if e.parent = par then (q.kids.length : Int) - 1 else q.kids.length) < a) :
    Calls Tryz.prog 17 #[.pointer (some ⟨DB, 0, none⟩), .int .i64 n, .int .i64 par, .int .i64 a] W fun r w' => r = .returned (eV (E 2)) ∧ Below W.heap.size W w' := by
  have d0 := hd.d0
  have ck := hE.c2
  unfold eV
  obtain ⟨EB, va, vk, hpe, he⟩ := hd.els n e hn
  obtain ⟨QB, qa, qk, hpq, heq⟩ := hd.els par q hq
  have hn0' : (n == 0) = false := by rw [beq_eq_false_iff_ne]; exact hn0
  have hll : (fromL M f n).length ≤ 1000000 := by unfold fromL; rw [List.length_map]; exact hl
  have FD := from_doc hd f n hf hp hwn hll
  have HD : Hid (DocW B tg W DB MB p M nx c) := hd
  have HE : Hid (DE E W) := hE
  have hnot' : decide (par ∈ fromL M f n) = false := decide_eq_false hnot
  obtain ⟨ot, hot⟩ : ∃ ot : Int, (if e.parent = par then (q.kids.length : Int) - 1 else q.kids.length) = ot := ⟨_, rfl⟩
  rw [hot] at hal
  have HOT : Hid ((if e.parent = par then (q.kids.length : Int) - 1 else q.kids.length) = ot) := hot
  clear hot
  go_enter Tryz.func17, Tryz.ntmps17
  go_upto_region 7 with (at_lookup; first | refine look_yes _ rfl _ _ 100 rfl Tryz.underlying3 Tryz.underlying100 (zeroEl _) rfl hd.map n rfl hwn EB hpe ?_ | refine look_yes _ rfl _ _ 100 rfl Tryz.underlying3 Tryz.underlying100 (zeroEl _) rfl hd.map par rfl hwp QB hpq ?_)
  go_upto_region 9 with (first | (go_at_call 63; refine FD.mono ?_; rintro r w1 ⟨o1, k1, rfl, b1, ow1⟩; have CI := Contains_ints w1 _ (fromL M f n) par ow1 hll; have ck1 := (HE.out.below b1 (Nat.le_refl _)).c2) | (go_at_call 66; refine CI.mono ?_; rintro r w2 ⟨rfl, rfl⟩))
  have OD := others_doc (HD.out.below b1) n par e q hn hq hql
  rw [HOT.out] at OD
  go_wp2_with (go_at_call 67; refine OD.mono ?_; rintro r w3 ⟨rfl, rfl⟩)
  go_ret
  exact ⟨rfl, b1⟩
set_option maxRecDepth 20000 in
set_option maxHeartbeats 4000000 in
theorem Move_deep {E : Nat → Addr} {B : Nat} {tg : Tags} {W : World} {DB MB : Nat} {p : Int → Option Nat} {M : Dm} {nx c : Nat} (hE : DE E W) (hd : DocW B tg W DB MB p M nx c) (n par a : Int) (e q : Elm) (hn : M n = some e) (hq : M par = some q) (hn0 : n ≠ 0) (hwn : Wf64 n) (hwp : Wf64 par) (f : Nat) (hf : f ≤ 900000) (hp : Dp M f n) (hl : (pre M f n 1).length ≤ 1000000) (hnot : par ∉ fromL M f n) (ha : ¬ a < 0) (hql : q.kids.length ≤ 1000000) (hal : ¬ (if e.parent = par then (q.kids.length : Int) - 1 else q.kids.length) < a) (d : Nat) (hu : Up M par d) (hd10 : d ≤ 10) (hdd : 10 < (d : Int) + mostD (pre M f n 1)) (hmb : mostD (pre M f n 1) ≤ 1000000) :
    Calls Tryz.prog 17 #[.pointer (some ⟨DB, 0, none⟩), .int .i64 n, .int .i64 par, .int .i64 a] W fun r w' => r = .returned (eV (E 8)) ∧ Below W.heap.size W w' := by
  have d0 := hd.d0
  have ck := hE.c8
  unfold eV
  obtain ⟨EB, va, vk, hpe, he⟩ := hd.els n e hn
  obtain ⟨QB, qa, qk, hpq, heq⟩ := hd.els par q hq
  have hn0' : (n == 0) = false := by rw [beq_eq_false_iff_ne]; exact hn0
  have hll : (fromL M f n).length ≤ 1000000 := by unfold fromL; rw [List.length_map]; exact hl
  have FD := from_doc hd f n hf hp hwn hll
  have HD : Hid (DocW B tg W DB MB p M nx c) := hd
  have HE : Hid (DE E W) := hE
  have hnot' : decide (par ∈ fromL M f n) = false := decide_eq_false hnot
  obtain ⟨ot, hot⟩ : ∃ ot : Int, (if e.parent = par then (q.kids.length : Int) - 1 else q.kids.length) = ot := ⟨_, rfl⟩
  rw [hot] at hal
  have HOT : Hid ((if e.parent = par then (q.kids.length : Int) - 1 else q.kids.length) = ot) := hot
  clear hot
  obtain ⟨mo, hmo⟩ : ∃ mo : Int, mostD (pre M f n 1) = mo := ⟨_, rfl⟩
  rw [hmo] at hdd hmb
  have hw10 : IntKind.i64.wrap ((d : Int) + mo) = (d : Int) + mo := IntWalk.i64_in _ (by omega)
  have HMO : Hid (mostD (pre M f n 1) = mo) := hmo
  clear hmo
  go_enter Tryz.func17, Tryz.ntmps17
  go_upto_region 7 with (at_lookup; first | refine look_yes _ rfl _ _ 100 rfl Tryz.underlying3 Tryz.underlying100 (zeroEl _) rfl hd.map n rfl hwn EB hpe ?_ | refine look_yes _ rfl _ _ 100 rfl Tryz.underlying3 Tryz.underlying100 (zeroEl _) rfl hd.map par rfl hwp QB hpq ?_)
  go_upto_region 9 with (first | (go_at_call 63; refine FD.mono ?_; rintro r w1 ⟨o1, k1, rfl, b1, ow1⟩; have CI := Contains_ints w1 _ (fromL M f n) par ow1 hll; have ck1 := (HE.out.below b1 (Nat.le_refl _)).c8) | (go_at_call 66; refine CI.mono ?_; rintro r w2 ⟨rfl, rfl⟩))
  have OD := others_doc (HD.out.below b1) n par e q hn hq hql
  rw [HOT.out] at OD
  go_upto_region 11 with (go_at_call 67; refine OD.mono ?_; rintro r w3 ⟨rfl, rfl⟩)
  have DD := deep_doc (HD.out.below b1) par d hwp hu (by omega)
  go_wp2_with (first | (go_at_call 58; refine DD.mono ?_; rintro r w4 ⟨rfl, b4⟩; have LD := levels_doc (HD.out.below (mbel b1 b4)) f n hf hp hwn hl; rw [HMO.out] at LD) | (go_at_call 68; refine LD.mono ?_; rintro r w5 ⟨rfl, b5⟩; have ck5 := (HE.out.below (mbel (mbel b1 b4) b5) (Nat.le_refl _)).c8))
  go_ret
  exact ⟨rfl, mbel (mbel b1 b4) b5⟩

end Go.Proofs.YtnoecobddhmhlaaGreatDoor

namespace Go.Proofs.YtnoecobddhmhlaaGreatDoor
open Go.RowKit

set_option maxRecDepth 20000 in
set_option maxHeartbeats 4000000 in
theorem Add_no {E : Nat → Addr} {B : Nat} {tg : Tags} {W : World} {DB MB : Nat} {p : Int → Option Nat} {M : Dm} {nx c : Nat} (hE : DE E W) (hd : DocW B tg W DB MB p M nx c) (par a : Int) (name : Bs) (hwp : Wf64 par) (hq : M par = none) :
    Calls Tryz.prog 12 #[.pointer (some ⟨DB, 0, none⟩), .int .i64 par, .int .i64 a, .string ⟨name.toArray⟩] W fun r w' => r = .returned (.tuple #[.int .i64 0, eV (E 5)]) ∧ Below W.heap.size W w' := by
  have d0 := hd.d0
  have ck := hE.c5
  have HD : Hid (DocW B tg W DB MB p M nx c) := hd
  have HE : Hid (DE E W) := hE
  unfold eV
  have hpq := hd.non par hq
  go_enter Tryz.func12, Tryz.ntmps12
  go_upto_region 3 with (at_lookup; refine look_no _ rfl _ _ 100 rfl Tryz.underlying3 Tryz.underlying100 (zeroEl _) rfl hd.map par rfl hwp hpq ?_)
  go_region
  go_wp2_with fail
  go_ret2
  exact ⟨rfl, rfl, rfl, rfl, Nat.le_refl _, fun _ _ => rfl⟩
set_option maxRecDepth 20000 in
set_option maxHeartbeats 4000000 in
theorem Add_neg {E : Nat → Addr} {B : Nat} {tg : Tags} {W : World} {DB MB : Nat} {p : Int → Option Nat} {M : Dm} {nx c : Nat} (hE : DE E W) (hd : DocW B tg W DB MB p M nx c) (par a : Int) (name : Bs) (hwp : Wf64 par) (q : Elm) (hq : M par = some q) (hkl : q.kids.length ≤ 1000000) (ha : a < 0) :
    Calls Tryz.prog 12 #[.pointer (some ⟨DB, 0, none⟩), .int .i64 par, .int .i64 a, .string ⟨name.toArray⟩] W fun r w' => r = .returned (.tuple #[.int .i64 0, eV (E 2)]) ∧ Below W.heap.size W w' := by
  have d0 := hd.d0
  have ck := hE.c2
  have HD : Hid (DocW B tg W DB MB p M nx c) := hd
  have HE : Hid (DE E W) := hE
  unfold eV
  obtain ⟨QB, qa, qk, hpq, hq1⟩ := hd.els par q hq
  obtain ⟨oq, kq, rfl⟩ := own_slice hq1.kids
  have y3 := hq1.c3
  have hkl' : (q.kids.length : Int) ≤ 1000000 := by omega
  go_enter Tryz.func12, Tryz.ntmps12
  go_upto_region 5 with (at_lookup; refine look_yes _ rfl _ _ 100 rfl Tryz.underlying3 Tryz.underlying100 (zeroEl _) rfl hd.map par rfl hwp QB hpq ?_)
  go_region
  go_wp2_with fail
  go_ret2
  exact ⟨rfl, rfl, rfl, rfl, Nat.le_refl _, fun _ _ => rfl⟩
set_option maxRecDepth 20000 in
set_option maxHeartbeats 4000000 in
theorem Add_bound {E : Nat → Addr} {B : Nat} {tg : Tags} {W : World} {DB MB : Nat} {p : Int → Option Nat} {M : Dm} {nx c : Nat} (hE : DE E W) (hd : DocW B tg W DB MB p M nx c) (par a : Int) (name : Bs) (hwp : Wf64 par) (q : Elm) (hq : M par = some q) (hkl : q.kids.length ≤ 1000000) (ha : ¬ a < 0) (hal : (q.kids.length : Int) < a) :
    Calls Tryz.prog 12 #[.pointer (some ⟨DB, 0, none⟩), .int .i64 par, .int .i64 a, .string ⟨name.toArray⟩] W fun r w' => r = .returned (.tuple #[.int .i64 0, eV (E 2)]) ∧ Below W.heap.size W w' := by
  have d0 := hd.d0
  have ck := hE.c2
  have HD : Hid (DocW B tg W DB MB p M nx c) := hd
  have HE : Hid (DE E W) := hE
  unfold eV
  obtain ⟨QB, qa, qk, hpq, hq1⟩ := hd.els par q hq
  obtain ⟨oq, kq, rfl⟩ := own_slice hq1.kids
  have y3 := hq1.c3
  have hkl' : (q.kids.length : Int) ≤ 1000000 := by omega
  go_enter Tryz.func12, Tryz.ntmps12
  go_upto_region 5 with (at_lookup; refine look_yes _ rfl _ _ 100 rfl Tryz.underlying3 Tryz.underlying100 (zeroEl _) rfl hd.map par rfl hwp QB hpq ?_)
  go_region
  go_wp2_with fail
  go_ret2
  exact ⟨rfl, rfl, rfl, rfl, Nat.le_refl _, fun _ _ => rfl⟩
set_option maxRecDepth 20000 in
set_option maxHeartbeats 4000000 in
theorem Add_deep {E : Nat → Addr} {B : Nat} {tg : Tags} {W : World} {DB MB : Nat} {p : Int → Option Nat} {M : Dm} {nx c : Nat} (hE : DE E W) (hd : DocW B tg W DB MB p M nx c) (par a : Int) (name : Bs) (hwp : Wf64 par) (q : Elm) (hq : M par = some q) (hkl : q.kids.length ≤ 1000000) (ha : ¬ a < 0) (hal : ¬ (q.kids.length : Int) < a) (hnm : isNm name = true) (d : Nat) (hu : Up M par d) (hdb : d ≤ 1000000) (hdl : 10 ≤ d) :
    Calls Tryz.prog 12 #[.pointer (some ⟨DB, 0, none⟩), .int .i64 par, .int .i64 a, .string ⟨name.toArray⟩] W fun r w' => r = .returned (.tuple #[.int .i64 0, eV (E 8)]) ∧ Below W.heap.size W w' := by
  have d0 := hd.d0
  have ck := hE.c8
  have HD : Hid (DocW B tg W DB MB p M nx c) := hd
  have HE : Hid (DE E W) := hE
  unfold eV
  obtain ⟨QB, qa, qk, hpq, hq1⟩ := hd.els par q hq
  obtain ⟨oq, kq, rfl⟩ := own_slice hq1.kids
  have y3 := hq1.c3
  have hkl' : (q.kids.length : Int) ≤ 1000000 := by omega
  have IN := fun w => IsName_any ⟨name.toArray⟩ (by rw [strV_size]; have := isNm_len hnm; omega) w
  have hin : isNm (⟨name.toArray⟩ : ByteArray).data.toList = true := by simpa using hnm
  rw [hin] at IN
  have DD := deep_doc hd par d hwp hu (by omega)
  have hd10 : (10 : Int) ≤ (d : Int) := by omega
  go_enter Tryz.func12, Tryz.ntmps12
  go_upto_region 9 with (first | (at_lookup; refine look_yes _ rfl _ _ 100 rfl Tryz.underlying3 Tryz.underlying100 (zeroEl _) rfl hd.map par rfl hwp QB hpq ?_) | (go_at_call 57; refine (IN _).mono ?_; rintro r w0 ⟨rfl, rfl⟩) | (go_at_call 58; refine DD.mono ?_; rintro r w1 ⟨rfl, b1⟩; have CT := Count_doc (HD.out.below b1); have ck1 := (HE.out.below b1 (Nat.le_refl _)).c8) | (go_at_call 44; refine CT.mono ?_; rintro r w2 ⟨rfl, rfl⟩))
  go_region
  go_wp2_with fail
  go_ret2
  exact ⟨rfl, b1.os, b1.tape, b1.output, b1.size, b1.block⟩
set_option maxRecDepth 20000 in
set_option maxHeartbeats 4000000 in
theorem Add_full {E : Nat → Addr} {B : Nat} {tg : Tags} {W : World} {DB MB : Nat} {p : Int → Option Nat} {M : Dm} {nx c : Nat} (hE : DE E W) (hd : DocW B tg W DB MB p M nx c) (par a : Int) (name : Bs) (hwp : Wf64 par) (q : Elm) (hq : M par = some q) (hkl : q.kids.length ≤ 1000000) (ha : ¬ a < 0) (hal : ¬ (q.kids.length : Int) < a) (hnm : isNm name = true) (d : Nat) (hu : Up M par d) (hdb : d ≤ 1000000) (hdl : d < 10) (hc : 100 ≤ c) :
    Calls Tryz.prog 12 #[.pointer (some ⟨DB, 0, none⟩), .int .i64 par, .int .i64 a, .string ⟨name.toArray⟩] W fun r w' => r = .returned (.tuple #[.int .i64 0, eV (E 7)]) ∧ Below W.heap.size W w' := by
  have d0 := hd.d0
  have ck := hE.c7
  have HD : Hid (DocW B tg W DB MB p M nx c) := hd
  have HE : Hid (DE E W) := hE
  unfold eV
  obtain ⟨QB, qa, qk, hpq, hq1⟩ := hd.els par q hq
  obtain ⟨oq, kq, rfl⟩ := own_slice hq1.kids
  have y3 := hq1.c3
  have hkl' : (q.kids.length : Int) ≤ 1000000 := by omega
  have IN := fun w => IsName_any ⟨name.toArray⟩ (by rw [strV_size]; have := isNm_len hnm; omega) w
  have hin : isNm (⟨name.toArray⟩ : ByteArray).data.toList = true := by simpa using hnm
  rw [hin] at IN
  have DD := deep_doc hd par d hwp hu (by omega)
  have hd10 : ¬ (10 : Int) ≤ (d : Int) := by omega
  have hc100 : (100 : Int) ≤ (c : Int) := by omega
  go_enter Tryz.func12, Tryz.ntmps12
  go_upto_region 11 with (first | (at_lookup; refine look_yes _ rfl _ _ 100 rfl Tryz.underlying3 Tryz.underlying100 (zeroEl _) rfl hd.map par rfl hwp QB hpq ?_) | (go_at_call 57; refine (IN _).mono ?_; rintro r w0 ⟨rfl, rfl⟩) | (go_at_call 58; refine DD.mono ?_; rintro r w1 ⟨rfl, b1⟩; have CT := Count_doc (HD.out.below b1); have ck1 := (HE.out.below b1 (Nat.le_refl _)).c7) | (go_at_call 44; refine CT.mono ?_; rintro r w2 ⟨rfl, rfl⟩))
  go_region
  go_wp2_with fail
  go_ret2
  exact ⟨rfl, b1.os, b1.tape, b1.output, b1.size, b1.block⟩
set_option maxHeartbeats 2000000 in
theorem Remove_no {E : Nat → Addr} {B : Nat} {tg : Tags} {W : World} {DB MB : Nat} {p : Int → Option Nat} {M : Dm} {nx c : Nat} (hE : DE E W) (hd : DocW B tg W DB MB p M nx c) (n : Int) (hwn : Wf64 n) (hn : M n = none) :
    Calls Tryz.prog 15 #[.pointer (some ⟨DB, 0, none⟩), .int .i64 n] W fun r w' => r = .returned (eV (E 5)) ∧ w' = W := by
  have hpn := hd.non n hn
  have d0 := hd.d0
  have c5 := hE.c5
  unfold eV
  go_enter Tryz.func15, Tryz.ntmps15
  go_wp2_with (at_lookup; refine look_no _ rfl _ _ 100 rfl Tryz.underlying3 Tryz.underlying100 (zeroEl _) rfl hd.map n rfl hwn hpn ?_)
  go_ret
  exact ⟨rfl, rfl⟩

end Go.Proofs.YtnoecobddhmhlaaGreatDoor

namespace Go.Proofs.YtnoecobddhmhlaaGreatDoor
open Go.RowKit

set_option maxHeartbeats 2000000 in
theorem SameInts_same {B B' : Nat} (W : World) (o o' : Option Addr) (k k' : Nat) (L : List Int) (h : W.ownsRow B 3 1 (.slice o L.length k) L.length (intsV L)) (h' : W.ownsRow B' 3 1 (.slice o' L.length k') L.length (intsV L)) (hl : L.length ≤ 1000000) :
    Calls Tryz.prog 36 #[.slice o L.length k, .slice o' L.length k'] W fun e w' => e = .returned (.bool true) ∧ Below W.heap.size W w' := by
  have HR : Hid (W.ownsRow B 3 1 (.slice o L.length k) L.length (intsV L)) := h
  have HR' : Hid (W.ownsRow B' 3 1 (.slice o' L.length k') L.length (intsV L)) := h'
  clear h h'
  go_enter Tryz.func36, Tryz.ntmps36
  go_wp2_with fail
  go_loopw [5] (fun y wr => ∃ i : Nat, i ≤ L.length ∧ y = .int .i64 i ∧ Below W.heap.size W wr) (fun y _ => L.length - (intOf y).toNat)
  case atStart => exact ⟨0, Nat.zero_le _, rfl, Below.refl _ _⟩
  case round =>
    obtain ⟨i, hi, rfl, hb⟩ := hrel
    by_cases hil : i < L.length
    · obtain ⟨y, hy⟩ : ∃ y, L[i]? = some y := ⟨_, List.getElem?_eq_getElem hil⟩
      obtain ⟨g, hg, hc⟩ := row_get (own_bel HR.out hb) i _ (intsV_get hy)
      obtain ⟨g', hg', hc'⟩ := row_get (own_bel HR'.out hb) i _ (intsV_get hy)
      have ho : o = some ⟨g, 0, none⟩ := by
        rcases HR.out.2 with ⟨_, e1⟩ | ⟨g1, cap, cur, e1, _⟩
        · omega
        · cases e1; cases hg; rfl
      have ho' : o' = some ⟨g', 0, none⟩ := by
        rcases HR'.out.2 with ⟨_, e1⟩ | ⟨g1, cap, cur, e1, _⟩
        · omega
        · cases e1; cases hg'; rfl
      subst ho ho'
      have hil' : (i : Int) < L.length := by omega
      clear hg hg'
      go_wp2_with fail
      go_region
      go_wp2_with fail
      go_roundw
      case rel => exact ⟨i + 1, by omega, by go_num, mdrew 1 hb⟩
      case measure => simp [intOf]; omega
    · have hil' : ¬ (i : Int) < L.length := by omega
      go_wp2_with fail
      go_ret
      exact ⟨rfl, hb⟩
/-- Children are no more than elements. -/
theorem sub_len : ∀ (K l : List Int), K.Nodup → (∀ x ∈ K, x ∈ l) → K.length ≤ l.length
  | [], _, _, _ => Nat.zero_le _
  | k :: K, l, h, hs => by
    have h1 := List.nodup_cons.1 h
    have hk := hs k (by simp)
    have h2 := sub_len K (l.erase k) h1.2 (fun x hx => (List.mem_erase_of_ne (fun e => h1.1 (by rw [← e]; exact hx))).2 (hs x (by simp [hx])))
    rw [List.length_erase_of_mem hk] at h2
    have := List.length_pos_of_mem hk
    rw [List.length_cons]
    omega

end Go.Proofs.YtnoecobddhmhlaaGreatDoor

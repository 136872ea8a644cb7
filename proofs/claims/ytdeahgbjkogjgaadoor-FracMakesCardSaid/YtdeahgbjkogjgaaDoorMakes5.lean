/-
  The law FracMakes answers true for every input.
-/
import Derived.Test.YtdeahgbjkogjgaaDoorMakes4
namespace Go.Proofs.YtdeahgbjkogjgaaDoor
open Go.RowKit

theorem mk_code (n d : Int) : (mk n d).c = 0 ∨ (mk n d).c = 2 ∨ (mk n d).c = 3 ∨ (mk n d).c = 11 := by
  unfold mk
  split
  · simp
  · split
    · simp
    · rcases low_cases' n d with ⟨p, q, h⟩ | h <;> simp [h]
theorem chk_code (n d : Int) : chk n d = 0 ∨ chk n d = 2 ∨ chk n d = 3 ∨ chk n d = 11 := by
  rcases chk_cases n d with h | h | h <;> simp [h]
theorem coded_e (E : Nat → Addr) (c : Nat) (hc : c = 0 ∨ c = 2 ∨ c = 3 ∨ c = 11) (w : World) (h : EE E w) :
    Calls Tryd.prog 10 #[er (E 2) (E 3) (E 11) c, .int .i64 c] w fun e w' => e = .returned (.bool true) ∧ Below w.heap.size w w' := by
  rw [er_ev E hc]
  exact coded_ev c (by omega) w h
theorem coded_r (E : Nat → Addr) (c : Nat) (hc : c ≤ 3) (w : World) (h : EE E w) :
    Calls Tryd.prog 10 #[er4 (E 1) (E 2) (E 3) (E 11) c, .int .i64 c] w fun e w' => e = .returned (.bool true) ∧ Below w.heap.size w w' := by
  rw [er4_ev E hc]
  exact coded_ev c (by omega) w h
theorem text_back (aB aS aZ : Addr) (s : ByteArray) (q : R3) (w : World) (hq : (rd s.data.toList) = q) (h0 : q.c = 0) (h : G aB aS aZ w) :
    Calls Tryd.prog 17 #[.agg #[.int .i64 q.n, .int .i64 q.d]] w fun e w' => e = .returned (.string s) ∧ Below w.heap.size w w' := by
  subst hq
  have hk := i64_of_chk (rd_chk h0)
  have ht := Text_any aB aS aZ _ _ w hk.1 hk.2 h
  rw [rd_txt h0] at ht
  exact ht
theorem cmp_bad (aB aS aZ : Addr) (an ad bn bd : Int) (c : Nat) (w : World) (i1 : I64 an) (i2 : I64 ad) (i3 : I64 bn) (i4 : I64 bd) (h : E3 aB aS aZ w) (hz : c ≠ 0) (hc : chk2 an ad bn bd = c) :
    Calls Tryd.prog 21 #[.agg #[.int .i64 an, .int .i64 ad], .agg #[.int .i64 bn, .int .i64 bd]] w fun e w' => e = .returned (.tuple #[.int .i64 0, er aB aS aZ c]) ∧ Below w.heap.size w w' := by
  have := Cmp_any aB aS aZ an ad bn bd w i1 i2 i3 i4 h
  rw [hc, if_neg hz] at this
  exact this

theorem makes_any (E : Nat → Addr) (num den an ad bn bd : Int) (s : ByteArray) (w : World) (i0 : I64 num) (i1 : I64 den) (i2 : I64 an) (i3 : I64 ad) (i4 : I64 bn) (i5 : I64 bd) (h : GG E w) :
    Calls Tryd.prog 4 #[.int .i64 num, .int .i64 den, .agg #[.int .i64 an, .int .i64 ad], .agg #[.int .i64 bn, .int .i64 bd], .string s] w fun e w' => e = .returned (.bool true) ∧ Below w.heap.size w w' := by
  by_cases hs : s.size ≤ 60
  · obtain ⟨ca, ha⟩ : ∃ c, chk an ad = c := ⟨_, rfl⟩
    obtain ⟨cb, hb⟩ : ∃ c, chk bn bd = c := ⟨_, rfl⟩
    obtain ⟨q, hq⟩ : ∃ q, (rd s.data.toList) = q := ⟨_, rfl⟩
    have kA : ca = 0 ∨ ca = 2 ∨ ca = 3 ∨ ca = 11 := ha ▸ chk_code an ad
    have kB : cb = 0 ∨ cb = 2 ∨ cb = 3 ∨ cb = 11 := hb ▸ chk_code bn bd
    have kq : q.c ≤ 3 := hq ▸ (rd_code s.data.toList).1
    have fC := fun W (hW : GG E W) => Check_any (E 2) (E 3) (E 11) an ad W i2 i3 hW.g.e3
    have fR := fun W (hW : GG E W) => Read_any (E 1) (E 2) (E 3) (E 11) s W hW.g.e3 hW.ee.c1 (by omega)
    have fO := fun W (_ : GG E W) => FracOf_any s W (by omega)
    rw [ha] at fC
    rw [hq] at fR fO
    obtain ⟨qn, qd, qc⟩ := q
    by_cases za : ca = 0
    · subst za
      by_cases zb : cb = 0
      · subst zb
        by_cases h0 : qc = 0
        · subst h0
          exact makes_000 E num den an ad bn bd _ _ _ _ _ _ s _ _ _ _ w h hs (fun W hW => halved_any (E 2) (E 3) (E 11) W hW.g) (fun W hW => Make_any (E 2) (E 3) (E 11) num den W i0 i1 hW.g.e3) (fun W _ => FracMake_any num den W i0 i1) (fun W hW => coded_e E (mk num den).c (mk_code num den) W hW.ee) fC (fun W _ => FracError_at an ad _ W i2 i3 ha) (fun W hW => coded_e E _ kA W hW.ee) (fun W hW => Text_any (E 2) (E 3) (E 11) an ad W i2 i3 hW.g) (fun W _ => FracText_any an ad W i2 i3) fR fO (fun W hW => coded_r E _ kq W hW.ee) (fun W hW => text_back (E 2) (E 3) (E 11) s _ W hq rfl hW.g) (fun W hW => Cmp_ok (E 2) (E 3) (E 11) an ad bn bd W ha hb hW.g.e3) (fun W _ => FracError_at bn bd _ W i4 i5 hb) (fun W _ => FracCmp_any an ad bn bd W ha hb)
        · exact makes_001 E num den an ad bn bd _ _ _ _ _ _ _ s _ _ _ _ w h hs (by rw [beq_eq_false_iff_ne]; show (qc : Int) ≠ 0; omega) (fun W hW => halved_any (E 2) (E 3) (E 11) W hW.g) (fun W hW => Make_any (E 2) (E 3) (E 11) num den W i0 i1 hW.g.e3) (fun W _ => FracMake_any num den W i0 i1) (fun W hW => coded_e E (mk num den).c (mk_code num den) W hW.ee) fC (fun W _ => FracError_at an ad _ W i2 i3 ha) (fun W hW => coded_e E _ kA W hW.ee) (fun W hW => Text_any (E 2) (E 3) (E 11) an ad W i2 i3 hW.g) (fun W _ => FracText_any an ad W i2 i3) fR fO (fun W hW => coded_r E _ kq W hW.ee) (fun W hW => Cmp_ok (E 2) (E 3) (E 11) an ad bn bd W ha hb hW.g.e3) (fun W _ => FracError_at bn bd _ W i4 i5 hb) (fun W _ => FracCmp_any an ad bn bd W ha hb)
      · have hz := zb
        by_cases h0 : qc = 0
        · subst h0
          exact makes_010 E num den an ad bn bd _ _ _ _ _ _ s _ _ _ _ _ w h hs (by omega) (fun W hW => halved_any (E 2) (E 3) (E 11) W hW.g) (fun W hW => Make_any (E 2) (E 3) (E 11) num den W i0 i1 hW.g.e3) (fun W _ => FracMake_any num den W i0 i1) (fun W hW => coded_e E (mk num den).c (mk_code num den) W hW.ee) fC (fun W _ => FracError_at an ad _ W i2 i3 ha) (fun W hW => coded_e E _ kA W hW.ee) (fun W hW => Text_any (E 2) (E 3) (E 11) an ad W i2 i3 hW.g) (fun W _ => FracText_any an ad W i2 i3) fR fO (fun W hW => coded_r E _ kq W hW.ee) (fun W hW => text_back (E 2) (E 3) (E 11) s _ W hq rfl hW.g) (fun W hW => cmp_bad (E 2) (E 3) (E 11) an ad bn bd _ W i2 i3 i4 i5 hW.g.e3 hz (by unfold chk2; rw [if_neg (by rw [ha]; simp), hb])) (fun W _ => FracError_at bn bd _ W i4 i5 hb) (fun W hW => coded_e E _ kB W hW.ee)
        · exact makes_011 E num den an ad bn bd _ _ _ _ _ _ _ s _ _ _ _ _ w h hs (by omega) (by rw [beq_eq_false_iff_ne]; show (qc : Int) ≠ 0; omega) (fun W hW => halved_any (E 2) (E 3) (E 11) W hW.g) (fun W hW => Make_any (E 2) (E 3) (E 11) num den W i0 i1 hW.g.e3) (fun W _ => FracMake_any num den W i0 i1) (fun W hW => coded_e E (mk num den).c (mk_code num den) W hW.ee) fC (fun W _ => FracError_at an ad _ W i2 i3 ha) (fun W hW => coded_e E _ kA W hW.ee) (fun W hW => Text_any (E 2) (E 3) (E 11) an ad W i2 i3 hW.g) (fun W _ => FracText_any an ad W i2 i3) fR fO (fun W hW => coded_r E _ kq W hW.ee) (fun W hW => cmp_bad (E 2) (E 3) (E 11) an ad bn bd _ W i2 i3 i4 i5 hW.g.e3 hz (by unfold chk2; rw [if_neg (by rw [ha]; simp), hb])) (fun W _ => FracError_at bn bd _ W i4 i5 hb) (fun W hW => coded_e E _ kB W hW.ee)
    · have hz := za
      by_cases h0 : qc = 0
      · subst h0
        exact makes_100 E num den an ad bn bd _ _ _ _ _ _ s _ _ _ _ w h hs (by rw [beq_eq_false_iff_ne]; omega) (by omega) (fun W hW => halved_any (E 2) (E 3) (E 11) W hW.g) (fun W hW => Make_any (E 2) (E 3) (E 11) num den W i0 i1 hW.g.e3) (fun W _ => FracMake_any num den W i0 i1) (fun W hW => coded_e E (mk num den).c (mk_code num den) W hW.ee) fC (fun W _ => FracError_at an ad _ W i2 i3 ha) (fun W hW => coded_e E _ kA W hW.ee) fR fO (fun W hW => coded_r E _ kq W hW.ee) (fun W hW => text_back (E 2) (E 3) (E 11) s _ W hq rfl hW.g) (fun W hW => cmp_bad (E 2) (E 3) (E 11) an ad bn bd _ W i2 i3 i4 i5 hW.g.e3 hz (by unfold chk2; rw [if_pos (by rw [ha]; exact hz), ha])) (fun W hW => coded_e E _ kA W hW.ee)
      · exact makes_101 E num den an ad bn bd _ _ _ _ _ _ _ s _ _ _ _ w h hs (by rw [beq_eq_false_iff_ne]; omega) (by omega) (by rw [beq_eq_false_iff_ne]; show (qc : Int) ≠ 0; omega) (fun W hW => halved_any (E 2) (E 3) (E 11) W hW.g) (fun W hW => Make_any (E 2) (E 3) (E 11) num den W i0 i1 hW.g.e3) (fun W _ => FracMake_any num den W i0 i1) (fun W hW => coded_e E (mk num den).c (mk_code num den) W hW.ee) fC (fun W _ => FracError_at an ad _ W i2 i3 ha) (fun W hW => coded_e E _ kA W hW.ee) fR fO (fun W hW => coded_r E _ kq W hW.ee) (fun W hW => cmp_bad (E 2) (E 3) (E 11) an ad bn bd _ W i2 i3 i4 i5 hW.g.e3 hz (by unfold chk2; rw [if_pos (by rw [ha]; exact hz), ha])) (fun W hW => coded_e E _ kA W hW.ee)
  · exact makes_long E num den an ad bn bd s w h (by omega)
end Go.Proofs.YtdeahgbjkogjgaaDoor

/-
  One makes no difference; the middle goes where E and F say.
-/
import Derived.Test.YtlnnpileegoglabGreatDoorMove9
namespace Go.Proofs.YtlnnpileegoglabGreatDoor

theorem whole_ok {n : Int} (h : n.natAbs ≤ 1073741824) : (Fr.whole n).ok := chk_zero.2 ⟨by simp [Fr.whole], by simp [gcdI, Fr.whole], by simpa [Fr.whole] using h, by simp [Fr.whole]⟩
theorem doF_some {op : Op4} {x y z : Fr} (h : op x.n x.d y.n y.d = ⟨z.n, z.d, 0⟩) : doF op 0 x y = (z, 0) := by unfold doF; rw [if_pos rfl, h]
theorem one_mul' {x : Fr} (h : x.ok) : doF mul 0 (.whole 1) x = (x, 0) := doF_some (mul_some.2 ⟨whole_ok (by decide), h, h, by simp [Fr.whole]⟩)
theorem mul_one' {x : Fr} (h : x.ok) : doF mul 0 x (.whole 1) = (x, 0) := doF_some (mul_some.2 ⟨h, whole_ok (by decide), h, by simp [Fr.whole]⟩)
theorem zero_mul' {x : Fr} (h : x.ok) : doF mul 0 (.whole 0) x = (.whole 0, 0) := doF_some (mul_some.2 ⟨whole_ok (by decide), h, whole_ok (by decide), by simp [Fr.whole]⟩)
theorem mul_zero0 {x : Fr} (h : x.ok) : doF mul 0 x (.whole 0) = (.whole 0, 0) := doF_some (mul_some.2 ⟨h, whole_ok (by decide), whole_ok (by decide), by simp [Fr.whole]⟩)
theorem zero_add' {x : Fr} (h : x.ok) : doF add 0 (.whole 0) x = (x, 0) := doF_some (add_some.2 ⟨whole_ok (by decide), h, h, by simp [Fr.whole]⟩)
theorem add_zero' {x : Fr} (h : x.ok) : doF add 0 x (.whole 0) = (x, 0) := doF_some (add_some.2 ⟨h, whole_ok (by decide), h, by simp [Fr.whole]⟩)
theorem one_ok : Mv.one.ok := ⟨whole_ok (by decide), whole_ok (by decide), whole_ok (by decide), whole_ok (by decide), whole_ok (by decide), whole_ok (by decide)⟩
theorem z_ok : (Fr.whole 0).ok := whole_ok (by decide)
theorem dot_10 {x y : Fr} (hx : x.ok) (hy : y.ok) : dotF 0 (.whole 1) x (.whole 0) y = (x, 0) := by unfold dotF; rw [one_mul' hx]; simp only; rw [zero_mul' hy]; simp only; exact add_zero' hx
theorem dot_01 {x y : Fr} (hx : x.ok) (hy : y.ok) : dotF 0 (.whole 0) x (.whole 1) y = (y, 0) := by unfold dotF; rw [zero_mul' hx]; simp only; rw [one_mul' hy]; simp only; exact zero_add' hy
theorem dot_x1 {a b : Fr} (ha : a.ok) (hb : b.ok) : dotF 0 a (.whole 1) b (.whole 0) = (a, 0) := by unfold dotF; rw [mul_one' ha]; simp only; rw [mul_zero0 hb]; simp only; exact add_zero' ha
theorem dot_y1 {a b : Fr} (ha : a.ok) (hb : b.ok) : dotF 0 a (.whole 0) b (.whole 1) = (b, 0) := by unfold dotF; rw [mul_zero0 ha]; simp only; rw [mul_one' hb]; simp only; exact zero_add' hb
theorem dot_00 {a b : Fr} (ha : a.ok) (hb : b.ok) : dotF 0 a (.whole 0) b (.whole 0) = (.whole 0, 0) := by unfold dotF; rw [mul_zero0 ha]; simp only; rw [mul_zero0 hb]; simp only; exact zero_add' z_ok
theorem turned_one {p : Pt} (h : p.ok) : turnedF 0 .one p = (p, 0) := by
  unfold turnedF Mv.one; simp only; rw [dot_10 h.1 h.2]; simp only; rw [dot_01 h.1 h.2]
theorem moved_one {p : Pt} (h : p.ok) : movedF 0 .one p = (p, 0) := by
  unfold movedF; rw [turned_one h]; unfold Mv.one; simp only; rw [add_zero' h.1]; simp only; rw [add_zero' h.2]
theorem turned_x {m : Mv} (h : m.ok) : turnedF 0 m ⟨.whole 1, .whole 0⟩ = (⟨m.a, m.b⟩, 0) := by
  unfold turnedF; simp only; rw [dot_x1 h.1 h.2.2.1]; simp only; rw [dot_x1 h.2.1 h.2.2.2.1]
theorem turned_y {m : Mv} (h : m.ok) : turnedF 0 m ⟨.whole 0, .whole 1⟩ = (⟨m.c, m.d⟩, 0) := by
  unfold turnedF; simp only; rw [dot_y1 h.1 h.2.2.1]; simp only; rw [dot_y1 h.2.1 h.2.2.2.1]
theorem moved_0 {m : Mv} (h : m.ok) : movedF 0 m ⟨.whole 0, .whole 0⟩ = (⟨m.e, m.f⟩, 0) := by
  unfold movedF turnedF; simp only; rw [dot_00 h.1 h.2.2.1]; simp only; rw [dot_00 h.2.1 h.2.2.2.1]; simp only; rw [zero_add' h.2.2.2.2.1]; simp only; rw [zero_add' h.2.2.2.2.2]
theorem thenS_one {m : Mv} (h : m.ok) : thenS m .one = (m, 0) := by
  unfold thenS; rw [turned_one ⟨h.1, h.2.1⟩]; simp only; rw [turned_one ⟨h.2.2.1, h.2.2.2.1⟩]; simp only; rw [moved_one ⟨h.2.2.2.2.1, h.2.2.2.2.2⟩]
theorem one_thenS {m : Mv} (h : m.ok) : thenS .one m = (m, 0) := by
  unfold thenS
  rw [show (⟨Mv.one.a, Mv.one.b⟩ : Pt) = ⟨.whole 1, .whole 0⟩ from rfl, show (⟨Mv.one.c, Mv.one.d⟩ : Pt) = ⟨.whole 0, .whole 1⟩ from rfl, show (⟨Mv.one.e, Mv.one.f⟩ : Pt) = ⟨.whole 0, .whole 0⟩ from rfl, turned_x h]; simp only; rw [turned_y h]; simp only; rw [moved_0 h]
theorem bad_ok {m : Mv} (h : m.ok) : (firstBad 0 m.list).1 = 0 := by
  rw [firstBad_none]
  intro y hy
  simp only [Mv.list, List.mem_cons, List.not_mem_nil, or_false] at hy
  obtain ⟨h1, h2, h3, h4, h5, h6⟩ := h
  rcases hy with rfl | rfl | rfl | rfl | rfl | rfl <;> assumption
theorem badp_ok {p : Pt} (h : p.ok) : (firstBad 6 p.list).1 = 0 := by
  rw [firstBad_none]
  intro y hy
  simp only [Pt.list, List.mem_cons, List.not_mem_nil, or_false] at hy
  rcases hy with rfl | rfl
  · exact h.1
  · exact h.2
theorem thenR_ok {m n x : Mv} (hm : m.ok) (hn : n.ok) (h : thenS m n = (x, 0)) : thenR m n = (x, .no) := by
  unfold thenR; rw [if_neg (by simp [bad_ok hm]), if_neg (by simp [bad_ok hn]), h]; simp
theorem thenR_one {m : Mv} (h : m.ok) : thenR m .one = (m, .no) := thenR_ok h one_ok (thenS_one h)
theorem one_thenR {m : Mv} (h : m.ok) : thenR .one m = (m, .no) := thenR_ok one_ok h (one_thenS h)
theorem atR_ok {m : Mv} {p q : Pt} (hm : m.ok) (hp : p.ok) (h : movedF 0 m p = (q, 0)) : atR m p = (q, .no) := by
  unfold atR; rw [if_neg (by simp [bad_ok hm]), if_neg (by simp [badp_ok hp]), h]; simp
/-- What an answer without an error says. -/
theorem thenR_no {m n x : Mv} (h : thenR m n = (x, .no)) : m.ok ∧ n.ok ∧ thenS m n = (x, 0) := by
  unfold thenR at h
  by_cases h1 : (firstBad 0 m.list).1 = 0
  · rw [if_neg (by simp [h1])] at h
    by_cases h2 : (firstBad 0 n.list).1 = 0
    · rw [if_neg (by simp [h2])] at h
      by_cases h3 : (thenS m n).2 = 0
      · rw [if_pos h3] at h
        exact ⟨mv_ok h1, mv_ok h2, Prod.ext (Prod.mk.inj h).1 h3⟩
      · rw [if_neg h3] at h; cases h
    · rw [if_pos h2] at h; cases h
  · rw [if_pos h1] at h; cases h
theorem atR_no {m : Mv} {p q : Pt} (h : atR m p = (q, .no)) : m.ok ∧ p.ok ∧ movedF 0 m p = (q, 0) := by
  unfold atR at h
  by_cases h1 : (firstBad 0 m.list).1 = 0
  · rw [if_neg (by simp [h1])] at h
    by_cases h2 : (firstBad 6 p.list).1 = 0
    · rw [if_neg (by simp [h2])] at h
      by_cases h3 : (movedF 0 m p).2 = 0
      · rw [if_pos h3] at h
        exact ⟨mv_ok h1, pt_ok h2, Prod.ext (Prod.mk.inj h).1 h3⟩
      · rw [if_neg h3] at h; cases h
    · rw [if_pos h2] at h; cases h
  · rw [if_pos h1] at h; cases h

theorem mv_ext {x y : Mv} (hx : x.ok) (hy : y.ok) (ha : x.a.val = y.a.val) (hb : x.b.val = y.b.val) (hc : x.c.val = y.c.val) (hd : x.d.val = y.d.val) (he : x.e.val = y.e.val) (hf : x.f.val = y.f.val) : x = y := by
  have e1 := val_inj hx.1 hy.1 ha
  have e2 := val_inj hx.2.1 hy.2.1 hb
  have e3 := val_inj hx.2.2.1 hy.2.2.1 hc
  have e4 := val_inj hx.2.2.2.1 hy.2.2.2.1 hd
  have e5 := val_inj hx.2.2.2.2.1 hy.2.2.2.2.1 he
  have e6 := val_inj hx.2.2.2.2.2 hy.2.2.2.2.2 hf
  cases x; cases y; simp_all

/-- CAYLEY: three in a row may be put together in any way. -/
theorem then_assoc {m n o x y z u : Mv} (hx : thenR m n = (x, .no)) (hy : thenR x o = (y, .no)) (hz : thenR n o = (z, .no)) (hu : thenR m z = (u, .no)) : u = y := by
  obtain ⟨om, on, ex⟩ := thenR_no hx
  obtain ⟨ox, oo, ey⟩ := thenR_no hy
  obtain ⟨_, _, ez⟩ := thenR_no hz
  obtain ⟨_, oz, eu⟩ := thenR_no hu
  have vx := (then_step om on).2 (by rw [ex])
  have vy := (then_step ox oo).2 (by rw [ey])
  have vz := (then_step on oo).2 (by rw [ez])
  have vu := (then_step om oz).2 (by rw [eu])
  rw [ex] at vx; rw [ey] at vy; rw [ez] at vz; rw [eu] at vu
  simp only at vx vy vz vu
  obtain ⟨_, x1, x2, x3, x4, x5, x6⟩ := vx
  obtain ⟨oy, y1, y2, y3, y4, y5, y6⟩ := vy
  obtain ⟨_, z1, z2, z3, z4, z5, z6⟩ := vz
  obtain ⟨ou, u1, u2, u3, u4, u5, u6⟩ := vu
  refine mv_ext ou oy ?_ ?_ ?_ ?_ ?_ ?_ <;> grind

/-- One move and then another one go where both go. -/
theorem then_goes {m n x : Mv} {p q r s : Pt} (hx : thenR m n = (x, .no)) (hq : atR m p = (q, .no)) (hr : atR n q = (r, .no)) (hs : atR x p = (s, .no)) : r = s := by
  obtain ⟨om, on, ex⟩ := thenR_no hx
  obtain ⟨_, op, eq⟩ := atR_no hq
  obtain ⟨_, oq, er⟩ := atR_no hr
  obtain ⟨ox, _, es⟩ := atR_no hs
  have vx := (then_step om on).2 (by rw [ex])
  have vq := (moved_step (c := 0) (.inl rfl) om op).2 (by rw [eq])
  have vr := (moved_step (c := 0) (.inl rfl) on oq).2 (by rw [er])
  have vs := (moved_step (c := 0) (.inl rfl) ox op).2 (by rw [es])
  rw [ex] at vx; rw [eq] at vq; rw [er] at vr; rw [es] at vs
  simp only at vx vq vr vs
  obtain ⟨_, x1, x2, x3, x4, x5, x6⟩ := vx
  obtain ⟨_, _, q1, q2⟩ := vq
  obtain ⟨_, or, r1, r2⟩ := vr
  obtain ⟨_, os, s1, s2⟩ := vs
  have e1 := val_inj or.1 os.1 (by grind)
  have e2 := val_inj or.2 os.2 (by grind)
  cases r; cases s; simp_all

end Go.Proofs.YtlnnpileegoglabGreatDoor

namespace Go.Proofs.YtlnnpileegoglabGreatDoor

/-- An operation's answer, where there is one. -/
def opO (op : Op4) (x y : Fr) : Option Fr := if (op x.n x.d y.n y.d).c = 0 then some ⟨(op x.n x.d y.n y.d).n, (op x.n x.d y.n y.d).d⟩ else none
/-- a times b, and c times d, and e. -/
def dotO (a b c d e : Fr) : Option Fr := (opO mul a b).bind fun x => (opO mul c d).bind fun y => (opO add x y).bind fun s => opO add s e
def goesO (m : Mv) (p : Pt) : Option Pt := (dotO m.a p.x m.c p.y m.e).bind fun x => (dotO m.b p.x m.d p.y m.f).bind fun y => some ⟨x, y⟩
def thenO (m n : Mv) : Option Mv :=
  (dotO n.a m.a n.c m.b (.whole 0)).bind fun a => (dotO n.b m.a n.d m.b (.whole 0)).bind fun b => (dotO n.a m.c n.c m.d (.whole 0)).bind fun c => (dotO n.b m.c n.d m.d (.whole 0)).bind fun d =>
    (goesO n ⟨m.e, m.f⟩).bind fun p => some ⟨a, b, c, d, p.x, p.y⟩

theorem opO_iff {op : Op4} {x y z : Fr} : opO op x y = some z ↔ doF op 0 x y = (z, 0) := by
  unfold opO doF
  rw [if_pos rfl]
  by_cases h : (op x.n x.d y.n y.d).c = 0
  · rw [if_pos h, h]; simp
  · rw [if_neg h]; simp [h]
theorem doF_state {op : Op4} {c : Nat} {x y z : Fr} (h : doF op c x y = (z, 0)) : c = 0 := by
  unfold doF at h
  by_cases hc : c = 0
  · exact hc
  · rw [if_neg hc] at h; exact congrArg Prod.snd h
theorem dotF_iff {c : Nat} {a x b y s : Fr} : dotF c a x b y = (s, 0) ↔ c = 0 ∧ ∃ u v, opO mul a x = some u ∧ opO mul b y = some v ∧ opO add u v = some s := by
  constructor
  · intro h
    unfold dotF at h
    obtain ⟨u, hu⟩ : ∃ u, doF mul c a x = u := ⟨_, rfl⟩
    rw [hu] at h
    obtain ⟨u1, u2⟩ := u
    simp only at h
    obtain ⟨v, hv⟩ : ∃ v, doF mul u2 b y = v := ⟨_, rfl⟩
    rw [hv] at h
    obtain ⟨v1, v2⟩ := v
    simp only at h
    obtain rfl := doF_state h
    obtain rfl := doF_state hv
    obtain rfl := doF_state hu
    exact ⟨rfl, u1, v1, opO_iff.2 hu, opO_iff.2 hv, opO_iff.2 h⟩
  · rintro ⟨rfl, u, v, h1, h2, h3⟩
    unfold dotF
    rw [opO_iff.1 h1]; simp only
    rw [opO_iff.1 h2]; simp only
    exact opO_iff.1 h3
theorem bind_iff {α β : Type} {o : Option α} {f : α → Option β} {z : β} : o.bind f = some z ↔ ∃ a, o = some a ∧ f a = some z := by cases o <;> simp
theorem dotO_iff {a x b y e z : Fr} : dotO a x b y e = some z ↔ ∃ s, dotF 0 a x b y = (s, 0) ∧ doF add 0 s e = (z, 0) := by
  unfold dotO
  constructor
  · intro h
    obtain ⟨u, h1, h⟩ := bind_iff.1 h
    obtain ⟨v, h2, h⟩ := bind_iff.1 h
    obtain ⟨s, h3, h⟩ := bind_iff.1 h
    exact ⟨s, dotF_iff.2 ⟨rfl, u, v, h1, h2, h3⟩, opO_iff.1 h⟩
  · rintro ⟨s, h, h4⟩
    obtain ⟨_, u, v, h1, h2, h3⟩ := dotF_iff.1 h
    rw [h1]; simp only [Option.bind_some]
    rw [h2]; simp only [Option.bind_some]
    rw [h3]; simp only [Option.bind_some]
    exact opO_iff.2 h4
theorem dotF_state {c : Nat} {a x b y s : Fr} (h : dotF c a x b y = (s, 0)) : c = 0 := (dotF_iff.1 h).1
theorem turnedF_iff {c : Nat} {m : Mv} {p q : Pt} : turnedF c m p = (q, 0) ↔ c = 0 ∧ dotF 0 m.a p.x m.c p.y = (q.x, 0) ∧ dotF 0 m.b p.x m.d p.y = (q.y, 0) := by
  unfold turnedF
  obtain ⟨u, hu⟩ : ∃ u, dotF c m.a p.x m.c p.y = u := ⟨_, rfl⟩
  obtain ⟨u1, u2⟩ := u
  rw [hu]; simp only
  obtain ⟨v, hv⟩ : ∃ v, dotF u2 m.b p.x m.d p.y = v := ⟨_, rfl⟩
  obtain ⟨v1, v2⟩ := v
  rw [hv]; simp only
  constructor
  · intro h
    obtain rfl : v2 = 0 := congrArg Prod.snd h
    obtain rfl := dotF_state hv
    obtain rfl := dotF_state hu
    have h1 := congrArg Prod.fst h
    simp only at h1
    subst h1
    exact ⟨rfl, hu, hv⟩
  · rintro ⟨rfl, h1, h2⟩
    rw [h1] at hu
    cases hu
    rw [h2] at hv
    cases hv
    rfl
theorem movedF_iff {c : Nat} {m : Mv} {p q : Pt} : movedF c m p = (q, 0) ↔ c = 0 ∧ goesO m p = some q := by
  unfold movedF
  obtain ⟨t, ht⟩ : ∃ t, turnedF c m p = t := ⟨_, rfl⟩
  obtain ⟨t1, t2⟩ := t
  rw [ht]; simp only
  obtain ⟨u, hu⟩ : ∃ u, doF add t2 t1.x m.e = u := ⟨_, rfl⟩
  obtain ⟨u1, u2⟩ := u
  rw [hu]; simp only
  obtain ⟨v, hv⟩ : ∃ v, doF add u2 t1.y m.f = v := ⟨_, rfl⟩
  obtain ⟨v1, v2⟩ := v
  rw [hv]; simp only
  unfold goesO
  constructor
  · intro h
    obtain rfl : v2 = 0 := congrArg Prod.snd h
    obtain rfl := doF_state hv
    obtain rfl := doF_state hu
    have h1 := congrArg Prod.fst h
    simp only at h1
    subst h1
    obtain ⟨rfl, k1, k2⟩ := turnedF_iff.1 ht
    refine ⟨rfl, ?_⟩
    rw [dotO_iff.2 ⟨_, k1, hu⟩]; simp only [Option.bind_some]
    rw [dotO_iff.2 ⟨_, k2, hv⟩]; rfl
  · rintro ⟨rfl, h⟩
    obtain ⟨x, h1, h⟩ := bind_iff.1 h
    obtain ⟨y, h2, h⟩ := bind_iff.1 h
    cases h
    obtain ⟨s1, k1, e1⟩ := dotO_iff.1 h1
    obtain ⟨s2, k2, e2⟩ := dotO_iff.1 h2
    have ht' := turnedF_iff.2 ⟨rfl, show dotF 0 m.a p.x m.c p.y = ((⟨s1, s2⟩ : Pt).x, 0) from k1, show dotF 0 m.b p.x m.d p.y = ((⟨s1, s2⟩ : Pt).y, 0) from k2⟩
    rw [ht'] at ht
    cases ht
    rw [e1] at hu
    cases hu
    rw [e2] at hv
    cases hv
    rfl
theorem dotO_0 {a x b y s : Fr} (ha : a.ok) (hx : x.ok) (hb : b.ok) (hy : y.ok) : dotO a x b y (.whole 0) = some s ↔ dotF 0 a x b y = (s, 0) := by
  rw [dotO_iff]
  constructor
  · rintro ⟨t, h1, h2⟩
    have := ((dot_step (.inl rfl) ha hx hb hy).2 (by rw [h1])).2.1
    rw [h1] at this
    rw [add_zero' this] at h2
    cases h2
    exact h1
  · intro h
    have := ((dot_step (.inl rfl) ha hx hb hy).2 (by rw [h])).2.1
    rw [h] at this
    exact ⟨s, h, add_zero' this⟩
theorem thenS_iff {m n x : Mv} (hm : m.ok) (hn : n.ok) : thenS m n = (x, 0) ↔ thenO m n = some x := by
  unfold thenS
  obtain ⟨t, ht⟩ : ∃ t, turnedF 0 n ⟨m.a, m.b⟩ = t := ⟨_, rfl⟩
  obtain ⟨t1, t2⟩ := t
  rw [ht]; simp only
  obtain ⟨u, hu⟩ : ∃ u, turnedF t2 n ⟨m.c, m.d⟩ = u := ⟨_, rfl⟩
  obtain ⟨u1, u2⟩ := u
  rw [hu]; simp only
  obtain ⟨v, hv⟩ : ∃ v, movedF u2 n ⟨m.e, m.f⟩ = v := ⟨_, rfl⟩
  obtain ⟨v1, v2⟩ := v
  rw [hv]; simp only
  unfold thenO
  constructor
  · intro h
    obtain rfl : v2 = 0 := congrArg Prod.snd h
    obtain ⟨rfl, g⟩ := movedF_iff.1 hv
    obtain ⟨rfl, k3, k4⟩ := turnedF_iff.1 hu
    obtain ⟨_, k1, k2⟩ := turnedF_iff.1 ht
    have h1 := congrArg Prod.fst h
    simp only at h1
    subst h1
    rw [(dotO_0 hn.1 hm.1 hn.2.2.1 hm.2.1).2 k1]; simp only [Option.bind_some]
    rw [(dotO_0 hn.2.1 hm.1 hn.2.2.2.1 hm.2.1).2 k2]; simp only [Option.bind_some]
    rw [(dotO_0 hn.1 hm.2.2.1 hn.2.2.1 hm.2.2.2.1).2 k3]; simp only [Option.bind_some]
    rw [(dotO_0 hn.2.1 hm.2.2.1 hn.2.2.2.1 hm.2.2.2.1).2 k4]; simp only [Option.bind_some]
    rw [g]; rfl
  · intro h
    obtain ⟨a, h1, h⟩ := bind_iff.1 h
    obtain ⟨b, h2, h⟩ := bind_iff.1 h
    obtain ⟨c, h3, h⟩ := bind_iff.1 h
    obtain ⟨d, h4, h⟩ := bind_iff.1 h
    obtain ⟨p, h5, h⟩ := bind_iff.1 h
    cases h
    have e1 := turnedF_iff.2 ⟨rfl, show dotF 0 n.a (⟨m.a, m.b⟩ : Pt).x n.c (⟨m.a, m.b⟩ : Pt).y = ((⟨a, b⟩ : Pt).x, 0) from (dotO_0 hn.1 hm.1 hn.2.2.1 hm.2.1).1 h1, (dotO_0 hn.2.1 hm.1 hn.2.2.2.1 hm.2.1).1 h2⟩
    rw [e1] at ht
    cases ht
    have e2 := turnedF_iff.2 ⟨rfl, show dotF 0 n.a (⟨m.c, m.d⟩ : Pt).x n.c (⟨m.c, m.d⟩ : Pt).y = ((⟨c, d⟩ : Pt).x, 0) from (dotO_0 hn.1 hm.2.2.1 hn.2.2.1 hm.2.2.2.1).1 h3, (dotO_0 hn.2.1 hm.2.2.1 hn.2.2.2.1 hm.2.2.2.1).1 h4⟩
    rw [e2] at hu
    cases hu
    rw [movedF_iff.2 ⟨rfl, h5⟩] at hv
    cases hv
    rfl

end Go.Proofs.YtlnnpileegoglabGreatDoor

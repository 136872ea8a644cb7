/-
  The contract of a move's Check: the first of its six parts that is not right is told, with its number.
-/
import Derived.Test.YtdjeblcmpegmpaaDoorMove2
namespace Go.Proofs.YtdjeblcmpegmpaaDoor
open Go.RowKit Go.Shelf

abbrev pv (p : Pt) : Value := .agg #[.int .i64 p.x.n, .int .i64 p.x.d, .int .i64 p.y.n, .int .i64 p.y.d]
abbrev mv (m : Mv) : Value := .agg #[.int .i64 m.a.n, .int .i64 m.a.d, .int .i64 m.b.n, .int .i64 m.b.d, .int .i64 m.c.n, .int .i64 m.c.d, .int .i64 m.d.n, .int .i64 m.d.d, .int .i64 m.e.n, .int .i64 m.e.d, .int .i64 m.f.n, .int .i64 m.f.d]
def Fr.i64 (x : Fr) : Prop := I64 x.n ∧ I64 x.d
def Pt.i64 (p : Pt) : Prop := p.x.i64 ∧ p.y.i64
def Mv.i64 (m : Mv) : Prop := m.a.i64 ∧ m.b.i64 ∧ m.c.i64 ∧ m.d.i64 ∧ m.e.i64 ∧ m.f.i64

/-- The first fraction that is not right: its error's number, and where; (0, 0) if there is none. -/
def firstBad : Nat → List Fr → Nat × Nat
  | _, [] => (0, 0)
  | i, x :: r => if chk x.n x.d = 0 then firstBad (i + 1) r else (chk x.n x.d, i)

theorem firstBad_none : ∀ (l : List Fr) (i : Nat), (∀ y ∈ l, chk y.n y.d = 0) → firstBad i l = (0, 0)
  | [], _, _ => rfl
  | x :: r, i, h => by unfold firstBad; rw [if_pos (h x (by simp))]; exact firstBad_none r (i + 1) (fun y hy => h y (by simp [hy]))
theorem firstBad_some : ∀ (q : List Fr) (x : Fr) (r : List Fr) (i : Nat), (∀ y ∈ q, chk y.n y.d = 0) → chk x.n x.d ≠ 0 → firstBad i (q ++ x :: r) = (chk x.n x.d, i + q.length)
  | [], x, r, i, _, h => by unfold firstBad; simp [h]
  | y :: q, x, r, i, hq, h => by
    rw [List.cons_append, firstBad, if_pos (hq y (by simp)), firstBad_some q x r (i + 1) (fun z hz => hq z (by simp [hz])) h]
    simp; omega

/-- What a check tells: nil, or a fault with a number and an error. -/
def Told (aB aS aZ : Addr) (B : Nat) (r : Nat × Nat) (v : Value) (W : World) : Prop :=
  (r.1 = 0 ∧ v = .nilIface) ∨
  (r.1 ≠ 0 ∧ (r.1 = 2 ∨ r.1 = 3) ∧ ∃ pb, B ≤ pb ∧ v = .iface 59 (.pointer (some ⟨pb, 0, none⟩)) ∧ W.cell? ⟨pb, 0, none⟩ = some (.int .i64 r.2) ∧ W.cell? ⟨pb, 1, none⟩ = some (er aB aS aZ r.1))

theorem Told.mono {aB aS aZ : Addr} {B B' : Nat} {r : Nat × Nat} {v : Value} {W : World} (h : Told aB aS aZ B r v W) (hB : B' ≤ B) : Told aB aS aZ B' r v W := by
  rcases h with h | ⟨h1, h2, pb, h3, h4⟩
  · exact .inl h
  · exact .inr ⟨h1, h2, pb, Nat.le_trans hB h3, h4⟩

theorem told_of {aB aS aZ : Addr} {w : World} {xs : List Item} {e : Ending} {W : World} {fr : Nat} (hi : ∀ j (h : j < xs.length), xs[j].i = fr + j) (h : FaultAt aB aS aZ w xs e W) : ∃ v, e = .returned v ∧ Told aB aS aZ w.heap.size (firstBad fr (xs.map (·.x))) v W := by
  rcases h with ⟨h1, h2⟩ | ⟨q, x, r, pb, rfl, h3, h4, h5, h6, h7, h8⟩
  · rw [firstBad_none _ _ (by simpa using h1)]; exact ⟨_, h2, .inl ⟨rfl, rfl⟩⟩
  · have hx := hi q.length (by simp)
    rw [List.getElem_append_right (Nat.le_refl _)] at hx
    simp only [Nat.sub_self, List.getElem_cons_zero] at hx
    rw [List.map_append, List.map_cons, firstBad_some _ _ _ _ (by simpa using h3) h4]
    refine ⟨_, h6, .inr ⟨h4, by have := chk_cases x.x.n x.x.d; simp only; omega, pb, h5, rfl, ?_, h8⟩⟩
    rw [h7, hx]; simp

set_option maxHeartbeats 1000000 in
theorem numbered_any (fr : Int) (s : Value) (a : Option Addr) (n c : Nat) (hs : s = .slice a n c) (W : World) :
    Calls Tryd.prog 26 #[.int .i64 fr, s] W fun e w' => e = .returned (.func (.func 48) #[] #[.pointer (some ⟨W.heap.size + 1, 0, none⟩), .pointer (some ⟨W.heap.size, 0, none⟩)]) ∧ w' = (W.alloc (.cells #[.int .i64 fr] 3)).alloc (.cells #[s] 74) := by
  subst hs
  have hmf : ∀ (fn : Fn) (first cap : Array Value) (w : World), (Instr.makeFunc fn first cap).run Tryd.prog w = .ok (.func fn first cap) w := fun _ _ _ _ => rfl
  go_enter Tryd.func26, Tryd.ntmps26
  go_wp2
  go_ret
  exact ⟨rfl, rfl⟩

/-- A move's six parts, numbered. -/
def Mv.items (m : Mv) (h : m.i64) : List Item :=
  [⟨0, m.a, h.1.1, h.1.2⟩, ⟨1, m.b, h.2.1.1, h.2.1.2⟩, ⟨2, m.c, h.2.2.1.1, h.2.2.1.2⟩, ⟨3, m.d, h.2.2.2.1.1, h.2.2.2.1.2⟩, ⟨4, m.e, h.2.2.2.2.1.1, h.2.2.2.2.1.2⟩, ⟨5, m.f, h.2.2.2.2.2.1, h.2.2.2.2.2.2⟩]
def Mv.list (m : Mv) : List Fr := [m.a, m.b, m.c, m.d, m.e, m.f]
/-- A point's two parts, numbered behind a move's. -/
def Pt.items (p : Pt) (h : p.i64) : List Item := [⟨6, p.x, h.1.1, h.1.2⟩, ⟨7, p.y, h.2.1, h.2.2⟩]
def Pt.list (p : Pt) : List Fr := [p.x, p.y]

theorem cell_at {W : World} {cs : Array Value} {t : TypeId} {B k : Nat} {v : Value} (hB : B = W.heap.size) (h : cs[k]? = some v) : (W.alloc (.cells cs t)).cell? ⟨B, k, none⟩ = some v := by
  subst hB; simp [h]
theorem below_six {j : Nat} (h : j < 6) : j = 0 ∨ j = 1 ∨ j = 2 ∨ j = 3 ∨ j = 4 ∨ j = 5 := by omega
theorem below_two {j : Nat} (h : j < 2) : j = 0 ∨ j = 1 := by omega

theorem rows_six (m : Mv) (h : m.i64) (W : World) (t t' t'' : TypeId) :
    Rows6 (((W.alloc (.cells #[.int .i64 m.a.n, .int .i64 m.a.d, .int .i64 m.b.n, .int .i64 m.b.d, .int .i64 m.c.n, .int .i64 m.c.d, .int .i64 m.d.n, .int .i64 m.d.d, .int .i64 m.e.n, .int .i64 m.e.d, .int .i64 m.f.n, .int .i64 m.f.d] t)).alloc (.cells #[.int .i64 0] t')).alloc (.cells #[.slice (some ⟨W.heap.size, 0, none⟩) 6 6] t'')) (W.heap.size + 3) (W.heap.size + 2) (W.heap.size + 1) W.heap.size 6 0 (m.items h) where
  lb := by omega
  lf := by omega
  ls := by omega
  l := cell_at (by simp) rfl
  f := cell_al _ (cell_at (by simp) rfl)
  c0 := fun j hj => by rcases below_six hj with rfl | rfl | rfl | rfl | rfl | rfl <;> exact cell_al _ (cell_al _ (cell_at rfl rfl))
  c1 := fun j hj => by rcases below_six hj with rfl | rfl | rfl | rfl | rfl | rfl <;> exact cell_al _ (cell_al _ (cell_at rfl rfl))
  i := fun j hj => by rcases below_six hj with rfl | rfl | rfl | rfl | rfl | rfl <;> rfl
  len := by simp [Mv.items]
  fr := by omega

theorem rows_two (p : Pt) (h : p.i64) (W : World) (t t' t'' : TypeId) :
    Rows6 (((W.alloc (.cells #[.int .i64 p.x.n, .int .i64 p.x.d, .int .i64 p.y.n, .int .i64 p.y.d] t)).alloc (.cells #[.int .i64 6] t')).alloc (.cells #[.slice (some ⟨W.heap.size, 0, none⟩) 2 2] t'')) (W.heap.size + 3) (W.heap.size + 2) (W.heap.size + 1) W.heap.size 2 6 (p.items h) where
  lb := by omega
  lf := by omega
  ls := by omega
  l := cell_at (by simp) rfl
  f := cell_al _ (cell_at (by simp) rfl)
  c0 := fun j hj => by rcases below_two hj with rfl | rfl <;> exact cell_al _ (cell_al _ (cell_at rfl rfl))
  c1 := fun j hj => by rcases below_two hj with rfl | rfl <;> exact cell_al _ (cell_al _ (cell_at rfl rfl))
  i := fun j hj => by rcases below_two hj with rfl | rfl <;> rfl
  len := by simp [Pt.items]
  fr := by omega

set_option maxHeartbeats 2000000 in
theorem parts_any (m : Mv) (h : m.i64) (W : World) :
    Calls Tryd.prog 44 #[mv m] W fun e w' => e = .returned (.func (.func 48) #[] #[.pointer (some ⟨W.heap.size + 3, 0, none⟩), .pointer (some ⟨W.heap.size + 2, 0, none⟩)]) ∧ Below W.heap.size W w' ∧ w'.heap.size = W.heap.size + 4 ∧ Rows6 w' (W.heap.size + 4) (W.heap.size + 3) (W.heap.size + 2) (W.heap.size + 1) 6 0 (m.items h) := by
  have HN := numbered_any
  have HR := rows_six m h
  generalize m.items h = xs at HR ⊢
  clear h
  obtain ⟨⟨n1, d1⟩, ⟨n2, d2⟩, ⟨n3, d3⟩, ⟨n4, d4⟩, ⟨n5, d5⟩, ⟨n6, d6⟩⟩ := m
  dsimp only [mv] at HR ⊢
  go_enter Tryd.func44, Tryd.ntmps44
  go_wp2_with (go_at_call 26; refine (HN 0 (.slice (some ⟨W.heap.size + 1, 0, none⟩) 6 6) _ _ _ rfl _).mono ?_; rintro e w' ⟨rfl, rfl⟩)
  go_ret
  refine ⟨rfl, ?_, by simp, ?_⟩
  · exact ((((Below.refl _ W).alloc (Nat.le_refl _) _).alloc (by simp) _).alloc (by simp; omega) _).alloc (by simp; omega) _
  · have := HR (W.alloc (.cells #[.int .i64 n1, .int .i64 d1, .int .i64 n2, .int .i64 d2, .int .i64 n3, .int .i64 d3, .int .i64 n4, .int .i64 d4, .int .i64 n5, .int .i64 d5, .int .i64 n6, .int .i64 d6] 37)) 24 3 74
    simpa using this

/-- A check of six parts, or of two, by checkAll's contract. -/
theorem checkAll_told (aB aS aZ : Addr) (Bl Bf b cap fr : Nat) (xs : List Item) (w : World) (h : Rows6 w w.heap.size Bl Bf b cap fr xs) (hE : E3 aB aS aZ w) :
    Calls Tryd.prog 25 #[.func (.func 48) #[] #[.pointer (some ⟨Bl, 0, none⟩), .pointer (some ⟨Bf, 0, none⟩)]] w fun e W => (∃ v, e = .returned v ∧ Told aB aS aZ w.heap.size (firstBad fr (xs.map (·.x))) v W) ∧ Below w.heap.size w W :=
  (callsIn_wide.1 (checkAll_in aB aS aZ Bl Bf b cap fr xs w h hE)).mono fun _ _ hx => ⟨told_of h.i hx.1, hx.2⟩

set_option maxHeartbeats 2000000 in
theorem mvCheck_any (aB aS aZ : Addr) (m : Mv) (h : m.i64) (W : World) (hE : E3 aB aS aZ W) :
    Calls Tryd.prog 22 #[mv m] W fun e w' => (∃ v, e = .returned v ∧ Told aB aS aZ W.heap.size (firstBad 0 m.list) v w') ∧ Below W.heap.size W w' := by
  have HP := parts_any m h
  have HC := checkAll_told aB aS aZ
  have hl : (m.items h).map (·.x) = m.list := rfl
  generalize m.items h = xs at HP hl
  generalize m.list = l at hl ⊢
  subst hl
  clear h
  obtain ⟨⟨n1, d1⟩, ⟨n2, d2⟩, ⟨n3, d3⟩, ⟨n4, d4⟩, ⟨n5, d5⟩, ⟨n6, d6⟩⟩ := m
  dsimp only [mv] at HP ⊢
  go_enter Tryd.func22, Tryd.ntmps22
  go_wp2_with (first | (go_at_call 25; refine HC1.mono ?_; rintro e w2 ⟨⟨v, rfl, ht⟩, hb2⟩) | (go_at_call 44; refine (HP _).mono ?_; rintro e w1 ⟨rfl, hb1, hz1, hR⟩; have hE1 := (hE.alloc _).below hb1 (Nat.le_refl _); rw [← hz1] at hR; have HC1 := HC _ _ _ _ _ _ w1 hR hE1; simp only [World.size_alloc] at HC1))
  go_ret
  have hs1 := hb1.size
  rw [World.size_alloc] at hs1
  exact ⟨⟨v, rfl, ht.mono (by omega)⟩, (((Below.refl _ W).alloc (Nat.le_refl _) _).trans (hb1.mono (by simp))).trans (hb2.mono (by omega))⟩

end Go.Proofs.YtdjeblcmpegmpaaDoor

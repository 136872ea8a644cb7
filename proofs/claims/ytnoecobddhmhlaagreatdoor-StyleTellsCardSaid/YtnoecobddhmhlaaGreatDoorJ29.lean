/-
  The document's own document (leadlightref1) in memory: its elements; Has and Attr, walked.
-/
import Derived.Test.YtnoecobddhmhlaaGreatDoorJ25
import Derived.Test.YtnoecobddhmhlaaGreatDoorJ12
import Derived.Maps.AppendAt
import Derived.Laws.AppendOwnNone
import Derived.Test.YtnoecobddhmhlaaGreatDoorJ28
import Derived.Test.YtnoecobddhmhlaaGreatDoorJ19
namespace Go.Proofs.YtnoecobddhmhlaaGreatDoor
open Go.RowKit

/-- An element in memory. -/
structure RE where
  nm : Bs
  oa : Option Addr
  ca : Nat
  ats : List (Bs × Bs)
  par : Int
  ok : Option Addr
  ck : Nat
  kids : List Int
  ins : Bool
/-- A row of attributes in memory. -/
def AtsR (w : World) (o : Option Addr) (l : List (Bs × Bs)) : Prop := ∀ i p, l[i]? = some p → ∃ b off, o = some ⟨b, off, none⟩ ∧ w.cell? ⟨b, off + i * 2, none⟩ = some (.string ⟨p.1.toArray⟩) ∧ w.cell? ⟨b, off + i * 2 + 1, none⟩ = some (.string ⟨p.2.toArray⟩)
/-- A row of elements in memory. -/
def REAt (w : World) (o : Option Addr) (l : List RE) : Prop := ∀ i x, l[i]? = some x → ∃ b off, o = some ⟨b, off, none⟩ ∧ w.cell? ⟨b, off + i * 5, none⟩ = some (.string ⟨x.nm.toArray⟩) ∧ w.cell? ⟨b, off + i * 5 + 1, none⟩ = some (.slice x.oa x.ats.length x.ca) ∧ w.cell? ⟨b, off + i * 5 + 2, none⟩ = some (.int .i64 x.par) ∧ w.cell? ⟨b, off + i * 5 + 3, none⟩ = some (.slice x.ok x.kids.length x.ck) ∧ w.cell? ⟨b, off + i * 5 + 4, none⟩ = some (.bool x.ins)
/-- The document at an address. -/
structure RDoc (w : World) (D : Nat) (o : Option Addr) (cap : Nat) (l : List RE) : Prop where
  c : w.cell? ⟨D, 0, none⟩ = some (.slice o l.length cap)
  at_ : REAt w o l
  ats : ∀ x ∈ l, AtsR w x.oa x.ats
def hasR (l : List RE) (n : Int) : Bool := decide (0 ≤ n) && match l[n.toNat]? with
  | some x => x.ins
  | none => false
set_option maxRecDepth 20000 in
set_option maxHeartbeats 4000000 in
theorem Has_ref (l : List RE) (D : Nat) (o : Option Addr) (cap : Nat) (n : Int) (w : World) (h : RDoc w D o cap l) :
    Calls Tryz.prog 60 #[.pointer (some ⟨D, 0, none⟩), .int .i64 n] w fun e w' => e = .returned (.bool (hasR l n)) ∧ w' = w := by
  have c := h.c
  by_cases h0 : 0 ≤ n
  · obtain ⟨k, rfl⟩ : ∃ k : Nat, n = k := ⟨n.toNat, by omega⟩
    by_cases hlt : k < l.length
    · have hlt' : (k : Int) < (l.length : Int) := by omega
      obtain ⟨x, hx⟩ : ∃ x, l[k]? = some x := ⟨_, List.getElem?_eq_getElem hlt⟩
      obtain ⟨b, off, rfl, -, -, -, -, c4⟩ := h.at_ k x hx
      have HR : Hid (hasR l (k : Int) = x.ins) := by
        have e : hasR l (k : Int) = x.ins := by unfold hasR; simp [hx]
        exact e
      clear hx h
      go_enter Tryz.func60, Tryz.ntmps60
      go_wp2_with fail
      go_ret
      exact ⟨by rw [HR.out]; rfl, rfl⟩
    · have hlt' : ¬ (k : Int) < (l.length : Int) := by omega
      have HR : Hid (hasR l (k : Int) = false) := by
        have e : hasR l (k : Int) = false := by
          unfold hasR
          rw [Int.toNat_natCast, List.getElem?_eq_none (by omega)]
          simp
        exact e
      clear h
      go_enter Tryz.func60, Tryz.ntmps60
      go_wp2_with fail
      go_ret
      exact ⟨by rw [HR.out]; rfl, rfl⟩
  · have HR : Hid (hasR l n = false) := by
      have e : hasR l n = false := by unfold hasR; simp [h0]
      exact e
    clear h
    go_enter Tryz.func60, Tryz.ntmps60
    go_wp2_with fail
    go_ret
    exact ⟨by rw [HR.out]; rfl, rfl⟩
/-- Which attribute of that name an element has. -/
def AtrR (l : List (Bs × Bs)) (t : Bs) (r : Int) : Prop := (∃ (i : Nat) (p : Bs × Bs), r = i ∧ l[i]? = some p ∧ p.1 = t ∧ ∀ p' ∈ l.take i, p'.1 ≠ t) ∨ (r = -1 ∧ ∀ p ∈ l, p.1 ≠ t)
set_option maxRecDepth 20000 in
set_option maxHeartbeats 4000000 in
theorem Attr_ref (l : List RE) (D : Nat) (o : Option Addr) (cap k : Nat) (x : RE) (t : Bs) (w : World) (h : RDoc w D o cap l) (hx : l[k]? = some x) (hin : x.ins = true) (ha : x.ats.length ≤ 1000000) :
    Calls Tryz.prog 24 #[.pointer (some ⟨D, 0, none⟩), .int .i64 k, .string ⟨t.toArray⟩] w fun e w' => (∃ r : Int, e = .returned (.int .i64 r) ∧ AtrR x.ats t r) ∧ w' = w := by
  have c := h.c
  have HS := Has_ref l D o cap (k : Int) w h
  have hr : hasR l (k : Int) = true := by unfold hasR; simp [hx, hin]
  rw [hr] at HS
  have hA := h.ats x (List.mem_of_getElem? hx)
  have hlt : k < l.length := (List.getElem?_eq_some_iff.1 hx).1
  have hlt' : (k : Int) < (l.length : Int) := by omega
  obtain ⟨b, off, rfl, -, c1, -, -, -⟩ := h.at_ k x hx
  clear hr h hx hin
  go_enter Tryz.func24, Tryz.ntmps24
  go_wp2_with (go_at_call 60; refine HS.mono ?_; rintro e w1 ⟨rfl, rfl⟩)
  go_loopw [8] (fun i wr => ∃ q : Nat, q ≤ x.ats.length ∧ i = .int .i64 q ∧ (∀ p ∈ x.ats.take q, p.1 ≠ t) ∧ wr = w1) (fun i _ => x.ats.length - (intOf i).toNat)
  case atStart => exact ⟨0, Nat.zero_le _, rfl, (fun p hp => by simp at hp), rfl⟩
  case round =>
    obtain ⟨q, hq, rfl, hno, hw⟩ := hrel
    subst hw
    have HNO : Hid (∀ p ∈ x.ats.take q, p.1 ≠ t) := hno
    clear hno HS
    by_cases hql : q < x.ats.length
    · have hql' : (q : Int) < (x.ats.length : Int) := by omega
      obtain ⟨p, hp⟩ : ∃ p, x.ats[q]? = some p := ⟨_, List.getElem?_eq_getElem hql⟩
      obtain ⟨b', off', he, d0, -⟩ := hA q p hp
      have HP : Hid (x.ats[q]? = some p) := hp
      rw [he] at c1
      clear hp
      by_cases hpt : p.1 = t
      · have HPT : Hid (p.1 = t) := hpt
        rw [hpt] at d0
        clear hpt
        go_wp2_with fail
        go_ret
        exact ⟨⟨q, rfl, .inl ⟨q, p, rfl, HP.out, HPT.out, HNO.out⟩⟩, rfl⟩
      · have hb : (p.1 == t) = false := by simpa using hpt
        have HPT : Hid (p.1 ≠ t) := hpt
        clear hpt
        go_wp2_with fail
        go_roundw
        case rel =>
          refine ⟨q + 1, hql, by go_num, ?_, by first | rfl | trivial⟩
          rw [List.take_add_one, HP.out]
          intro p' hm
          rcases List.mem_append.1 hm with hm | hm
          · exact HNO.out p' hm
          · simp at hm
            subst hm
            exact HPT.out
        case measure => simp [intOf]; omega
    · have hql' : ¬ (q : Int) < (x.ats.length : Int) := by omega
      go_wp2_with fail
      go_ret
      have h1 := HNO.out
      rw [List.take_of_length_le (by omega)] at h1
      exact ⟨⟨-1, rfl, .inr ⟨rfl, h1⟩⟩, rfl⟩
end Go.Proofs.YtnoecobddhmhlaaGreatDoor

namespace Go.Proofs.YtnoecobddhmhlaaGreatDoor
open Go.RowKit

def RE.cells (x : RE) : List Value := [.string ⟨x.nm.toArray⟩, .slice x.oa x.ats.length x.ca, .int .i64 x.par, .slice x.ok x.kids.length x.ck, .bool x.ins]
def cellsE : List RE → List Value
  | [] => []
  | x :: r => .string ⟨x.nm.toArray⟩ :: .slice x.oa x.ats.length x.ca :: .int .i64 x.par :: .slice x.ok x.kids.length x.ck :: .bool x.ins :: cellsE r
theorem cellsE_app : ∀ l m : List RE, cellsE (l ++ m) = cellsE l ++ cellsE m
  | [], m => rfl
  | x :: r, m => by simp [cellsE, cellsE_app r m]
theorem cellsE_len : ∀ l : List RE, (cellsE l).length = l.length * 5
  | [] => rfl
  | x :: r => by simp [cellsE, cellsE_len r]; omega
theorem cellsE_get : ∀ (l : List RE) (i : Nat) (x : RE), l[i]? = some x → (cellsE l)[i * 5]? = some (.string ⟨x.nm.toArray⟩) ∧ (cellsE l)[i * 5 + 1]? = some (.slice x.oa x.ats.length x.ca) ∧ (cellsE l)[i * 5 + 2]? = some (.int .i64 x.par) ∧ (cellsE l)[i * 5 + 3]? = some (.slice x.ok x.kids.length x.ck) ∧ (cellsE l)[i * 5 + 4]? = some (.bool x.ins)
  | [], i, x, h => by simp at h
  | y :: r, 0, x, h => by
    simp at h
    subst h
    exact ⟨rfl, rfl, rfl, rfl, rfl⟩
  | y :: r, i + 1, x, h => by
    have h' : r[i]? = some x := by simpa using h
    obtain ⟨h1, h2, h3, h4, h5⟩ := cellsE_get r i x h'
    rw [show (i + 1) * 5 = i * 5 + 1 + 1 + 1 + 1 + 1 by omega]
    exact ⟨h1, h2, h3, h4, h5⟩
/-- The children of one element are told anew. -/
theorem cellsE_kids : ∀ (l : List RE) (i : Nat) (x : RE) (o : Option Addr) (c : Nat) (ks : List Int), l[i]? = some x → cellsE (l.set i { x with ok := o, ck := c, kids := ks }) = (cellsE l).set (i * 5 + 3) (.slice o ks.length c)
  | [], i, x, _, _, _, h => by simp at h
  | y :: r, 0, x, o, c, ks, h => by
    simp at h
    subst h
    rfl
  | y :: r, i + 1, x, o, c, ks, h => by
    have h' : r[i]? = some x := by simpa using h
    rw [List.set_cons_succ, cellsE, cellsE_kids r i x o c ks h', show (i + 1) * 5 + 3 = i * 5 + 3 + 1 + 1 + 1 + 1 + 1 by omega]
    rfl
def OwnE (w : World) (base : Nat) (v : Value) (l : List RE) : Prop := w.ownsRow base 62 5 v l.length (cellsE l)
/-- The document, its elements and their rows: all lie at base or behind. -/
structure RO (base : Nat) (w : World) (D : Nat) (v : Value) (l : List RE) : Prop where
  doc : w.heap[D]? = some (.cells #[v] 65)
  low : base ≤ D
  row : OwnE w base v l
  ats : ∀ x ∈ l, w.ownsRow base 59 2 (.slice x.oa x.ats.length x.ca) x.ats.length (cellsA x.ats)
  kids : ∀ x ∈ l, w.ownsRow base 3 1 (.slice x.ok x.kids.length x.ck) x.kids.length (intsV x.kids)
theorem heapD_lt {w : World} {b : Nat} {o : Obj} (h : w.heap[b]? = some o) : b < w.heap.size := (Array.getElem?_eq_some_iff.1 h).1
theorem RO.size {base : Nat} {w : World} {D : Nat} {v : Value} {l : List RE} (h : RO base w D v l) : base ≤ w.heap.size := by
  have := heapD_lt h.doc
  have := h.low
  omega
theorem RO.below {base : Nat} {w w' : World} {D : Nat} {v : Value} {l : List RE} (h : RO base w D v l) (hb : Below w.heap.size w w') : RO base w' D v l :=
  ⟨(hb.block D (heapD_lt h.doc)).trans h.doc, h.low, ownB_below h.row hb, fun x hx => ownB_below (h.ats x hx) hb, fun x hx => ownB_below (h.kids x hx) hb⟩
theorem ownE_kind {w : World} {base : Nat} {e : TypeId} {size : Nat} {v : Value} {n : Nat} {xs : List Value} (h : w.ownsRow base e size v n xs) : ∀ r, v.ownBlock = some r → ∃ cur, w.heap[r]? = some (.cells cur e (0, 0)) := fun r hr => by
  rcases h.2 with ⟨h1, -⟩ | ⟨g, cap, cur, h1, -, h2, -⟩
  · rw [h1] at hr; cases hr
  · rw [h1] at hr; cases hr; exact ⟨cur, h2⟩
/-- Rows of other things stay where the row of elements grows, or changes. -/
theorem own_kindE {w w' : World} {base base' : Nat} {e e' : TypeId} {k k' : Nat} {v v' : Value} {n n' : Nat} {xs xs' : List Value} (h : w.ownsRow base e k v n xs) (hr : w.ownsRow base' e' k' v' n' xs') (gr : w.grownBy w' v'.ownBlock) (hne : e ≠ e') : w'.ownsRow base e k v n xs := by
  refine h.kept gr ?_
  cases hv : v.ownBlock with
  | none => exact .inl rfl
  | some g =>
    refine .inr fun hg => ?_
    obtain ⟨c1, h1⟩ := ownE_kind h g hv
    obtain ⟨c2, h2⟩ := ownE_kind hr g hg.symm
    rw [h1] at h2
    injection h2 with h2
    injection h2 with _ h2
    exact hne h2
/-- What is read of the document. -/
theorem RO.rdoc {base : Nat} {w : World} {D : Nat} {v : Value} {l : List RE} (h : RO base w D v l) : ∃ o cap, v = .slice o l.length cap ∧ RDoc w D o cap l := by
  obtain ⟨o, cap, rfl⟩ := own_slice h.row
  refine ⟨o, cap, rfl, ⟨bcell h.doc 0 _ rfl, fun i x hx => ?_, fun x hx i p hp => ?_⟩⟩
  · obtain ⟨e0, e1, e2, e3, e4⟩ := cellsE_get l i x hx
    obtain ⟨g, hg, c0⟩ := row_get h.row _ _ e0
    cases o with
    | none => cases hg
    | some a =>
      have ha : a = ⟨g, 0, none⟩ := by
        rcases h.row.2 with ⟨h1, -⟩ | ⟨g', c', cur, h1, -⟩
        · cases h1
        · injection h1 with h1
          injection h1 with h1
          subst h1
          have hg' : some g' = some g := hg
          cases hg'
          rfl
      have key : ∀ j u, (cellsE l)[j]? = some u → w.cell? ⟨g, 0 + j, none⟩ = some u := fun j u hj => by
        obtain ⟨g2, hg2, c2⟩ := row_get h.row _ _ hj
        rw [hg] at hg2
        cases hg2
        rw [Nat.zero_add]
        exact c2
      refine ⟨g, 0, by rw [ha], key _ _ e0, ?_, ?_, ?_, ?_⟩
      · rw [Nat.add_assoc]; exact key _ _ e1
      · rw [Nat.add_assoc]; exact key _ _ e2
      · rw [Nat.add_assoc]; exact key _ _ e3
      · rw [Nat.add_assoc]; exact key _ _ e4
  · have ha := h.ats x hx
    have g1 : (cellsA x.ats)[i * 2]? = some (.string ⟨p.1.toArray⟩) ∧ (cellsA x.ats)[i * 2 + 1]? = some (.string ⟨p.2.toArray⟩) := cellsA_get x.ats i p hp
    obtain ⟨g, hg, c0⟩ := row_get ha _ _ g1.1
    obtain ⟨g2, hg2, c1⟩ := row_get ha _ _ g1.2
    rw [hg] at hg2
    cases hg2
    rcases ha.2 with ⟨h1, -⟩ | ⟨g', c', cur, h1, -⟩
    · rw [h1] at hg; cases hg
    · have hg' : some g' = some g := by rw [h1] at hg; exact hg
      cases hg'
      injection h1 with h1
      exact ⟨g, 0, h1, by rw [Nat.zero_add]; exact c0, by rw [Nat.zero_add]; exact c1⟩
/-- The children in memory, to be read. -/
def IntsR (w : World) (o : Option Addr) (l : List Int) : Prop := ∀ i k, l[i]? = some k → ∃ b off, o = some ⟨b, off, none⟩ ∧ w.cell? ⟨b, off + i, none⟩ = some (.int .i64 k)
theorem infoEl : (Tryz.prog.info? 62).map (fun i => (i.zero, i.size, i.bytes)) = some (some (.agg #[.string ⟨#[]⟩, .slice none 0 0, .int .i64 0, .slice none 0 0, .bool false]), 5, 80) := by kernel_rfl
/-- An append of what may be nothing. -/
theorem append_any {P : Program} (w : World) {ops : Array Oper} {rest : List Oper} {o : Oper} {a : Act} {Q : Exit → Act → World → Prop} (hgd : o.guard = none) (s x : Operand) (t : TypeId)
    (ho : o.op = .call { callee := .builtin .append, args := #[s, x], argTypes := #[t, t] })
    (base : Nat) (e : TypeId) (i : TypeInfo) (z : Value) (size bytes : Nat) (ht : P.underlying t = some (.slice e)) (hi : P.info? e = some i) (hz : i.zero = some z)
    (hsize : i.size = size) (hby : i.bytes = bytes) (hzs : z.cells.size = size) (hsz : 0 < size)
    (v : Value) (n : Nat) (xs : List Value) (hs : a.eval s = v) (hown : w.ownsRow base e size v n xs)
    (oa : Option Addr) (m c : Nat) (news : List Value) (hx : a.eval x = .slice oa m c) (hl : news.length = m * size) (hno : oa = none → m = 0 ∧ c = 0) (hnews : ∀ ad, oa = some ad → ∀ j u, news[j]? = some u → w.cell? (ad.add j) = some u) (h1 : ∀ u ∈ news, u.oneCell' = true)
    (h63 : n + m ≤ maxLen) (hbytes : (n + m) * bytes ≤ 140737488355328) (hbase : base ≤ w.heap.size)
    (h : ∀ v' w', w'.ownsRow base e size v' (n + m) (xs ++ news) → w.grownBy w' v.ownBlock → (v'.ownBlock = v.ownBlock ∨ v'.ownBlock = some w.heap.size) → wpList P ops Q rest (a.put o.dst v') w') :
    wpList P ops Q (o :: rest) a w := by
  cases oa with
  | none =>
    obtain ⟨rfl, rfl⟩ := hno rfl
    have hn : news = [] := List.length_eq_zero_iff.1 (by rw [hl, Nat.zero_mul])
    subst hn
    refine wpList_append_own_none hgd s x t ho base e i size ht hi v n xs hs hown hx ?_
    exact h v w (by rw [List.append_nil]; exact hown) ⟨rfl, rfl, rfl, Nat.le_refl _, fun _ _ _ => rfl⟩ (.inl rfl)
  | some ad => exact wpList_append_own_at w hgd s x t ho base e i z size bytes ht hi hz hsize hby hzs hsz v n xs hs hown ad m c news hx hl (hnews ad rfl) h1 h63 hbytes hbase (fun v' w' h2 h3 _ h5 => h v' w' h2 h3 h5)
end Go.Proofs.YtnoecobddhmhlaaGreatDoor

namespace Go.Proofs.YtnoecobddhmhlaaGreatDoor
open Go.RowKit

def insK (l : List Int) (k : Nat) (n : Int) : List Int := l.take k ++ n :: l.drop k
theorem row_news {w : World} {base g n cap : Nat} {e : TypeId} {xs : List Value} (h : w.ownsRow base e 1 (.slice (some ⟨g, 0, none⟩) n cap) n xs) (k : Nat) : ∀ j u, (xs.drop k)[j]? = some u → w.cell? ((⟨g, k, none⟩ : Addr).add j) = some u := fun j u hj => by
  rw [List.getElem?_drop] at hj
  obtain ⟨g2, hg, c⟩ := row_get h _ _ hj
  have hg' : some g = some g2 := hg
  cases hg'
  have hadd : (⟨g, k, none⟩ : Addr).add j = ⟨g, k + j, none⟩ := by unfold Addr.add; split <;> simp_all
  rw [hadd]
  exact c
theorem RO.kid {base : Nat} {w w' : World} {D : Nat} {g cap : Nat} {l : List RE} (h : RO base w D (.slice (some ⟨g, 0, none⟩) l.length cap) l) {p : Nat} {x : RE} (hx : l[p]? = some x) (hb : Below w.heap.size w w') {o : Option Addr} {c : Nat} {ks : List Int} (hk : w'.ownsRow w.heap.size 3 1 (.slice o ks.length c) ks.length (intsV ks)) :
    RO base (w'.setCell ⟨g, p * 5 + 3, none⟩ (.slice o ks.length c)) D (.slice (some ⟨g, 0, none⟩) l.length cap) (l.set p { x with ok := o, ck := c, kids := ks }) ∧ w.grownBy (w'.setCell ⟨g, p * 5 + 3, none⟩ (.slice o ks.length c)) (some g) := by
  have h' := h.below hb
  have hrow : w'.ownsRow base 62 5 (.slice (some ⟨g, 0, none⟩) l.length cap) l.length (cellsE l) := h'.row
  obtain ⟨s1, s2⟩ := World.ownsRow.stored hrow (p * 5 + 3) (.slice o ks.length c)
  have s2' : w'.grownBy (w'.setCell ⟨g, p * 5 + 3, none⟩ (.slice o ks.length c)) (Value.ownBlock (.slice (some ⟨g, 0, none⟩) l.length cap)) := s2
  have hsz := h.size
  have hgD : D ≠ g := fun e => by
    obtain ⟨cur, hc⟩ := ownE_kind hrow g rfl
    have hd := h'.doc
    rw [e, hc] at hd
    injection hd with hd
    injection hd with _ hd
    exact absurd hd (by decide)
  refine ⟨⟨?_, h.low, ?_, fun y hy => ?_, fun y hy => ?_⟩, ?_⟩
  · exact (s2.block D (heapD_lt h'.doc) (fun e => hgD (Option.some.inj e))).trans h'.doc
  · unfold OwnE
    rw [cellsE_kids l p x o c ks hx, List.length_set]
    exact s1
  · rcases List.mem_or_eq_of_mem_set hy with hy | rfl
    · exact own_kindE (h'.ats y hy) hrow s2' (by decide)
    · exact own_kindE (h'.ats x (List.mem_of_getElem? hx)) hrow s2' (by decide)
  · rcases List.mem_or_eq_of_mem_set hy with hy | rfl
    · exact own_kindE (h'.kids y hy) hrow s2' (by decide)
    · exact own_kindE (ownB_base hk hsz) hrow s2' (by decide)
  · refine ⟨s2.os.trans hb.os, s2.tape.trans hb.tape, s2.output.trans hb.output, Nat.le_trans hb.size s2.size, fun k hk hne => ?_⟩
    exact (s2.block k (Nat.lt_of_lt_of_le hk hb.size) hne).trans (hb.block k hk)
/-- What kid leaves: the children of one element are others. -/
def KidR (base D g cap : Nat) (l : List RE) (p : Nat) (x : RE) (ks : List Int) (w W : World) : Prop := ∃ o c, RO base W D (.slice (some ⟨g, 0, none⟩) l.length cap) (l.set p { x with ok := o, ck := c, kids := ks }) ∧ w.grownBy W (some g)
set_option maxRecDepth 20000 in
set_option maxHeartbeats 8000000 in
theorem kid_any (base : Nat) (w : World) (D g cap : Nat) (l : List RE) (h : RO base w D (.slice (some ⟨g, 0, none⟩) l.length cap) l) (p k : Nat) (n : Int) (x : RE) (hx : l[p]? = some x) (hk : k ≤ x.kids.length) (hl : x.kids.length ≤ 1000000) :
    Calls Tryz.prog 56 #[.pointer (some ⟨D, 0, none⟩), .int .i64 p, .int .i64 k, .int .i64 n] w fun e W => e = .returned (.tuple #[]) ∧ KidR base D g cap l p x (insK x.kids k n) w W := by
  obtain ⟨i0, hi, hz0, hz1, hz2⟩ := info_parts intInfo
  have c := bcell h.doc 0 _ rfl
  have hlt : p < l.length := (List.getElem?_eq_some_iff.1 hx).1
  have hlt' : (p : Int) < (l.length : Int) := by omega
  have hrow : w.ownsRow base 62 5 (.slice (some ⟨g, 0, none⟩) l.length cap) l.length (cellsE l) := h.row
  have c3 : w.cell? ⟨g, p * 5 + 3, none⟩ = some (.slice x.ok x.kids.length x.ck) := by
    rw [World.ownsRow.cellAt hrow (p * 5 + 3) (by omega)]
    exact (cellsE_get l p x hx).2.2.2.1
  have f3 : ∀ V, Below w.heap.size w V → V.frozen? ⟨g, p * 5 + 3, none⟩ = false := fun V hV => World.ownsRow.frozenAt (ownB_below hrow hV) _
  have hkids := h.kids x (List.mem_of_getElem? hx)
  have FIN : ∀ (W : World) (v : Value), Below w.heap.size w W → W.ownsRow w.heap.size 3 1 v (insK x.kids k n).length (intsV (insK x.kids k n)) → KidR base D g cap l p x (insK x.kids k n) w (W.setCell ⟨g, p * 5 + 3, none⟩ v) := fun W v hb ho => by
    obtain ⟨o, c, rfl⟩ := own_slice ho
    exact ⟨o, c, h.kid hx hb ho⟩
  clear h hrow
  rcases hkids.2 with ⟨hn, h0⟩ | ⟨g', cap', cur, hv, -, hc, h1, h2, -, -⟩
  · have hks : x.kids = [] := List.length_eq_zero_iff.1 h0
    obtain rfl : k = 0 := by omega
    rw [hn] at c3
    have HKS : Hid (x.kids = []) := hks
    clear hks
    have CN : ∀ V, Below w.heap.size w V → V.cell? ⟨D, 0, none⟩ = some (.slice (some ⟨g, 0, none⟩) l.length cap) ∧ V.cell? ⟨g, p * 5 + 3, none⟩ = some (.slice none 0 0) := fun V hV => ⟨(hV.cell (cell_lt3 c)).trans c, (hV.cell (cell_lt3 c3)).trans c3⟩
    clear hn h0 hkids hk hl
    go_enter Tryz.func56, Tryz.ntmps56
    go_upto_region 2 with fail
    go_upto_region 3 with (at_builtin; refine wpList_append_own_at _ rfl _ _ 60 rfl w.heap.size 3 i0 (.int .i64 0) 1 8 Tryz.underlying60 hi hz0 hz1 hz2 rfl (by decide) _ _ _ rfl (World.ownsRow_nil _ _ _ _) ⟨w.heap.size, 0, none⟩ 1 1 [.int .i64 n] rfl rfl (cell_one_new _ _ _) (fun u hu => by simp at hu; subst hu; rfl) (by simp only [maxLen]; omega) (by omega) (by simp) ?_; intro v2 w2 ow2 gr2 _ _)
    have b2 : Below w.heap.size w w2 := ((Below.refl _ w).alloc (Nat.le_refl _) _).grown gr2 (by simp) (fun k hk => by cases hk)
    obtain ⟨cD, cG⟩ := CN w2 b2
    have fG := f3 w2 b2
    have ow3 : w2.ownsRow w.heap.size 3 1 v2 (insK x.kids 0 n).length (intsV (insK x.kids 0 n)) := by rw [HKS.out]; exact ow2
    obtain ⟨o2, c2, rfl⟩ := own_slice ow3
    go_wp2_with (at_builtin; refine wpList_append_own_none rfl _ _ 60 rfl w.heap.size 3 i0 1 Tryz.underlying60 hi _ _ _ rfl ow2 rfl ?_)
    exact bodyPost_end (results_none rfl _ _ _) rfl ⟨rfl, FIN _ _ b2 ow3⟩
  · rw [hv] at c3 hkids
    have CN : ∀ V, Below w.heap.size w V → V.cell? ⟨D, 0, none⟩ = some (.slice (some ⟨g, 0, none⟩) l.length cap) ∧ V.cell? ⟨g, p * 5 + 3, none⟩ = some (.slice (some ⟨g', 0, none⟩) x.kids.length cap') := fun V hV => ⟨(hV.cell (cell_lt3 c)).trans c, (hV.cell (cell_lt3 c3)).trans c3⟩
    have hkc : (k : Int) ≤ (cap' : Int) := by omega
    have hkl : (k : Int) ≤ (x.kids.length : Int) := by omega
    have N1 : ∀ j u, (intsV (x.kids.take k))[j]? = some u → w.cell? ((⟨g', 0, none⟩ : Addr).add j) = some u := fun j u hj => by
      refine row_news hkids 0 j u ?_
      unfold intsV at hj ⊢
      rw [List.map_take, List.getElem?_take] at hj
      split at hj
      · exact hj
      · cases hj
    have N3 : ∀ V, Below w.heap.size w V → ∀ j u, (intsV (x.kids.drop k))[j]? = some u → V.cell? ((⟨g', k, none⟩ : Addr).add j) = some u := fun V hV j u hj => by
      refine row_news (ownB_below hkids hV) k j u ?_
      unfold intsV at hj ⊢
      rw [List.map_drop] at hj
      exact hj
    have HN1 : Hid (∀ j u, (intsV (x.kids.take k))[j]? = some u → w.cell? ((⟨g', 0, none⟩ : Addr).add j) = some u) := N1
    clear N1 hkids hv
    have hlk : (intsV (x.kids.take k)).length = k * 1 := by rw [intsV_len, List.length_take]; omega
    have hld : (intsV (x.kids.drop k)).length = (x.kids.length - k) * 1 := by rw [intsV_len, List.length_drop]; omega
    go_enter Tryz.func56, Tryz.ntmps56
    go_upto_region 2 with (at_builtin; refine wpList_append_own_at _ rfl _ _ 60 rfl w.heap.size 3 i0 (.int .i64 0) 1 8 Tryz.underlying60 hi hz0 hz1 hz2 rfl (by decide) _ _ _ rfl (World.ownsRow_nil _ _ _ _) ⟨g', 0, none⟩ k cap' (intsV (x.kids.take k)) rfl hlk HN1.out (intsV_one _) (by simp only [maxLen]; omega) (by omega) (Nat.le_refl _) ?_; intro v1 w1 ow1 gr1 _ _)
    have b1 : Below w.heap.size w w1 := (Below.refl _ w).grown gr1 (Nat.le_refl _) (fun k hk => by cases hk)
    have hw1 := b1.size
    go_upto_region 3 with (at_builtin; refine wpList_append_own_at _ rfl _ _ 60 rfl w.heap.size 3 i0 (.int .i64 0) 1 8 Tryz.underlying60 hi hz0 hz1 hz2 rfl (by decide) _ _ _ rfl (World.ownsRow.alloc ow1 _) ⟨w1.heap.size, 0, none⟩ 1 1 [.int .i64 n] rfl rfl (cell_one_new _ _ _) (fun u hu => by simp at hu; subst hu; rfl) (by simp only [maxLen]; omega) (by omega) (by simp; omega) ?_; intro v2 w2 ow2 gr2 _ _)
    have b2 : Below w.heap.size w w2 := (b1.alloc hw1 _).grown gr2 (by simp; omega) (fun k hk => (ow1.lt k hk).1)
    have hw2 := b2.size
    obtain ⟨cD, cG⟩ := CN w2 b2
    have HN3 : Hid (∀ j u, (intsV (x.kids.drop k))[j]? = some u → w2.cell? ((⟨g', k, none⟩ : Addr).add j) = some u) := N3 w2 b2
    by_cases hkc2 : k < cap'
    · have hkc2' : (k : Int) < (cap' : Int) := by omega
      go_upto_region 4 with (at_builtin; refine wpList_append_own_at _ rfl _ _ 60 rfl w.heap.size 3 i0 (.int .i64 0) 1 8 Tryz.underlying60 hi hz0 hz1 hz2 rfl (by decide) _ _ _ rfl ow2 ⟨g', k, none⟩ (x.kids.length - k) (cap' - k) (intsV (x.kids.drop k)) rfl hld HN3.out (intsV_one _) (by simp only [maxLen]; omega) (by omega) hw2 ?_; intro v3 w3 ow3 gr3 _ _)
      have b3 : Below w.heap.size w w3 := b2.grown gr3 hw2 (fun k hk => (ow2.lt k hk).1)
      obtain ⟨cD3, cG3⟩ := CN w3 b3
      have fG := f3 w3 b3
      have ow4 : w3.ownsRow w.heap.size 3 1 v3 (insK x.kids k n).length (intsV (insK x.kids k n)) := by
        have e1 : (insK x.kids k n).length = 0 + k + 1 + (x.kids.length - k) := by unfold insK; simp; omega
        have e2 : intsV (insK x.kids k n) = [] ++ intsV (x.kids.take k) ++ [.int .i64 n] ++ intsV (x.kids.drop k) := by unfold insK; rw [intsV_app, List.nil_append, List.append_assoc]; rfl
        rw [e1, e2]
        exact ow3
      obtain ⟨o3, c3', rfl⟩ := own_slice ow4
      go_wp2_with fail
      exact bodyPost_end (results_none rfl _ _ _) rfl ⟨rfl, FIN _ _ b3 ow4⟩
    · obtain rfl : k = cap' := by omega
      obtain rfl : k = x.kids.length := by omega
      go_upto_region 4 with (at_builtin; refine wpList_append_own_at _ rfl _ _ 60 rfl w.heap.size 3 i0 (.int .i64 0) 1 8 Tryz.underlying60 hi hz0 hz1 hz2 rfl (by decide) _ _ _ rfl ow2 ⟨g', 0, none⟩ 0 0 [] rfl rfl (fun j u hj => by simp at hj) (fun u hu => by cases hu) (by simp only [maxLen]; omega) (by omega) hw2 ?_; intro v3 w3 ow3 gr3 _ _)
      have b3 : Below w.heap.size w w3 := b2.grown gr3 hw2 (fun k hk => (ow2.lt k hk).1)
      obtain ⟨cD3, cG3⟩ := CN w3 b3
      have fG := f3 w3 b3
      have ow4 : w3.ownsRow w.heap.size 3 1 v3 (insK x.kids x.kids.length n).length (intsV (insK x.kids x.kids.length n)) := by
        have e1 : (insK x.kids x.kids.length n).length = 0 + x.kids.length + 1 + 0 := by unfold insK; simp
        have e2 : intsV (insK x.kids x.kids.length n) = [] ++ intsV (x.kids.take x.kids.length) ++ [.int .i64 n] ++ [] := by unfold insK; rw [intsV_app, List.nil_append, List.append_nil, List.drop_length]; rfl
        rw [e1, e2]
        exact ow3
      obtain ⟨o3, c3', rfl⟩ := own_slice ow4
      go_wp2_with fail
      exact bodyPost_end (results_none rfl _ _ _) rfl ⟨rfl, FIN _ _ b3 ow4⟩
end Go.Proofs.YtnoecobddhmhlaaGreatDoor

namespace Go.Proofs.YtnoecobddhmhlaaGreatDoor

theorem kidsOf_none {q : Int} : ∀ (l : List Elm) (k : Nat), (∀ e ∈ l, e.parent ≠ q) → kidsOf q k l = []
  | [], k, _ => rfl
  | e :: l, k, h => by
    rw [kidsOf, if_neg (h e (List.mem_cons_self ..))]
    exact kidsOf_none l (k + 1) fun x hx => h x (List.mem_cons_of_mem _ hx)
theorem kids_snoc {E : List Elm} {i : Nat} {e : Elm} (he : E[i]? = some e) (q : Int) : kidsOf q 0 (E.take (i + 1)) = kidsOf q 0 (E.take i) ++ (if e.parent = q then [(i : Int)] else []) := by
  have hi : i < E.length := (List.getElem?_eq_some_iff.1 he).1
  rw [List.take_add_one, he]
  show kidsOf q 0 (E.take i ++ [e]) = _
  rw [kidsOf_app, Nat.zero_add, List.length_take, Nat.min_eq_left (by omega)]
  congr 1
/-- Parents lie ahead. -/
def Ahead (E : List Elm) : Prop := ∀ (j : Nat) (e : Elm), E[j]? = some e → e.parent < (j : Int)
theorem kids_own {E : List Elm} (h : Ahead E) (i : Nat) : kidsOf i 0 (E.take (i + 1)) = [] := by
  refine kidsOf_none _ 0 fun e he => ?_
  obtain ⟨j, hj⟩ := List.getElem?_of_mem he
  rw [List.getElem?_take] at hj
  split at hj
  · have := h j e hj
    omega
  · cases hj
/-- What was made of the first i elements. -/
structure MadeE (E : List Elm) (i j : Nat) (x : RE) (e : Elm) : Prop where
  nm : x.nm = e.name
  ats : x.ats = e.ats
  par : x.par = e.parent
  kids : x.kids = kidsOf j 0 (E.take i)
  ins : x.ins = true
def RelE (E : List Elm) (i : Nat) (l : List RE) : Prop := l.length = i ∧ ∀ (j : Nat) (x : RE), l[j]? = some x → ∃ e, E[j]? = some e ∧ MadeE E i j x e
theorem kidsOf_len (q : Int) : ∀ (l : List Elm) (k : Nat), (kidsOf q k l).length ≤ l.length
  | [], k => Nat.le_refl _
  | e :: l, k => by
    have := kidsOf_len q l (k + 1)
    rw [kidsOf]
    split
    · simp; omega
    · simp; omega
theorem RelE.few {E : List Elm} {i : Nat} {l : List RE} (h : RelE E i l) {j : Nat} {x : RE} (hx : l[j]? = some x) : x.kids.length ≤ i := by
  obtain ⟨e, -, hm⟩ := h.2 j x hx
  rw [hm.kids]
  have := kidsOf_len j (E.take i) 0
  rw [List.length_take] at this
  omega
theorem RelE.add {E : List Elm} {i : Nat} {l : List RE} (h : RelE E i l) (ha : Ahead E) {e : Elm} (he : E[i]? = some e) (hp : e.parent < 0) {x : RE} (h1 : x.nm = e.name) (h2 : x.ats = e.ats) (h3 : x.par = e.parent) (h4 : x.kids = []) (h5 : x.ins = true) : RelE E (i + 1) (l ++ [x]) := by
  refine ⟨by rw [List.length_append, h.1]; rfl, fun j y hy => ?_⟩
  by_cases hj : j < l.length
  · rw [List.getElem?_append_left hj] at hy
    obtain ⟨e', he', hm⟩ := h.2 j y hy
    refine ⟨e', he', hm.nm, hm.ats, hm.par, ?_, hm.ins⟩
    rw [kids_snoc he, if_neg (by omega), List.append_nil]
    exact hm.kids
  · rw [List.getElem?_append_right (by omega)] at hy
    have hj0 : j - l.length = 0 := by
      have := (List.getElem?_eq_some_iff.1 hy).1
      simp at this
      omega
    obtain rfl : j = i := by have := h.1; omega
    rw [hj0] at hy
    have hy : x = y := by simpa using hy
    subst hy
    exact ⟨e, he, h1, h2, h3, by rw [h4, kids_own ha], h5⟩
theorem RelE.addk {E : List Elm} {i : Nat} {l : List RE} (h : RelE E i l) (ha : Ahead E) {e : Elm} (he : E[i]? = some e) {p : Nat} (hp : e.parent = p) {x y : RE} (h1 : x.nm = e.name) (h2 : x.ats = e.ats) (h3 : x.par = e.parent) (h4 : x.kids = []) (h5 : x.ins = true) (hy : l[p]? = some y) (o : Option Addr) (c : Nat) :
    RelE E (i + 1) ((l ++ [x]).set p { y with ok := o, ck := c, kids := insK y.kids y.kids.length i }) := by
  have hpi : p < i := by have := ha i e he; omega
  refine ⟨by rw [List.length_set, List.length_append, h.1]; rfl, fun j z hz => ?_⟩
  rw [List.getElem?_set] at hz
  by_cases hjp : p = j
  · subst hjp
    rw [if_pos rfl, if_pos (by rw [List.length_append]; have := h.1; omega)] at hz
    injection hz with hz
    subst hz
    obtain ⟨e', he', hm⟩ := h.2 p y hy
    refine ⟨e', he', hm.nm, hm.ats, hm.par, ?_, hm.ins⟩
    show insK y.kids y.kids.length i = _
    rw [kids_snoc he, if_pos hp, insK, List.take_length, List.drop_length, hm.kids]
  · rw [if_neg hjp] at hz
    by_cases hj : j < l.length
    · rw [List.getElem?_append_left hj] at hz
      obtain ⟨e', he', hm⟩ := h.2 j z hz
      refine ⟨e', he', hm.nm, hm.ats, hm.par, ?_, hm.ins⟩
      rw [kids_snoc he, if_neg (by omega), List.append_nil]
      exact hm.kids
    · rw [List.getElem?_append_right (by omega)] at hz
      have hj0 : j - l.length = 0 := by
        have := (List.getElem?_eq_some_iff.1 hz).1
        simp at this
        omega
      obtain rfl : j = i := by have := h.1; omega
      rw [hj0] at hz
      have hz : x = z := by simpa using hz
      subst hz
      exact ⟨e, he, h1, h2, h3, by rw [h4, kids_own ha], h5⟩
/-- The document as a function of numbers. -/
def RM (l : List RE) : Dm := fun i => if 0 ≤ i then match l[i.toNat]? with | some x => if x.ins then some ⟨x.nm, x.ats, x.par, x.kids⟩ else none | none => none else none
theorem RM_at {l : List RE} {j : Nat} {x : RE} (h : l[j]? = some x) (hi : x.ins = true) : RM l j = some ⟨x.nm, x.ats, x.par, x.kids⟩ := by
  unfold RM
  rw [if_pos (by omega), Int.toNat_natCast, h]
  simp [hi]
theorem RelE.made {n : Nd} {l : List RE} (h : RelE (elN 0 (-1) n) (szN n) l) : ∀ (j : Nat) (x : RE), l[j]? = some x → ∃ e, (elN 0 (-1) n)[j]? = some e ∧ x.nm = e.name ∧ x.ats = e.ats ∧ x.par = e.parent ∧ x.kids = e.kids ∧ x.ins = true := fun j x hx => by
  obtain ⟨e, he, hm⟩ := h.2 j x hx
  refine ⟨e, he, hm.nm, hm.ats, hm.par, ?_, hm.ins⟩
  rw [hm.kids, List.take_of_length_le (by rw [elN_len]; exact Nat.le_refl _)]
  have := kids_at n 0 (-1) j e (by omega) he
  simpa using this
end Go.Proofs.YtnoecobddhmhlaaGreatDoor

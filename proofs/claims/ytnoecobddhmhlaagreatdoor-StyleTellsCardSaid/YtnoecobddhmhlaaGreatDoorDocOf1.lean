/-
  The document's DocOf (leadlightref1), walked: a document of flat nodes.
-/
import Derived.Test.YtnoecobddhmhlaaGreatDoorJ29
import Derived.Test.YtnoecobddhmhlaaGreatDoorJ30
import Derived.Deep.CutRange
import Derived.Deep.AppendLies
import Derived.Deep.RegionLaw
import Derived.Lib.QuietBelow
import Derived.BigQuiet
namespace Go.Proofs.YtnoecobddhmhlaaGreatDoor
open Go.RowKit

theorem set5_1 {V : World} {b : Nat} {a0 a1 a2 a3 a4 : Value} {t : TypeId} (h : V.heap[b]? = some (.cells #[a0, a1, a2, a3, a4] t)) (u : Value) : (V.setCell ⟨b, 1, none⟩ u).heap[b]? = some (.cells #[a0, u, a2, a3, a4] t) := by
  rw [heap_setCell_same V b 1 _ _ u h]
  rfl
theorem set1_0 {V : World} {b : Nat} {a0 : Value} {t : TypeId} (h : V.heap[b]? = some (.cells #[a0] t)) (u : Value) : (V.setCell ⟨b, 0, none⟩ u).heap[b]? = some (.cells #[u] t) := by
  rw [heap_setCell_same V b 0 _ _ u h]
  rfl
structure Cel5 (w : World) (b : Nat) (a0 a1 a2 a3 a4 : Value) : Prop where
  c0 : w.cell? ⟨b, 0, none⟩ = some a0
  c1 : w.cell? ⟨b, 1, none⟩ = some a1
  c2 : w.cell? ⟨b, 2, none⟩ = some a2
  c3 : w.cell? ⟨b, 3, none⟩ = some a3
  c4 : w.cell? ⟨b, 4, none⟩ = some a4
theorem Cel5.of {w : World} {b : Nat} {a0 a1 a2 a3 a4 : Value} {t : TypeId} (h : w.heap[b]? = some (.cells #[a0, a1, a2, a3, a4] t)) : Cel5 w b a0 a1 a2 a3 a4 := by
  exact ⟨by simp [World.cell?, h], by simp [World.cell?, h], by simp [World.cell?, h], by simp [World.cell?, h], by simp [World.cell?, h]⟩
/-- A row of other things stays where a variable is written. -/
theorem own_other {V : World} {base b : Nat} {e t : TypeId} {k : Nat} {v : Value} {n : Nat} {xs : List Value} {cs : Array Value} (h : V.ownsRow base e k v n xs) (hb : V.heap[b]? = some (.cells cs t)) (hne : e ≠ t) (i : Nat) (u : Value) : (V.setCell ⟨b, i, none⟩ u).ownsRow base e k v n xs := by
  refine own_same h fun g hg => heap_setCell_other V ⟨b, i, none⟩ g u fun he => ?_
  obtain ⟨c, hc⟩ := ownE_kind h g hg
  have he : b = g := by first | exact he | exact he.symm
  rw [← he, hb] at hc
  injection hc with hc
  injection hc with _ hc
  exact hne hc.symm
/-- A new element, with its row of attributes, ahead of its being appended. -/
def FreshE (base : Nat) (V : World) (b : Nat) (nm : Bs) (par : Int) (ats : List (Bs × Bs)) : Prop := ∃ oa ca, V.heap[b]? = some (.cells #[.string ⟨nm.toArray⟩, .slice oa ats.length ca, .int .i64 par, .slice none 0 0, .bool true] 62) ∧ V.ownsRow base 59 2 (.slice oa ats.length ca) ats.length (cellsA ats)
/-- What DocOf leaves. -/
def DocR (base : Nat) (n : Nd) (m : Nat) (w w' : World) : Prop := ∃ v l, RO base w' base v l ∧ RelE (elN 0 (-1) n) m l ∧ Below base w w'
set_option maxRecDepth 20000 in
set_option maxHeartbeats 16000000 in
theorem DocOf_any (n : Nd) (W w : World) (M : List FlM) (g cap : Nat) (bW : Below W.heap.size W w) (hr : RowF w g M) (hR : FlRs W M (flN 0 (-1) 1 n)) (hl : M.length ≤ 150) (h12 : ∀ f ∈ flN 0 (-1) 1 n, f.attrs.length ≤ 12) :
    Calls Tryz.prog 11 #[.slice (some ⟨g, 0, none⟩) M.length cap] w fun e w' => e = .returned (.pointer (some ⟨w.heap.size, 0, none⟩)) ∧ DocR w.heap.size n M.length w w' := by
  obtain ⟨i0, hi, hz0, hz1, hz2⟩ := info_parts infoEl
  obtain ⟨i1, hi1, hy0, hy1, hy2⟩ := info_parts attrInfo
  have hA : Ahead (elN 0 (-1) n) := fun j e he => by
    have := elN_lt n 0 (-1) j e he (by omega)
    omega
  have b0 : Below w.heap.size w (w.alloc (.cells #[.slice none 0 0] 65)) := (Below.refl _ w).alloc (Nat.le_refl _) _
  have r0 := World.alloc_heap_new w (.cells #[.slice none 0 0] 65)
  go_enter Tryz.func11, Tryz.ntmps11
  go_wp2_with fail
  go_loopw [4] (fun i wr => ∃ (k : Nat) (v : Value) (l : List RE), k ≤ M.length ∧ i = .int .i64 k ∧ RO w.heap.size wr w.heap.size v l ∧ RelE (elN 0 (-1) n) k l ∧ Below w.heap.size w wr) (fun i _ => M.length - (intOf i).toNat)
  case atStart => exact ⟨0, _, [], Nat.zero_le _, rfl, ⟨r0, Nat.le_refl _, World.ownsRow_nil _ _ _ _, (fun x hx => by cases hx), (fun x hx => by cases hx)⟩, ⟨rfl, fun j x hx => by simp at hx⟩, b0⟩
  case round =>
    obtain ⟨k, v, l, hk, rfl, hO, hE, hb⟩ := hrel
    clear b0 r0
    by_cases hlt : k < M.length
    · have hlt' : (k : Int) < (M.length : Int) := by omega
      obtain ⟨x, hx⟩ : ∃ x, M[k]? = some x := ⟨_, List.getElem?_eq_getElem hlt⟩
      obtain ⟨f, hf, hnm, hat, hpar, -, -⟩ := hR.get hx
      obtain ⟨c0, c1, c2, -⟩ := (hr.below hb) k x hx
      have hfl := h12 f (List.mem_of_getElem? hf)
      obtain ⟨e, he, e1, e2, e3⟩ : ∃ e, (elN 0 (-1) n)[k]? = some e ∧ e.name = x.nm ∧ e.ats = f.attrs ∧ e.parent = x.parent := by
        have h1 := congrArg (fun t => t[k]?) (elN_fl n 0 (-1) 1)
        simp only [List.getElem?_map, hf] at h1
        cases hq : (elN 0 (-1) n)[k]? with
        | none => rw [hq] at h1; cases h1
        | some e =>
          rw [hq] at h1
          simp at h1
          exact ⟨e, rfl, by rw [h1.1, hnm], h1.2.1, by rw [h1.2.2, hpar]⟩
      have hat' : AtsIn wr x.c f.attrs := hat.below (bW.trans (hb.mono bW.size))
      obtain ⟨oa, ca, hxc, h1, h2, h3, h4⟩ := hat'
      rw [hxc] at c1
      have HE : Hid ((elN 0 (-1) n)[k]? = some e ∧ e.name = x.nm ∧ e.ats = f.attrs ∧ e.parent = x.parent) := ⟨he, e1, e2, e3⟩
      have HX : Hid (M[k]? = some x) := hx
      clear he e1 e2 e3 hat hf hx hxc hnm hpar
      go_upto_region 5 with fail
      go_cut [5] from 8 to 70 (fun p wx => p = .pointer (some ⟨wr.heap.size, 0, none⟩) ∧ wx = wr.drew.alloc (.cells #[.string ⟨x.nm.toArray⟩, .slice none 0 0, .int .i64 x.parent, .slice none 0 0, .bool true] 62))
      case first =>
        have bz : Below wr.heap.size wr ((wr.alloc (.cells #[.string ⟨#[]⟩, .slice none 0 0, .int .i64 0, .slice none 0 0, .bool false] 62)).drew) := ((Below.refl _ _).alloc (Nat.le_refl _) _).drew
        have z0 := (bz.cell (cell_lt3 c0)).trans c0
        have z2 := (bz.cell (cell_lt3 c2)).trans c2
        go_region
        all_goals
          go_wp2_with fail
          go_meet
          exact ⟨rfl, rfl⟩
      case rest =>
        obtain ⟨rfl, rfl⟩ := hcut
        have bU : Below wr.heap.size wr (wr.drew.alloc (.cells #[.string ⟨x.nm.toArray⟩, .slice none 0 0, .int .i64 x.parent, .slice none 0 0, .bool true] 62)) := (Below.refl _ wr).drew.alloc (Nat.le_refl _) _
        have hU : (wr.drew.alloc (.cells #[.string ⟨x.nm.toArray⟩, .slice none 0 0, .int .i64 x.parent, .slice none 0 0, .bool true] 62)).heap[wr.heap.size]? = some (.cells #[.string ⟨x.nm.toArray⟩, .slice none 0 0, .int .i64 x.parent, .slice none 0 0, .bool true] 62) := World.alloc_heap_new wr.drew _
        obtain ⟨U, hUe⟩ : ∃ U, wr.drew.alloc (.cells #[.string ⟨x.nm.toArray⟩, .slice none 0 0, .int .i64 x.parent, .slice none 0 0, .bool true] 62) = U := ⟨_, rfl⟩
        rw [hUe] at bU hU ⊢
        clear hUe
        obtain ⟨EB, hEB⟩ : ∃ EB, wr.heap.size = EB := ⟨_, rfl⟩
        have hw := hb.size
        have hbU : Below EB wr U := by rw [← hEB]; exact bU
        rw [hEB] at hU hw ⊢
        have HEB : Hid (wr.heap.size = EB) := hEB
        have sU : EB < U.heap.size := heapD_lt hU
        have d0 := (bU.cell (cell_lt3 c0)).trans c0
        have d1 := (bU.cell (cell_lt3 c1)).trans c1
        have d2 := (bU.cell (cell_lt3 c2)).trans c2
        have g4 := h4.below bU
        have q1 := (Cel5.of hU).c1
        have qf := froz_at hU 1
        clear c0 c1 c2 hEB h4
        go_upto_region 6 with fail
        go_cut [] from 8 to 70 (fun wx => FreshE w.heap.size wx EB x.nm x.parent f.attrs ∧ Below EB wr wx)
        case first =>
          cases oa with
          | none =>
            have hc0 := h3 rfl
            have hz : f.attrs = [] := List.length_eq_zero_iff.1 (by omega)
            have FIN : ∀ V, U.drew = V → FreshE w.heap.size (V.setCell ⟨EB, 1, none⟩ (.slice none 0 0)) EB x.nm x.parent f.attrs ∧ Below EB wr (V.setCell ⟨EB, 1, none⟩ (.slice none 0 0)) := fun V hV => by
              subst hV
              refine ⟨⟨none, 0, ?_, ?_⟩, (hbU.drew).setCell (Nat.le_refl _) _⟩
              · rw [hz]; exact set5_1 (V := U.drew) hU _
              · rw [hz]; exact World.ownsRow_nil _ _ _ _
            rw [hz, hc0] at d1
            clear hz
            go_region
            all_goals
              go_wp2_with fail
              go_meet
              exact FIN _ rfl
          | some a =>
            by_cases hz : f.attrs = []
            · have FIN : ∀ V, U.drew = V → FreshE w.heap.size (V.setCell ⟨EB, 1, none⟩ (.slice none 0 0)) EB x.nm x.parent f.attrs ∧ Below EB wr (V.setCell ⟨EB, 1, none⟩ (.slice none 0 0)) := fun V hV => by
                subst hV
                refine ⟨⟨none, 0, ?_, ?_⟩, (hbU.drew).setCell (Nat.le_refl _) _⟩
                · rw [hz]; exact set5_1 (V := U.drew) hU _
                · rw [hz]; exact World.ownsRow_nil _ _ _ _
              rw [hz] at d1
              have d1' : U.cell? ⟨g, k * 4 + 1, none⟩ = some (.slice (some a) 0 ca) := d1
              clear hz d1
              go_region
              all_goals
                go_wp2_with fail
                go_meet
                exact FIN _ rfl
            · have hpos : 0 < f.attrs.length := List.length_pos_iff.2 hz
              have HN : Hid (∀ j u, (cellsA f.attrs)[j]? = some u → U.drew.cell? (a.add j) = some u) := fun j u hu => ats_news g4 j u hu
              have HO : Hid (∀ u ∈ cellsA f.attrs, u.oneCell' = true) := cellsA_one f.attrs
              have KEEP : ∀ (V : World) (o' : Option Addr) (c' : Nat), U.drew.grownBy V none → V.ownsRow w.heap.size 59 2 (.slice o' f.attrs.length c') f.attrs.length (cellsA f.attrs) → V.cell? ⟨EB, 1, none⟩ = some (.slice none 0 0) ∧ V.frozen? ⟨EB, 1, none⟩ = false ∧ (FreshE w.heap.size (V.setCell ⟨EB, 1, none⟩ (.slice o' f.attrs.length c')) EB x.nm x.parent f.attrs ∧ Below EB wr (V.setCell ⟨EB, 1, none⟩ (.slice o' f.attrs.length c'))) := fun V o' c' gr ow => by
                have hV := (gr.block EB sU (by simp)).trans hU
                have hbV : Below EB wr V := hbU.drew.grown gr (Nat.le_of_lt sU) (fun k hk => by cases hk)
                refine ⟨(Cel5.of hV).c1, froz_at hV 1, ⟨o', c', set5_1 hV _, own_other ow hV (by decide) _ _⟩, hbV.setCell (Nat.le_refl _) _⟩
              clear hz
              go_region_law ((refine step_append_lies _ rfl (.tmp 26) (.tmp 31) 22 rfl w.heap.size 59 i1 (.agg #[.string ⟨#[]⟩, .string ⟨#[]⟩]) 2 32 Tryz.underlying22 hi1 hy0 hy1 hy2 rfl (by decide) (.slice none 0 0) 0 [] rfl (World.ownsRow_nil _ _ _ _) a f.attrs.length ca (cellsA f.attrs) rfl (cellsA_len _) HN.out HO.out hpos (by simp only [maxLen]; omega) (by omega) (by simp; omega) _ rfl ?_; intro g7 cap7 w7 ow7 gr7 hat7 hlt7; obtain ⟨z1, z2, z3⟩ := KEEP w7 (some ⟨g7, 0, none⟩) cap7 gr7 (by rw [Nat.zero_add, List.nil_append] at ow7; exact ow7)))
              all_goals
                go_wp2_with fail
                go_meet
                exact z3
        case rest =>
          obtain ⟨hF, hbc⟩ := hcut
          obtain ⟨oa', ca', hN, hNa⟩ := hF
          have hbc' : Below wr.heap.size wr wc := by rw [HEB.out]; exact hbc
          have hOc := hO.below hbc'
          have hbwc : Below w.heap.size w wc := hb.trans (hbc.mono hw)
          have cD := bcell hOc.doc 0 _ rfl
          have cD' : wc.cell? ⟨w.heap.size, 0, none⟩ = some v := cD
          obtain ⟨p0, p1, p2, p3, p4⟩ := Cel5.of hN
          have hll : l.length ≤ 150 := by have := hE.1; omega
          have hwc := hbwc.size
          have KEEP : ∀ (X w7 : World) (v' : Value), Below wc.heap.size wc X → X.grownBy w7 v.ownBlock → w7.ownsRow w.heap.size 62 5 v' (l.length + 1) (cellsE l ++ [.string ⟨x.nm.toArray⟩, .slice oa' f.attrs.length ca', .int .i64 x.parent, .slice none 0 0, .bool true]) → w7.cell? ⟨w.heap.size, 0, none⟩ = some v ∧ w7.frozen? ⟨w.heap.size, 0, none⟩ = false ∧ (RO w.heap.size (w7.setCell ⟨w.heap.size, 0, none⟩ v') w.heap.size v' (l ++ [⟨x.nm, oa', ca', f.attrs, x.parent, none, 0, [], true⟩]) ∧ Below w.heap.size w (w7.setCell ⟨w.heap.size, 0, none⟩ v')) := fun X w7 v' bX gr ow => by
            have hX := hOc.below bX
            have hNX := ownB_below hNa bX
            have hne : ∀ r, v.ownBlock = some r → w.heap.size ≠ r := fun r hr he => by
              obtain ⟨c, hc⟩ := ownE_kind hX.row r hr
              have hd := hX.doc
              rw [he, hc] at hd
              injection hd with hd
              injection hd with _ hd
              exact absurd hd (by decide)
            have hd7 : w7.heap[w.heap.size]? = some (.cells #[v] 65) := (gr.block _ (heapD_lt hX.doc) (fun he => hne _ he.symm rfl)).trans hX.doc
            have hsz := bX.size
            refine ⟨bcell hd7 0 _ rfl, froz_at hd7 0, ⟨set1_0 hd7 _, Nat.le_refl _, ?_, fun y hy => ?_, fun y hy => ?_⟩, ?_⟩
            · unfold OwnE
              rw [cellsE_app, List.length_append]
              exact own_other ow hd7 (by decide) _ _
            · rcases List.mem_append.1 hy with hy | hy
              · exact own_other (own_kindE (hX.ats y hy) hX.row gr (by decide)) hd7 (by decide) _ _
              · simp at hy
                subst hy
                exact own_other (own_kindE hNX hX.row gr (by decide)) hd7 (by decide) _ _
            · rcases List.mem_append.1 hy with hy | hy
              · exact own_other (own_kindE (hX.kids y hy) hX.row gr (by decide)) hd7 (by decide) _ _
              · simp at hy
                subst hy
                exact World.ownsRow_nil _ _ _ _
            · refine Below.setCell (p := ⟨w.heap.size, 0, none⟩) ?_ (Nat.le_refl _) _
              exact (hbwc.trans (bX.mono hwc)).grown gr (by omega) (fun r hr => (hX.row.lt r hr).1)
          have owd : wc.drew.ownsRow w.heap.size 62 5 v l.length (cellsE l) := hOc.row
          have H0 := World.alloc_heap_new wc.drew (.cells #[.string ⟨x.nm.toArray⟩, .slice oa' f.attrs.length ca', .int .i64 x.parent, .slice none 0 0, .bool true] 62)
          have bX : Below wc.heap.size wc (wc.drew.alloc (.cells #[.string ⟨x.nm.toArray⟩, .slice oa' f.attrs.length ca', .int .i64 x.parent, .slice none 0 0, .bool true] 62)) := (Below.refl _ wc).drew.alloc (Nat.le_refl _) _
          have bY : Below wc.heap.size wc ((wc.alloc (.cells #[.string ⟨x.nm.toArray⟩, .slice oa' f.attrs.length ca', .int .i64 x.parent, .slice none 0 0, .bool true] 62)).drew) := ((Below.refl _ wc).alloc (Nat.le_refl _) _).drew
          have cDy := (bY.cell (cell_lt3 cD')).trans cD'
          clear hU bU hbU q1 qf d0 d1 d2 g4 cD bY
          go_upto_region 7 with fail
          go_cut [] from 8 to 70 (fun wx => ∃ g' cap', RO w.heap.size wx w.heap.size (.slice (some ⟨g', 0, none⟩) (l.length + 1) cap') (l ++ [⟨x.nm, oa', ca', f.attrs, x.parent, none, 0, [], true⟩]) ∧ Below w.heap.size w wx)
          case first =>
            go_region_law ((refine step_append_lies _ rfl (.tmp 38) (.tmp 40) 63 rfl w.heap.size 62 i0 (.agg #[.string ⟨#[]⟩, .slice none 0 0, .int .i64 0, .slice none 0 0, .bool false]) 5 80 Tryz.underlying63 hi hz0 hz1 hz2 rfl (by decide) v l.length (cellsE l) rfl (World.ownsRow.alloc owd _) ⟨wc.heap.size, 0, none⟩ 1 1 [.string ⟨x.nm.toArray⟩, .slice oa' f.attrs.length ca', .int .i64 x.parent, .slice none 0 0, .bool true] rfl rfl (World.news_of_block H0) (fun u hu => by simp at hu; rcases hu with rfl | rfl | rfl | rfl | rfl <;> rfl) (by decide) (by simp only [maxLen]; omega) (by omega) (by simp; omega) _ rfl ?_; intro g7 cap7 w7 ow7 gr7 hat7 hlt7; obtain ⟨z1, z2, z3⟩ := KEEP _ w7 (.slice (some ⟨g7, 0, none⟩) (l.length + 1) cap7) bX gr7 ow7))
            all_goals
              go_wp2_with fail
              go_meet
              exact ⟨g7, cap7, z3⟩
          case rest =>
            obtain ⟨g', cap', hO2, hb2⟩ := hcut
            obtain ⟨he, he1, he2, he3⟩ := HE.out
            have hl1 : (l ++ [(⟨x.nm, oa', ca', f.attrs, x.parent, none, 0, [], true⟩ : RE)]).length = l.length + 1 := by rw [List.length_append]; rfl
            obtain ⟨-, -, d2, -⟩ := (hr.below hb2) k x HX.out
            by_cases hpar : x.parent < 0
            · have hpar' : ¬ 0 ≤ x.parent := by omega
              have HR : Hid (RelE (elN 0 (-1) n) (k + 1) (l ++ [⟨x.nm, oa', ca', f.attrs, x.parent, none, 0, [], true⟩])) := hE.add hA he (by omega) he1.symm he2.symm he3.symm rfl rfl
              go_wp2_with fail
              go_roundw
              case rel => exact ⟨k + 1, _, _, by omega, by go_num, hO2, HR.out, hb2⟩
              case measure => simp [intOf]; omega
            · have hpar' : 0 ≤ x.parent := by omega
              obtain ⟨p, hp⟩ : ∃ p : Nat, x.parent = p := ⟨x.parent.toNat, by omega⟩
              have hpk : p < l.length := by
                have := hA k e he
                have := hE.1
                omega
              obtain ⟨y, hy⟩ : ∃ y, l[p]? = some y := ⟨_, List.getElem?_eq_getElem hpk⟩
              have hyk := hE.few hy
              obtain ⟨L, hL⟩ : ∃ L, l ++ [(⟨x.nm, oa', ca', f.attrs, x.parent, none, 0, [], true⟩ : RE)] = L := ⟨_, rfl⟩
              have hy2 : L[p]? = some y := by rw [← hL, List.getElem?_append_left hpk]; exact hy
              rw [hL] at hl1 hO2
              rw [← hl1] at hO2
              have HR : Hid (∀ o c, RelE (elN 0 (-1) n) (k + 1) (L.set p { y with ok := o, ck := c, kids := insK y.kids y.kids.length k })) := fun o c => by
                rw [← hL]
                exact hE.addk (x := ⟨x.nm, oa', ca', f.attrs, x.parent, none, 0, [], true⟩) hA he (by omega) he1.symm he2.symm he3.symm rfl rfl hy o c
              have KA := kid_any w.heap.size wc.drew w.heap.size g' cap' L (hO2.below (Below.refl _ _).drew) p y.kids.length k y hy2 (Nat.le_refl _) (by omega)
              have hrow : wc.ownsRow w.heap.size 62 5 (.slice (some ⟨g', 0, none⟩) L.length cap') L.length (cellsE L) := hO2.row
              have hpL : p < L.length := by omega
              have hpL' : (p : Int) < (L.length : Int) := by omega
              have c3 : wc.cell? ⟨g', p * 5 + 3, none⟩ = some (.slice y.ok y.kids.length y.ck) := by
                rw [World.ownsRow.cellAt hrow (p * 5 + 3) (by omega)]
                exact (cellsE_get L p y hy2).2.2.2.1
              have cD2 : wc.cell? ⟨w.heap.size, 0, none⟩ = some (.slice (some ⟨g', 0, none⟩) L.length cap') := bcell hO2.doc 0 _ rfl
              have hlow : w.heap.size ≤ g' := (hrow.lt g' rfl).1
              have hszc := hb2.size
              have FIN : ∀ W', KidR w.heap.size w.heap.size g' cap' L p y (insK y.kids y.kids.length k) wc.drew W' → ∃ (v : Value) (l : List RE), RO w.heap.size W' w.heap.size v l ∧ RelE (elN 0 (-1) n) (k + 1) l ∧ Below w.heap.size w W' := fun W' h => by
                obtain ⟨o, c, h1, h2⟩ := h
                exact ⟨_, _, h1, HR.out o c, (hb2.drew).grown h2 hszc (fun r hr => by cases hr; exact hlow)⟩
              rw [hp] at d2 hpar'
              clear hO hE hO2 hrow HR hpar hl1 hL HE he he1 he2 he3 KEEP bX H0 owd cDy hN hNa p0 p1 p2 p3 p4 cD'
              go_upto_region 9 with fail
              go_region_with (go_at_call 56; refine KA.mono ?_; rintro e w9 ⟨rfl, hk9⟩)
              all_goals
                obtain ⟨v9, l9, h91, h92, h93⟩ := FIN _ hk9
                go_wp2_with fail
                go_roundw
                case rel => exact ⟨k + 1, v9, l9, by omega, by go_num, h91, h92, h93⟩
                case measure => simp [intOf]; omega
    · have hlt' : ¬ (k : Int) < (M.length : Int) := by omega
      obtain rfl : k = M.length := by omega
      go_wp2_with fail
      go_ret
      exact ⟨rfl, v, l, hO, hE, hb⟩
end Go.Proofs.YtnoecobddhmhlaaGreatDoor

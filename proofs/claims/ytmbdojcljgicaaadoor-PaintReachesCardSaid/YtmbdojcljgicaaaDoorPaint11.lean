/-
  The laws over pictures: pieces of the document's make, as package scene has them.
-/
import Derived.Test.YtmbdojcljgicaaaDoorPaint10
namespace Go.Proofs.YtmbdojcljgicaaaDoor
open Go.RowKit

/-- Their points lie in rows of points. -/
def PtsB (w : World) (l : List P5) : Prop := ∀ x ∈ l, ∀ a, x.o = some a → ∃ cur, w.heap[a.block]? = some (.cells cur 54 (0, 0))
theorem PtsB.below {w w' : World} {l : List P5} (h : PtsB w l) (hb : Below w.heap.size w w') : PtsB w' l := fun x hx a ha => by
  obtain ⟨cur, hc⟩ := h x hx a ha
  exact ⟨cur, (hb.block _ (Array.getElem?_eq_some_iff.1 hc).1).trans hc⟩
theorem OwnP.blk {w : World} {base : Nat} {o : Option Addr} {n c : Nat} {l : List Qt} (h : OwnP w base (.slice o n c) l) : ∀ a, o = some a → ∃ cur, w.heap[a.block]? = some (.cells cur 54 (0, 0)) := fun a ha => by
  rcases h.2 with ⟨h1, -⟩ | ⟨g, cap, cur, h1, -, h2, -⟩
  · cases h1; cases ha
  · cases h1; cases ha; exact ⟨cur, h2⟩
theorem pts_grown {w w' : World} {l : List P5} {row : Option Nat} (hP : PtsOf w l) (hB : PtsB w l) (gr : w.grownBy w' row) (hr : ∀ r, row = some r → ∃ cur, w.heap[r]? = some (.cells cur 42 (0, 0))) : PtsOf w' l ∧ PtsB w' l := by
  have key : ∀ x ∈ l, ∀ a, x.o = some a → w'.heap[a.block]? = w.heap[a.block]? := fun x hx a ha => by
    obtain ⟨cur, hc⟩ := hB x hx a ha
    refine gr.block _ (Array.getElem?_eq_some_iff.1 hc).1 (fun e => ?_)
    obtain ⟨cur', hc'⟩ := hr _ e.symm
    rw [hc] at hc'
    injection hc' with h
    injection h with h1 h2
    exact absurd h2 (by decide)
  refine ⟨fun x hx => ?_, fun x hx a ha => ?_⟩
  · intro i q hq
    obtain ⟨b, off, h1, c0, c1, c2, c3, hpi⟩ := hP x hx i q hq
    have hb : w'.heap[b]? = w.heap[b]? := key x hx ⟨b, off, none⟩ h1
    exact ⟨b, off, h1, (cell_of_heap (p := ⟨b, _, none⟩) hb).trans c0, (cell_of_heap (p := ⟨b, _, none⟩) hb).trans c1, (cell_of_heap (p := ⟨b, _, none⟩) hb).trans c2, (cell_of_heap (p := ⟨b, _, none⟩) hb).trans c3, hpi⟩
  · obtain ⟨cur, hc⟩ := hB x hx a ha
    exact ⟨cur, (key x hx a ha).trans hc⟩
theorem own_kind {w : World} {base : Nat} {e : TypeId} {size : Nat} {v : Value} {n : Nat} {xs : List Value} (h : w.ownsRow base e size v n xs) : ∀ r, v.ownBlock = some r → ∃ cur, w.heap[r]? = some (.cells cur e (0, 0)) := fun r hr => by
  rcases h.2 with ⟨h1, -⟩ | ⟨g, cap, cur, h1, -, h2, -⟩
  · rw [h1] at hr; cases hr
  · rw [h1] at hr; cases hr; exact ⟨cur, h2⟩
theorem Own5.app {w : World} {base : Nat} {v : Value} {l : List P5} {x : P5} (h : w.ownsRow base 42 5 v (l.length + 1) (cells5 l ++ [.int .i64 x.nd, .slice x.o x.s.pts.length x.cap, .string x.s.fill, .string x.s.rule, .int .i64 x.lv])) : Own5 w base v (l ++ [x]) := by
  unfold Own5
  rw [cells5_app, List.length_append]
  exact h
set_option maxRecDepth 20000 in
set_option maxHeartbeats 16000000 in
theorem asPieces_both (l : List P5) (o : Option Addr) (cap : Nat) (w : World) (hl : l.length ≤ 1000) (hs : ∀ x ∈ l, x.s.pts.length ≤ 1000) (h : P5sAt w o l) (hP : PtsOf w l) :
    Calls Tryd.prog 7 #[.slice o l.length cap] w fun e W => ∃ v m, e = .returned v ∧ Own5 W w.heap.size v m ∧ sP m = sP l ∧ (PtsOf W m ∧ PtsB W m) ∧ Below w.heap.size w W := by
  obtain ⟨i0, hi, hz0, hz1, hz2⟩ := info_parts infoPc
  go_enter Tryd.func7, Tryd.ntmps7
  go_wp2
  go_loopw [3, 4] (fun v i wr => ∃ (k : Nat) (m : List P5), k ≤ l.length ∧ i = .int .i64 k ∧ Own5 wr w.heap.size v m ∧ sP m = sP (l.take k) ∧ (PtsOf wr m ∧ PtsB wr m) ∧ Below w.heap.size w wr) (fun _ i _ => l.length - (intOf i).toNat)
  case atStart => exact ⟨0, [], Nat.zero_le _, rfl, World.ownsRow_nil _ _ _ _, rfl, ⟨(fun a ha => by cases ha), fun a ha => by cases ha⟩, Below.refl _ _⟩
  case round =>
    obtain ⟨k, m, hk, rfl, hown, hm, ⟨hPm, hBm⟩, hb⟩ := hrel
    have hml : m.length = k := by
      have := congrArg List.length hm
      simp [sP] at this
      omega
    subst hml
    by_cases hlt : m.length < l.length
    · have hlt' : (m.length : Int) < (l.length : Int) := by omega
      obtain ⟨x, hx⟩ : ∃ x, l[m.length]? = some x := ⟨_, List.getElem?_eq_getElem hlt⟩
      have hmem : x ∈ l := List.mem_of_getElem? hx
      have hPx := (hP x hmem).below hb (Nat.le_refl _)
      have OP := OwnPoints_any x.s.pts x.o x.cap wr (hs x hmem) hPx
      obtain ⟨b, off, rfl, c0, c1, c2, c3, c4⟩ := h.below hb (Nat.le_refl _) m.length x hx
      have HX : Hid (l[m.length]? = some x) := hx
      clear hx
      go_upto_region 6 with (go_at_call 15; refine OP.mono ?_; rintro e w1 ⟨v1, rfl, ow1, b1⟩; obtain ⟨o1, cp1, rfl, hP1⟩ := ow1.at_ (fun a ha => hPx.pi ha))
      have d0 := (b1.cell (cell_lt c0)).trans c0
      have d2 := (b1.cell (cell_lt c2)).trans c2
      have d3 := (b1.cell (cell_lt c3)).trans c3
      have d4 := (b1.cell (cell_lt c4)).trans c4
      have hown1 : Own5 w1 w.heap.size _ m := own_below hown b1
      have bw1 := bel_more hb b1
      have hPm1 := hPm.below b1 (Nat.le_refl _)
      have hws := bw1.size
      have hBm1 := hBm.below b1
      have hB1 := OwnP.blk ow1
      have e0 : w1.drew.cell? ⟨b, off + m.length * 5, none⟩ = some (.int .i64 x.nd) := d0
      have e2 : w1.drew.cell? ⟨b, off + m.length * 5 + 2, none⟩ = some (.string x.s.fill) := d2
      have e3 : w1.drew.cell? ⟨b, off + m.length * 5 + 3, none⟩ = some (.string x.s.rule) := d3
      have e4 : w1.drew.cell? ⟨b, off + m.length * 5 + 4, none⟩ = some (.int .i64 x.lv) := d4
      have owd : w1.drew.ownsRow w.heap.size 42 5 u3 m.length (cells5 m) := hown1
      clear c0 c1 c2 c3 c4 d0 d2 d3 d4 OP
      have H0 := World.alloc_heap_new w1.drew (.cells #[.int .i64 x.nd, .slice o1 x.s.pts.length cp1, .string x.s.fill, .string x.s.rule, .int .i64 x.lv] 42)
      go_region_law ((refine step_append_lies _ rfl (.tmp 18) (.tmp 42) 32 rfl w.heap.size 42 i0 (.agg #[.int .i64 0, .slice none 0 0, .string ⟨#[]⟩, .string ⟨#[]⟩, .int .i64 0]) 5 72 Tryd.underlying32 hi hz0 hz1 hz2 rfl (by decide) u3 m.length (cells5 m) rfl (World.ownsRow.alloc owd _) ⟨w1.heap.size, 0, none⟩ 1 1 [.int .i64 x.nd, .slice o1 x.s.pts.length cp1, .string x.s.fill, .string x.s.rule, .int .i64 x.lv] rfl rfl (World.news_of_block H0) (fun u hu => by simp at hu; rcases hu with rfl | rfl | rfl | rfl | rfl <;> rfl) (by decide) (by simp only [maxLen]; omega) (by omega) (by simp; omega) _ rfl ?_; intro g7 cap7 w7 ow7 gr7 hat7 hlt7))
      all_goals
        have hfin : Own5 w7 w.heap.size (.slice (some ⟨g7, 0, none⟩) (m.length + 1) cap7) (m ++ [⟨x.nd, o1, cp1, x.s, x.lv⟩]) := Own5.app (x := ⟨x.nd, o1, cp1, x.s, x.lv⟩) ow7
        have bd : Below w1.heap.size w1 (w1.drew.alloc (.cells #[.int .i64 x.nd, .slice o1 x.s.pts.length cp1, .string x.s.fill, .string x.s.rule, .int .i64 x.lv] 42)) := (Below.refl _ _).drew.alloc (Nat.le_refl _) _
        have hpn : PtsOf w1 (m ++ [⟨x.nd, o1, cp1, x.s, x.lv⟩]) := fun z hz => by
          rcases List.mem_append.1 hz with hz | hz
          · exact hPm1 z hz
          · simp at hz; subst hz; exact hP1
        have hbn : PtsB w1 (m ++ [⟨x.nd, o1, cp1, x.s, x.lv⟩]) := fun z hz => by
          rcases List.mem_append.1 hz with hz | hz
          · exact hBm1 z hz
          · simp at hz; subst hz; exact hB1
        have hpg := pts_grown (hpn.below bd (Nat.le_refl _)) (hbn.below bd) gr7 (own_kind (World.ownsRow.alloc owd _))
        have bg : Below w.heap.size w w7 := (bel_more bw1 bd).grown gr7 (by have := bd.size; omega) (fun r e => (hown.lt r e).1)
        have hsm : sP (m ++ [⟨x.nd, o1, cp1, x.s, x.lv⟩]) = sP (l.take (m.length + 1)) := by
          rw [List.take_add_one, HX.out]
          simp only [sP, List.map_append] at hm ⊢
          rw [hm]
          rfl
        have HF : Hid (Own5 w7 w.heap.size (.slice (some ⟨g7, 0, none⟩) (m.length + 1) cap7) (m ++ [⟨x.nd, o1, cp1, x.s, x.lv⟩]) ∧ sP (m ++ [⟨x.nd, o1, cp1, x.s, x.lv⟩]) = sP (l.take (m.length + 1)) ∧ (PtsOf w7 (m ++ [⟨x.nd, o1, cp1, x.s, x.lv⟩]) ∧ PtsB w7 (m ++ [⟨x.nd, o1, cp1, x.s, x.lv⟩])) ∧ Below w.heap.size w w7) := ⟨hfin, hsm, hpg, bg⟩
        clear hfin bd hpn hbn hpg bg hsm ow7 gr7 hat7 H0 e0 e2 e3 e4 owd
        go_wp2_with fail
        go_roundw
        case rel => exact ⟨m.length + 1, m ++ [⟨x.nd, o1, cp1, x.s, x.lv⟩], by omega, by go_num, HF.out.1, HF.out.2.1, HF.out.2.2.1, HF.out.2.2.2⟩
        case measure => simp [intOf]; omega
    · have hge : m.length = l.length := by omega
      have hge' : ¬ (m.length : Int) < (l.length : Int) := by omega
      have HGE : Hid (m.length = l.length) := hge
      clear hge
      go_wp2_with fail
      go_ret
      rw [HGE.out, List.take_length] at hm
      exact ⟨_, rfl, m, hown, hm, ⟨hPm, hBm⟩, hb⟩
theorem asPieces_any (l : List P5) (o : Option Addr) (cap : Nat) (w : World) (hl : l.length ≤ 1000) (hs : ∀ x ∈ l, x.s.pts.length ≤ 1000) (h : P5sAt w o l) (hP : PtsOf w l) :
    Calls Tryd.prog 7 #[.slice o l.length cap] w fun e W => ∃ v m, e = .returned v ∧ Own5 W w.heap.size v m ∧ sP m = sP l ∧ PtsOf W m ∧ Below w.heap.size w W :=
  (asPieces_both l o cap w hl hs h hP).mono fun _ _ ⟨v, m, h1, h2, h3, h4, h5⟩ => ⟨v, m, h1, h2, h3, h4.1, h5⟩
end Go.Proofs.YtmbdojcljgicaaaDoor

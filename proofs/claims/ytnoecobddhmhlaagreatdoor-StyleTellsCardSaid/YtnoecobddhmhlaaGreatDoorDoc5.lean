/-
  A new document: one node with all below is put in.
-/
import Derived.Test.YtnoecobddhmhlaaGreatDoorDoc4
namespace Go.Proofs.YtnoecobddhmhlaaGreatDoor
open Go.RowKit

theorem own_mono {w : World} {B B' k n : Nat} {e : TypeId} {v : Value} {xs : List Value} (h : w.ownsRow B e k v n xs) (hb : B' ≤ B) : w.ownsRow B' e k v n xs := by
  obtain ⟨h1, h2⟩ := h
  refine ⟨h1, ?_⟩
  rcases h2 with h2 | ⟨g, cap, cur, h3, h4, h5⟩
  · exact .inl h2
  · exact .inr ⟨g, cap, cur, h3, Nat.le_trans hb h4, h5⟩
/-- The kids of one element lie in this block now. -/
def tagK (tg : Tags) (i : Int) (v : Value) : Tags := fun x => if v.ownBlock = some x then some (.kids i) else tg x
theorem KdsAt.at {w : World} {o : Option Addr} {ks : List Nd} {i : Nat} {kid : Nd} (h : KdsAt w o 0 ks) (hx : ks[i]? = some kid) : ∃ b off c0 c1 c2, o = some ⟨b, off, none⟩ ∧ w.cell? ⟨b, off + i * 3, none⟩ = some c0 ∧ w.cell? ⟨b, off + i * 3 + 1, none⟩ = some c1 ∧ w.cell? ⟨b, off + i * 3 + 2, none⟩ = some c2 ∧ NdC w c0 c1 c2 kid := by
  obtain ⟨b, off, c0, c1, c2, h1, h2, h3, h4, h5⟩ := h.get hx
  rw [Nat.zero_add] at h2 h3 h4
  exact ⟨b, off, c0, c1, c2, h1, h2, h3, h4, h5⟩
/-- One more child: what was appended, and stored. -/
theorem DocW.kid {B : Nat} {tg : Tags} {w w7 : World} {DB MB : Nat} {p : Int → Option Nat} {M : Dm} {nx c EB : Nat} {i : Int} {e : Elm} {va vk v7 : Value} {k : Int} {o : Obj} (h : DocW B tg w DB MB p M nx c) (hi : M i = some e) (hp : p i = some EB) (he : ElW B tg w i EB e va vk) (hk : Wf64 k)
    (ow7 : w7.ownsRow B 3 1 v7 (e.kids.length + 1) (intsV e.kids ++ [.int .i64 k])) (gr7 : (w.alloc o).grownBy w7 vk.ownBlock) (loc7 : v7.ownBlock = vk.ownBlock ∨ v7.ownBlock = some (w.alloc o).heap.size) :
    DocW B (tagK tg i v7) (w7.setCell ⟨EB, 3, none⟩ v7) DB MB p (putE M i ⟨e.name, e.ats, e.parent, e.kids ++ [k]⟩) nx c ∧ (∀ x, x < w.heap.size → tagK tg i v7 x = tg x) ∧ (∀ x, x < w.heap.size → x ≠ EB → vk.ownBlock ≠ some x → (w7.setCell ⟨EB, 3, none⟩ v7).heap[x]? = w.heap[x]?) ∧ w.heap.size ≤ (w7.setCell ⟨EB, 3, none⟩ v7).heap.size ∧ (w7.setCell ⟨EB, 3, none⟩ v7).os = w.os ∧ (w7.setCell ⟨EB, 3, none⟩ v7).tape = w.tape ∧ (w7.setCell ⟨EB, 3, none⟩ v7).output = w.output := by
  have hEB := heap_lt he.cells
  have hsz : (w.alloc o).heap.size = w.heap.size + 1 := by simp
  have hz : w.heap.size + 1 ≤ w7.heap.size := by have := gr7.size; rw [← hsz]; exact this
  have hset := (Below.refl EB w7).setCell (p := ⟨EB, 3, none⟩) (Nat.le_refl _) v7
  have neE : vk.ownBlock ≠ some EB := fun e1 => by have h1 := he.ktag EB e1; rw [he.tag] at h1; cases h1
  have ne7 : v7.ownBlock ≠ some EB := fun e1 => by
    rcases loc7 with h1 | h1
    · exact neE (h1.symm.trans e1)
    · rw [h1] at e1; cases e1; omega
  have old : ∀ x, x < w.heap.size → vk.ownBlock ≠ some x → w7.heap[x]? = w.heap[x]? := fun x hx hne => by
    have h1 := gr7.block x (by show x < (w.alloc o).heap.size; omega) (fun e1 => hne e1.symm)
    exact h1.trans ((mal w o).block x hx)
  have tk : ∀ x, x < w.heap.size → tagK tg i v7 x = tg x := fun x hx => by
    unfold tagK
    split
    · rename_i h1
      rcases loc7 with h2 | h2
      · exact (he.ktag x (h2.symm.trans h1)).symm
      · rw [h2] at h1; cases h1; omega
    · rfl
  have blk : ∀ x, x < w.heap.size → x ≠ EB → vk.ownBlock ≠ some x → (w7.setCell ⟨EB, 3, none⟩ v7).heap[x]? = w.heap[x]? := fun x hx h1 h2 => (Below.heap_setCell _ _ _ x h1).trans (old x hx h2)
  have hz8 : w.heap.size ≤ (w7.setCell ⟨EB, 3, none⟩ v7).heap.size := by have := hset.size; omega
  refine ⟨h.put hi hp (va := va) (vk := v7) ⟨?_, ?_, ?_, ?_, ?_, ?_⟩ hz8 ⟨(h.wf i e hi).1, fun j hj => ?_⟩ tk ?_ ?_ ?_, tk, blk, hz8, hset.os.trans gr7.os, hset.tape.trans gr7.tape, hset.output.trans gr7.output⟩
  · have h1 := (old EB hEB neE).trans he.cells
    rw [heap_setCell_same w7 EB 3 _ _ _ h1]
    rfl
  · rw [tk EB hEB]; exact he.tag
  · exact own_same he.ats fun g hg => blk g (he.ats.lt g hg).2 (fun e1 => by have h1 := he.atag g hg; rw [e1, he.tag] at h1; cases h1) (fun e1 => by have h1 := he.atag g hg; rw [he.ktag g e1] at h1; cases h1)
  · intro g hg
    rw [tk g (he.ats.lt g hg).2]; exact he.atag g hg
  · have := own_same (w' := w7.setCell ⟨EB, 3, none⟩ v7) ow7 fun g hg => Below.heap_setCell _ _ _ g (fun e1 => ne7 (by rw [hg, e1]))
    rw [intsV_app, List.length_append]
    exact this
  · intro g hg
    unfold tagK
    rw [if_pos hg]
  · rcases List.mem_append.1 hj with hj | hj
    · exact (h.wf i e hi).2 j hj
    · rw [List.mem_singleton.1 hj]; exact hk
  · intro x t ht
    unfold tagK at ht
    split at ht
    · rename_i h1
      have h2 := ow7.lt x h1
      have := hset.size
      omega
    · have := h.low x t ht
      omega
  · intro x hx
    unfold tagK
    split
    · exact .inr (.inr (.inr rfl))
    · exact .inl (h.new hx)
  · intro x t ht h1 h2 h3
    exact blk x (h.low x t ht).2 (fun e1 => by rw [e1, he.tag] at ht; cases ht; exact h1 rfl) (fun e1 => by rw [he.ktag x e1] at ht; cases ht; exact h3 rfl)

theorem kdN_len : ∀ (l : List Nd) (k : Nat), (kdN k l).length = l.length
  | [], _ => rfl
  | n :: l, k => by rw [kdN, List.length_cons, List.length_cons, kdN_len l]
theorem szL_len : ∀ l : List Nd, l.length ≤ szL l
  | [] => Nat.le_refl _
  | n :: l => by have h1 := szL_len l; have h2 := szN_pos n; rw [szL, List.length_cons]; omega
theorem K2.of_drew {r n k : Nat} {A B : World} (h : K2 r n (A.drewN k) B) : K2 r n A B := ⟨h.os, h.tape, h.output, h.size, h.block⟩
theorem kid_block {B : Nat} {tg : Tags} {wr U1 w4 w7 : World} {DB MB EB : Nat} {i : Int} {e : Elm} {va vk : Value} {o : Obj} (he : ElW B tg wr i EB e va vk) (bU : Below wr.heap.size wr U1) (k4 : K2 DB MB U1 w4) (hd : EB ≠ DB ∧ EB ≠ MB) (gr7 : (w4.alloc o).grownBy w7 vk.ownBlock) : w7.heap[EB]? = some (.cells #[.string ⟨e.name.toArray⟩, va, .int .i64 e.parent, vk] 107) := by
  have h1 := heap_lt he.cells
  have h2 := bU.size
  have h3 := k4.size
  have h4 : (w4.alloc o).heap.size = w4.heap.size + 1 := by simp
  have h5 := gr7.block EB (by show EB < (w4.alloc o).heap.size; omega) (fun e1 => by have h6 := he.ktag EB e1.symm; rw [he.tag] at h6; cases h6)
  exact h5.trans (((mal w4 o).block EB (by omega)).trans ((k4.block EB (by omega) hd.1 hd.2).trans ((bU.block EB h1).trans he.cells)))
theorem set_far {w : World} {b b' i j : Nat} {u v : Value} (h : w.cell? ⟨b', j, none⟩ = some u) (hne : b' ≠ b) : (w.setCell ⟨b, i, none⟩ v).cell? ⟨b', j, none⟩ = some u := by
  rw [World.cell?_of_block (Below.heap_setCell _ _ _ b' hne)]; exact h
/-- What putting a node in does, with all below. -/
def PutOk (W0 : World) (PD PP DB MB : Nat) (n : Nd) : Prop := ∀ (c0 c1 c2 : Value) (parent : Int) (tg : Tags) (W : World) (p : Int → Option Nat) (M : Dm) (nx c : Nat), NdC W0 c0 c1 c2 n → lowN n → Below W0.heap.size W0 W → W.cell? ⟨PD, 0, none⟩ = some (.pointer (some ⟨DB, 0, none⟩)) → W.cell? ⟨PP, 0, none⟩ = some (.func (.func 49) #[] #[.pointer (some ⟨PD, 0, none⟩), .pointer (some ⟨PP, 0, none⟩)]) →
  DocW W0.heap.size tg W DB MB p M nx c → tg PD = none → tg PP = none → Wf64 parent → nx + szN n ≤ 1000000 →
  Calls Tryz.prog 49 #[.agg #[c0, c1, c2], .int .i64 parent, .pointer (some ⟨PD, 0, none⟩), .pointer (some ⟨PP, 0, none⟩)] W fun e w' => e = .returned (.int .i64 nx) ∧ K2 DB MB W w' ∧ ∃ tg' p', (∀ x, x < W.heap.size → tg' x = tg x) ∧ (∀ i, i < (nx : Int) → p' i = p i) ∧ DocW W0.heap.size tg' w' DB MB p' (extE M nx (elN nx parent n)) (nx + szN n) (c + szN n)
/-- While its children are put in. -/
def PutR (W0 W : World) (tg : Tags) (p : Int → Option Nat) (M : Dm) (DB MB N EB nx c : Nat) (cs : Array Value) (nm : Bs) (ats : List (Bs × Bs)) (parent : Int) (ks : List Nd) (wr : World) : Prop :=
  ∃ tg1 p1, K2 DB MB W wr ∧ wr.heap[N]? = some (.cells cs 25) ∧ tg1 N = none ∧ (∀ x, x < W.heap.size → tg1 x = tg x) ∧ (∀ j, j < (nx : Int) → p1 j = p j) ∧ p1 nx = some EB ∧ DocW W0.heap.size tg1 wr DB MB p1 (extE M nx (⟨nm, ats, parent, kdN (nx + 1) ks⟩ :: elL (nx + 1) nx ks)) (nx + 1 + szL ks) (c + 1 + szL ks)

theorem put_step {W0 W wr U1 w4 w7 : World} {tg tg1 tg2 : Tags} {p p1 p2 : Int → Option Nat} {M : Dm} {DB MB N EB nx c : Nat} {cs : Array Value} {nm : Bs} {ats : List (Bs × Bs)} {parent : Int} {ks : List Nd} {kid : Nd} {i : Nat} {va vk v7 : Value} {o : Obj}
    (hx : ks[i]? = some kid) (k1 : K2 DB MB W wr) (hN : wr.heap[N]? = some (.cells cs 25)) (tN : tg1 N = none) (ht1 : ∀ x, x < W.heap.size → tg1 x = tg x) (hp1 : ∀ j, j < (nx : Int) → p1 j = p j) (hpE : p1 nx = some EB)
    (hd1 : DocW W0.heap.size tg1 wr DB MB p1 (extE M nx (⟨nm, ats, parent, kdN (nx + 1) (ks.take i)⟩ :: elL (nx + 1) nx (ks.take i))) (nx + 1 + szL (ks.take i)) (c + 1 + szL (ks.take i))) (he : ElW W0.heap.size tg1 wr nx EB ⟨nm, ats, parent, kdN (nx + 1) (ks.take i)⟩ va vk)
    (bU : Below wr.heap.size wr U1) (k4 : K2 DB MB U1 w4) (ht2 : ∀ x, x < U1.heap.size → tg2 x = tg1 x) (hp2 : ∀ j, j < ((nx + 1 + szL (ks.take i) : Nat) : Int) → p2 j = p1 j) (hd0 : DocW W0.heap.size tg W DB MB p M nx c)
    (hd2 : DocW W0.heap.size tg2 w4 DB MB p2 (extE (extE M nx (⟨nm, ats, parent, kdN (nx + 1) (ks.take i)⟩ :: elL (nx + 1) nx (ks.take i))) (nx + 1 + szL (ks.take i)) (elN (nx + 1 + szL (ks.take i)) nx kid)) (nx + 1 + szL (ks.take i) + szN kid) (c + 1 + szL (ks.take i) + szN kid))
    (ow7 : w7.ownsRow W0.heap.size 3 1 v7 ((kdN (nx + 1) (ks.take i)).length + 1) (intsV (kdN (nx + 1) (ks.take i)) ++ [.int .i64 ((nx + 1 + szL (ks.take i) : Nat) : Int)])) (gr7 : (w4.alloc o).grownBy w7 vk.ownBlock) (loc7 : v7.ownBlock = vk.ownBlock ∨ v7.ownBlock = some (w4.alloc o).heap.size) :
    PutR W0 W tg p M DB MB N EB nx c cs nm ats parent (ks.take (i + 1)) (w7.setCell ⟨EB, 3, none⟩ v7) := by
  have hs1 := bU.size
  have hEBw := heap_lt he.cells
  have hnew : W.heap.size ≤ EB := by
    rcases Nat.lt_or_ge EB W.heap.size with h | h
    · have h1 := he.tag
      rw [ht1 EB h] at h1
      have := hd0.tnx EB nx (.inl h1)
      omega
    · exact h
  have hknew : ∀ g, vk.ownBlock = some g → W.heap.size ≤ g := fun g hg => by
    rcases Nat.lt_or_ge g W.heap.size with h | h
    · have h1 := he.ktag g hg
      rw [ht1 g h] at h1
      have := hd0.tnx g nx (.inr (.inr h1))
      omega
    · exact h
  have ne : ∀ x t, tg1 x = some t → t ≠ .doc → t ≠ .map → x ≠ DB ∧ x ≠ MB := fun x t hxt h1 h2 => ⟨fun e => h1 (Option.some.inj (hxt.symm.trans (e ▸ hd1.dtag))), fun e => h2 (Option.some.inj (hxt.symm.trans (e ▸ hd1.mtag)))⟩
  have same4 : ∀ x, x < wr.heap.size → x ≠ DB → x ≠ MB → w4.heap[x]? = wr.heap[x]? := fun x h h1 h2 => (k4.block x (by omega) h1 h2).trans (bU.block x h)
  have he2 : ElW W0.heap.size tg2 w4 nx EB ⟨nm, ats, parent, kdN (nx + 1) (ks.take i)⟩ va vk := he.turn fun g t ht hk => by
    have hg := (hd1.low g t ht).2
    have hn := ne g t ht (by rcases hk with rfl | rfl | rfl <;> simp) (by rcases hk with rfl | rfl | rfl <;> simp)
    exact ⟨(ht2 g (by omega)).trans ht, same4 g hg hn.1 hn.2⟩
  have hM : extE (extE M nx (⟨nm, ats, parent, kdN (nx + 1) (ks.take i)⟩ :: elL (nx + 1) nx (ks.take i))) (nx + 1 + szL (ks.take i)) (elN (nx + 1 + szL (ks.take i)) nx kid) = extE M nx (⟨nm, ats, parent, kdN (nx + 1) (ks.take i)⟩ :: (elL (nx + 1) nx (ks.take i) ++ elN (nx + 1 + szL (ks.take i)) nx kid)) := by
    have h1 := extE_app M nx (⟨nm, ats, parent, kdN (nx + 1) (ks.take i)⟩ :: elL (nx + 1) nx (ks.take i)) (elN (nx + 1 + szL (ks.take i)) nx kid)
    rw [List.length_cons, elL_len, show nx + (szL (ks.take i) + 1) = nx + 1 + szL (ks.take i) from by omega] at h1
    rw [h1, List.cons_append]
  rw [hM] at hd2
  have hpE2 : p2 nx = some EB := (hp2 nx (by omega)).trans hpE
  obtain ⟨r1, r2, r3, r4, r5, r6, r7⟩ := hd2.kid (k := ((nx + 1 + szL (ks.take i) : Nat) : Int)) (extE_at M nx _ _) hpE2 he2 (WalkArith.wf_i64 (by have := hd2.few; omega)) ow7 gr7 loc7
  rw [extE_head] at r1
  have hN4 : N < wr.heap.size := heap_lt hN
  have nN := ne
  have hNd : N ≠ DB ∧ N ≠ MB := ⟨fun e => (by rw [e, hd1.dtag] at tN; exact absurd tN (by simp)), fun e => (by rw [e, hd1.mtag] at tN; exact absurd tN (by simp))⟩
  have hNE : N ≠ EB := fun e => by rw [e, he.tag] at tN; cases tN
  have hNk : vk.ownBlock ≠ some N := fun e => by rw [he.ktag N e] at tN; cases tN
  have s4 := k4.size
  refine ⟨tagK tg2 nx v7, p2, ?_, ?_, ?_, fun x h => ?_, fun j hj => ?_, hpE2, ?_⟩
  · have s1 := k1.size
    refine ⟨r5.trans (k4.os.trans (bU.os.trans k1.os)), r6.trans (k4.tape.trans (bU.tape.trans k1.tape)), r7.trans (k4.output.trans (bU.output.trans k1.output)), by omega, fun x h h1 h2 => ?_⟩
    exact (r3 x (by omega) (by omega) (fun e => by have := hknew x e; omega)).trans ((same4 x (by omega) h1 h2).trans (k1.block x h h1 h2))
  · exact (r3 N (by omega) hNE hNk).trans ((same4 N hN4 hNd.1 hNd.2).trans hN)
  · rw [r2 N (by omega), ht2 N (by omega)]; exact tN
  · have := k1.size
    rw [r2 x (by omega), ht2 x (by omega)]; exact ht1 x h
  · rw [hp2 j (by omega)]; exact hp1 j hj
  · rw [take_snoc hx, kdN_snoc, elL_snoc, szL_app, szL, szL]
    have e1 : nx + 1 + (szL (ks.take i) + (szN kid + 0)) = nx + 1 + szL (ks.take i) + szN kid := by omega
    have e2 : c + 1 + (szL (ks.take i) + (szN kid + 0)) = c + 1 + szL (ks.take i) + szN kid := by omega
    rw [e1, e2]
    exact r1

theorem DocW.tell {B : Nat} {tg : Tags} {w : World} {DB MB : Nat} {p : Int → Option Nat} {M : Dm} {nx c EB : Nat} {i : Int} {e : Elm} (h : DocW B tg w DB MB p M nx c) (hi : M i = some e) (hp : p i = some EB) : ∃ va o k, ElW B tg w i EB e va (.slice o e.kids.length k) := by
  obtain ⟨b, va, vk, h1, h2⟩ := h.els i e hi
  obtain rfl : EB = b := Option.some.inj (hp.symm.trans h1)
  obtain ⟨o, cap, rfl⟩ := own_slice h2.kids
  exact ⟨va, o, cap, h2⟩
set_option maxRecDepth 20000 in
set_option maxHeartbeats 8000000 in
theorem put_any (W0 : World) (PD PP DB MB : Nat) : ∀ n, PutOk W0 PD PP DB MB n := by
  refine Nd.ind fun nm ats ks ih => ?_
  intro c0 c1 c2 parent tg W p M nx c hn hlow hb cD cP hd tD tP hwp hnx
  have hn' := hn
  unfold NdC at hn'
  obtain ⟨rfl, hl, hats, ok, capk, rfl, hkc, hkm, hk0, hks⟩ := hn'
  have hats' := hats
  obtain ⟨o1, cap1, rfl, -⟩ := hats'
  unfold lowN at hlow
  obtain ⟨hla, hlk⟩ := hlow
  unfold strV at *
  have A0 : NB W.heap.size (.string ⟨nm.toArray⟩) (.slice o1 ats.length cap1) (.slice ok ks.length capk) (W.alloc (.cells #[.string ⟨nm.toArray⟩, .slice o1 ats.length cap1, .slice ok ks.length capk] 25)) := mbox W #[.string ⟨nm.toArray⟩, .slice o1 ats.length cap1, .slice ok ks.length capk] 25
  have b0 := mal W (.cells #[.string ⟨nm.toArray⟩, .slice o1 ats.length cap1, .slice ok ks.length capk] 25)
  have HKS : Hid (KdsAt W0 ok 0 ks) := hks
  have IH : Hid (∀ k ∈ ks, PutOk W0 PD PP DB MB k) := ih
  have HD : Hid (DocW W0.heap.size tg W DB MB p M nx c) := hd
  have HLK : Hid (lowL ks) := hlk
  have hqD : PD ≠ DB ∧ PD ≠ MB := ⟨fun e => (by rw [e, hd.dtag] at tD; exact absurd tD (by simp)), fun e => (by rw [e, hd.mtag] at tD; exact absurd tD (by simp))⟩
  have hqP : PP ≠ DB ∧ PP ≠ MB := ⟨fun e => (by rw [e, hd.dtag] at tP; exact absurd tP (by simp)), fun e => (by rw [e, hd.mtag] at tP; exact absurd tP (by simp))⟩
  have lD := hd.low _ _ hd.dtag
  have lM := hd.low _ _ hd.mtag
  have lPD := cell_lt3 cD
  have lPP := cell_lt3 cP
  simp only at lPD lPP
  clear hks ih hd hlk hn
  have hsz : szN (.mk nm ats ks) = szL ks + 1 := by rw [szN]
  rw [hsz] at hnx
  go_enter Tryz.func49, Tryz.ntmps49
  go_upto_region 1 with fail
  obtain ⟨V, hV⟩ : ∃ V, W.alloc (.cells #[.string ⟨nm.toArray⟩, .slice o1 ats.length cap1, .slice ok ks.length capk] 25) = V := ⟨_, rfl⟩
  have sV : V.heap.size = W.heap.size + 1 := by rw [← hV]; simp
  obtain ⟨N, hN⟩ : ∃ N, W.heap.size = N := ⟨_, rfl⟩
  rw [hV] at A0 b0 ⊢
  rw [hN] at A0 ⊢
  have HN : Hid (W.heap.size = N) := hN
  have HV : Hid (V.heap.size = N + 1) := (by rw [sV, hN] : V.heap.size = N + 1)
  clear hV hN sV
  have x0 := A0.c0
  have x1 := A0.c1
  have bV := hb.trans (b0.mono hb.size)
  have CL := fun V' (hv : Below V.heap.size V V') => CloneA V' _ ats (hats.below (bV.trans (hv.mono bV.size))) (by omega)
  go_region_held3 (fun w' => w'.cell? ⟨N, 0, none⟩ = some (.string ⟨nm.toArray⟩) ∧ w'.cell? ⟨N, 1, none⟩ = some (.slice o1 ats.length cap1)) (refine ⟨?_, ?_⟩ <;> first | assumption | exact mcell_al _ (by assumption)) (first | (go_at_call 50; refine (CL _ (mdrew 1 (Below.refl _ _))).mono ?_; rintro e w2 ⟨o2, n2, k2, rfl, ow2, b2⟩; have x0 := (b2.cell (cell_lt3 x0)).trans x0; have x1 := (b2.cell (cell_lt3 x1)).trans x1))
  have b2' : Below V.heap.size V w2 := ⟨b2.os, b2.tape, b2.output, b2.size, b2.block⟩
  have ow2' : w2.ownsRow V.heap.size 59 2 (.slice o2 n2 k2) ats.length (cellsA ats) := ow2
  have E0 := mbox w2 #[.string ⟨nm.toArray⟩, .slice o2 n2 k2, .int .i64 parent, .slice none 0 0] 107
  have bE := mal w2 (.cells #[.string ⟨nm.toArray⟩, .slice o2 n2 k2, .int .i64 parent, .slice none 0 0] 107)
  have ow3 := World.ownsRow.alloc ow2' (.cells #[.string ⟨nm.toArray⟩, .slice o2 n2 k2, .int .i64 parent, .slice none 0 0] 107)
  have lt2 := ow2'.lt
  obtain ⟨U, hU⟩ : ∃ U, w2.alloc (.cells #[.string ⟨nm.toArray⟩, .slice o2 n2 k2, .int .i64 parent, .slice none 0 0] 107) = U := ⟨_, rfl⟩
  obtain ⟨EB, hEB⟩ : ∃ EB, w2.heap.size = EB := ⟨_, rfl⟩
  rw [hU] at E0 bE ow3 ⊢
  rw [hEB] at E0 ⊢
  have hVE : V.heap.size ≤ EB := by rw [← hEB]; exact b2'.size
  have HB2 : Hid (∀ g, (Value.slice o2 n2 k2).ownBlock = some g → V.heap.size ≤ g ∧ g < EB) := (fun g hg => by rw [← hEB]; exact lt2 g hg : ∀ g, (Value.slice o2 n2 k2).ownBlock = some g → V.heap.size ≤ g ∧ g < EB)
  clear hU hEB x0 x1 CL b2 ow2 ow2' lt2
  have bU : Below V.heap.size V U := mbel b2' bE
  clear b2' bE
  have bWU : Below W.heap.size W U := mbel b0 bU
  have HDU : Hid (DocW W0.heap.size tg U DB MB p M nx c) := HD.out.below bWU
  have hNE : N + 1 ≤ EB := by have := HV.out; omega
  have NE : NewE W0.heap.size tg U EB ⟨nm, ats, parent, []⟩ (.slice o2 n2 k2) (.slice none 0 0) := ⟨E0, by have := HN.out; have := hb.size; omega, HD.out.new (by have := HN.out; omega), own_mono ow3 (Nat.le_trans hb.size b0.size), fun g hg => by
      have := HB2.out g hg
      have h2 := HN.out
      have h3 := HV.out
      exact ⟨HD.out.new (by omega), by omega⟩, World.ownsRow_nil _ _ _ _, fun g hg => by cases hg⟩
  have KE := keep_doc W0.heap.size tg U DB MB p M nx c EB ⟨nm, ats, parent, []⟩ (.slice o2 n2 k2) (.slice none 0 0) HDU.out NE ⟨hwp, by simp⟩ (by omega)
  have AU := (bU.block N (heap_lt A0)).trans A0
  have cDU := (bWU.cell (cell_lt3 cD)).trans cD
  have cPU := (bWU.cell (cell_lt3 cP)).trans cP
  have hND : N ≠ DB ∧ N ≠ MB := by have := HN.out; omega
  go_upto_region 3 with (go_at_call 51; refine KE.mono ?_; rintro e w3 ⟨rfl, k3, d3⟩)
  have A3 := (k3.block N (heap_lt AU) hND.1 hND.2).trans AU
  have y2 := NB.c2 A3
  have hkm' : (ks.length : Int) ≤ 9223372036854775807 := by rw [maxLen_eq] at hkm; omega
  have K3 : K2 DB MB W w3 := (K2.of_below bWU).trans k3
  have R0 : PutR W0 W tg p M DB MB N EB nx c #[.string ⟨nm.toArray⟩, .slice o1 ats.length cap1, .slice ok ks.length capk] nm ats parent (ks.take 0) w3 := by
    refine ⟨tagE tg nx EB (.slice o2 n2 k2) (.slice none 0 0), fun i => if i = (nx : Int) then some EB else p i, K3, A3, ?_, fun x hx => ?_, fun j hj => ?_, ?_, ?_⟩
    rotate_left 4
    · rw [List.take_zero, kdN, elL, extE_one]
      exact d3
    · have h2 := HN.out
      rw [tagE_none (by omega) (fun e => by have := HB2.out N e; have := HV.out; omega) (by simp [Value.ownBlock])]
      exact HD.out.new (by omega)
    · have h2 := HN.out
      exact tagE_none (by omega) (fun e => by have := HB2.out x e; have := HV.out; omega) (by simp [Value.ownBlock])
    · simp only [if_neg (show ¬ j = (nx : Int) by omega)]
    · simp
  have HR0 : Hid (PutR W0 W tg p M DB MB N EB nx c #[.string ⟨nm.toArray⟩, .slice o1 ats.length cap1, .slice ok ks.length capk] nm ats parent (ks.take 0) w3) := R0
  clear R0 d3 KE NE k3 cDU cPU
  go_wp2_with fail
  go_loopw [25] (fun y wr => ∃ i : Nat, i ≤ ks.length ∧ y = .int .i64 i ∧ PutR W0 W tg p M DB MB N EB nx c #[.string ⟨nm.toArray⟩, .slice o1 ats.length cap1, .slice ok ks.length capk] nm ats parent (ks.take i) wr) (fun y _ => ks.length - (intOf y).toNat)
  case atStart => exact ⟨0, Nat.zero_le _, rfl, HR0.out⟩
  case round =>
    obtain ⟨i, hi, rfl, tg1, p1, k1, hN1, tN1, ht1, hp1, hpE, hd1⟩ := hrel
    by_cases hlt : i < ks.length
    · have hlt' : (i : Int) < (ks.length : Int) := by omega
      obtain ⟨kid, hx, -⟩ := drop_at hlt
      obtain ⟨b', off', d0, d1, d2, rfl, e0, e1, e2, hkid⟩ := HKS.out.at hx
      have hmem : kid ∈ ks := List.mem_of_getElem? hx
      have HI := IH.out kid hmem
      have hlkid := lowL_mem HLK.out hmem
      have hkid' := hkid
      obtain ⟨nm', ats', ks'⟩ := kid
      unfold NdC at hkid'
      obtain ⟨rfl, -, ⟨o', cap', rfl, -⟩, ok', capk', rfl, -⟩ := hkid'
      have bR : Below W0.heap.size W0 wr := hb.trans (k1.below lD.1 lM.1 hb.size)
      have f0 := (bR.cell (cell_lt3 e0)).trans e0
      have f1 := (bR.cell (cell_lt3 e1)).trans e1
      have f2 := (bR.cell (cell_lt3 e2)).trans e2
      unfold strV at f0 f1 f2 hkid
      clear e0 e1 e2 hmem
      have hsl := szL_take_le ks (i + 1)
      rw [take_snoc hx, szL_app, szL, szL] at hsl
      generalize hKID : Nd.mk nm' ats' ks' = kid at hx HI hlkid hkid hsl
      obtain ⟨KL, hKL⟩ : ∃ KL, kdN (nx + 1) (ks.take i) = KL := ⟨_, rfl⟩
      have hKLl : KL.length ≤ 1000000 := by
        rw [← hKL, kdN_len]
        have := szL_len (ks.take i)
        omega
      obtain ⟨NX, hNX⟩ : ∃ NX, nx + 1 + szL (ks.take i) = NX := ⟨_, rfl⟩
      rw [hNX] at hd1
      have hd1' := hd1
      rw [hKL] at hd1'
      obtain ⟨va, ov, kv, he⟩ := hd1'.tell (extE_at M nx _ _) hpE
      simp only at he
      have c3 := he.c3
      have cD1 := k1.cell cD hqD.1 hqD.2
      have cP1 := k1.cell cP hqP.1 hqP.2
      have s1 := k1.size
      have hEd : EB ≠ DB ∧ EB ≠ MB := by have := HN.out; omega
      have hEP : PP ≠ EB := by have := HN.out; omega
      have bU := mal wr (.cells #[.string ⟨nm'.toArray⟩, .slice o' ats'.length cap', .slice ok' ks'.length capk'] 25)
      have u0 := mnew wr #[.string ⟨nm'.toArray⟩, .slice o' ats'.length cap', .slice ok' ks'.length capk'] 25 0 (.string ⟨nm'.toArray⟩) rfl
      have u1 := mnew wr #[.string ⟨nm'.toArray⟩, .slice o' ats'.length cap', .slice ok' ks'.length capk'] 25 1 (.slice o' ats'.length cap') rfl
      have u2 := mnew wr #[.string ⟨nm'.toArray⟩, .slice o' ats'.length cap', .slice ok' ks'.length capk'] 25 2 (.slice ok' ks'.length capk') rfl
      have cPU := mcell_al (.cells #[.string ⟨nm'.toArray⟩, .slice o' ats'.length cap', .slice ok' ks'.length capk'] 25) cP1
      have cDU := mcell_al (.cells #[.string ⟨nm'.toArray⟩, .slice o' ats'.length cap', .slice ok' ks'.length capk'] 25) cD1
      have c3U := mcell_al (.cells #[.string ⟨nm'.toArray⟩, .slice o' ats'.length cap', .slice ok' ks'.length capk'] 25) c3
      have hEBw := heap_lt he.cells
      have hKBE : wr.heap.size ≠ EB := by omega
      have hKBd : wr.heap.size ≠ DB ∧ wr.heap.size ≠ MB := by omega
      have HC := fun V' (hv : Below (wr.alloc (.cells #[.string ⟨nm'.toArray⟩, .slice o' ats'.length cap', .slice ok' ks'.length capk'] 25)).heap.size (wr.alloc (.cells #[.string ⟨nm'.toArray⟩, .slice o' ats'.length cap', .slice ok' ks'.length capk'] 25)) V') => HI _ _ _ nx tg1 V' p1 _ NX (c + 1 + szL (ks.take i)) hkid hlkid (bR.trans ((mbel bU hv).mono bR.size)) ((hv.cell (cell_lt3 cDU)).trans cDU) ((hv.cell (cell_lt3 cPU)).trans cPU) (hd1.below (mbel bU hv)) ((ht1 PD lPD).trans tD) ((ht1 PP lPP).trans tP) (WalkArith.wf_i64 (by omega)) (by omega)
      have HST : Hid (K2 DB MB W wr ∧ tg1 N = none ∧ (∀ x, x < W.heap.size → tg1 x = tg x) ∧ (∀ j, j < (nx : Int) → p1 j = p j) ∧ p1 nx = some EB ∧ ks[i]? = some kid ∧ nx + 1 + szL (ks.take i) = NX ∧ kdN (nx + 1) (ks.take i) = KL) := ⟨k1, tN1, ht1, hp1, hpE, hx, hNX, hKL⟩
      have HD1 : Hid (DocW W0.heap.size tg1 wr DB MB p1 (extE M nx (⟨nm, ats, parent, kdN (nx + 1) (ks.take i)⟩ :: elL (nx + 1) nx (ks.take i))) NX (c + 1 + szL (ks.take i))) := hd1
      have HEL : Hid (ElW W0.heap.size tg1 wr nx EB ⟨nm, ats, parent, KL⟩ va (.slice ov KL.length kv)) := he
      have HOW : ∀ w4, K2 DB MB (wr.alloc (.cells #[.string ⟨nm'.toArray⟩, .slice o' ats'.length cap', .slice ok' ks'.length capk'] 25)) w4 → w4.ownsRow W0.heap.size 3 1 (.slice ov KL.length kv) KL.length (intsV KL) := fun w4 k4 => own_same he.kids fun g hg => by
        have h1 := he.ktag g hg
        have h2 := (he.kids.lt g hg).2
        exact (k4.block g (by have := bU.size; omega) (fun e => by rw [e, hd1.dtag] at h1; cases h1) (fun e => by rw [e, hd1.mtag] at h1; cases h1)).trans (bU.block g h2)
      clear hd1 hd1' he k1 tN1 ht1 hp1 hpE hx hNX hKL HI hkid hlkid c3 cP1 cD1 cDU
      obtain ⟨i0, hi0, hz0, hz1, hz2⟩ := info_parts intInfo
      go_upto_region 6 with fail
      obtain ⟨U1, hU1⟩ : ∃ U, wr.alloc (.cells #[.string ⟨nm'.toArray⟩, .slice o' ats'.length cap', .slice ok' ks'.length capk'] 25) = U := ⟨_, rfl⟩
      obtain ⟨KB, hKB⟩ : ∃ KB, wr.heap.size = KB := ⟨_, rfl⟩
      rw [hU1] at bU u0 u1 u2 cPU c3U HC HOW ⊢
      rw [hKB] at u0 u1 u2 hKBE hKBd ⊢
      have hBU : W0.heap.size ≤ U1.heap.size := by have := bU.size; have := bR.size; omega
      clear hU1
      go_region_law (first | (refine step_append_lies _ rfl (.tmp 33) (.tmp 38) 60 rfl W0.heap.size 3 i0 (.int .i64 0) 1 8 Tryz.underlying60 hi0 hz0 hz1 hz2 rfl (by decide) (.slice ov KL.length kv) KL.length (intsV KL) rfl (World.ownsRow.alloc ow4 _) ⟨w4.heap.size, 0, none⟩ 1 1 [.int .i64 NX] rfl rfl (World.news_of_block H04) (fun u hu => by simp at hu; rcases hu with rfl; rfl) (by decide) (by rw [maxLen_eq]; omega) (by omega) (by simp; omega) _ rfl ?_; intro g7 cap7 w7 ow7 gr7 hat7 hlt7; have e7 := E7 gr7; have e0 := bcell e7 3 _ rfl; have ef := froz_at e7) | (go_simp; go_wp2_with (first | (go_at_call 49; refine (HC _ (mdrew 1 (Below.refl _ _))).mono ?_; rintro e w4 ⟨rfl, k4, tg2, p2, ht2, hp2, hd2⟩; have c34 := K2.cell k4 (by exact c3U) hEd.1 hEd.2; have c34' := fun o => mcell_al o c34; have ow4 := HOW _ (by exact K2.of_drew k4); have H04 := mbox w4 #[.int .i64 NX] 3; have l4 : W0.heap.size ≤ w4.heap.size := (Nat.le_trans hBU k4.size); have E7 := fun {o : Obj} {w7 : World} => kid_block (o := o) (w7 := w7) HEL.out bU (K2.of_drew k4) hEd))))
      all_goals (
        have FIN : PutR W0 W tg p M DB MB N EB nx c #[.string ⟨nm.toArray⟩, .slice o1 ats.length cap1, .slice (some ⟨b', off', none⟩) ks.length capk] nm ats parent (ks.take (i + 1)) (w7.setCell ⟨EB, 3, none⟩ (.slice (some ⟨g7, 0, none⟩) (KL.length + 1) cap7)) := by
          obtain ⟨k1, tN1, ht1, hp1, hpE, hx, hNX, hKL⟩ := HST.out
          have hd1 := HD1.out
          have he := HEL.out
          clear HC HOW
          subst hNX
          subst hKL
          exact put_step hx k1 hN1 tN1 ht1 hp1 hpE hd1 he bU (K2.of_drew k4) ht2 hp2 HD.out hd2 ow7 gr7 (hat7.imp (fun h => by rw [h]; rfl) (fun h => by rw [h]; rfl))
        have HFIN : Hid (PutR W0 W tg p M DB MB N EB nx c #[.string ⟨nm.toArray⟩, .slice o1 ats.length cap1, .slice (some ⟨b', off', none⟩) ks.length capk] nm ats parent (ks.take (i + 1)) (w7.setCell ⟨EB, 3, none⟩ (.slice (some ⟨g7, 0, none⟩) (KL.length + 1) cap7))) := FIN
        clear FIN ow7 gr7 hd2 ht2 hp2 k4 HC HOW
        go_wp2_with fail
        go_roundw
        case rel => exact ⟨i + 1, by omega, by go_num, HFIN.out⟩
        case measure => simp [intOf]; omega)
    · obtain rfl : i = ks.length := by omega
      have hge : ¬ (ks.length : Int) < (ks.length : Int) := by omega
      rw [List.take_length] at hd1
      have HD1 : Hid (DocW W0.heap.size tg1 wr DB MB p1 (extE M nx (elN nx parent (.mk nm ats ks))) (nx + szN (.mk nm ats ks)) (c + szN (.mk nm ats ks))) := (by
        rw [elN, hsz, show nx + (szL ks + 1) = nx + 1 + szL ks from by omega, show c + (szL ks + 1) = c + 1 + szL ks from by omega]
        exact hd1 : DocW W0.heap.size tg1 wr DB MB p1 (extE M nx (elN nx parent (.mk nm ats ks))) (nx + szN (.mk nm ats ks)) (c + szN (.mk nm ats ks)))
      clear hd1
      go_wp2_with fail
      go_ret
      exact ⟨rfl, k1, tg1, ht1, p1, hp1, HD1.out⟩

end Go.Proofs.YtnoecobddhmhlaaGreatDoor

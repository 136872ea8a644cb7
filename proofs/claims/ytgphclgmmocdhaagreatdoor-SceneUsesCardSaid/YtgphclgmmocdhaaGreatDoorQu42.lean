/-
  Parts of the proof.
-/
import Derived.Test.YtgphclgmmocdhaaGreatDoorCards
import Derived.Test.YtgphclgmmocdhaaGreatDoorTie
import Derived.Test.YtgphclgmmocdhaaGreatDoorQu15
import Derived.Lib.SmallJoins
import Derived.LaidMore
import Derived.Deep.DeepWitnessRowRef
namespace Go.Proofs.YtgphclgmmocdhaaGreatDoor
section
open Go.ChangeShapes Go.RowKit
theorem laidMet_one {P : Program} {w : World} : ∀ {l : List (String × DataW Unit)} {x : String × DataW Unit}, laidMet P l w -> x ∈ l -> laidMet P [x] w := by
  intro l
  induction l with
  | nil => intro x _ hx; cases hx
  | cons y r ih =>
    intro x h hx
    obtain ⟨ps, ⟨g, t, cs, fuel, p, q, hg, ht, hv, hd, hr, rfl⟩, hn, hk⟩ := h
    rcases List.mem_cons.1 hx with rfl | hx
    · exact ⟨_, ⟨g, t, cs, fuel, p, [], hg, ht, hv, hd, rfl, rfl⟩, by simpa using (List.nodup_append.1 hn).1, fun b off hb => hk b off (by simp at hb ⊢; rcases hb with hb | hb <;> simp [hb])⟩
    · exact ih ⟨q, hr, (List.nodup_append.1 hn).2.1, fun b off hb => hk b off (by simp [hb])⟩ hx
def sent (text : List UInt8) : DataW Unit := .iface "*errors.errorString" (.ptr (.agg [.lit (.string text)]))
structure SentOk (P : Program) (ti tp te ts : TypeId) (ms : Array (String × TypeId)) (f : Field) : Prop where
  hi : P.underlying ti = some (.interface ms)
  hrow : ∀ u, P.typeName? 3 u = some "*errors.errorString" -> u = tp
  hp : P.underlying tp = some (.pointer te)
  he : P.underlying te = some (.struct #[f])
  hft : f.type = ts
  hfo : f.offset = 0
  hs : P.underlying ts = some .string
  hc : P.cellsOf te = 1
  hcs : P.cellsOf ts = 1
theorem sent_one {P : Program} {w : World} {ti tp te ts : TypeId} {ms : Array (String × TypeId)} {fd : Field} (S : SentOk P ti tp te ts ms fd) {fuel g : Nat} {n : String} {cs : Array Value} {text : List UInt8} {p : List MemPlace}
    (hg : P.globalNamed n = some g) (hv : w.var? P n = some cs) (hd : DataW.trod (fun _ => ()) P w 0 (fun _ => true) false fuel ti cs.toList = some (sent text, p))
    (hk : ∀ b off, MemPlace.cell b off ∈ MemPlace.row ⟨g, 0, none⟩ cs.size ++ p -> (∃ c t, w.heap[b]? = some (.cells c t (0, 0))) /\ ∀ u v, w.cell? ⟨b, off, none⟩ = some (.iface u v) -> Value.okWide P w .any 0 u v) :
    ∃ a, w.cell? ⟨g, 0, none⟩ = some (.iface tp (.pointer (some a))) /\ (∃ c t, w.heap[a.block]? = some (.cells c t (0, 0))) /\ MemPlace.cell a.block a.off ∈ p := by
  obtain ⟨l⟩ := cs
  have ok : ∀ u v, l = [.iface u v] -> Value.okWide P w .any 0 u v := fun u v e => by
    subst e
    exact (hk g 0 (by simp [MemPlace.row])).2 u v (by simpa using World.var?_cell hg hv 0)
  obtain ⟨a, s, rfl, hc0, hs0, hz0, rfl⟩ := errorString_of_trod S.hi S.hrow S.hp S.he S.hft S.hfo S.hs S.hc S.hcs hd ok
  have hm : MemPlace.cell a.block a.off ∈ MemPlace.row a 1 := by simp [MemPlace.row]
  refine ⟨a, by simpa using World.var?_cell hg hv 0, (hk a.block a.off (by simp [hm])).1, hm⟩
theorem sents {P : Program} {w : World} {ti tp te ts : TypeId} {ms : Array (String × TypeId)} {fd : Field} (S : SentOk P ti tp te ts ms fd) :
    ∀ {l : List (String × DataW Unit)} {ps : List MemPlace}, DataW.LaidVars P w l ps -> ps.Nodup -> (∀ b off, MemPlace.cell b off ∈ ps -> (∃ c t, w.heap[b]? = some (.cells c t (0, 0))) /\ ∀ u v, w.cell? ⟨b, off, none⟩ = some (.iface u v) -> Value.okWide P w .any 0 u v) ->
      ∃ f : Nat -> Addr, (∀ i n text g, l[i]? = some (n, sent text) -> P.globalNamed n = some g -> (P.globals[g]?).map (·.type) = some ti -> w.cell? ⟨g, 0, none⟩ = some (.iface tp (.pointer (some (f i)))) /\ (∃ c t, w.heap[(f i).block]? = some (.cells c t (0, 0))) /\ MemPlace.cell (f i).block (f i).off ∈ ps) /\
        (∀ i j n n' text text' g g', i ≠ j -> l[i]? = some (n, sent text) -> l[j]? = some (n', sent text') -> P.globalNamed n = some g -> P.globalNamed n' = some g' -> (P.globals[g]?).map (·.type) = some ti -> (P.globals[g']?).map (·.type) = some ti -> f i ≠ f j) := by
  intro l
  induction l with
  | nil => intro ps _ _ _; exact ⟨fun _ => ⟨0, 0, none⟩, by simp, by simp⟩
  | cons y r ih =>
    intro ps h hn hk
    obtain ⟨g, t, cs, fuel, p, q, hg, ht, hv, hd, hr, rfl⟩ := h
    obtain ⟨f', hf1, hf2⟩ := ih hr (List.nodup_append.1 hn).2.1 (fun b off hb => hk b off (by simp [hb]))
    by_cases hy : ∃ text, y.2 = sent text /\ t = ti
    · obtain ⟨text, hy, rfl⟩ := hy
      rw [hy] at hd
      obtain ⟨a, a1, a2, a3⟩ := sent_one S hg hv hd (fun b off hb => hk b off (by simp only [List.mem_append] at hb ⊢; exact Or.inl hb))
      have key : ∀ j n' text' g', r[j]? = some (n', sent text') -> P.globalNamed n' = some g' -> (P.globals[g']?).map (·.type) = some t -> a ≠ f' j := by
        intro j n' text' g' hj hg' ht' e
        have := (hf1 j n' text' g' hj hg' ht').2.2
        rw [<- e] at this
        exact (List.nodup_append.1 hn).2.2 _ (by simp [a3]) _ this rfl
      refine ⟨fun | 0 => a | i + 1 => f' i, ?_, ?_⟩
      · intro i n text g' hi hg' ht'
        cases i with
        | zero =>
          simp only [List.getElem?_cons_zero, Option.some.injEq] at hi
          subst hi
          obtain rfl := Option.some.inj (hg.symm.trans hg')
          exact ⟨a1, a2, by simp [a3]⟩
        | succ i =>
          obtain ⟨b1, b2, b3⟩ := hf1 i n text g' (by simpa using hi) hg' ht'
          exact ⟨b1, b2, by simp [b3]⟩
      · intro i j n n' text text' g1 g2 hij hi hj hg1 hg2 ht1 ht2
        cases i with
        | zero =>
          cases j with
          | zero => exact absurd rfl hij
          | succ j => exact key j n' text' g2 (by simpa using hj) hg2 ht2
        | succ i =>
          cases j with
          | zero => exact fun e => key i n text g1 (by simpa using hi) hg1 ht1 e.symm
          | succ j => exact hf2 i j n n' text text' g1 g2 (by omega) (by simpa using hi) (by simpa using hj) hg1 hg2 ht1 ht2
    · refine ⟨fun | 0 => ⟨0, 0, none⟩ | i + 1 => f' i, ?_, ?_⟩
      · intro i n text g' hi hg' ht'
        cases i with
        | zero =>
          simp only [List.getElem?_cons_zero, Option.some.injEq] at hi
          subst hi
          obtain rfl := Option.some.inj (hg.symm.trans hg')
          exact absurd ⟨text, rfl, Option.some.inj (ht.symm.trans ht')⟩ hy
        | succ i =>
          obtain ⟨b1, b2, b3⟩ := hf1 i n text g' (by simpa using hi) hg' ht'
          exact ⟨b1, b2, by simp [b3]⟩
      · intro i j n n' text text' g1 g2 hij hi hj hg1 hg2 ht1 ht2
        cases i with
        | zero =>
          simp only [List.getElem?_cons_zero, Option.some.injEq] at hi
          subst hi
          obtain rfl := Option.some.inj (hg.symm.trans hg1)
          exact absurd ⟨text, rfl, Option.some.inj (ht.symm.trans ht1)⟩ hy
        | succ i =>
          cases j with
          | zero =>
            simp only [List.getElem?_cons_zero, Option.some.injEq] at hj
            subst hj
            obtain rfl := Option.some.inj (hg.symm.trans hg2)
            exact absurd ⟨text', rfl, Option.some.inj (ht.symm.trans ht2)⟩ hy
          | succ j => exact hf2 i j n n' text text' g1 g2 (by omega) (by simpa using hi) (by simpa using hj) hg1 hg2 ht1 ht2
end
section
open Go.ChangeShapes Go.WideShapes Go.ChangeAt Go.RowKit Go.Joins
theorem ownN:ownKnob Tryz.prog.godebug=none:=by kernel_rfl
end
section
open Go.ChangeShapes Go.WideShapes Go.ChangeAt Go.RowKit Go.Joins
set_option maxRecDepth 100000
theorem ndsRec:Tryz.prog.readableRec 23=true:=by kernel_rfl
theorem ndsKids:Kids Tryz.prog (InBook Tryz.prog 23):=kids_book (by kernel_rfl) ndsRec
theorem ndsIn:InBook Tryz.prog 23 23:=⟨of_decide_eq_true (by kernel_rfl),book_self _⟩
theorem open_kds {H:Type} {enc:TypeId × Value->H} {w:World} {base:Nat} {spare:Nat->Bool} {held:Bool} {fuel:Nat} {c2:Value} {x:DataW H × List MemPlace} (h:DataW.trod enc Tryz.prog w base spare held fuel 23 [c2]=some x):∃ ks:List Nd,∃ o cap,c2=.slice o ks.length cap/\ks.length<=cap/\cap<=maxLen/\(o=none->cap=0)/\KdsAt w o 0 ks:=by
 rcases DataW.trod_slice Tryz.underlying23 h with ⟨e2,_⟩ | ⟨a,len,cap,elems,rest,q,hq,e2,_,_,hl,hc,hlen,hel,_⟩
 ·simp at e2
  subst e2
  exact ⟨[],none,0,rfl,Nat.le_refl _,by decide,fun _=>rfl,by unfold KdsAt;trivial⟩
 ·simp at e2
  subst e2
  simp only [cellsNode] at hel
  have sp:0<len->a.spot=none:=fun h0=>by
   have h00:=hel 0 h0
   obtain ⟨y0,hy0⟩:∃ y,elems[0]? = some y:=⟨elems[0],List.getElem?_eq_getElem (by omega)⟩
   rw [hy0] at h00
   simp only [Option.bind_eq_some_iff] at h00
   obtain ⟨_,hd1,_⟩:=h00
   obtain ⟨_,_,_,_,_,hb,_⟩:=cells_three hd1
   simp [Addr.add] at hb
   rw [hb]
  obtain ⟨l,hll,hP⟩:=list_of (α:=Nd) (P:=fun i k=>∃ b off c0 c1 c2,some a=some ⟨b,off,none⟩/\w.cell? ⟨b,off+i * 3,none⟩=some c0/\w.cell? ⟨b,off+i * 3+1,none⟩=some c1/\w.cell? ⟨b,off+i * 3+2,none⟩=some c2/\NdC w c0 c1 c2 k) len (fun i hi=>by
   have hE:=hel i hi
   obtain ⟨y,hy⟩:∃ y,elems[i]? = some y:=⟨elems[i],List.getElem?_eq_getElem (by omega)⟩
   rw [hy] at hE
   simp only [Option.bind_eq_some_iff] at hE
   obtain ⟨c,hc1,hc2⟩:=hE
   obtain ⟨b,off,d0,d1,d2,hb,rfl,h0,h1,h2⟩:=cells_three hc1
   obtain ⟨e0,e1,e2,k,he,hk⟩:=open_nd q hc2
   simp at he
   obtain ⟨rfl,rfl,rfl⟩:=he
   have hs:=sp (by omega)
   obtain ⟨ab,ao,asp⟩:=a
   simp at hs
   subst hs
   have e:b=ab/\off=ao+i * 3:=by
    unfold Addr.add at hb
    split at hb <;> simp at hb <;> exact ⟨hb.1.symm,by omega⟩
   obtain ⟨rfl,rfl⟩:=e
   exact ⟨k,_,ao,d0,d1,d2,rfl,h0,h1,h2,hk⟩)
  exact ⟨l,some a,cap,by rw [hll],by omega,hc,(fun e=>nomatch e),kdsAt_of (fun j k hk=>by rw [show 0+j=j from by omega];exact hP j k hk)⟩
theorem open_nodes {H:Type} {enc:TypeId × Value->H} {w:World} {r:Reach} {b0 base:Nat} {spare:Nat->Bool} {held:Bool} {v:Value} {d:DataW H} {p:List MemPlace}
  (hv:Value.okWide Tryz.prog w r b0 23 v) (h:DataW.Trod enc Tryz.prog w base spare held 23 v d p) :
  ∃ ks:List Nd,∃ o cap,v=.slice o ks.length cap/\ks.length<=cap/\cap<=maxLen/\(o=none->cap=0)/\KdsAt w o 0 ks:=by
 obtain ⟨a,len,cap,rfl⟩:=okWide_slice Tryz.underlying23 hv
 obtain ⟨fuel,hf⟩:=h
 exact open_kds (c2:=.slice a len cap) hf
theorem again_nodes {H:Type} {enc:TypeId × Value->H} {W W':World} {sp:Nat->Bool} {v:Value} {d:DataW H} {p:List MemPlace} (hb:Below W.heap.size W W')
  (h:DataW.Trod enc Tryz.prog W 0 (fun _=>true) true 23 v d p) (hs:∀ x ∈ p,sp x.block=true) (hl:∀ x ∈ p,x.block<W.heap.size):DataW.Trod enc Tryz.prog W' 0 sp true 23 v d p:=by
 obtain ⟨n,hn⟩:=DataW.Trod.respare ndsKids (fun t e ht hu=>book_sized ndsRec ht hu) ndsIn h hs
 exact ⟨n,DataW.trod_carry n _ _ _ hn (fun x hx=>hb.same (hl x hx))⟩
end
end Go.Proofs.YtgphclgmmocdhaaGreatDoor

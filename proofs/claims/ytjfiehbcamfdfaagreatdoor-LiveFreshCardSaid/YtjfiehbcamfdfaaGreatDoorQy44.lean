/-
  Parts of the proof.
-/
import Derived.Test.YtjfiehbcamfdfaaGreatDoorCards
import Derived.Test.YtjfiehbcamfdfaaGreatDoorTie
import Derived.Lib.SmallJoins
import Derived.LaidMore
import Derived.Deep.DeepWitnessRowRef
import Derived.Test.YtjfiehbcamfdfaaGreatDoorQy41
namespace Go.Proofs.YtjfiehbcamfdfaaGreatDoor
open Go.Proofs.Tryz
section
open Go.ChangeShapes Go.RowKit
theorem L8 {P:Program}{w:World}:∀{l:List (String×DataW Unit)} {x:String×DataW Unit},laidMet P l w ->x∈l ->laidMet P [x] w:=by
  intro l
  induction l with
  |nil=>intro x _ hx;cases hx
  |cons y r ih=>
    intro x h hx;obtain⟨ps,⟨g,t,cs,fuel,p,q,hg,ht,hv,hd,hr,rfl⟩,hn,hk⟩:=h;rcases List.mem_cons.1 hx with rfl|hx
    · exact⟨_,⟨g,t,cs,fuel,p,[],hg,ht,hv,hd,rfl,rfl⟩,by simpa using(List.nodup_append.1 hn).1,fun b off hb=>hk b off (by simp at hb⊢;rcases hb with hb|hb<;>simp[hb])⟩
    · exact ih ⟨q,hr,(List.nodup_append.1 hn).2.1,fun b off hb=>hk b off (by simp[hb])⟩ hx
def sent (text:List UInt8):DataW Unit:= .iface "*errors.errorString" (.ptr (.agg [.lit (.string text)]))
structure NP (P:Program)(ti tp te ts:TypeId)(ms:Array (String×TypeId))(f:Field):Prop where
  hi:P.underlying ti=some (.interface ms)
  hrow:∀u,P.typeName? 3 u=some "*errors.errorString" ->u=tp
  hp:P.underlying tp=some (.pointer te)
  he:P.underlying te=some (.struct #[f])
  hft:f.type=ts
  hfo:f.offset=0
  hs:P.underlying ts=some .string
  hc:P.cellsOf te=1
  hcs:P.cellsOf ts=1
theorem Y7 {P:Program}{w:World}{ti tp te ts:TypeId}{ms:Array (String×TypeId)}{fd:Field}(S:NP P ti tp te ts ms fd){fuel g:Nat}{n:String}{cs:Array Value}{text:List UInt8}{p:List MemPlace}
    (hg:P.globalNamed n=some g) (hv:w.var? P n=some cs) (hd:DataW.trod (fun _=>()) P w 0 (fun _=>true) false fuel ti cs.toList=some (sent text,p))
    (hk:∀b off,MemPlace.cell b off∈MemPlace.row ⟨g,0,none⟩ cs.size++p ->(∃c t,w.heap[b]? =some (.cells c t (0,0)))/\ ∀u v,w.cell? (ag b off)=some (.iface u v) ->Value.okWide P w .any 0 u v):
    ∃a,w.cell? (ag g 0)=some (.iface tp (.pointer (some a)))/\ (∃c t,w.heap[a.block]? =some (.cells c t (0,0)))/\ MemPlace.cell a.block a.off∈p:=by
  obtain⟨l⟩:=cs;have ok:∀u v,l=[.iface u v] ->Value.okWide P w .any 0 u v:=fun u v e=>by
    subst e;exact(hk g 0 (by simp[MemPlace.row])).2 u v (by simpa using World.var?_cell hg hv 0)
  obtain⟨a,s,rfl,hc0,hs0,hz0,rfl⟩:=errorString_of_trod S.hi S.hrow S.hp S.he S.hft S.hfo S.hs S.hc S.hcs hd ok;have hm:MemPlace.cell a.block a.off∈MemPlace.row a 1:=by simp[MemPlace.row]
  refine⟨a,by simpa using World.var?_cell hg hv 0,(hk a.block a.off (by simp[hm])).1,hm⟩
theorem a8V {P:Program}{w:World}{ti tp te ts:TypeId}{ms:Array (String×TypeId)}{fd:Field}(S:NP P ti tp te ts ms fd):
    ∀{l:List (String×DataW Unit)} {ps:List MemPlace},DataW.LaidVars P w l ps ->ps.Nodup ->(∀b off,MemPlace.cell b off∈ps ->(∃c t,w.heap[b]? =some (.cells c t (0,0)))/\ ∀u v,w.cell? (ag b off)=some (.iface u v) ->Value.okWide P w .any 0 u v) ->
      ∃f:Nat ->Addr,(∀i n text g,l[i]? =some (n,sent text) ->P.globalNamed n=some g ->(P.globals[g]?).map (·.type)=some ti ->w.cell? (ag g 0)=some (.iface tp (.pointer (some (f i))))/\ (∃c t,w.heap[(f i).block]? =some (.cells c t (0,0)))/\ MemPlace.cell (f i).block (f i).off∈ps)/\
        (∀i j n n' text text' g g',i≠j ->l[i]? =some (n,sent text) ->l[j]? =some (n',sent text') ->P.globalNamed n=some g ->P.globalNamed n'=some g' ->(P.globals[g]?).map (·.type)=some ti ->(P.globals[g']?).map (·.type)=some ti ->f i≠f j):=by
  intro l
  induction l with
  |nil=>intro ps _ _ _;exact⟨fun _=>⟨0,0,none⟩,by simp,by simp⟩
  |cons y r ih=>
    intro ps h hn hk;obtain⟨g,t,cs,fuel,p,q,hg,ht,hv,hd,hr,rfl⟩:=h;obtain⟨f',hf1,hf2⟩:=ih hr (List.nodup_append.1 hn).2.1 (fun b off hb=>hk b off (by simp[hb]));by_cases hy:∃text,y.2=sent text/\ t=ti
    · obtain⟨text,hy,rfl⟩:=hy
      rw[hy] at hd;obtain⟨a,a1,a2,a3⟩:=Y7 S hg hv hd (fun b off hb=>hk b off (by simp only[List.mem_append] at hb⊢;exact Or.inl hb));have key:∀j n' text' g',r[j]? =some (n',sent text') ->P.globalNamed n'=some g' ->(P.globals[g']?).map (·.type)=some t ->a≠f' j:=by
        intro j n' text' g' hj hg' ht' e;have:=(hf1 j n' text' g' hj hg' ht').2.2;rw[<- e] at this;exact(List.nodup_append.1 hn).2.2 _ (by simp[a3]) _ this rfl
      refine⟨fun|0=>a|i+1=>f' i,?_,?_⟩
      · intro i n text g' hi hg' ht'
        cases i with
        |zero=>
          simp only[List.getElem?_cons_zero,Option.some.injEq] at hi;subst hi;obtain rfl:=Option.some.inj (hg.symm.trans hg');exact⟨a1,a2,by simp[a3]⟩
        |succ i=>
          obtain⟨b1,b2,b3⟩:=hf1 i n text g' (by simpa using hi) hg' ht';exact⟨b1,b2,by simp[b3]⟩
      · intro i j n n' text text' g1 g2 hij hi hj hg1 hg2 ht1 ht2
        cases i with
        |zero=>
          cases j with
          |zero=>exact absurd rfl hij
          |succ j=>exact key j n' text' g2 (by simpa using hj) hg2 ht2
        |succ i=>
          cases j with
          |zero=>exact fun e=>key i n text g1 (by simpa using hi) hg1 ht1 e.symm
          |succ j=>exact hf2 i j n n' text text' g1 g2 (by omega) (by simpa using hi) (by simpa using hj) hg1 hg2 ht1 ht2
    · refine⟨fun|0=>⟨0,0,none⟩|i+1=>f' i,?_,?_⟩
      · intro i n text g' hi hg' ht'
        cases i with
        |zero=>
          simp only[List.getElem?_cons_zero,Option.some.injEq] at hi;subst hi;obtain rfl:=Option.some.inj (hg.symm.trans hg');exact absurd ⟨text,rfl,Option.some.inj (ht.symm.trans ht')⟩ hy
        |succ i=>
          obtain⟨b1,b2,b3⟩:=hf1 i n text g' (by simpa using hi) hg' ht';exact⟨b1,b2,by simp[b3]⟩
      · intro i j n n' text text' g1 g2 hij hi hj hg1 hg2 ht1 ht2
        cases i with
        |zero=>
          simp only[List.getElem?_cons_zero,Option.some.injEq] at hi;subst hi;obtain rfl:=Option.some.inj (hg.symm.trans hg1);exact absurd ⟨text,rfl,Option.some.inj (ht.symm.trans ht1)⟩ hy
        |succ i=>
          cases j with
          |zero=>
            simp only[List.getElem?_cons_zero,Option.some.injEq] at hj;subst hj;obtain rfl:=Option.some.inj (hg.symm.trans hg2);exact absurd ⟨text',rfl,Option.some.inj (ht.symm.trans ht2)⟩ hy
          |succ j=>exact hf2 i j n n' text text' g1 g2 (by omega) (by simpa using hi) (by simpa using hj) hg1 hg2 ht1 ht2
end
section
open Go.ChangeShapes Go.WideShapes Go.ChangeAt Go.RowKit Go.Joins
set_option maxRecDepth 100000
theorem adC:ownKnob prog.godebug=none:=by kernel_rfl
theorem PZ:prog.readableRec 25=true:=by kernel_rfl
theorem Y8:Kids prog (InBook prog 25):=kids_book (by kernel_rfl) PZ
theorem a5e:InBook prog 25 25:=⟨of_decide_eq_true (by kernel_rfl),book_self _⟩
theorem Tm {H:Type}{enc:TypeId×Value->H}{w:World}{r:Reach}{b0 base:Nat}{spare:Nat->Bool}{held:Bool}{v:Value}{d:DataW H}{p:List MemPlace}
    (hv:Value.okWide prog w r b0 25 v) (h:DataW.Trod enc prog w base spare held 25 v d p):
    ∃c0 c1 c2 n,v=.agg #[c0,c1,c2]/\jR w c0 c1 c2 n:=by
  obtain⟨cs,rfl, -⟩:=okWide_struct underlying25 hv;obtain⟨fuel,hf⟩:=h;obtain⟨c0,c1,c2,n,hc,hn⟩:=OA fuel hf;obtain rfl:cs=#[c0,c1,c2]:=by
    cases cs;simp[Value.cells] at hc;simp[hc]
  exact⟨c0,c1,c2,n,rfl,hn⟩
theorem NS {H:Type}{enc:TypeId×Value->H}{W W':World}{sp:Nat->Bool}{v:Value}{d:DataW H}{p:List MemPlace}(hb:Below W.heap.size W W')
    (h:DataW.Trod enc prog W 0 (fun _=>true) true 25 v d p) (hs:∀x∈p,sp x.block=true) (hl:∀x∈p,x.block<W.heap.size):DataW.Trod enc prog W' 0 sp true 25 v d p:=by
  obtain⟨n,hn⟩:=DataW.Trod.respare Y8 (fun t e ht hu=>book_sized PZ ht hu) a5e h hs;exact⟨n,DataW.trod_carry n _ _ _ hn (fun x hx=>hb.same (hl x hx))⟩
end
section
open Go.ChangeShapes Go.WideShapes Go.ChangeAt Go.RowKit Go.Joins
set_option maxRecDepth 100000
theorem a6q:prog.readableRec 26=true:=by kernel_rfl
theorem a7S:Kids prog (InBook prog 26):=kids_book (by kernel_rfl) a6q
theorem acJ:InBook prog 26 26:=⟨of_decide_eq_true (by kernel_rfl),book_self _⟩
theorem a6v {H:Type}{enc:TypeId×Value->H}{w:World}{r:Reach}{b0 base:Nat}{spare:Nat->Bool}{held:Bool}{v:Value}{d:DataW H}{p:List MemPlace}
  (hv:Value.okWide prog w r b0 26 v) (h:DataW.Trod enc prog w base spare held 26 v d p):
  ∃o l cap,v=.slice o l.length cap/\a0U w o l:=by
 obtain⟨a,len,cap,rfl⟩:=okWide_slice underlying26 hv;obtain⟨fuel,hf⟩:=h;obtain⟨v,l,hc,o,cap',hv',hl⟩:=a6m hf;obtain rfl:Value.slice a len cap=v:=by simpa[Value.cells] using hc
 exact⟨o,l,cap',hv',hl⟩
theorem a5N {H:Type}{enc:TypeId×Value->H}{W W':World}{sp:Nat->Bool}{v:Value}{d:DataW H}{p:List MemPlace}(hb:Below W.heap.size W W')
  (h:DataW.Trod enc prog W 0 (fun _=>true) true 26 v d p) (hs:∀x∈p,sp x.block=true) (hl:∀x∈p,x.block<W.heap.size):DataW.Trod enc prog W' 0 sp true 26 v d p:=by
 obtain⟨n,hn⟩:=DataW.Trod.respare a7S (fun t e ht hu=>book_sized a6q ht hu) acJ h hs;exact⟨n,DataW.trod_carry n _ _ _ hn (fun x hx=>hb.same (hl x hx))⟩
end
end Go.Proofs.YtjfiehbcamfdfaaGreatDoor

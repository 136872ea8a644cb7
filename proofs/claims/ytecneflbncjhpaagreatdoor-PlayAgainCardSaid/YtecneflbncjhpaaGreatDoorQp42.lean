/- Parts of the proof. -/
import Derived.Test.YtecneflbncjhpaaGreatDoorCards
import Derived.Test.YtecneflbncjhpaaGreatDoorTie
import Derived.Lib.SmallJoins
import Derived.LaidMore
import Derived.Deep.DeepWitnessRowRef
import Derived.Test.YtecneflbncjhpaaGreatDoorQp41
namespace Go.Proofs.YtecneflbncjhpaaGreatDoor
open Go.Proofs.Tryz
section
open Go.ChangeShapes Go.RowKit
theorem N8 {P:Program}{w:ag}:∀{l:List (String×DataW Unit)} {x:String×DataW Unit},laidMet P l w ->x∈l ->laidMet P [x] w:=by
  intro l
  induction l with
  |nil=>intro x _ hx;cases hx
  |cons y r ih=>
    intro x h hx;obtain⟨ps,⟨g,t,cs,fuel,p,q,hg,ht,hv,hd,hr,rfl⟩,hn,hk⟩:=h;rcases List.mem_cons.1 hx with rfl|hx
    · exact⟨_,⟨g,t,cs,fuel,p,[],hg,ht,hv,hd,rfl,rfl⟩,by simpa using(List.nodup_append.1 hn).1,fun b off hb=>hk b off (by simp at hb⊢;rcases hb with hb|hb<;>simp[hb])⟩
    · exact ih ⟨q,hr,(List.nodup_append.1 hn).2.1,fun b off hb=>hk b off (by simp[hb])⟩ hx
def sent (text:List UInt8):DataW Unit:= .iface "*errors.errorString" (.ptr (.agg [.lit (.string text)]))
structure Q8 (P:Program)(ti tp te ts:TypeId)(ms:Array (String×TypeId))(f:Field):Prop where
  hi:P.underlying ti=some (.interface ms)
  hrow:∀u,P.typeName? 3 u=some "*errors.errorString" ->u=tp
  hp:P.underlying tp=some (.pointer te)
  he:P.underlying te=some (.struct #[f])
  hft:f.type=ts
  hfo:f.offset=0
  hs:P.underlying ts=some .string
  hc:P.cellsOf te=1
  hcs:P.cellsOf ts=1
theorem a05 {P:Program}{w:ag}{ti tp te ts:TypeId}{ms:Array (String×TypeId)}{fd:Field}(S:Q8 P ti tp te ts ms fd){fuel g:Nat}{n:String}{cs:Array ah}{text:List UInt8}{p:List MemPlace}
    (hg:P.globalNamed n=some g) (hv:w.var? P n=some cs) (hd:DataW.trod (fun _=>()) P w 0 (fun _=>true) false fuel ti cs.toList=some (sent text,p))
    (hk:∀b off,MemPlace.cell b off∈MemPlace.row ⟨g,0,none⟩ cs.size++p ->(∃c t,w.heap[b]? =some (.cells c t (0,0)))/\ ∀u v,w.cell? (ak b off)=some (.iface u v) ->Value.okWide P w .any 0 u v):
    ∃a,w.cell? (ak g 0)=some (.iface tp (.pointer (some a)))/\ (∃c t,w.heap[a.block]? =some (.cells c t (0,0)))/\ MemPlace.cell a.block a.off∈p:=by
  obtain⟨l⟩:=cs;have ok:∀u v,l=[.iface u v] ->Value.okWide P w .any 0 u v:=fun u v e=>by
    subst e;exact(hk g 0 (by simp[MemPlace.row])).2 u v (by simpa using World.var?_cell hg hv 0)
  obtain⟨a,s,rfl,hc0,hs0,hz0,rfl⟩:=errorString_of_trod S.hi S.hrow S.hp S.he S.hft S.hfo S.hs S.hc S.hcs hd ok;have hm:MemPlace.cell a.block a.off∈MemPlace.row a 1:=by simp[MemPlace.row]
  refine⟨a,by simpa using World.var?_cell hg hv 0,(hk a.block a.off (by simp[hm])).1,hm⟩
theorem ab9 {P:Program}{w:ag}{ti tp te ts:TypeId}{ms:Array (String×TypeId)}{fd:Field}(S:Q8 P ti tp te ts ms fd):
    ∀{l:List (String×DataW Unit)} {ps:List MemPlace},DataW.LaidVars P w l ps ->ps.Nodup ->(∀b off,MemPlace.cell b off∈ps ->(∃c t,w.heap[b]? =some (.cells c t (0,0)))/\ ∀u v,w.cell? (ak b off)=some (.iface u v) ->Value.okWide P w .any 0 u v) ->
      ∃f:Nat ->Addr,(∀i n text g,l[i]? =some (n,sent text) ->P.globalNamed n=some g ->(P.globals[g]?).map (·.type)=some ti ->w.cell? (ak g 0)=some (.iface tp (.pointer (some (f i))))/\ (∃c t,w.heap[(f i).block]? =some (.cells c t (0,0)))/\ MemPlace.cell (f i).block (f i).off∈ps)/\
        (∀i j n n' text text' g g',i≠j ->l[i]? =some (n,sent text) ->l[j]? =some (n',sent text') ->P.globalNamed n=some g ->P.globalNamed n'=some g' ->(P.globals[g]?).map (·.type)=some ti ->(P.globals[g']?).map (·.type)=some ti ->f i≠f j):=by
  intro l
  induction l with
  |nil=>intro ps _ _ _;exact⟨fun _=>⟨0,0,none⟩,by simp,by simp⟩
  |cons y r ih=>
    intro ps h hn hk;obtain⟨g,t,cs,fuel,p,q,hg,ht,hv,hd,hr,rfl⟩:=h;obtain⟨f',hf1,hf2⟩:=ih hr (List.nodup_append.1 hn).2.1 (fun b off hb=>hk b off (by simp[hb]));by_cases hy:∃text,y.2=sent text/\ t=ti
    · obtain⟨text,hy,rfl⟩:=hy
      rw[hy] at hd;obtain⟨a,a1,a2,a3⟩:=a05 S hg hv hd (fun b off hb=>hk b off (by simp only[List.mem_append] at hb⊢;exact Or.inl hb));have key:∀j n' text' g',r[j]? =some (n',sent text') ->P.globalNamed n'=some g' ->(P.globals[g']?).map (·.type)=some t ->a≠f' j:=by
        intro j n' text' g' hj hg' ht' e;have:=(hf1 j n' text' g' hj hg' ht').2.2;rw[<- e] at this;exact(List.nodup_append.1 hn).2.2 _ (by simp[a3]) _ this rfl
      refine⟨fun|0=>a|i+1=>f' i,?_,?_⟩
      · intro i n text g' hi hg' ht'
        cases i with
        |zero=>
          simp only[List.getElem?_cons_zero,Option.some.injEq] at hi;subst hi;obtain rfl:=dP (hg.symm.trans hg');exact⟨a1,a2,by simp[a3]⟩
        |succ i=>
          obtain⟨b1,b2,b3⟩:=hf1 i n text g' (by simpa using hi) hg' ht';exact⟨b1,b2,by simp[b3]⟩
      · intro i j n n' text text' g1 g2 hij hi hj hg1 hg2 ht1 ht2
        cases i with
        |zero=>
          cases j with
          |zero=>exact absurd rfl hij
          |succ j=>exact key j n' text' g2 (by simpa using hj) hg2 ht2
        |succ i=>
          cases j with
          |zero=>exact fun e=>key i n text g1 (by simpa using hi) hg1 ht1 e.symm
          |succ j=>exact hf2 i j n n' text text' g1 g2 (by omega) (by simpa using hi) (by simpa using hj) hg1 hg2 ht1 ht2
    · refine⟨fun|0=>⟨0,0,none⟩|i+1=>f' i,?_,?_⟩
      · intro i n text g' hi hg' ht'
        cases i with
        |zero=>
          simp only[List.getElem?_cons_zero,Option.some.injEq] at hi;subst hi;obtain rfl:=dP (hg.symm.trans hg');exact absurd ⟨text,rfl,dP (ht.symm.trans ht')⟩ hy
        |succ i=>
          obtain⟨b1,b2,b3⟩:=hf1 i n text g' (by simpa using hi) hg' ht';exact⟨b1,b2,by simp[b3]⟩
      · intro i j n n' text text' g1 g2 hij hi hj hg1 hg2 ht1 ht2
        cases i with
        |zero=>
          simp only[List.getElem?_cons_zero,Option.some.injEq] at hi;subst hi;obtain rfl:=dP (hg.symm.trans hg1);exact absurd ⟨text,rfl,dP (ht.symm.trans ht1)⟩ hy
        |succ i=>
          cases j with
          |zero=>
            simp only[List.getElem?_cons_zero,Option.some.injEq] at hj;subst hj;obtain rfl:=dP (hg.symm.trans hg2);exact absurd ⟨text',rfl,dP (ht.symm.trans ht2)⟩ hy
          |succ j=>exact hf2 i j n n' text text' g1 g2 (by omega) (by simpa using hi) (by simpa using hj) hg1 hg2 ht1 ht2
end
section
open Go.ChangeShapes Go.WideShapes Go.ChangeAt Go.RowKit Go.Joins
theorem own:ownKnob prog.godebug=none:=by kernel_rfl
theorem wf_i64 {n:Int}:(Lit.int .i64 n).wf=true↔jH n:=by
 unfold jH;constructor
 ·intro h;exact bounds_i64 h
 ·intro h;simp[Lit.wf,IntKind.min,IntKind.max,IntKind.signed,IntKind.bits];omega
end
section
open Go.ChangeShapes Go.WideShapes Go.ChangeAt Go.RowKit Go.Joins
set_option maxRecDepth 100000
theorem Vs:prog.cellsOf 3=1:=by kernel_rfl
theorem E8 {w:ag}{base:Nat}{a:Addr}{cs:List ah}(h:w.cells? base a 1=some cs):∃b off c0,a=⟨b,off,none⟩/\cs=[c0]/\w.cell? (ak b off)=some c0:=by
 unfold World.cells? at h;split at h
 ·simp only[List.range_succ,List.range_zero,List.nil_append,List.mapM_cons,List.mapM_nil] at h;cases h0:w.cell? (a.add 0) with
  |none=>simp[h0] at h
  |some c0=>
   simp[h0] at h;obtain⟨b,off,sp⟩:=a;cases sp with
   |some s=>
    simp[Addr.add,World.cell?] at h0;split at h0<;>cases h0
   |none=>exact⟨b,off,c0,rfl,h.symm,by simpa[Addr.add] using h0⟩
 ·cases h
theorem N9 {α:Type}{P:Nat->α->Prop}:∀n:Nat,(∀i,i<n->∃x,P i x)->∃l:List α,l.length=n/\∀i x,l[i]? =some x->P i x
 |0,_=>⟨[],rfl,fun i x h=>by simp at h⟩
 |n+1,h=>by
  obtain⟨x,hx⟩:=h 0 (by omega);obtain⟨l,hl,hP⟩:=N9 (P:=fun i=>P (i+1)) n (fun i hi=>h (i+1) (by omega));refine⟨x::l,by simp[hl],fun i y hy=>?_⟩;cases i with
  |zero=>cases hy;exact hx
  |succ i=>exact hP i y hy
theorem Q9 {H:Type}{enc:TypeId×ah->H}{w:ag}{base:Nat}{spare:Nat->Bool}{held:Bool}{fuel:Nat}{cs:List ah}{x:DataW H×List MemPlace}(h:DataW.trod enc prog w base spare held fuel 22 cs=some x):∃o cap l,cs=[.slice o l.length cap]/\vI w o cap l:=by
 rcases DataW.trod_slice underlying22 h with⟨rfl,_⟩|⟨a,len,cap,elems,rest,n,_,rfl,_,_,hl,hc,hlen,hel,_⟩
 ·exact⟨none,0,[],rfl,fun i x hx=>by simp at hx,fun _=>⟨rfl,rfl⟩⟩
 ·simp only[Vs] at hel;have sp:0<len->a.spot=none:=fun h0=>by
   have h00:=hel 0 h0;obtain⟨y0,hy0⟩:∃y,elems[0]? =some y:=⟨elems[0],dK (by omega)⟩;rw[hy0] at h00;simp only[Option.bind_eq_some_iff] at h00;obtain⟨_,hd1,_⟩:=h00;obtain⟨_,_,_,hb,_⟩:=E8 hd1;simp[Addr.add] at hb;rw[hb]
  obtain⟨l,hll,hP⟩:=N9 (α:=Int) (P:=fun i x=>∃b off,some a=some ⟨b,off,none⟩/\w.cell? (ak b (off+i))=some (aa x)/\jH x) len (fun i hi=>by
   have hE:=hel i hi;obtain⟨y,hy⟩:∃y,elems[i]? =some y:=⟨elems[i],dK (by omega)⟩;rw[hy] at hE;simp only[Option.bind_eq_some_iff] at hE;obtain⟨c,hc1,hc2⟩:=hE;obtain⟨b,off,d0,hb,rfl,h0⟩:=E8 hc1;obtain⟨y,e0, -,w0⟩:=DataW.trod_int underlying3 hc2;obtain⟨ab,ao,asp⟩:=a;have hs:=sp (by omega);simp at hs;subst hs;have e:b=ab/\off=ao+i:=by
    unfold Addr.add at hb;split at hb<;>simp at hb<;>exact⟨hb.1.symm,by omega⟩
   obtain⟨rfl,rfl⟩:=e;simp at e0;exact⟨y,_,ao,rfl,by rw[h0,e0],wf_i64.1 w0⟩)
  exact⟨some a,cap,l,by rw[hll],hP,fun h=>by cases h⟩
theorem afW:ownKnob prog.godebug=none:=by kernel_rfl
theorem Sm:prog.readableRec 22=true:=by kernel_rfl
theorem a06:Kids prog (InBook prog 22):=kids_book (by kernel_rfl) Sm
theorem intsIn:InBook prog 22 22:=⟨of_decide_eq_true (by kernel_rfl),book_self _⟩
theorem open_ints {H:Type}{enc:TypeId×ah->H}{w:ag}{r:Reach}{b0 base:Nat}{spare:Nat->Bool}{held:Bool}{v:ah}{d:DataW H}{p:List MemPlace}
  (hv:Value.okWide prog w r b0 22 v) (h:DataW.Trod enc prog w base spare held 22 v d p):
  ∃o l cap,v=.slice o l.length cap/\vI w o cap l:=by
 obtain⟨a,len,cap,rfl⟩:=okWide_slice underlying22 hv;obtain⟨fuel,hf⟩:=h;obtain⟨o,cap',l,hc,hl⟩:=Q9 hf;exact⟨o,l,cap',by simpa[Value.cells] using hc,hl⟩
theorem Qa {H:Type}{enc:TypeId×ah->H}{W W':ag}{sp:Nat->Bool}{v:ah}{d:DataW H}{p:List MemPlace}(hb:Below W.heap.size W W')
  (h:DataW.Trod enc prog W 0 (fun _=>true) true 22 v d p) (hs:∀x∈p,sp x.block=true) (hl:∀x∈p,x.block<W.heap.size):DataW.Trod enc prog W' 0 sp true 22 v d p:=by
 obtain⟨n,hn⟩:=DataW.Trod.respare a06 (fun t e ht hu=>book_sized Sm ht hu) intsIn h hs;exact⟨n,DataW.trod_carry n _ _ _ hn (fun x hx=>hb.same (hl x hx))⟩
end
end Go.Proofs.YtecneflbncjhpaaGreatDoor

/- Parts of the proof. -/
import Derived.Test.YtjfiehbcamfdfaaGreatDoorCards
import Derived.Test.YtjfiehbcamfdfaaGreatDoorTie
import Derived.Lib.SmallJoins
import Derived.LaidMore
import Derived.Deep.DeepWitnessRowRef
import Derived.Test.YtjfiehbcamfdfaaGreatDoorQz32
namespace Go.Proofs.YtjfiehbcamfdfaaGreatDoor
open Go.Proofs.Tryz
section
open Go.ChangeShapes Go.RowKit
theorem Ll {P:Program}{w:ag}:∀{l:List (String×DataW Unit)} {x:String×DataW Unit},laidMet P l w ->x∈l ->laidMet P [x] w:=by
  intro l
  induction l with
  |nil=>intro x _ hx;cases hx
  |cons y r ih=>
    intro x h hx;obtain⟨ps,⟨g,t,cs,fuel,p,q,hg,ht,hv,hd,hr,rfl⟩,hn,hk⟩:=h;rcases List.mem_cons.1 hx with rfl|hx
    · exact⟨_,⟨g,t,cs,fuel,p,[],hg,ht,hv,hd,rfl,rfl⟩,by simpa using(List.nodup_append.1 hn).1,fun b off hb=>hk b off (by simp at hb⊢;rcases hb with hb|hb<;>simp[hb])⟩
    · exact ih ⟨q,hr,(List.nodup_append.1 hn).2.1,fun b off hb=>hk b off (by simp[hb])⟩ hx
def sent (text:List UInt8):DataW Unit:= .iface "*errors.errorString" (.ptr (.agg [.lit (.string text)]))
structure Oh (P:Program)(ti tp te ts:TypeId)(ms:Array (String×TypeId))(f:Field):Prop where
  hi:P.underlying ti=some (.interface ms)
  hrow:∀u,P.typeName? 3 u=some "*errors.errorString" ->u=tp
  hp:P.underlying tp=some (.pointer te)
  he:P.underlying te=some (.struct #[f])
  hft:f.type=ts
  hfo:f.offset=0
  hs:P.underlying ts=some .string
  hc:P.cellsOf te=1
  hcs:P.cellsOf ts=1
theorem Yp {P:Program}{w:ag}{ti tp te ts:TypeId}{ms:Array (String×TypeId)}{fd:Field}(S:Oh P ti tp te ts ms fd){fuel g:Nat}{n:String}{cs:Array ah}{text:List UInt8}{p:List MemPlace}
    (hg:P.globalNamed n=some g) (hv:w.var? P n=some cs) (hd:DataW.trod (fun _=>()) P w 0 (fun _=>true) false fuel ti cs.toList=some (sent text,p))
    (hk:∀b off,MemPlace.cell b off∈MemPlace.row ⟨g,0,none⟩ cs.size++p ->(∃c t,w.heap[b]? =some (.cells c t (0,0)))/\ ∀u v,w.cell? (ak b off)=some (.iface u v) ->Value.okWide P w .any 0 u v):
    ∃a,w.cell? (ak g 0)=some (.iface tp (.pointer (some a)))/\ (∃c t,w.heap[a.block]? =some (.cells c t (0,0)))/\ MemPlace.cell a.block a.off∈p:=by
  obtain⟨l⟩:=cs;have ok:∀u v,l=[.iface u v] ->Value.okWide P w .any 0 u v:=fun u v e=>by
    subst e;exact(hk g 0 (by simp[MemPlace.row])).2 u v (by simpa using World.var?_cell hg hv 0)
  obtain⟨a,s,rfl,hc0,hs0,hz0,rfl⟩:=errorString_of_trod S.hi S.hrow S.hp S.he S.hft S.hfo S.hs S.hc S.hcs hd ok;have hm:MemPlace.cell a.block a.off∈MemPlace.row a 1:=by simp[MemPlace.row]
  refine⟨a,by simpa using World.var?_cell hg hv 0,(hk a.block a.off (by simp[hm])).1,hm⟩
theorem a9e {P:Program}{w:ag}{ti tp te ts:TypeId}{ms:Array (String×TypeId)}{fd:Field}(S:Oh P ti tp te ts ms fd):
    ∀{l:List (String×DataW Unit)} {ps:List MemPlace},DataW.LaidVars P w l ps ->ps.Nodup ->(∀b off,MemPlace.cell b off∈ps ->(∃c t,w.heap[b]? =some (.cells c t (0,0)))/\ ∀u v,w.cell? (ak b off)=some (.iface u v) ->Value.okWide P w .any 0 u v) ->
      ∃f:Nat ->Addr,(∀i n text g,l[i]? =some (n,sent text) ->P.globalNamed n=some g ->(P.globals[g]?).map (·.type)=some ti ->w.cell? (ak g 0)=some (.iface tp (.pointer (some (f i))))/\ (∃c t,w.heap[(f i).block]? =some (.cells c t (0,0)))/\ MemPlace.cell (f i).block (f i).off∈ps)/\
        (∀i j n n' text text' g g',i≠j ->l[i]? =some (n,sent text) ->l[j]? =some (n',sent text') ->P.globalNamed n=some g ->P.globalNamed n'=some g' ->(P.globals[g]?).map (·.type)=some ti ->(P.globals[g']?).map (·.type)=some ti ->f i≠f j):=by
  intro l
  induction l with
  |nil=>intro ps _ _ _;exact⟨fun _=>⟨0,0,none⟩,by simp,by simp⟩
  |cons y r ih=>
    intro ps h hn hk;obtain⟨g,t,cs,fuel,p,q,hg,ht,hv,hd,hr,rfl⟩:=h;obtain⟨f',hf1,hf2⟩:=ih hr (List.nodup_append.1 hn).2.1 (fun b off hb=>hk b off (by simp[hb]));by_cases hy:∃text,y.2=sent text/\ t=ti
    · obtain⟨text,hy,rfl⟩:=hy
      rw[hy] at hd;obtain⟨a,a1,a2,a3⟩:=Yp S hg hv hd (fun b off hb=>hk b off (by simp only[List.mem_append] at hb⊢;exact Or.inl hb));have key:∀j n' text' g',r[j]? =some (n',sent text') ->P.globalNamed n'=some g' ->(P.globals[g']?).map (·.type)=some t ->a≠f' j:=by
        intro j n' text' g' hj hg' ht' e;have:=(hf1 j n' text' g' hj hg' ht').2.2;rw[<- e] at this;exact(List.nodup_append.1 hn).2.2 _ (by simp[a3]) _ this rfl
      refine⟨fun|0=>a|i+1=>f' i,?_,?_⟩
      · intro i n text g' hi hg' ht'
        cases i with
        |zero=>
          simp only[List.getElem?_cons_zero,Option.some.injEq] at hi;subst hi;obtain rfl:=Option.some.inj (hg.symm.trans hg');exact⟨a1,a2,by simp[a3]⟩
        |succ i=>
          obtain⟨b1,b2,b3⟩:=hf1 i n text g' (by simpa using hi) hg' ht';exact⟨b1,b2,by simp[b3]⟩
      · intro i j n n' text text' g1 g2 hij hi hj hg1 hg2 ht1 ht2
        cases i with
        |zero=>
          cases j with
          |zero=>exact absurd rfl hij
          |succ j=>exact key j n' text' g2 (by simpa using hj) hg2 ht2
        |succ i=>
          cases j with
          |zero=>exact fun e=>key i n text g1 (by simpa using hi) hg1 ht1 e.symm
          |succ j=>exact hf2 i j n n' text text' g1 g2 (by omega) (by simpa using hi) (by simpa using hj) hg1 hg2 ht1 ht2
    · refine⟨fun|0=>⟨0,0,none⟩|i+1=>f' i,?_,?_⟩
      · intro i n text g' hi hg' ht'
        cases i with
        |zero=>
          simp only[List.getElem?_cons_zero,Option.some.injEq] at hi;subst hi;obtain rfl:=Option.some.inj (hg.symm.trans hg');exact absurd ⟨text,rfl,Option.some.inj (ht.symm.trans ht')⟩ hy
        |succ i=>
          obtain⟨b1,b2,b3⟩:=hf1 i n text g' (by simpa using hi) hg' ht';exact⟨b1,b2,by simp[b3]⟩
      · intro i j n n' text text' g1 g2 hij hi hj hg1 hg2 ht1 ht2
        cases i with
        |zero=>
          simp only[List.getElem?_cons_zero,Option.some.injEq] at hi;subst hi;obtain rfl:=Option.some.inj (hg.symm.trans hg1);exact absurd ⟨text,rfl,Option.some.inj (ht.symm.trans ht1)⟩ hy
        |succ i=>
          cases j with
          |zero=>
            simp only[List.getElem?_cons_zero,Option.some.injEq] at hj;subst hj;obtain rfl:=Option.some.inj (hg.symm.trans hg2);exact absurd ⟨text',rfl,Option.some.inj (ht.symm.trans ht2)⟩ hy
          |succ j=>exact hf2 i j n n' text text' g1 g2 (by omega) (by simpa using hi) (by simpa using hj) hg1 hg2 ht1 ht2
end
section
open Go.ChangeShapes Go.WideShapes Go.ChangeAt Go.RowKit Go.Joins
set_option maxRecDepth 100000
theorem adZ:ownKnob prog.godebug=none:=by kernel_rfl
theorem Qz:prog.readableRec 25=true:=by kernel_rfl
theorem Yq:Kids prog (InBook prog 25):=kids_book (by kernel_rfl) Qz
theorem a5a:InBook prog 25 25:=⟨of_decide_eq_true (by kernel_rfl),book_self _⟩
theorem Ub {H:Type}{enc:TypeId×ah->H}{w:ag}{r:Reach}{b0 base:Nat}{spare:Nat->Bool}{held:Bool}{v:ah}{d:DataW H}{p:List MemPlace}
    (hv:Value.okWide prog w r b0 25 v) (h:DataW.Trod enc prog w base spare held 25 v d p):
    ∃c0 c1 c2 n,v=.agg #[c0,c1,c2]/\jX w c0 c1 c2 n:=by
  obtain⟨cs,rfl, -⟩:=okWide_struct underlying25 hv;obtain⟨fuel,hf⟩:=h;obtain⟨c0,c1,c2,n,hc,hn⟩:=Pb fuel hf;obtain rfl:cs=#[c0,c1,c2]:=by
    cases cs;simp[Value.cells] at hc;simp[hc]
  exact⟨c0,c1,c2,n,rfl,hn⟩
theorem Oi {H:Type}{enc:TypeId×ah->H}{W W':ag}{sp:Nat->Bool}{v:ah}{d:DataW H}{p:List MemPlace}(hb:Below W.heap.size W W')
    (h:DataW.Trod enc prog W 0 (fun _=>true) true 25 v d p) (hs:∀x∈p,sp x.block=true) (hl:∀x∈p,x.block<W.heap.size):DataW.Trod enc prog W' 0 sp true 25 v d p:=by
  obtain⟨n,hn⟩:=DataW.Trod.respare Yq (fun t e ht hu=>book_sized Qz ht hu) a5a h hs;exact⟨n,DataW.trod_carry n _ _ _ hn (fun x hx=>hb.same (hl x hx))⟩
theorem Yr:prog.readableRec 26=true:=by kernel_rfl
theorem a1s:Kids prog (InBook prog 26):=kids_book (by kernel_rfl) Yr
theorem a9f:InBook prog 26 26:=⟨of_decide_eq_true (by kernel_rfl),book_self _⟩
theorem Yt {H:Type}{enc:TypeId×ah->H}{w:ag}{r:Reach}{b0 base:Nat}{spare:Nat->Bool}{held:Bool}{v:ah}{d:DataW H}{p:List MemPlace}
  (hv:Value.okWide prog w r b0 26 v) (h:DataW.Trod enc prog w base spare held 26 v d p):
  ∃o l cap,v=.slice o l.length cap/\vW w o l:=by
 obtain⟨a,len,cap,rfl⟩:=okWide_slice underlying26 hv;obtain⟨fuel,hf⟩:=h;obtain⟨v,l,hc,o,cap',hv',hl⟩:=Yc hf;obtain rfl:Value.slice a len cap=v:=by simpa[Value.cells] using hc
 exact⟨o,l,cap',hv',hl⟩
theorem Uc {H:Type}{enc:TypeId×ah->H}{W W':ag}{sp:Nat->Bool}{v:ah}{d:DataW H}{p:List MemPlace}(hb:Below W.heap.size W W')
  (h:DataW.Trod enc prog W 0 (fun _=>true) true 26 v d p) (hs:∀x∈p,sp x.block=true) (hl:∀x∈p,x.block<W.heap.size):DataW.Trod enc prog W' 0 sp true 26 v d p:=by
 obtain⟨n,hn⟩:=DataW.Trod.respare a1s (fun t e ht hu=>book_sized Yr ht hu) a9f h hs;exact⟨n,DataW.trod_carry n _ _ _ hn (fun x hx=>hb.same (hl x hx))⟩
end
section
open Go.ChangeShapes Go.WideShapes Go.RowKit
theorem a2v:"*"++"errors.errorString"="*errors.errorString":=by decide
theorem a1t:∃ms f,Oh prog 33 390 392 9 ms f:=
  ⟨_,_,{hi:=underlying33,hrow:=fun u h=>typeName_ptr_named (nm:="errors.errorString") (by rw[a2v];kernel_rfl) (by kernel_rfl) (by decide) u (by rw[a2v];exact h),hp:=underlying390,he:=underlying392,hft:=rfl,hfo:=rfl,hs:=underlying9,hc:=by kernel_rfl,hcs:=by kernel_rfl}⟩
def rH (k:Nat):String×DataW Unit:=match k with
  |1=>("leadlight/api.ErrText",Rows.laid_leadlight_api_ErrText)
  |2=>("leadlight/api.ErrBound",Rows.laid_leadlight_api_ErrBound)
  |3=>("leadlight/api.ErrShape",Rows.laid_leadlight_api_ErrShape)
  |4=>("leadlight/api.ErrName",Rows.laid_leadlight_api_ErrName)
  |5=>("leadlight/api.ErrNone",Rows.laid_leadlight_api_ErrNone)
  |6=>("leadlight/api.ErrExist",Rows.laid_leadlight_api_ErrExist)
  |7=>("leadlight/api.ErrFull",Rows.laid_leadlight_api_ErrFull)
  |8=>("leadlight/api.ErrDeep",Rows.laid_leadlight_api_ErrDeep)
  |9=>("leadlight/api.ErrCycle",Rows.laid_leadlight_api_ErrCycle)
  |10=>("leadlight/api.ErrValue",Rows.laid_leadlight_api_ErrValue)
  |11=>("strconv.ErrRange",Rows.laid_strconv_ErrRange)
  |_=>("strconv.ErrSyntax",Rows.laid_strconv_ErrSyntax)
def oH (k:Nat):Nat:=match k with
  |1=>1|2=>0|3=>3|4=>4|5=>6|6=>9|7=>2|8=>7|9=>5|10=>8|11=>13|_=>12
theorem oI:∀k,1<=k ->k<=12 ->(∃text,(rH k).2=sent text)/\ prog.globalNamed (rH k).1=some (oH k)/\ (prog.globals[oH k]?).map (·.type)=some 33:=by
  intro k h1 h2;rcases k with _|_|_|_|_|_|_|_|_|_|_|_|_|k
  all_goals first|omega|exact⟨⟨_,rfl⟩,by kernel_rfl,by kernel_rfl⟩
theorem a9g {W:ag}{l:List (String×DataW Unit)}(idx:Nat ->Nat)(hi:∀j k,j≠k ->1<=j ->1<=k ->j<=12 ->k<=12 ->idx j≠idx k)(hl:∀k,1<=k ->k<=12 ->l[idx k]? =some (rH k))(hx:("internal/strconv.uint64pow10",Rows.laid_internal_strconv_uint64pow10)∈l)(h:laidMet prog l W):∃E,NE E W/\ DE E W:=by
  have hT:Lib.TabIs prog W "internal/strconv.uint64pow10" .u64 Lib.pow10Tab:=
    Lib.tabIs_of_head (rest:=[]) a3R (by kernel_rfl) underlying394 underlying313 (by kernel_rfl) (by kernel_rfl) (Ll h hx)
  obtain⟨ps,hv,hn,hk⟩:=h;obtain⟨ms,f,S⟩:=a1t;obtain⟨a,ha,hne⟩:=a9e S hv hn hk;have key:∀k,1<=k ->k<=12 ->W.cell? (ak (oH k) 0)=some (.iface 390 (.pointer (some (a (idx k)))))/\ ∃c t,W.heap[(a (idx k)).block]? =some (.cells c t (0,0)):=by
    intro k h1 h2;obtain⟨⟨text,ht⟩,hg,hty⟩:=oI k h1 h2;have:=ha (idx k) (rH k).1 text (oH k) (by rw[hl k h1 h2,<- ht]) hg hty;exact⟨this.1,this.2.1⟩
  have c:=fun k h1 h2=>(key k h1 h2).1;refine⟨fun k=>a (idx k),⟨c 1 (by decide) (by decide),c 2 (by decide) (by decide),c 3 (by decide) (by decide),c 7 (by decide) (by decide),c 9 (by decide) (by decide),c 10 (by decide) (by decide),⟨_,c 12 (by decide) (by decide)⟩,⟨_,c 11 (by decide) (by decide)⟩,hT,fun k k1 k2=>(key k k1 (by omega)).2,?_⟩,
    ⟨c 2 (by decide) (by decide),c 3 (by decide) (by decide),c 4 (by decide) (by decide),c 5 (by decide) (by decide),c 6 (by decide) (by decide),c 7 (by decide) (by decide),c 8 (by decide) (by decide),c 9 (by decide) (by decide),c 10 (by decide) (by decide)⟩⟩
  intro j k j1 j2 k1 k2 hjk;obtain⟨⟨t1,ht1⟩,hg1,ae0⟩:=oI j j1 (by omega);obtain⟨⟨t2,ht2⟩,hg2,ae1⟩:=oI k k1 (by omega);exact hne (idx j) (idx k) _ _ t1 t2 _ _ (hi j k hjk j1 k1 (by omega) (by omega)) (by rw[hl j j1 (by omega),<- ht1]) (by rw[hl k k1 (by omega),<- ht2]) hg1 hg2 ae0 ae1
theorem a5b:(prog.cutTypes.find? (·.1=="internal/reflectlite.rtype")).map (·.2)=some 302:=by kernel_rfl
theorem a5c:((List.range 430).filter fun t=>prog.rowNamed t [101,114,114,111,114])=[33]:=by kernel_rfl
theorem Ud:prog.types.size=430:=by kernel_rfl
theorem Oj:prog.globalNamed "errors.errorType"=some 11:=by kernel_rfl
theorem Ue {W:ag}(h:handlesMet prog [("errors.errorType",Rows.laid_errors_errorType)] W):W.cell? (ak 11 0)=some (.iface 302 (.agg #[hE])):=by
 obtain⟨name,u,ty,e1,e2,e3,e4,e5⟩:=h _ (List.mem_singleton.2 rfl);have en:name=[101,114,114,111,114]:=(Option.some.inj e1).symm;subst en;obtain rfl:=Option.some.inj (a5b.symm.trans e2);have hm:ty∈(List.range 430).filter fun t=>prog.rowNamed t [101,114,114,111,114]:=List.mem_filter.2 ⟨List.mem_range.2 (by rw[<- Ud];exact e3),e4⟩;rw[a5c] at hm;obtain rfl:=List.mem_singleton.1 hm;have hh:typeHandle prog 33=.pointer (some ⟨19,33,none⟩):=by kernel_rfl
 rw[hh] at e5;simpa using World.var?_cell Oj e5 0
end
end Go.Proofs.YtjfiehbcamfdfaaGreatDoor

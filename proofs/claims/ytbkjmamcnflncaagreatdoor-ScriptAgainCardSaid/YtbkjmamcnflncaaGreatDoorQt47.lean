import Derived.LaidHandle
import Derived.Test.YtbkjmamcnflncaaGreatDoorCards
import Derived.Test.YtbkjmamcnflncaaGreatDoorTie
import Derived.Test.YtbkjmamcnflncaaGreatDoorQt39
import Derived.ProofKit
namespace Go.Proofs.YtbkjmamcnflncaaGreatDoor
open Go.Proofs.Tryz
section
open Go.ChangeShapes Go.RowKit
theorem Tz {P:Program}{w:ai}:∀{l:List (String×DataW Unit)} {x:String×DataW Unit},laidMet P l w ->x∈l ->laidMet P [x] w:=by
  intro l
  induction l with
  |nil=>intro x _ d;cases d
  |cons y r j=>
    intro x h d;obtain⟨v,⟨g,t,k,e,p,q,m,n,o,s,u,rfl⟩,f,i⟩:=h;rcases gP.1 d with rfl|d
    . exact⟨_,⟨g,t,k,e,p,[],m,n,o,s,rfl,rfl⟩,by simpa using(List.nodup_append.1 f).1,λb a c=>i b a (by simp at c⊢;rcases c with c|c<;>simp[c])⟩
    . exact j ⟨q,u,(List.nodup_append.1 f).2.1,λb a c=>i b a (by simp[c])⟩ d
def sent (a:List UInt8):DataW Unit:= .iface "*errors.errorString" (.ptr (.agg [.lit (.string a)]))
structure Wn (P:Program)(ti tp te ts:TypeId)(ms:Array (String×TypeId))(f:Field):Prop where
  hi:P.underlying ti=some (.interface ms)
  hrow:∀u,P.typeName? 3 u=some "*errors.errorString" ->u=tp
  hp:P.underlying tp=some (.pointer te)
  he:P.underlying te=some (.struct #[f])
  hft:f.type=ts
  hfo:f.offset=0
  hs:P.underlying ts=some .string
  hc:P.cellsOf te=1
  hcs:P.cellsOf ts=1
theorem a5F {P:Program}{w:ai}{i j r x:TypeId}{y:Array (String×TypeId)}{z:Field}(S:Wn P i j r x y z){fuel g:Nat}{n:String}{cs:Array ax}{d:List UInt8}{p:List MemPlace}
    (k:P.globalNamed n=some g) (m:w.var? P n=some cs) (A:DataW.trod (λ_=>()) P w 0 (λ_=>true) false fuel i cs.toList=some (sent d,p))
    (o:∀b off,MemPlace.cell b off∈MemPlace.row ⟨g,0,none⟩ cs.size++p ->(∃c t,w.heap[b]? =some (ak c t (0,0)))/\ ∀u v,w.cell? (aJ b off)=some (.iface u v) ->Value.okWide P w .any 0 u v):
    ∃a,w.cell? (aJ g 0)=some (.iface j (.pointer (some a)))/\ (∃c t,w.heap[a.block]? =some (ak c t (0,0)))/\ MemPlace.cell a.block a.off∈p/\ w.cell? a=some (.string ⟨d.toArray⟩):=by
  obtain⟨l⟩:=cs;have B:∀u v,l=[.iface u v] ->Value.okWide P w .any 0 u v:=λu v e=>by
    subst e;exact(o g 0 (by simp[MemPlace.row])).2 u v (by simpa using World.var?_cell k m 0)
  obtain⟨a,s,rfl,f,h,C,rfl⟩:=errorString_of_trod S.hi S.hrow S.hp S.he S.hft S.hfo S.hs S.hc S.hcs A B;have q:MemPlace.cell a.block a.off∈MemPlace.row a 1:=by simp[MemPlace.row]
  refine⟨a,by simpa using World.var?_cell k m 0,(o a.block a.off (by simp[q])).1,q,by rw[f,<- h]⟩
theorem ahN {P:Program}{w:ai}{J tp te ts:TypeId}{ms:Array (String×TypeId)}{fd:Field}(S:Wn P J tp te ts ms fd):
    ∀{l:List (String×DataW Unit)} {I:List MemPlace},DataW.LaidVars P w l I ->I.Nodup ->(∀b off,MemPlace.cell b off∈I ->(∃c t,w.heap[b]? =some (ak c t (0,0)))/\ ∀u v,w.cell? (aJ b off)=some (.iface u v) ->Value.okWide P w .any 0 u v) ->
      ∃f:Nat ->Addr,(∀i n d g,l[i]? =some (n,sent d) ->P.globalNamed n=some g ->(P.globals[g]?).map (·.type)=some J ->w.cell? (aJ g 0)=some (.iface tp (.pointer (some (f i))))/\ (∃c t,w.heap[(f i).block]? =some (ak c t (0,0)))/\ MemPlace.cell (f i).block (f i).off∈I/\ w.cell? (f i)=some (.string ⟨d.toArray⟩))/\
        (∀i j n x d k g z,i≠j ->l[i]? =some (n,sent d) ->l[j]? =some (x,sent k) ->P.globalNamed n=some g ->P.globalNamed x=some z ->(P.globals[g]?).map (·.type)=some J ->(P.globals[z]?).map (·.type)=some J ->f i≠f j):=by
  intro l
  induction l with
  |nil=>intro I _ _ _;exact⟨λ_=>⟨0,0,none⟩,aI,aI⟩
  |cons y r ih=>
    intro I h hn hk;obtain⟨g,t,cs,a5,p,q,K,U,hv,hd,hr,rfl⟩:=h;obtain⟨V,F,L⟩:=ih hr (List.nodup_append.1 hn).2.1 (λb off Q=>hk b off (by simp[Q]));by_cases H:∃d,y.2=sent d/\ t=J
    . obtain⟨d,H,rfl⟩:=H
      rw[H] at hd;obtain⟨a,a1,a2,a3,a4⟩:=a5F S K hv hd (λb off Q=>hk b off (by simp only[iw] at Q⊢;exact Or.inl Q));have M:∀j x k z,r[j]? =some (x,sent k) ->P.globalNamed x=some z ->(P.globals[z]?).map (·.type)=some t ->a≠V j:=by
        intro j x k z E m s e;have:=(F j x k z E m s).2.2.1;rw[<- e] at this;exact(List.nodup_append.1 hn).2.2 _ (by simp[a3]) _ this rfl
      refine⟨λ|0=>a|i+1=>V i,?_,?_⟩
      . intro i n N z o m s
        cases i with
        |zero=>
          simp only[List.getElem?_cons_zero,Option.some.injEq] at o;subst o;obtain rfl:=fT (K.symm.trans m);obtain rfl:N=d:=by simpa[sent] using H
          exact⟨a1,a2,by simp[a3],a4⟩
        |succ i=>
          obtain⟨W,X,Y,Z⟩:=F i n N z (by simpa using o) m s;exact⟨W,X,by simp[Y],Z⟩
      . intro i j n x d k R T O o E A B C D
        cases i with
        |zero=>
          cases j with
          |zero=>exact absurd rfl O
          |succ j=>exact M j x k T (by simpa using E) B D
        |succ i=>
          cases j with
          |zero=>exact λe=>M i n d R (by simpa using o) A C e.symm
          |succ j=>exact L i j n x d k R T aa (by simpa using o) (by simpa using E) A B C D
    . refine⟨λ|0=>⟨0,0,none⟩|i+1=>V i,?_,?_⟩
      . intro i n d z o m s
        cases i with
        |zero=>
          simp only[List.getElem?_cons_zero,Option.some.injEq] at o;subst o;obtain rfl:=fT (K.symm.trans m);exact absurd ⟨d,rfl,fT (U.symm.trans s)⟩ H
        |succ i=>
          obtain⟨W,X,Y,Z⟩:=F i n d z (by simpa using o) m s;exact⟨W,X,by simp[Y],Z⟩
      . intro i j n x d k R T O o E A B C D
        cases i with
        |zero=>
          simp only[List.getElem?_cons_zero,Option.some.injEq] at o;subst o;obtain rfl:=fT (K.symm.trans A);exact absurd ⟨d,rfl,fT (U.symm.trans C)⟩ H
        |succ i=>
          cases j with
          |zero=>
            simp only[List.getElem?_cons_zero,Option.some.injEq] at E;subst E;obtain rfl:=fT (K.symm.trans B);exact absurd ⟨k,rfl,fT (U.symm.trans D)⟩ H
          |succ j=>exact L i j n x d k R T aa (by simpa using o) (by simpa using E) A B C D
end
open Go.ChangeShapes Go.WideShapes Go.RowKit
theorem aaH:"*"++"errors.errorString"="*errors.errorString":=aC
theorem a9B:∃a f,Wn prog 25 453 455 9 a f:=
  ⟨_,_,{hi:=underlying25,hrow:=λu h=>typeName_ptr_named (nm:="errors.errorString") (by rw[aaH];kernel_rfl) aA aC u (by rw[aaH];exact h),hp:=underlying453,he:=underlying455,hft:=rfl,hfo:=rfl,hs:=underlying9,hc:=aA,hcs:=by kernel_rfl}⟩
def qJ (k:Nat):String×DataW Unit:=match k with
  |1=>("leadlight/api.ErrText",Rows.laid_leadlight_api_ErrText)
  |2=>("leadlight/api.ErrBound",Rows.laid_leadlight_api_ErrBound)
  |3=>("leadlight/api.ErrShape",Rows.laid_leadlight_api_ErrShape)
  |4=>("leadlight/api.ErrName",Rows.laid_leadlight_api_ErrName)
  |5=>("leadlight/api.ErrNone",Rows.laid_leadlight_api_ErrNone)
  |6=>("leadlight/api.ErrExist",Rows.laid_leadlight_api_ErrExist)
  |7=>("leadlight/api.ErrFull",Rows.laid_leadlight_api_ErrFull)
  |8=>("leadlight/api.ErrDeep",Rows.laid_leadlight_api_ErrDeep)
  |9=>("leadlight/api.ErrCycle",Rows.laid_leadlight_api_ErrCycle)
  |10=>("leadlight/api.ErrValue",Rows.laid_leadlight_api_ErrValue)
  |11=>("leadlight/api.ErrZero",Rows.laid_leadlight_api_ErrZero)
  |12=>("strconv.ErrRange",Rows.laid_strconv_ErrRange)
  |_=>("strconv.ErrSyntax",Rows.laid_strconv_ErrSyntax)
def vD (k:Nat):Nat:=match k with
  |1=>1|2=>0|3=>2|4=>3|5=>4|6=>5|7=>6|8=>7|9=>8|10=>9|11=>10|12=>17|_=>16
theorem vF:∀k,1<=k ->k<=13 ->(∃a,(qJ k).2=sent a)/\ prog.globalNamed (qJ k).1=some (vD k)/\ (prog.globals[vD k]?).map (·.type)=some 25:=by
  intro k b c;rcases k with _|_|_|_|_|_|_|_|_|_|_|_|_|_|k
  all_goals first|omega|exact⟨⟨_,rfl⟩,aA,aA⟩
theorem adT:(prog.cutTypes.find? (·.1=="internal/reflectlite.rtype")).map (·.2)=some 208:=aA
theorem adU:((List.range 491).filter λt=>prog.rowNamed t [101,114,114,111,114])=[25]:=aA
theorem a0R:prog.types.size=491:=aA
theorem Wo:prog.globalNamed "errors.errorType"=some 11:=aA
theorem Mo {W:ai}(h:handlesMet prog [("errors.errorType",Rows.laid_errors_errorType)] W):W.cell? (aJ 11 0)=some (.iface 208 (.agg #[hE])):=by
  obtain⟨a,u,d,e,f,g,i,b⟩:=h _ (List.mem_singleton.2 rfl);have j:a=[101,114,114,111,114]:=(fT e).symm;subst j;obtain rfl:=fT (adT.symm.trans f);have c:d∈(List.range 491).filter λt=>prog.rowNamed t [101,114,114,111,114]:=mD.2 ⟨List.mem_range.2 (by rw[<- a0R];exact g),i⟩;rw[adU] at c;obtain rfl:=List.mem_singleton.1 c;have k:typeHandle prog 25= .pointer (some ⟨25,25,none⟩):=aA;rw[k] at b;simpa using World.var?_cell Wo b 0
def Wp (k:Nat):Bs:=match(qJ k).2 with
  | .iface _ (.ptr (.agg [.lit (.string t)]))=>t
  |_=>[]
theorem a9C {k:Nat}{a:Bs}(h:(qJ k).2=sent a):Wp k=a:=by
  unfold Wp;rw[h];rfl
theorem ahO {W:ai}{l:List (String×DataW Unit)}(m:Nat)(P:10<=m)(Q:m<=11)(e:Nat ->Nat)(hi:∀j k,j≠k ->e j≠e k)(y:∀k,1<=k ->k<=13 ->(k<=m \/12<=k) ->l[e k]? =some (qJ k))(p:("internal/strconv.uint64pow10",Rows.laid_internal_strconv_uint64pow10)∈l)(h:laidMet prog l W)(L:handlesMet prog [("errors.errorType",Rows.laid_errors_errorType)] W)(R:TF W):∃E,(m=11 ->EE E W)/\ PE E W/\ Tj E Wp W:=by
  have T:Lib.TabIs prog W "internal/strconv.uint64pow10" .u64 Lib.pow10Tab:=
    Lib.tabIs_of_head (rest:=[]) abR aA underlying358 underlying307 aA aA (Tz h p)
  obtain⟨ps,U,V,X⟩:=h;obtain⟨ms,f,S⟩:=a9B;obtain⟨a,Y,z⟩:=ahN S U V X;have n:∀k,1<=k ->k<=13 ->(k<=m \/12<=k) ->W.cell? (aJ (vD k) 0)=some (.iface 453 (.pointer (some (a (e k)))))/\ (∃c t,W.heap[(a (e k)).block]? =some (ak c t (0,0)))/\ W.cell? (a (e k))=some (bV (Wp k)):=by
    intro k q u v;obtain⟨⟨w,M⟩,Z,A⟩:=vF k q u;have:=Y (e k) (qJ k).1 w (vD k) (by rw[y k q u v,<- M]) Z A;exact⟨this.1,this.2.1,by rw[a9C M];exact this.2.2.2⟩
  have c:=λk q u v=>(n k q u v).1;have N:∀k,1<=k ->k<=m ->∃c t,W.heap[(a (e k)).block]? =some (ak c t (0,0)):=λk g i=>(n k g aa (.inl i)).2.1;have O:∀j k,1<=j ->j<=m ->1<=k ->k<=m ->j≠k ->a (e j)≠a (e k):=by
    intro j k r B g i C;obtain⟨⟨t1,D⟩,F,H⟩:=vF j r aa;obtain⟨⟨t2,I⟩,J,K⟩:=vF k g aa;exact z (e j) (e k) _ _ t1 t2 _ _ (hi j k C) (by rw[y j r aa (.inl B),<- D]) (by rw[y k g aa (.inl i),<- I]) F J H K
  have d:=λk (q:1<=k) (u:k<=10)=>c k q aa (.inl aa);refine⟨λk=>a (e k),λa4=>⟨d 1 aC aC,d 2 aC aC,d 3 aC aC,d 4 aC aC,d 5 aC aC,d 6 aC aC,d 7 aC aC,d 8 aC aC,d 9 aC aC,d 10 aC aC,c 11 aC aC (.inl aa),Mo L,λk g i=>N k g aa,λj k r B g i=>O j k r aa g aa⟩,
    ⟨⟨⟨d 1 aC aC,d 2 aC aC,d 3 aC aC,d 7 aC aC,d 9 aC aC,d 10 aC aC,⟨_,c 13 aC aC (.inr aC)⟩,⟨_,c 12 aC aC (.inr aC)⟩,T,λk g i=>N k g aa,λj k r B g i=>O j k r aa g aa⟩,
      ⟨d 2 aC aC,d 3 aC aC,d 4 aC aC,d 5 aC aC,d 6 aC aC,d 7 aC aC,d 8 aC aC,d 9 aC aC,d 10 aC aC⟩,Mo L⟩,R⟩,λk g i=> ?_⟩
  have v:=(n k g aa (.inl aa)).2.2;have h4:∀x:Addr,W.cell? x=some (bV (Wp k)) ->∃b o,x=⟨b,o,none⟩/\ W.cell? (aJ b o)=some (bV (Wp k)):=λx p=>by
    obtain⟨b,o,sp⟩:=x;cases sp with
    |some s=>
      simp[World.cell?] at p;split at p<;>cases p
    |none=>exact⟨b,o,rfl,p⟩
  exact h4 _ v

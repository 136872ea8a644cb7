/-
  Parts of the proof.
-/
import Derived.Test.YtjfiehbcamfdfaaGreatDoorQy44
namespace Go.Proofs.YtjfiehbcamfdfaaGreatDoor
open Go.Proofs.Tryz
section
open Go.ChangeShapes Go.WideShapes Go.RowKit
theorem a2c:"*"++"errors.errorString"="*errors.errorString":=by decide
theorem a1f:∃ms f,NP prog 33 390 392 9 ms f:=
  ⟨_,_,{hi:=underlying33,hrow:=fun u h=>typeName_ptr_named (nm:="errors.errorString") (by rw[a2c];kernel_rfl) (by kernel_rfl) (by decide) u (by rw[a2c];exact h),hp:=underlying390,he:=underlying392,hft:=rfl,hfo:=rfl,hs:=underlying9,hc:=by kernel_rfl,hcs:=by kernel_rfl}⟩
def rY (k:Nat):String×DataW Unit:=match k with
  |1=>("leadlight/api.ErrText",Rows.laid_leadlight_api_ErrText)
  |2=>("leadlight/api.ErrBound",Rows.laid_leadlight_api_ErrBound)
  |3=>("leadlight/api.ErrShape",Rows.laid_leadlight_api_ErrShape)
  |4=>("leadlight/api.ErrName",Rows.laid_leadlight_api_ErrName)
  |5=>("leadlight/api.ErrNone",Rows.laid_leadlight_api_ErrNone)
  |6=>("leadlight/api.ErrExist",Rows.laid_leadlight_api_ErrExist)
  |7=>("leadlight/api.ErrFull",Rows.laid_leadlight_api_ErrFull)
  |8=>("leadlight/api.ErrDeep",Rows.laid_leadlight_api_ErrDeep)
  |9=>("leadlight/api.ErrCycle",Rows.laid_leadlight_api_ErrCycle)
  |10=>("leadlight/api.ErrValue",Rows.laid_leadlight_api_ErrValue)
  |11=>("strconv.ErrRange",Rows.laid_strconv_ErrRange)
  |_=>("strconv.ErrSyntax",Rows.laid_strconv_ErrSyntax)
def pF (k:Nat):Nat:=match k with
  |1=>1|2=>0|3=>3|4=>4|5=>6|6=>9|7=>2|8=>7|9=>5|10=>8|11=>13|_=>12
theorem pG:∀k,1<=k ->k<=12 ->(∃text,(rY k).2=sent text)/\ prog.globalNamed (rY k).1=some (pF k)/\ (prog.globals[pF k]?).map (·.type)=some 33:=by
  intro k h1 h2;rcases k with _|_|_|_|_|_|_|_|_|_|_|_|_|k
  all_goals first|omega|exact⟨⟨_,rfl⟩,by kernel_rfl,by kernel_rfl⟩
theorem a8W {W:World}{l:List (String×DataW Unit)}(idx:Nat ->Nat)(hi:∀j k,j≠k ->1<=j ->1<=k ->j<=12 ->k<=12 ->idx j≠idx k)(hl:∀k,1<=k ->k<=12 ->l[idx k]? =some (rY k))(hx:("internal/strconv.uint64pow10",Rows.laid_internal_strconv_uint64pow10)∈l)(h:laidMet prog l W):∃E,NE E W/\ DE E W:=by
  have hT:Lib.TabIs prog W "internal/strconv.uint64pow10" .u64 Lib.pow10Tab:=
    Lib.tabIs_of_head (rest:=[]) a3M (by kernel_rfl) underlying394 underlying313 (by kernel_rfl) (by kernel_rfl) (L8 h hx)
  obtain⟨ps,hv,hn,hk⟩:=h;obtain⟨ms,f,S⟩:=a1f;obtain⟨a,ha,hne⟩:=a8V S hv hn hk;have key:∀k,1<=k ->k<=12 ->W.cell? (ag (pF k) 0)=some (.iface 390 (.pointer (some (a (idx k)))))/\ ∃c t,W.heap[(a (idx k)).block]? =some (.cells c t (0,0)):=by
    intro k h1 h2;obtain⟨⟨text,ht⟩,hg,hty⟩:=pG k h1 h2;have:=ha (idx k) (rY k).1 text (pF k) (by rw[hl k h1 h2,<- ht]) hg hty;exact⟨this.1,this.2.1⟩
  have c:=fun k h1 h2=>(key k h1 h2).1;refine⟨fun k=>a (idx k),⟨c 1 (by decide) (by decide),c 2 (by decide) (by decide),c 3 (by decide) (by decide),c 7 (by decide) (by decide),c 9 (by decide) (by decide),c 10 (by decide) (by decide),⟨_,c 12 (by decide) (by decide)⟩,⟨_,c 11 (by decide) (by decide)⟩,hT,fun k k1 k2=>(key k k1 (by omega)).2,?_⟩,
    ⟨c 2 (by decide) (by decide),c 3 (by decide) (by decide),c 4 (by decide) (by decide),c 5 (by decide) (by decide),c 6 (by decide) (by decide),c 7 (by decide) (by decide),c 8 (by decide) (by decide),c 9 (by decide) (by decide),c 10 (by decide) (by decide)⟩⟩
  intro j k j1 j2 k1 k2 hjk;obtain⟨⟨t1,ht1⟩,hg1,adD⟩:=pG j j1 (by omega);obtain⟨⟨t2,ht2⟩,hg2,adE⟩:=pG k k1 (by omega);exact hne (idx j) (idx k) _ _ t1 t2 _ _ (hi j k hjk j1 k1 (by omega) (by omega)) (by rw[hl j j1 (by omega),<- ht1]) (by rw[hl k k1 (by omega),<- ht2]) hg1 hg2 adD adE
end
section
open Go.ChangeShapes Go.WideShapes Go.RowKit
theorem a5f:(prog.cutTypes.find? (·.1=="internal/reflectlite.rtype")).map (·.2)=some 302:=by kernel_rfl
theorem a5g:((List.range 430).filter fun t=>prog.rowNamed t [101,114,114,111,114])=[33]:=by kernel_rfl
theorem Tn:prog.types.size=430:=by kernel_rfl
theorem NT:prog.globalNamed "errors.errorType"=some 11:=by kernel_rfl
theorem Tp {W:World}(h:handlesMet prog [("errors.errorType",Rows.laid_errors_errorType)] W):W.cell? (ag 11 0)=some (.iface 302 (.agg #[hE])):=by
 obtain⟨name,u,ty,e1,e2,e3,e4,e5⟩:=h _ (List.mem_singleton.2 rfl);have en:name=[101,114,114,111,114]:=(Option.some.inj e1).symm;subst en;obtain rfl:=Option.some.inj (a5f.symm.trans e2);have hm:ty∈(List.range 430).filter fun t=>prog.rowNamed t [101,114,114,111,114]:=List.mem_filter.2 ⟨List.mem_range.2 (by rw[<- Tn];exact e3),e4⟩;rw[a5g] at hm;obtain rfl:=List.mem_singleton.1 hm;have hh:typeHandle prog 33=.pointer (some ⟨19,33,none⟩):=by kernel_rfl
 rw[hh] at e5;simpa using World.var?_cell NT e5 0
end
end Go.Proofs.YtjfiehbcamfdfaaGreatDoor

/- Parts of the proof. -/
import Derived.Test.YtecneflbncjhpaaGreatDoorQp42
namespace Go.Proofs.YtecneflbncjhpaaGreatDoor
open Go.Proofs.Tryz
open Go.ChangeShapes Go.WideShapes Go.RowKit
theorem a4y:"*"++"errors.errorString"="*errors.errorString":=by decide
theorem a3z:∃ms f,Q8 prog 26 401 403 9 ms f:=
 ⟨_,_,{hi:=underlying26,hrow:=fun u h=>typeName_ptr_named (nm:="errors.errorString") (by rw[a4y];kernel_rfl) (by kernel_rfl) (by decide) u (by rw[a4y];exact h),hp:=underlying401,he:=underlying403,hft:=rfl,hfo:=rfl,hs:=underlying9,hc:=by kernel_rfl,hcs:=by kernel_rfl}⟩
def tF (k:Nat):String×DataW Unit:=match k with
 |1=>("leadlight/api.ErrText",Rows.laid_leadlight_api_ErrText)
 |2=>("leadlight/api.ErrBound",Rows.laid_leadlight_api_ErrBound)
 |3=>("leadlight/api.ErrShape",Rows.laid_leadlight_api_ErrShape)
 |4=>("leadlight/api.ErrName",Rows.laid_leadlight_api_ErrName)
 |5=>("leadlight/api.ErrNone",Rows.laid_leadlight_api_ErrNone)
 |6=>("leadlight/api.ErrExist",Rows.laid_leadlight_api_ErrExist)
 |7=>("leadlight/api.ErrFull",Rows.laid_leadlight_api_ErrFull)
 |8=>("leadlight/api.ErrDeep",Rows.laid_leadlight_api_ErrDeep)
 |9=>("leadlight/api.ErrCycle",Rows.laid_leadlight_api_ErrCycle)
 |10=>("leadlight/api.ErrValue",Rows.laid_leadlight_api_ErrValue)
 |11=>("leadlight/api.ErrZero",Rows.laid_leadlight_api_ErrZero)
 |12=>("strconv.ErrRange",Rows.laid_strconv_ErrRange)
 |_=>("strconv.ErrSyntax",Rows.laid_strconv_ErrSyntax)
def qj (k:Nat):Nat:=match k with
 |1=>1|2=>0|3=>3|4=>4|5=>5|6=>6|7=>2|8=>7|9=>8|10=>9|11=>10|12=>15|_=>14
theorem qm:∀k,1<=k->k<=13->(∃text,(tF k).2=sent text)/\prog.globalNamed (tF k).1=some (qj k)/\(prog.globals[qj k]?).map (·.type)=some 26:=by
 intro k h1 h2;rcases k with _|_|_|_|_|_|_|_|_|_|_|_|_|_|k
 all_goals first|omega|exact⟨⟨_,rfl⟩,by kernel_rfl,by kernel_rfl⟩
theorem a7p:(prog.cutTypes.find? (·.1=="internal/reflectlite.rtype")).map (·.2)=some 235:=by kernel_rfl
theorem a7q:((List.range 434).filter fun t=>prog.rowNamed t [101,114,114,111,114])=[26]:=by kernel_rfl
theorem Vt:prog.types.size=434:=by kernel_rfl
theorem Qb:prog.globalNamed "errors.errorType"=some 11:=by kernel_rfl
theorem Vu {W:ag}(h:handlesMet prog [("errors.errorType",Rows.laid_errors_errorType)] W):W.cell? (ak 11 0)=some (.iface 235 (.agg #[hE])):=by
 obtain⟨name,u,ty,e1,e2,e3,e4,e5⟩:=h _ (List.mem_singleton.2 rfl);have en:name=[101,114,114,111,114]:=(dP e1).symm;subst en;obtain rfl:=dP (a7p.symm.trans e2);have hm:ty∈(List.range 434).filter fun t=>prog.rowNamed t [101,114,114,111,114]:=List.mem_filter.2 ⟨List.mem_range.2 (by rw[<- Vt];exact e3),e4⟩;rw[a7q] at hm;obtain rfl:=List.mem_singleton.1 hm;have hh:typeHandle prog 26=.pointer (some ⟨20,26,none⟩):=by kernel_rfl
 rw[hh] at e5;simpa using World.var?_cell Qb e5 0
theorem aba {W:ag}{l:List (String×DataW Unit)}(idx:Nat->Nat)(hi:∀j k,j≠k->idx j≠idx k)(hl:∀k,1<=k->k<=13->l[idx k]? =some (tF k))(hx:("internal/strconv.uint64pow10",Rows.laid_internal_strconv_uint64pow10)∈l)(h:laidMet prog l W)(hh:handlesMet prog [("errors.errorType",Rows.laid_errors_errorType)] W)(hm:VD W):∃E,PE E W:=by
 have hT:Lib.TabIs prog W "internal/strconv.uint64pow10" .u64 Lib.pow10Tab:=
  Lib.tabIs_of_head (rest:=[]) a6a (by kernel_rfl) underlying376 underlying320 (by kernel_rfl) (by kernel_rfl) (N8 h hx)
 obtain⟨ps,hv,hn,hk⟩:=h;obtain⟨ms,f,S⟩:=a3z;obtain⟨a,ha,hne⟩:=ab9 S hv hn hk;have key:∀k,1<=k->k<=13->W.cell? (ak (qj k) 0)=some (.iface 401 (.pointer (some (a (idx k)))))/\∃c t,W.heap[(a (idx k)).block]? =some (.cells c t (0,0)):=by
  intro k h1 h2;obtain⟨⟨text,ht⟩,hg,hty⟩:=qm k h1 h2;have:=ha (idx k) (tF k).1 text (qj k) (by rw[hl k h1 h2,<- ht]) hg hty;exact⟨this.1,this.2.1⟩
 have c:=fun k h1 h2=>(key k h1 h2).1;have hb:∀k,1<=k->k<=11->∃c t,W.heap[(a (idx k)).block]? =some (.cells c t (0,0)):=fun k k1 k2=>(key k k1 (by omega)).2;have hd:∀j k,1<=j->j<=11->1<=k->k<=11->j≠k->a (idx j)≠a (idx k):=by
  intro j k j1 j2 k1 k2 hjk;obtain⟨⟨t1,ht1⟩,hg1,afX⟩:=qm j j1 (by omega);obtain⟨⟨t2,ht2⟩,hg2,afY⟩:=qm k k1 (by omega);exact hne (idx j) (idx k) _ _ t1 t2 _ _ (hi j k hjk) (by rw[hl j j1 (by omega),<- ht1]) (by rw[hl k k1 (by omega),<- ht2]) hg1 hg2 afX afY
 exact⟨fun k=>a (idx k),⟨c 1 (by decide) (by decide),c 2 (by decide) (by decide),c 3 (by decide) (by decide),c 7 (by decide) (by decide),c 9 (by decide) (by decide),c 10 (by decide) (by decide),⟨_,c 13 (by decide) (by decide)⟩,⟨_,c 12 (by decide) (by decide)⟩,hT,fun k k1 k2=>hb k k1 (by omega),fun j k j1 j2 k1 k2=>hd j k j1 (by omega) k1 (by omega)⟩,
  ⟨c 1 (by decide) (by decide),c 2 (by decide) (by decide),c 3 (by decide) (by decide),c 4 (by decide) (by decide),c 5 (by decide) (by decide),c 6 (by decide) (by decide),c 7 (by decide) (by decide),c 8 (by decide) (by decide),c 9 (by decide) (by decide),c 10 (by decide) (by decide),c 11 (by decide) (by decide),Vu hh,hb,hd⟩,hm⟩
end Go.Proofs.YtecneflbncjhpaaGreatDoor

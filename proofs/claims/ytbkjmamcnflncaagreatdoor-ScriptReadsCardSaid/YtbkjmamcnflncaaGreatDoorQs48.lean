import Derived.Test.YtbkjmamcnflncaaGreatDoorQs45
import Derived.Lib.SmallJoins
import Derived.LaidMore
import Derived.Deep.DeepWitnessRowRef
import Derived.Test.YtbkjmamcnflncaaGreatDoorQs46
import Derived.Test.YtbkjmamcnflncaaGreatDoorQs47
import Derived.Lay
namespace Go.Proofs.YtbkjmamcnflncaaGreatDoor
open Go.Proofs.Tryz
open Go.ChangeShapes Go.WideShapes Go.ChangeAt Go.RowKit Go.Joins
set_option maxRecDepth 100000
namespace scriptReads
theorem a8S {W:ah}(h:laidMetH prog Rows.scriptReadsRow.laid W)(c:Sq W):∃E,EE E W/\PE E W/\Sz E Vw W:=by
 have a:laidMet prog [("math/bits.deBruijn32tab",Rows.laid_math_bits_deBruijn32tab),("math/bits.deBruijn64tab",Rows.laid_math_bits_deBruijn64tab),("internal/strconv.uint64pow10",Rows.laid_internal_strconv_uint64pow10),("unicode/utf8.acceptRanges",Rows.laid_unicode_utf8_acceptRanges),("leadlight/api.ErrText",Rows.laid_leadlight_api_ErrText),("leadlight/api.ErrBound",Rows.laid_leadlight_api_ErrBound),("leadlight/api.ErrShape",Rows.laid_leadlight_api_ErrShape),("leadlight/api.ErrName",Rows.laid_leadlight_api_ErrName),("leadlight/api.ErrNone",Rows.laid_leadlight_api_ErrNone),("leadlight/api.ErrExist",Rows.laid_leadlight_api_ErrExist),("leadlight/api.ErrFull",Rows.laid_leadlight_api_ErrFull),("leadlight/api.ErrDeep",Rows.laid_leadlight_api_ErrDeep),("leadlight/api.ErrCycle",Rows.laid_leadlight_api_ErrCycle),("leadlight/api.ErrValue",Rows.laid_leadlight_api_ErrValue),("leadlight/api.ErrZero",Rows.laid_leadlight_api_ErrZero),("strconv.ErrRange",Rows.laid_strconv_ErrRange),("strconv.ErrSyntax",Rows.laid_strconv_ErrSyntax),("unicode/utf8.first",Rows.laid_unicode_utf8_first)] W/\handlesMet prog [("errors.errorType",Rows.laid_errors_errorType)] W:=h;obtain⟨E,b,d,e⟩:=ah4 11 aC aC (λk=>k+3) (λj k h b=>aa) (λk f g i=>by
  rcases k with _|_|_|_|_|_|_|_|_|_|_|_|_|_|k
  all_goals first|omega|rfl) aG a.1 a.2 c
 exact⟨E,b rfl,d,e⟩
theorem contract (H:Type)(enc:TypeId×au->H)(W:ah)(c:Nat)(args:Array au)(o z:List (DataW H))(a:List MemPlace)
  (b:∀(j:Nat) t v,Tryz.f3.params[j]? =some t->args[j]? =some v->Value.okWide prog W .any c t v)
  (g:DataW.Whole enc prog Tryz.f3.params.toList Rows.scriptReadsSpec.vars false W args.toList o z a) (A:laidMetH prog Rows.scriptReadsRow.laid W) (i:World.ShapedOpen prog W):
  aJ 3 args W λe r=>∃v,e=ax v/\Rows.scriptReadsSpec.post enc prog Tryz.f3 false true false false W args v r:=by
 have k:=g;have d:=g.lt;obtain⟨p,q,f,B,rfl,C,D⟩:=g;have s:DataW.TrodAll enc prog W 0 (λ_=>true) true Tryz.f3.params.toList args.toList o p:=f;rw[Tryz.params3] at s b;obtain⟨u,F,Q,I,J,R,l,rfl,rfl,w,K⟩:=trodAll_cons s;obtain⟨rfl,rfl,rfl⟩:=trodAll_nil K;obtain rfl:args=#[u]:=by cases args;simp_all
 obtain⟨rfl,rfl⟩:=trodVars_none B;obtain⟨L,M,N,rfl,O⟩:=a0c (b 0 22 u rfl rfl) w;clear f;obtain⟨E,m⟩:=a8S A (Tryz.a13.s1_3 W i);refine(Eo m.1 m.2.1 m.2.2 az M L N O).mono λe r ⟨P,y⟩=>?_;subst P;refine⟨_,rfl,_,_,_,[],J++([]),[],k,?_,?_,?_,y.frame _,λh=>by cases h⟩
 .exact trodAll_mk1 (shut_bool underlying4 true)
 .exact trodAll_cons_mk (Vt y w (λx n=>by simpa using d x (by simp[n])) (λx n=>d x (by simp[n]))) (trodAll_mk0)
 .rfl
theorem a4O {P:Program}{w:ah}{l:List (String×DataW Unit)}(args:Array au)(d:w.layFits P l []=true)(hi:w.layIfaces P l (w.layVars P l)=true):laidMet P l ((w.layVars P l).forCall (λ_ _=>0) ⟨#[],args,[]⟩).memory:=by
 have b:∀x∈l,(l.map (·.1)).contains x.1=true:=λx c=>by simpa using⟨x.2,c⟩
 have a:(l.filter λx=>(l.map (·.1)).contains x.1)=l:=List.filter_eq_self.2 b;have no:(l.filter λx=> !(l.map (·.1)).contains x.1)=[]:=List.filter_eq_nil_iff.2 λx c=>by rw[b x c];simp
 refine laidMet.of_heap (w:=w.layVars P l) ?_ (laidMet_layVars (w0:=w) (l.map (·.1)) [] (by rw[a]) (by rw[a];exact d) (by rw[a];exact hi) (by rw[no];exact LaidIn.none));simp[World.memory,World.forCall,Input.heap]
noncomputable def w00 (os:Os):ah:={World.doorLaid prog 0 os with heap:=⟨(World.doorLaid prog 0 os).heap.toList.set 11 (ai #[.iface 208 (.agg #[hE])] (((prog.globals[11]?).map (·.type)).getD 0))⟩}
noncomputable def w0 (os:Os):ah:=(w00 os).layVars prog (Rows.scriptReadsRow.laid.filter λx=>x.2.handleName?.isNone)
theorem ah5 (a:Os):(w0 a).os=a:=World.layVars_os _ (w00 a) _
end scriptReads

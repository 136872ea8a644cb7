import Derived.Test.YtbkjmamcnflncaaGreatDoorQt46
import Derived.Lib.SmallJoins
import Derived.LaidMore
import Derived.Deep.DeepWitnessRowRef
import Derived.Test.YtbkjmamcnflncaaGreatDoorQt47
import Derived.Lay
namespace Go.Proofs.YtbkjmamcnflncaaGreatDoor
open Go.Proofs.Tryz
open Go.ChangeShapes Go.WideShapes Go.ChangeAt Go.RowKit Go.Joins
set_option maxRecDepth 100000
namespace scriptAgain
theorem a9D {W:ai}(h:laidMetH prog Rows.scriptAgainRow.laid W)(b:TF W):∃E,PE E W/\Tj E Wp W:=by
 have a:laidMet prog [("math/bits.deBruijn32tab",Rows.laid_math_bits_deBruijn32tab),("math/bits.deBruijn64tab",Rows.laid_math_bits_deBruijn64tab),("internal/strconv.uint64pow10",Rows.laid_internal_strconv_uint64pow10),("unicode/utf8.acceptRanges",Rows.laid_unicode_utf8_acceptRanges),("leadlight/api.ErrText",Rows.laid_leadlight_api_ErrText),("leadlight/api.ErrBound",Rows.laid_leadlight_api_ErrBound),("leadlight/api.ErrShape",Rows.laid_leadlight_api_ErrShape),("leadlight/api.ErrName",Rows.laid_leadlight_api_ErrName),("leadlight/api.ErrNone",Rows.laid_leadlight_api_ErrNone),("leadlight/api.ErrExist",Rows.laid_leadlight_api_ErrExist),("leadlight/api.ErrFull",Rows.laid_leadlight_api_ErrFull),("leadlight/api.ErrDeep",Rows.laid_leadlight_api_ErrDeep),("leadlight/api.ErrCycle",Rows.laid_leadlight_api_ErrCycle),("leadlight/api.ErrValue",Rows.laid_leadlight_api_ErrValue),("strconv.ErrRange",Rows.laid_strconv_ErrRange),("strconv.ErrSyntax",Rows.laid_strconv_ErrSyntax),("unicode/utf8.first",Rows.laid_unicode_utf8_first)] W/\handlesMet prog [("errors.errorType",Rows.laid_errors_errorType)] W:=h;obtain⟨E,c,d,e⟩:=ahO 10 aC aC (λk=>if k<=10 then k+3 else if k=11 then 0 else k+2) (λj k h c=>by grind) (λk f g i=>by
  rcases k with _|_|_|_|_|_|_|_|_|_|_|_|_|_|k
  all_goals first|omega|rfl) aI a.1 a.2 b
 exact⟨E,d,e⟩
theorem contract (H:Type)(enc:TypeId×ax->H)(W:ai)(c:Nat)(args:Array ax)(o B:List (DataW H))(b:List MemPlace)
  (a:∀(j:Nat) t v,Tryz.f4.params[j]? =some t->args[j]? =some v->Value.okWide prog W .any c t v)
  (g:DataW.Whole enc prog Tryz.f4.params.toList Rows.scriptAgainSpec.vars false W args.toList o B b) (C:laidMetH prog Rows.scriptAgainRow.laid W) (i:World.ShapedOpen prog W):
  aL 4 args W λe r=>∃v,e=ay v/\Rows.scriptAgainSpec.post enc prog Tryz.f4 false true false false W args v r:=by
 have k:=g;have d:=g.lt;obtain⟨p,q,f,D,rfl,F,I⟩:=g;have s:DataW.TrodAll enc prog W 0 (λ_=>true) true Tryz.f4.params.toList args.toList o p:=f;rw[Tryz.params4] at s a;obtain⟨u,J,Y,K,L,Z,l,rfl,rfl,w,M⟩:=trodAll_cons s;obtain⟨y,N,d1,O,p1,q1,rfl,rfl,rfl,P,Q⟩:=trodAll_cons M;obtain⟨rfl,rfl,rfl⟩:=trodAll_nil Q;obtain rfl:args=#[u,y]:=by cases args;simp_all
 obtain⟨rfl,rfl⟩:=trodVars_none D;obtain⟨R,S,T,rfl,U⟩:=a5E (a 0 34 u rfl rfl) w;obtain⟨V,rfl,rfl,rfl,m⟩:=open_int underlying3 (a 1 3 y rfl rfl) P;clear f;obtain⟨E,z⟩:=a9D C (Tryz.a1J.s1_3 W i);refine(Fb z.1 z.2 S R T V U).mono λe r ⟨X,A⟩=>?_;subst X;refine⟨_,rfl,_,_,_,[],L++([]++([])),[],k,?_,?_,?_,A.frame _,λh=>by cases h⟩
 .exact trodAll_mk1 (shut_bool underlying4 true)
 .exact trodAll_cons_mk (a0Q A w (λx n=>by simpa using d x (by simp[n])) (λx n=>d x (by simp[n]))) (trodAll_cons_mk (shut_int underlying3 m) (trodAll_mk0))
 .rfl
theorem a5G {P:Program}{w:ai}{l:List (String×DataW Unit)}(args:Array ax)(d:w.layFits P l []=true)(hi:w.layIfaces P l (w.layVars P l)=true):laidMet P l ((w.layVars P l).forCall (λ_ _=>0) ⟨#[],args,[]⟩).memory:=by
 have b:∀x∈l,(l.map (·.1)).contains x.1=true:=λx c=>by simpa using⟨x.2,c⟩
 have a:(l.filter λx=>(l.map (·.1)).contains x.1)=l:=List.filter_eq_self.2 b;have no:(l.filter λx=> !(l.map (·.1)).contains x.1)=[]:=List.filter_eq_nil_iff.2 λx c=>by rw[b x c];simp
 refine laidMet.of_heap (w:=w.layVars P l) ?_ (laidMet_layVars (w0:=w) (l.map (·.1)) [] (by rw[a]) (by rw[a];exact d) (by rw[a];exact hi) (by rw[no];exact LaidIn.none));simp[World.memory,World.forCall,Input.heap]
noncomputable def w00 (os:Os):ai:={World.doorLaid prog 0 os with heap:=⟨(World.doorLaid prog 0 os).heap.toList.set 11 (ak #[.iface 208 (.agg #[hE])] (((prog.globals[11]?).map (·.type)).getD 0))⟩}
noncomputable def w0 (os:Os):ai:=(w00 os).layVars prog (Rows.scriptAgainRow.laid.filter λx=>x.2.handleName?.isNone)
theorem ahP (a:Os):(w0 a).os=a:=World.layVars_os _ (w00 a) _
end scriptAgain

/- Parts of the proof. -/
import Derived.Test.YtecneflbncjhpaaGreatDoorQp43
import Derived.Lay
namespace Go.Proofs.YtecneflbncjhpaaGreatDoor
open Go.Proofs.Tryz
open Go.ChangeShapes Go.WideShapes Go.ChangeAt Go.RowKit Go.Joins
set_option maxRecDepth 100000
namespace playAgain
theorem a3A {W:ag}(h:laidMetH prog Rows.playAgainRow.laid W)(hm:VD W):∃E,PE E W:=by
 have h':laidMet prog [("math/bits.deBruijn32tab",Rows.laid_math_bits_deBruijn32tab),("math/bits.deBruijn64tab",Rows.laid_math_bits_deBruijn64tab),("internal/strconv.uint64pow10",Rows.laid_internal_strconv_uint64pow10),("unicode/utf8.acceptRanges",Rows.laid_unicode_utf8_acceptRanges),("leadlight/api.ErrText",Rows.laid_leadlight_api_ErrText),("leadlight/api.ErrBound",Rows.laid_leadlight_api_ErrBound),("leadlight/api.ErrShape",Rows.laid_leadlight_api_ErrShape),("leadlight/api.ErrName",Rows.laid_leadlight_api_ErrName),("leadlight/api.ErrNone",Rows.laid_leadlight_api_ErrNone),("leadlight/api.ErrExist",Rows.laid_leadlight_api_ErrExist),("leadlight/api.ErrFull",Rows.laid_leadlight_api_ErrFull),("leadlight/api.ErrDeep",Rows.laid_leadlight_api_ErrDeep),("leadlight/api.ErrCycle",Rows.laid_leadlight_api_ErrCycle),("leadlight/api.ErrValue",Rows.laid_leadlight_api_ErrValue),("leadlight/api.ErrZero",Rows.laid_leadlight_api_ErrZero),("strconv.ErrRange",Rows.laid_strconv_ErrRange),("strconv.ErrSyntax",Rows.laid_strconv_ErrSyntax),("unicode/utf8.first",Rows.laid_unicode_utf8_first)] W/\handlesMet prog [("errors.errorType",Rows.laid_errors_errorType)] W:=h;exact aba (fun k=>k+3) (fun j k h h1=>by omega) (fun k k1 k2=>by
  rcases k with _|_|_|_|_|_|_|_|_|_|_|_|_|_|k
  all_goals first|omega|rfl) (by simp) h'.1 h'.2 hm
theorem contract (H:Type)(enc:TypeId×ah->H)(W:ag)(base:Nat)(args:Array ah)(ds gs:List (DataW H))(before:List MemPlace)
  (hval:∀(j:Nat) t v,Tryz.f3.params[j]? =some t->args[j]? =some v->Value.okWide prog W .any base t v)
  (hW:DataW.Whole enc prog Tryz.f3.params.toList Rows.playAgainSpec.vars false W args.toList ds gs before) (hL:laidMetH prog Rows.playAgainRow.laid W) (hsh:World.ShapedOpen prog W):
  au 3 args W fun e W'=>∃v,e=.returned v/\Rows.playAgainSpec.post enc prog Tryz.f3 false true false false W args v W':=by
 have hW':=hW;have hlt:=hW.lt;obtain⟨p,q,hA0,hV,rfl,hfz,hnd⟩:=hW;have hA:DataW.TrodAll enc prog W 0 (fun _=>true) true Tryz.f3.params.toList args.toList ds p:=hA0;rw[Tryz.params3] at hA hval;obtain⟨v0,vs0,d0,ds0,p0,q0,hargs,rfl,rfl,h0,r0⟩:=trodAll_cons hA;obtain⟨rfl,rfl,rfl⟩:=trodAll_nil r0;obtain rfl:args=#[v0]:=by cases args;simp_all
 obtain⟨rfl,rfl⟩:=trodVars_none hV;obtain⟨o0,l0,k0,rfl,m0⟩:=open_ints (hval 0 22 v0 rfl rfl) h0;clear hA0;obtain⟨E,hG⟩:=a3A hL (Tryz.Xa.s1_3 W hsh);refine(EY E l0 o0 k0 W hG m0).mono fun e W' ⟨he,hb⟩=>?_;subst he;refine⟨_,rfl,_,_,_,[],p0++([]),[],hW',?_,?_,?_,hb.frame _,fun h=>by cases h⟩
 ·exact trodAll_mk1 (shut_bool underlying4 true)
 ·exact trodAll_cons_mk (Qa hb h0 (fun x hx=>by simpa using hlt x (by simp[hx])) (fun x hx=>hlt x (by simp[hx]))) (trodAll_mk0)
 ·rfl
theorem a07 {P:Program}{w:ag}{l:List (String×DataW Unit)}(args:Array ah)(hf:w.layFits P l []=true)(hi:w.layIfaces P l (w.layVars P l)=true):laidMet P l ((w.layVars P l).forCall (fun _ _=>0) ⟨#[],args,[]⟩).memory:=by
 have all:∀x∈l,(l.map (·.1)).contains x.1=true:=fun x hx=>by simpa using⟨x.2,hx⟩
 have yes:(l.filter fun x=>(l.map (·.1)).contains x.1)=l:=List.filter_eq_self.2 all;have no:(l.filter fun x=> !(l.map (·.1)).contains x.1)=[]:=List.filter_eq_nil_iff.2 fun x hx=>by rw[all x hx];simp
 refine laidMet.of_heap (w:=w.layVars P l) ?_ (laidMet_layVars (w0:=w) (l.map (·.1)) [] (by rw[yes]) (by rw[yes];exact hf) (by rw[yes];exact hi) (by rw[no];exact LaidIn.none));simp[World.memory,World.forCall,Input.heap]
end playAgain
end Go.Proofs.YtecneflbncjhpaaGreatDoor

/- Parts of the proof. -/
import Derived.Test.YtjfiehbcamfdfaaGreatDoorQz36
import Derived.Test.YtjfiehbcamfdfaaGreatDoorQz37
import Derived.Lay
namespace Go.Proofs.YtjfiehbcamfdfaaGreatDoor
open Go.Proofs.Tryz
open Go.ChangeShapes Go.WideShapes Go.ChangeAt Go.RowKit Go.Joins
set_option maxRecDepth 100000
namespace liveRows
theorem a1u {W:ag}(h:laidMetH prog Rows.liveRowsRow.laid W):∃E,LE E W:=by
 have h':laidMet prog [("math/bits.deBruijn32tab",Rows.laid_math_bits_deBruijn32tab),("math/bits.deBruijn64tab",Rows.laid_math_bits_deBruijn64tab),("internal/strconv.uint64pow10",Rows.laid_internal_strconv_uint64pow10),("unicode/utf8.acceptRanges",Rows.laid_unicode_utf8_acceptRanges),("leadlight/api.ErrText",Rows.laid_leadlight_api_ErrText),("leadlight/api.ErrBound",Rows.laid_leadlight_api_ErrBound),("leadlight/api.ErrShape",Rows.laid_leadlight_api_ErrShape),("leadlight/api.ErrName",Rows.laid_leadlight_api_ErrName),("leadlight/api.ErrNone",Rows.laid_leadlight_api_ErrNone),("leadlight/api.ErrExist",Rows.laid_leadlight_api_ErrExist),("leadlight/api.ErrFull",Rows.laid_leadlight_api_ErrFull),("leadlight/api.ErrDeep",Rows.laid_leadlight_api_ErrDeep),("leadlight/api.ErrCycle",Rows.laid_leadlight_api_ErrCycle),("leadlight/api.ErrValue",Rows.laid_leadlight_api_ErrValue),("strconv.ErrRange",Rows.laid_strconv_ErrRange),("strconv.ErrSyntax",Rows.laid_strconv_ErrSyntax),("unicode/utf8.first",Rows.laid_unicode_utf8_first)] W/\handlesMet prog [("errors.errorType",Rows.laid_errors_errorType)] W:=h;obtain⟨E,h1,h2⟩:=a9g (fun k=>k+3) (fun j k h h1 h2 h3 h4=>by omega) (fun k k1 k2=>by
  rcases k with _|_|_|_|_|_|_|_|_|_|_|_|_|k
  all_goals first|omega|rfl) (by simp) h'.1
 exact⟨E,h1,h2,Ue h'.2⟩
theorem contract (H:Type)(enc:TypeId×ah->H)(W:ag)(base:Nat)(args:Array ah)(ds gs:List (DataW H))(before:List MemPlace)
  (hval:∀(j:Nat) t v,Tryz.f5.params[j]? =some t->args[j]? =some v->Value.okWide prog W .any base t v)
  (hW:DataW.Whole enc prog Tryz.f5.params.toList Rows.liveRowsSpec.vars false W args.toList ds gs before) (hL:laidMetH prog Rows.liveRowsRow.laid W) (hsh:World.ShapedOpen prog W):
  ax 5 args W fun e W'=>∃v,e=.returned v/\Rows.liveRowsSpec.post enc prog Tryz.f5 false true false false W args v W':=by
 have hW':=hW;have hlt:=hW.lt;obtain⟨p,q,hA0,hV,rfl,hfz,hnd⟩:=hW;have hA:DataW.TrodAll enc prog W 0 (fun _=>true) true Tryz.f5.params.toList args.toList ds p:=hA0;rw[Tryz.params5] at hA hval;obtain⟨v0,vs0,d0,ds0,p0,q0,hargs,rfl,rfl,h0,r0⟩:=trodAll_cons hA;obtain⟨v1,vs1,d1,ds1,p1,q1,rfl,rfl,rfl,h1,r1⟩:=trodAll_cons r0;obtain⟨rfl,rfl,rfl⟩:=trodAll_nil r1;obtain rfl:args=#[v0,v1]:=by cases args;simp_all
 obtain⟨rfl,rfl⟩:=trodVars_none hV;obtain⟨a0,b0,c0,n0,rfl,m0⟩:=Ub (hval 0 25 v0 rfl rfl) h0;obtain⟨o1,l1,k1,rfl,m1⟩:=Yt (hval 1 26 v1 rfl rfl) h1;clear hA0;obtain⟨E,hG⟩:=a1u hL;have hMx:CG W:=Tryz.Vq.s1_3 W hsh;refine(GN E n0 a0 b0 c0 l1 o1 k1 W hG hMx m0 m1).mono fun e W' ⟨he,hb⟩=>?_;subst he;refine⟨_,rfl,_,_,_,[],p0++(p1++([])),[],hW',?_,?_,?_,hb.frame _,fun h=>by cases h⟩
 ·exact trodAll_mk1 (shut_bool underlying4 true)
 ·exact trodAll_cons_mk (Oi hb h0 (fun x hx=>by simpa using hlt x (by simp[hx])) (fun x hx=>hlt x (by simp[hx]))) (trodAll_cons_mk (Uc hb h1 (fun x hx=>by simpa using hlt x (by simp[hx])) (fun x hx=>hlt x (by simp[hx]))) (trodAll_mk0))
 ·rfl
theorem Yu {P:Program}{w:ag}{l:List (String×DataW Unit)}(args:Array ah)(hf:w.layFits P l []=true)(hi:w.layIfaces P l (w.layVars P l)=true):laidMet P l ((w.layVars P l).forCall (fun _ _=>0) ⟨#[],args,[]⟩).memory:=by
 have all:∀x∈l,(l.map (·.1)).contains x.1=true:=fun x hx=>by simpa using⟨x.2,hx⟩
 have yes:(l.filter fun x=>(l.map (·.1)).contains x.1)=l:=List.filter_eq_self.2 all;have no:(l.filter fun x=> !(l.map (·.1)).contains x.1)=[]:=List.filter_eq_nil_iff.2 fun x hx=>by rw[all x hx];simp
 refine laidMet.of_heap (w:=w.layVars P l) ?_ (laidMet_layVars (w0:=w) (l.map (·.1)) [] (by rw[yes]) (by rw[yes];exact hf) (by rw[yes];exact hi) (by rw[no];exact LaidIn.none));simp[World.memory,World.forCall,Input.heap]
end liveRows
end Go.Proofs.YtjfiehbcamfdfaaGreatDoor

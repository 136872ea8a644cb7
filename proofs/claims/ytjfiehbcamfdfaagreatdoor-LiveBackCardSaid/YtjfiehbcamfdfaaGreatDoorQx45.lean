/-
  Parts of the proof.
-/
import Derived.Test.YtjfiehbcamfdfaaGreatDoorQx42
import Derived.Test.YtjfiehbcamfdfaaGreatDoorQx44
import Derived.Lay
namespace Go.Proofs.YtjfiehbcamfdfaaGreatDoor
open Go.Proofs.Tryz
open Go.ChangeShapes Go.WideShapes Go.ChangeAt Go.RowKit Go.Joins
set_option maxRecDepth 100000
namespace liveBack
theorem a1g {W:World}(h:laidMetH prog Rows.liveBackRow.laid W):∃E,LE E W:=by
 have h':laidMet prog [("math/bits.deBruijn32tab",Rows.laid_math_bits_deBruijn32tab),("math/bits.deBruijn64tab",Rows.laid_math_bits_deBruijn64tab),("internal/strconv.uint64pow10",Rows.laid_internal_strconv_uint64pow10),("unicode/utf8.acceptRanges",Rows.laid_unicode_utf8_acceptRanges),("leadlight/api.ErrText",Rows.laid_leadlight_api_ErrText),("leadlight/api.ErrBound",Rows.laid_leadlight_api_ErrBound),("leadlight/api.ErrShape",Rows.laid_leadlight_api_ErrShape),("leadlight/api.ErrName",Rows.laid_leadlight_api_ErrName),("leadlight/api.ErrNone",Rows.laid_leadlight_api_ErrNone),("leadlight/api.ErrExist",Rows.laid_leadlight_api_ErrExist),("leadlight/api.ErrFull",Rows.laid_leadlight_api_ErrFull),("leadlight/api.ErrDeep",Rows.laid_leadlight_api_ErrDeep),("leadlight/api.ErrCycle",Rows.laid_leadlight_api_ErrCycle),("leadlight/api.ErrValue",Rows.laid_leadlight_api_ErrValue),("strconv.ErrRange",Rows.laid_strconv_ErrRange),("strconv.ErrSyntax",Rows.laid_strconv_ErrSyntax),("unicode/utf8.first",Rows.laid_unicode_utf8_first)] W/\handlesMet prog [("errors.errorType",Rows.laid_errors_errorType)] W:=h;obtain⟨E,h1,h2⟩:=a8W (fun k=>k+3) (fun j k h h1 h2 h3 h4=>by omega) (fun k k1 k2=>by
  rcases k with _|_|_|_|_|_|_|_|_|_|_|_|_|k
  all_goals first|omega|rfl) (by simp) h'.1
 exact⟨E,h1,h2,Tp h'.2⟩
theorem contract (H:Type)(enc:TypeId×Value->H)(W:World)(base:Nat)(args:Array Value)(ds gs:List (DataW H))(before:List MemPlace)
  (hval:∀(j:Nat) t v,Tryz.f4.params[j]? =some t->args[j]? =some v->Value.okWide prog W .any base t v)
  (hW:DataW.Whole enc prog Tryz.f4.params.toList Rows.liveBackSpec.vars false W args.toList ds gs before) (hL:laidMetH prog Rows.liveBackRow.laid W):
  ak 4 args W fun e W'=>∃v,e=.returned v/\Rows.liveBackSpec.post enc prog Tryz.f4 false true false false W args v W':=by
 have hW':=hW;have hlt:=hW.lt;obtain⟨p,q,hA0,hV,rfl,hfz,hnd⟩:=hW;have hA:DataW.TrodAll enc prog W 0 (fun _=>true) true Tryz.f4.params.toList args.toList ds p:=hA0;rw[Tryz.params4] at hA hval;obtain⟨v0,vs0,d0,ds0,p0,q0,hargs,rfl,rfl,h0,r0⟩:=trodAll_cons hA;obtain⟨v1,vs1,d1,ds1,p1,q1,rfl,rfl,rfl,h1,r1⟩:=trodAll_cons r0;obtain⟨v2,vs2,d2,ds2,p2,q2,rfl,rfl,rfl,h2,r2⟩:=trodAll_cons r1;obtain⟨v3,vs3,d3,ds3,p3,q3,rfl,rfl,rfl,h3,r3⟩:=trodAll_cons r2;obtain⟨rfl,rfl,rfl⟩:=trodAll_nil r3;obtain rfl:args=#[v0,v1,v2,v3]:=by cases args;simp_all
 obtain⟨rfl,rfl⟩:=trodVars_none hV;obtain⟨a0,b0,c0,n0,rfl,m0⟩:=Tm (hval 0 25 v0 rfl rfl) h0;obtain⟨x1,rfl,rfl,rfl,wx1⟩:=open_int underlying3 (hval 1 3 v1 rfl rfl) h1;obtain⟨s2,rfl,rfl,rfl,hs2⟩:=Go.ChangeMaps.open_string underlying9 (hval 2 9 v2 rfl rfl) h2;obtain⟨s3,rfl,rfl,rfl,hs3⟩:=Go.ChangeMaps.open_string underlying9 (hval 3 9 v3 rfl rfl) h3;clear hA0;obtain⟨E,hG⟩:=a1g hL;refine(a1e E n0 a0 b0 c0 x1 s2 s3 W hG m0 wx1).mono fun e W' ⟨he,hb⟩=>?_;subst he;refine⟨_,rfl,_,_,_,[],p0++([]++([]++([]++([])))),[],hW',?_,?_,?_,hb.frame _,fun h=>by cases h⟩
 ·exact trodAll_mk1 (shut_bool underlying4 true)
 ·exact trodAll_cons_mk (NS hb h0 (fun x hx=>by simpa using hlt x (by simp[hx])) (fun x hx=>hlt x (by simp[hx]))) (trodAll_cons_mk (shut_int underlying3 wx1) (trodAll_cons_mk (Go.ChangeMaps.shut_string underlying9 hs2) (trodAll_cons_mk (Go.ChangeMaps.shut_string underlying9 hs3) (trodAll_mk0))))
 ·rfl
theorem Y9 {P:Program}{w:World}{l:List (String×DataW Unit)}(args:Array Value)(hf:w.layFits P l []=true)(hi:w.layIfaces P l (w.layVars P l)=true):laidMet P l ((w.layVars P l).forCall (fun _ _=>0) ⟨#[],args,[]⟩).memory:=by
 have all:∀x∈l,(l.map (·.1)).contains x.1=true:=fun x hx=>by simpa using⟨x.2,hx⟩
 have yes:(l.filter fun x=>(l.map (·.1)).contains x.1)=l:=List.filter_eq_self.2 all;have no:(l.filter fun x=> !(l.map (·.1)).contains x.1)=[]:=List.filter_eq_nil_iff.2 fun x hx=>by rw[all x hx];simp
 refine laidMet.of_heap (w:=w.layVars P l) ?_ (laidMet_layVars (w0:=w) (l.map (·.1)) [] (by rw[yes]) (by rw[yes];exact hf) (by rw[yes];exact hi) (by rw[no];exact LaidIn.none));simp[World.memory,World.forCall,Input.heap]
end liveBack
end Go.Proofs.YtjfiehbcamfdfaaGreatDoor

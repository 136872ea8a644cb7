/-
  Parts of the proof.
-/
import Derived.Test.YtgphclgmmocdhaaGreatDoorQu41
import Derived.Test.YtgphclgmmocdhaaGreatDoorQu44
import Derived.Lay
namespace Go.Proofs.YtgphclgmmocdhaaGreatDoor
open Go.ChangeShapes Go.WideShapes Go.ChangeAt Go.RowKit Go.Joins
set_option maxRecDepth 100000
namespace sceneUses
theorem of_laid {W:World} (h:laidMetH Tryz.prog Rows.sceneUsesRow.laid W):∃ E,NE E W/\CE E W:=by
 have h':laidMet Tryz.prog [("math/bits.deBruijn32tab", Rows.laid_math_bits_deBruijn32tab),("math/bits.deBruijn64tab", Rows.laid_math_bits_deBruijn64tab),("internal/strconv.uint64pow10", Rows.laid_internal_strconv_uint64pow10),("unicode/utf8.acceptRanges", Rows.laid_unicode_utf8_acceptRanges),("leadlight/api.ErrText", Rows.laid_leadlight_api_ErrText),("leadlight/api.ErrBound", Rows.laid_leadlight_api_ErrBound),("leadlight/api.ErrShape", Rows.laid_leadlight_api_ErrShape),("leadlight/api.ErrName", Rows.laid_leadlight_api_ErrName),("leadlight/api.ErrExist", Rows.laid_leadlight_api_ErrExist),("leadlight/api.ErrFull", Rows.laid_leadlight_api_ErrFull),("leadlight/api.ErrDeep", Rows.laid_leadlight_api_ErrDeep),("leadlight/api.ErrCycle", Rows.laid_leadlight_api_ErrCycle),("leadlight/api.ErrValue", Rows.laid_leadlight_api_ErrValue),("strconv.ErrRange", Rows.laid_strconv_ErrRange),("strconv.ErrSyntax", Rows.laid_strconv_ErrSyntax),("unicode/utf8.first", Rows.laid_unicode_utf8_first)] W:=h
 exact ns_of2 (fun k=>if k=5 then 14 else if k<5 then k+3 else k+2) (fun j k h h1 h2 h3 h4=>by split <;> split <;> first | omega | (split <;> first | omega | (split <;> omega))) (fun k k1 k2=>by
  rcases k with _ | _ | _ | _ | _ | _ | _ | _ | _ | _ | _ | _ | k
  all_goals first | omega | rfl) (by simp) h'
theorem contract (H:Type) (enc:TypeId × Value->H) (W:World) (base:Nat) (args:Array Value) (ds gs:List (DataW H)) (before:List MemPlace)
  (hval:∀ (j:Nat) t v,Tryz.f4.params[j]? = some t->args[j]? = some v->Value.okWide Tryz.prog W .any base t v)
  (hW:DataW.Whole enc Tryz.prog Tryz.f4.params.toList Rows.sceneUsesSpec.vars false W args.toList ds gs before) (hL:laidMetH Tryz.prog Rows.sceneUsesRow.laid W) :
  Calls Tryz.prog 4 args W fun e W'=>∃ v,e=.returned v/\Rows.sceneUsesSpec.post enc Tryz.prog Tryz.f4 false true false false W args v W':=by
 have hW':=hW
 have hlt:=hW.lt
 obtain ⟨p,q,hA0,hV,rfl,hfz,hnd⟩:=hW
 have hA:DataW.TrodAll enc Tryz.prog W 0 (fun _=>true) true Tryz.f4.params.toList args.toList ds p:=hA0
 rw [Tryz.params4] at hA hval
 obtain ⟨v0,vs0,d0,ds0,p0,q0,hargs,rfl,rfl,h0,r0⟩:=trodAll_cons hA
 obtain ⟨v1,vs1,d1,ds1,p1,q1,rfl,rfl,rfl,h1,r1⟩:=trodAll_cons r0
 obtain ⟨v2,vs2,d2,ds2,p2,q2,rfl,rfl,rfl,h2,r2⟩:=trodAll_cons r1
 obtain ⟨rfl,rfl,rfl⟩:=trodAll_nil r2
 obtain rfl:args=#[v0,v1,v2]:=by cases args;simp_all
 obtain ⟨rfl,rfl⟩:=trodVars_none hV
 obtain ⟨ks0,o0,k0,rfl,hc0,hm0,ho0,m0⟩:=open_nodes (hval 0 23 v0 rfl rfl) h0
 obtain ⟨x1,rfl,rfl,rfl,wx1⟩:=open_int Tryz.underlying3 (hval 1 3 v1 rfl rfl) h1
 obtain ⟨x2,rfl,rfl,rfl,wx2⟩:=open_int Tryz.underlying3 (hval 2 3 v2 rfl rfl) h2
 clear hA0
 obtain ⟨E,hG,hG1⟩:=of_laid hL
 refine (uses_any E ks0 o0 k0 x1 x2 W hG hG1 hc0 hm0 ho0 m0).mono fun e W' ⟨he,hb⟩=>?_
 subst he
 refine ⟨_,rfl,_,_,_,[],p0++([]++([]++([]))),[],hW',?_,?_,?_,hb.frame _,fun h=>by cases h⟩
 ·exact trodAll_mk1 (shut_bool Tryz.underlying4 true)
 ·exact trodAll_cons_mk (again_nodes hb h0 (fun x hx=>by simpa using hlt x (by simp [hx])) (fun x hx=>hlt x (by simp [hx]))) (trodAll_cons_mk (shut_int Tryz.underlying3 wx1) (trodAll_cons_mk (shut_int Tryz.underlying3 wx2) (trodAll_mk0)))
 ·rfl
end sceneUses
end Go.Proofs.YtgphclgmmocdhaaGreatDoor

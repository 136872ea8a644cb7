/- Parts of the proof. -/
import Derived.Test.YtecneflbncjhpaaGreatDoorQp28
namespace Go.Proofs.YtecneflbncjhpaaGreatDoor
def Po (l:List (Bs×Bs)):Prop:=(∀a∈l,gG a.1=true/\isVal a.2=true)/\(l.map Prod.fst).Nodup
def a2r (e:gH):Prop:=gG e.name=true/\e.ats.length<=12/\Po e.ats
theorem Mj {ahead:List (Bs×Bs)}{a:Bs×Bs}:QG ahead a=0↔gG a.1=true/\isVal a.2=true/\a.1 ∉ ahead.map Prod.fst:=by
 unfold QG;by_cases h1:gG a.1=true
 ·rw[if_pos h1];by_cases h2:ahead.any (fun x=>x.1==a.1)=true
  ·rw[if_pos h2];rw[List.any_eq_true] at h2;obtain⟨x,hx,he⟩:=h2;refine⟨fun h=>(by cases h),fun h=>absurd (List.mem_map.2 ⟨x,hx,eq_of_beq he⟩) h.2.2⟩
  ·rw[if_neg h2];have h3:a.1 ∉ ahead.map Prod.fst:=fun h=>h2 (by
    obtain⟨x,hx,he⟩:=List.mem_map.1 h;rw[List.any_eq_true];exact⟨x,hx,by rw[he];simp⟩)
   by_cases h4:isVal a.2=true
   ·rw[if_pos h4];exact⟨fun _=>⟨h1,h4,h3⟩,fun _=>rfl⟩
   ·rw[if_neg h4];exact⟨fun h=>(by cases h),fun h=>absurd h.2.1 h4⟩
 ·rw[if_neg h1];exact⟨fun h=>(by cases h),fun h=>absurd h.1 h1⟩
theorem Mk:∀(l ahead:List (Bs×Bs)),(ahead.map Prod.fst).Nodup->(Ea ahead l=0↔(∀a∈l,gG a.1=true/\isVal a.2=true)/\((ahead++l).map Prod.fst).Nodup)
 |[],ahead,hn=>by
  rw[Ea];simp[hn]
 |a::l,ahead,hn=>by
  rw[Ea];by_cases h:QG ahead a=0
  ·rw[if_pos h];obtain⟨h1,h2,h3⟩:=Mj.1 h;have hn':((ahead++[a]).map Prod.fst).Nodup:=by
    rw[List.map_append,List.nodup_append];exact⟨hn,by simp,fun x hx y hy e=>by simp at hy;subst hy;subst e;exact h3 hx⟩
   rw[Mk l (ahead++[a]) hn',List.append_assoc];constructor
   ·rintro⟨k1,k2⟩;exact⟨fun x hx=>by
     rcases List.mem_cons.1 hx with rfl|hx
     ·exact⟨h1,h2⟩
     ·exact k1 x hx,k2⟩
   ·rintro⟨k1,k2⟩;exact⟨fun x hx=>k1 x (by simp[hx]),k2⟩
  ·rw[if_neg h];refine⟨fun e=>absurd e h,fun⟨k1,k2⟩=>absurd (Mj.2 ⟨(k1 a (by simp)).1,(k1 a (by simp)).2,fun hm=>?_⟩) h⟩;rw[List.map_append,List.nodup_append] at k2;exact k2.2.2 a.1 hm a.1 (by simp) rfl
theorem Po.ck {l:List (Bs×Bs)}:Ea [] l=0↔Po l:=by
 rw[Mk l [] (by simp),List.nil_append];rfl
theorem Pp (l:List (Bs×Bs))(nm v:Bs):(nC l nm v).map Prod.fst=if(kQ l nm).isSome then l.map Prod.fst else l.map Prod.fst++[nm]:=by
 induction l with
 |nil=>rfl
 |cons a l ih=>
  rw[nC,sw];by_cases hk:(a.1==nm)=true
  ·rw[if_pos hk,if_pos hk];simp[eq_of_beq hk]
  ·rw[if_neg hk,if_neg hk,List.map_cons,ih,List.map_cons];cases kQ l nm<;>rfl
theorem UK {l:List (Bs×Bs)}{nm:Bs}(h:kQ l nm=none):nm ∉ l.map Prod.fst:=by
 induction l with
 |nil=>simp
 |cons a l ih=>
  rw[sw] at h;by_cases hk:(a.1==nm)=true
  ·rw[if_pos hk] at h;cases h
  ·rw[if_neg hk] at h;simp only[List.map_cons,List.mem_cons,not_or];exact⟨fun e=>hk (by rw[e];simp),ih h⟩
theorem Po.set {l:List (Bs×Bs)}{nm v:Bs}(h:Po l)(h1:gG nm=true)(h2:isVal v=true):Po (nC l nm v):=by
 refine⟨fun a ha=>?_,?_⟩
 ·rcases WJ l nm v ha with rfl|ha
  ·exact⟨h1,h2⟩
  ·exact h.1 a ha
 ·rw[Pp];cases hs:kQ l nm with
  |some v=>exact h.2
  |none=>
   simp only[Option.isSome_none,Bool.false_eq_true,if_false];rw[List.nodup_append];refine⟨h.2,by simp,fun x hx y hy e=>?_⟩;simp at hy;subst hy;subst e;exact UK hs hx
def eG (M:Dm):Prop:=∀i e,M i=some e->a2r e
theorem eG.set {M:Dm}(h:eG M){n:Int}{e:gH}(he:M n=some e){nm v:Bs}(h1:gG nm=true)(h2:isVal v=true)(h3:(kQ e.ats nm).isSome=true\/e.ats.length<12):eG (xJ M n e (nC e.ats nm v)):=fun i x hx=>by
 unfold xJ dZ at hx;by_cases hi:i=n
 ·rw[if_pos hi] at hx;cases hx;obtain⟨k1,k2,k3⟩:=h n e he;refine⟨k1,?_,k3.set h1 h2⟩;show(nC e.ats nm v).length<=12;rw[WH];split
  ·exact k2
  ·next hs=>
   rcases h3 with h3|h3
   ·exact absurd h3 hs
   ·omega
 ·rw[if_neg hi] at hx;exact h i x hx
end Go.Proofs.YtecneflbncjhpaaGreatDoor

import Derived.Test.YtbkjmamcnflncaaGreatDoorQs28
namespace Go.Proofs.YtbkjmamcnflncaaGreatDoor
def I9 (l:List (Bs×Bs)):Prop:=(∀a∈l,iF a.1=true/\isVal a.2=true)/\(l.map Prod.fst).Nodup
def a7w (e:gP):Prop:=iF e.name=true/\e.ats.length<=12/\I9 e.ats
theorem QY {ahead:List (Bs×Bs)}{a:Bs×Bs}:Ty ahead a=0↔iF a.1=true/\isVal a.2=true/\a.1 ∉ ahead.map Prod.fst:=by
 unfold Ty;grind
theorem QZ:∀(l ahead:List (Bs×Bs)),(ahead.map Prod.fst).Nodup->(DX ahead l=0↔(∀a∈l,iF a.1=true/\isVal a.2=true)/\((ahead++l).map Prod.fst).Nodup)
 |[],ahead,c=>by
  rw[DX];simp[c]
 |a::l,ahead,c=>by
  rw[DX];by_cases h:Ty ahead a=0
  .rw[if_pos h];obtain⟨f,g,i⟩:=QY.1 h;have b:((ahead++[a]).map Prod.fst).Nodup:=by grind
   rw[QZ l (ahead++[a]) b,kV];grind
  .rw[if_neg h];refine⟨λe=>absurd e h,λ⟨d,j⟩=>absurd (QY.2 ⟨(d a aG).1,(d a aG).2,λk=>?_⟩) h⟩;grind
theorem I9.ck {l:List (Bs×Bs)}:DX [] l=0↔I9 l:=by
 rw[QZ l [] aG,gF];rfl
theorem UU (l:List (Bs×Bs))(nm v:Bs):(ru l nm v).map Prod.fst=if(oM l nm).isSome then l.map Prod.fst else l.map Prod.fst++[nm]:=by
 induction l with
 |nil=>rfl
 |cons a l b=>
  rw[ru,wS];grind
theorem Zt {l:List (Bs×Bs)}{nm:Bs}(h:oM l nm=none):nm ∉ l.map Prod.fst:=by
 induction l with
 |nil=>simp
 |cons a l b=>
  rw[wS] at h;grind
theorem I9.set {l:List (Bs×Bs)}{nm v:Bs}(h:I9 l)(d:iF nm=true)(f:isVal v=true):I9 (ru l nm v):=by
 refine⟨λa b=>?_,?_⟩
 .rcases a0I l nm v b with rfl|b
  .exact⟨d,f⟩
  .exact h.1 a b
 .rw[UU];cases g:oM l nm with
  |some v=>exact h.2
  |none=>
   simp only[Option.isSome_none,Bool.false_eq_true,if_false];rw[List.nodup_append];refine⟨h.2,aG,λx i y c e=>?_⟩;simp at c;subst c;subst e;exact Zt g i
theorem Ia (l:List (Bs×Bs))(nm:Bs):(F4 l nm).Sublist l:=by
 induction l with
 |nil=>exact .slnil
 |cons a l b=>
  rw[F4];grind
theorem I9.off {l:List (Bs×Bs)}{nm:Bs}(h:I9 l):I9 (F4 l nm):=
 ⟨λa b=>h.1 a ((Ia l nm).subset b),((Ia l nm).map Prod.fst).nodup h.2⟩
def eG (M:Dm):Prop:=∀i e,M i=some e->a7w e
theorem eG.set {M:Dm}(h:eG M){n:Int}{e:gP}(he:M n=some e){nm v:Bs}(c:iF nm=true)(d:isVal v=true)(j:(oM e.ats nm).isSome=true\/e.ats.length<12):eG (tL M n e (ru e.ats nm v)):=λi x a=>by
 unfold tL dY at a;by_cases b:i=n
 .rw[if_pos b] at a;cases a;obtain⟨f,k,g⟩:=h n e he;refine⟨f,?_,g.set c d⟩;show(ru e.ats nm v).length<=12;rw[a0H];grind
 .rw[if_neg b] at a;exact h i x a
theorem eG.off {M:Dm}(h:eG M){n:Int}{e:gP}(he:M n=some e){nm:Bs}:eG (tL M n e (F4 e.ats nm)):=λi x a=>by
 unfold tL dY at a;by_cases b:i=n
 .rw[if_pos b] at a;cases a;obtain⟨c,d,f⟩:=h n e he;exact⟨c,bu (Ia e.ats nm).length_le d,f.off⟩
 .rw[if_neg b] at a;exact h i x a
theorem a9x {M:Dm}{r:Int->Nat}(d:Wd M r)(c:eG M):∀(f:Nat) (n:Int) (e:gP) (ahead:Nat),M n=some e->Dp M f n->ahead+szM M f n<=100->iT (J7 M f n) (r n) ahead=(0,ahead+szM M f n)
 |0,_,_,_,_,h,_=>h.elim
 |f+1,n,e,ahead,b,h,o=>by
  obtain⟨p,z,q⟩:=c n e b;have A:=(d.rb n e b).2;rw[aby b] at o⊢;have s:ck1 e.name e.ats (r n) ahead=0:=by
   unfold ck1;rw[if_neg aa,if_neg aa,if_pos p,if_neg aa];exact I9.ck.2 q
  rw[J7,b];show iT (.mk e.name e.ats (e.kids.map (J7 M f))) (r n) ahead=_;rw[iT,if_pos s];have t:∀(l:List Int) (a:Nat),(∀k∈l,k∈e.kids)->a+(l.map (szM M f)).sum<=100->uj (l.map (J7 M f)) (r n+1) a=(0,a+(l.map (szM M f)).sum):=λl=>by
   induction l with
   |nil=>intro a _ _;rfl
   |cons k l u=>
    intro a g v;rw[nI,List.sum_cons] at v;rw[nI (f:=szM M f),List.sum_cons];obtain⟨x,w, -⟩:=d.down n e k b (g k aG);have i:=(d.step b (g k aG)).1;have m:=a9x d c f k x a w (h e b k (g k aG)) aa;rw[i] at m;rw[nI,uj,m,if_pos rfl,u _ (λj y=>g j (by simp[y])) fJ];simp only;grind
  grind

import Derived.Test.YtbkjmamcnflncaaGreatDoorQt28
namespace Go.Proofs.YtbkjmamcnflncaaGreatDoor
variable{l:List (Bs×Bs)}{nm:Bs}
def J3 (l:List (Bs×Bs)):Prop:=(∀a∈l,iQ a.1=true/\isVal a.2=true)/\(l.map Prod.fst).Nodup
def a8n (e:ig):Prop:=iQ e.name=true/\e.ats.length<=12/\J3 e.ats
theorem Sd {ahead:List (Bs×Bs)}{a:Bs×Bs}:Um ahead a=0↔iQ a.1=true/\isVal a.2=true/\a.1 ∉ ahead.map Prod.fst:=by
 unfold Um;grind
theorem Sg:∀(l ahead:List (Bs×Bs)),(ahead.map Prod.fst).Nodup->(EK ahead l=0↔(∀a∈l,iQ a.1=true/\isVal a.2=true)/\((ahead++l).map Prod.fst).Nodup)
 |[],ahead,c=>by
  rw[EK];simp[c]
 |a::l,ahead,c=>by
  rw[EK];by_cases h:Um ahead a=0
  .rw[aR h];obtain⟨f,g,i⟩:=Sd.1 h;have b:((ahead++[a]).map Prod.fst).Nodup:=by grind
   rw[Sg l (ahead++[a]) b,lF];grind
  .rw[aG h];refine⟨λe=>absurd e h,λ⟨d,j⟩=>absurd (Sd.2 ⟨(d a aI).1,(d a aI).2,λk=>?_⟩) h⟩;grind
theorem J3.ck :EK [] l=0↔J3 l:=by
 rw[Sg l [] aI,gK];rfl
theorem VB (l:List (Bs×Bs))(nm v:Bs):(sD l nm v).map Prod.fst=if(pQ l nm).isSome then l.map Prod.fst else l.map Prod.fst++[nm]:=by
 induction l with
 |nil=>rfl
 |cons a l b=>
  rw[sD,xJ];grind
theorem a07 (h:pQ l nm=none):nm ∉ l.map Prod.fst:=by
 induction l with
 |nil=>simp
 |cons a l b=>
  rw[xJ] at h;grind
theorem J3.set {v:Bs}(h:J3 l)(d:iQ nm=true)(f:isVal v=true):J3 (sD l nm v):=by
 refine⟨λa b=>?_,?_⟩
 .rcases a1r l nm v b with rfl|b
  .exact⟨d,f⟩
  .exact h.1 a b
 .rw[VB];cases g:pQ l nm with
  |some v=>exact h.2
  |none=>
   simp only[Option.isSome_none,Bool.false_eq_true,if_false];rw[List.nodup_append];refine⟨h.2,aI,λx i y c e=>?_⟩;simp at c;subst c;subst e;exact a07 g i
theorem J4 (l:List (Bs×Bs))(nm:Bs):(FV l nm).Sublist l:=by
 induction l with
 |nil=>exact .slnil
 |cons a l b=>
  rw[FV];grind
theorem J3.off (h:J3 l):J3 (FV l nm):=
 ⟨λa b=>h.1 a ((J4 l nm).subset b),((J4 l nm).map Prod.fst).nodup h.2⟩
def fq (M:Dm):Prop:=∀i e,M i=some e->a8n e
theorem fq.set {M:Dm}(h:fq M){n:Int}{e:ig}(he:M n=some e){nm v:Bs}(c:iQ nm=true)(d:isVal v=true)(j:(pQ e.ats nm).isSome=true\/e.ats.length<12):fq (uI M n e (sD e.ats nm v)):=λi x a=>by
 unfold uI eP at a;by_cases b:i=n
 .rw[aR b] at a;cases a;obtain⟨f,k,g⟩:=h n e he;refine⟨f,?_,g.set c d⟩;show(sD e.ats nm v).length<=12;rw[a1q];grind
 .rw[aG b] at a;exact h i x a
theorem fq.off {M:Dm}(h:fq M){n:Int}{e:ig}(he:M n=some e){nm:Bs}:fq (uI M n e (FV e.ats nm)):=λi x a=>by
 unfold uI eP at a;by_cases b:i=n
 .rw[aR b] at a;cases a;obtain⟨c,d,f⟩:=h n e he;exact⟨c,bO (J4 e.ats nm).length_le d,f.off⟩
 .rw[aG b] at a;exact h i x a
theorem aag {M:Dm}{r:Int->Nat}(d:Wd M r)(c:fq M):∀(f:Nat) (n:Int) (e:ig) (ahead:Nat),M n=some e->Dp M f n->ahead+szM M f n<=100->je (JG M f n) (r n) ahead=(0,ahead+szM M f n)
 |0,_,_,_,_,h,_=>h.elim
 |f+1,n,e,ahead,b,h,o=>by
  obtain⟨p,z,q⟩:=c n e b;have A:=(d.rb n e b).2;rw[acz b] at o⊢;have s:ck1 e.name e.ats (r n) ahead=0:=by
   unfold ck1;rw[aG aa,aG aa,aR p,aG aa];exact J3.ck.2 q
  rw[JG,b];show je (.mk e.name e.ats (e.kids.map (JG M f))) (r n) ahead=_;rw[je,aR s];have t:∀(l:List Int) (a:Nat),(∀k∈l,k∈e.kids)->a+(l.map (szM M f)).sum<=100->uQ (l.map (JG M f)) (r n+1) a=(0,a+(l.map (szM M f)).sum):=λl=>by
   induction l with
   |nil=>intro a _ _;rfl
   |cons k l u=>
    intro a g v;rw[ny,List.sum_cons] at v;rw[ny (f:=szM M f),List.sum_cons];obtain⟨x,w, -⟩:=d.down n e k b (g k aI);have i:=(d.step b (g k aI)).1;have m:=aag d c f k x a w (h e b k (g k aI)) aa;rw[i] at m;rw[ny,uQ,m,aR rfl,u _ (λj y=>g j (by simp[y])) fZ];simp only;grind
  grind

import Derived.Test.YtbkjmamcnflncaaGreatDoorQs33
import Derived.Test.YtbkjmamcnflncaaGreatDoorQs30
import Derived.Test.YtbkjmamcnflncaaGreatDoorQs31
import Derived.Test.YtbkjmamcnflncaaGreatDoorQs32
namespace Go.Proofs.YtbkjmamcnflncaaGreatDoor
open Go.Proofs.Tryz
set_option maxHeartbeats 8000000
section
open Go.Sort
def sN {a:Type}(b:a->Int)(l:List a):List a:=(List.range 1000).flatMap (λ(k:Nat)=>l.filter (λx=>b x==(k:Int)))
theorem Zy {a β:Type}(b:β->Int)(g:a->β)(l:List a):(sN (λx=>b (g x)) l).map g=sN b (l.map g):=by
 unfold sN;rw[List.map_flatMap];congr 1;funext k;rw[List.filter_map];rfl
theorem Rf {a:Type}{R:a->a->Prop}(g:∀x y z,R x y->R y z->R x z)(hi:∀x,¬R x x):∀{l m:List a},l.Pairwise R->m.Pairwise R->(∀x,x∈l↔x∈m)->l=m
 |[],[],_,_,_=>rfl
 |[],y::m,_,_,h=>absurd ((h y).2 aG) aG
 |x::l,[],_,_,h=>absurd ((h x).1 aG) aG
 |x::l,y::m,c,d,h=>by
  rw[List.pairwise_cons] at c d;have b:x=y:=by
   rcases gD.1 ((h x).1 aG) with e|e
   .exact e
   .rcases gD.1 ((h y).2 aG) with f|f
    .exact f.symm
    .grind
  subst b;congr 1;refine Rf g hi c.2 d.2 λz=>⟨λi=>?_,λi=>?_⟩
  .grind
  .grind
section
variable {α:Type}[Inhabited α]{A:α->Int}{C:α->Nat}
theorem xD {d:Array α}{x:α}:x∈d.toList↔InR d 0 d.size x:=by
 constructor
 .intro h;obtain⟨i,b,e⟩:=List.getElem_of_mem h;have a:i<d.size:=aa;exact⟨i,bf _,a,by rw[getElem!_pos d i a];simpa using e⟩
 .rintro⟨i, -,b,rfl⟩;grind
theorem a3u {R:α->α->Prop}{d:Array α}(h:∀i j,i<j->j<d.size->R d[i]! d[j]!):d.toList.Pairwise R:=by
 rw[List.pairwise_iff_getElem];grind
omit [Inhabited α] in
theorem a3v {l:List α}(h:l.Pairwise (λx y=>C x<C y)):(sN A l).Pairwise (BD A C):=by
 unfold sN;rw[List.pairwise_flatMap];refine⟨λk _=>?_,?_⟩
 .have e:=List.Pairwise.filter (λx=>A x==(k:Int)) h;refine List.Pairwise.imp_of_mem (λ{a b} f g i=>?_) e;have c:=(lU.1 f).2;have d:=(lU.1 g).2;simp only[beq_iff_eq] at c d;exact .inr ⟨c.trans d.symm,i⟩
 .refine List.Pairwise.imp (λ{a b} j x m y n=>?_) List.pairwise_lt_range;have c:=(lU.1 m).2;have d:=(lU.1 n).2;simp only[beq_iff_eq] at c d;exact .inl aa
omit [Inhabited α] in
theorem Zz {l:List α}(h:∀x∈l,0<=A x/\A x<1000)(x:α):x∈sN A l↔x∈l:=by
 unfold sN;simp only[List.mem_flatMap,List.mem_range,lU,beq_iff_eq];constructor
 .grind
 .intro a;obtain⟨b,c⟩:=h x a;exact⟨(A x).toNat,aa,a,aa⟩
theorem ZA {d e:Array α}(a:yl d e 0 d.size)(hs:PU A C e 0 d.size)(k:∀i,i<d.size->C d[i]! =i)(f:∀x∈d.toList,0<=A x/\A x<1000):e.toList=sN A d.toList:=by
 refine Rf (R:=BD A C) (λ_ _ _ h g=>h.trans g) (λx h=>by unfold BD at h;omega) (a3u λi j b c=>hs i j (bf _) b (by rw[<- a.sz];exact c)) (a3v (a3u λi j b c=>?_)) λx=>?_
 .grind
 .rw[Zz f,xD,xD,a.sz];exact a.same x
end
end
section
open Go.RowKit Go.Shelf Go.Sort
theorem abW (s:Bs):0<=J5 s/\J5 s<1000:=by
 unfold J5;grind
def Jz (l:List Pc):Prop:=∀x∈l,0<=x.lv/\x.lv<1000
theorem Xa {a:Type}(g:Nat×List Pc->a->Except Ft (Nat×List Pc))(f:∀s x b,g s x=.ok b->Jz s.2->Jz b.2):∀(l:List a) (s b:Nat×List Pc),l.foldlM g s=.ok b->Jz s.2->Jz b.2
 |[],s,b,h,c=>by cases h;exact c
 |x::l,s,b,h,c=>by
  rw[List.foldlM_cons] at h;cases d:g s x with
  |error e=>rw[d] at h;cases h
  |ok t=>
   rw[d] at h;exact Xa g f l t b h (f s x t d c)
theorem Nh (M:Dm)(l:List Rl):∀(f:Nat) (n:Int) (path:List Int) (m:Mv) (st a:Nat×List Pc),fK M l f n path m st=.ok a->Jz st.2->Jz a.2
 |0,n,path,m,st,a,h,_=>by
  unfold fK at h;grind
 |f+1,n,path,m,st,a,h,c=>by
  unfold fK at h;split at h
  .cases h
  split at h
  .cases h
  split at h
  .grind
  have d:∀(e:Mv) (x:Except Nat (List Qt)),jR M l n e x (st.1+1,st.2)=.ok a->Jz a.2:=λe x h=>by
   unfold jR at h;split at h
   .cases h
   .split at h
    .cases h
    .split at h
     .grind
     .cases h;intro y b;rcases gT.1 b with b|b
      .exact c y b
      .simp at b;subst b;exact abW _
  split at h
  .cases h
  .split at h
   .exact d _ _ h
   .split at h
    .exact d _ _ h
    .split at h
     .exact Xa _ (λs x a h=>Nh M l f x _ _ s a h) _ (st.1+1,st.2) a h c
     .split at h
      .cases h
      .exact Nh M l f _ _ _ (st.1+1,st.2) a h c
theorem Rh {a:Type}{b c:a->Int}{l:List a}(h:∀x∈l,b x=c x):sN b l=sN c l:=by
 unfold sN;congr 1;funext k;exact List.filter_congr λx d=>by rw[h x d]
instance:Inhabited fq:=⟨⟨0,none,0,[],[],[],0⟩⟩
def a7G (i:Nat)(x:fq):S5:=⟨x.nd,x.o,x.pts.length,x.cap,⟨x.fill.toArray⟩,⟨x.rule.toArray⟩,x.lv,i⟩
def d5 (a:List fq):Array S5:=(a.mapIdx a7G).toArray
theorem EK (a:List fq):(d5 a).size=a.length:=by simp[d5]
theorem Ch (a:List fq)(i:Nat)(hi:i<a.length):(d5 a)[i]! =a7G i a[i]:=by
 rw[getElem!_pos _ i (by rw[EK];exact hi)];simp[d5]
theorem Ig:∀(a:List fq) (i c:Nat) (hi:i<a.length),c<5->(cellsS a)[i*5+c]? =([ag a[i].nd,He a[i],bV a[i].fill,bV a[i].rule,ag a[i].lv]:List au)[c]?
 |[],i,c,hi,_=>absurd hi aG
 |x::a,0,c,_,b=>by
  rw[Nat.zero_mul,fZ];unfold cellsS
  match c,b with
  |0,_=>rfl
  |1,_=>rfl
  |2,_=>rfl
  |3,_=>rfl
  |4,_=>rfl
 |x::a,i+1,c,hi,b=>by
  have:=Ig a i c (by simpa using hi) b;rw[show(i+1)*5+c=i*5+c+1+1+1+1+1 from by omega];unfold cellsS;grind
theorem Ih (d:Array S5)(a:List fq)(hs:d.size=a.length)(h:∀i (hi:i<a.length),yN d[i]! =[ag a[i].nd,He a[i],bV a[i].fill,bV a[i].rule,ag a[i].lv]):(flatK yN 5 d).toList=cellsS a:=by
 apply List.ext_getElem?;intro t;by_cases b:t<a.length*5
 .have c:t<(flatK yN 5 d).size:=by rw[size_flatK,hs];exact b
  have hi:t/5<a.length:=aa;have e:t % 5<5:=aa;have f:=get_flatK yN 5 d t (by rw[hs];exact b);rw[getElem!_pos _ t c,h (t/5) hi] at f;have g:=Ig a (t/5) (t % 5) hi e;grind
 .rw[ES (by simp[hs];omega),ES (by rw[yX];omega)]
theorem a3w (F a:Array au)(h:F.size<=a.size):(putCells id 0 F a).toList.take F.size=F.toList:=by
 apply List.ext_getElem?;intro k;rw[AV];split
 .next b=>
  have c:k<a.size:=aa;unfold putCells;grind
 .next b=>rw[ES aX]
theorem Ni {n:Nat}{W:ah}{g f:Nat}{h:Array au}(a:List fq)(I:a.length<=1000)(v:∀x∈a,0<=x.lv/\x.lv<1000)(J:n<=g)(hc:W.heap[g]? =some (ai h 115))(K:a.length<=f)(L:f<=maxLen)(M:h.size=f*5)(X:h.toList.take (a.length*5)=cellsS a):
  aJ 79 #[aj (some ⟨g,0,none⟩) a.length f,uo] W λe w'=>e=ax (aF #[])/\∃s:List fq,s.map fq.pc=yj (a.map fq.pc)/\s.length=a.length/\(∀x∈s,x∈a)/\w'.ownsRow n 115 5 (aj (some ⟨g,0,none⟩) a.length f) s.length (cellsS s)/\W.grownBy w' (some g):=by
 have N:(flatK yN 5 (d5 a)).toList=cellsS a:=Ih _ a (EK a) (λi o=>by rw[Ch a i o];rfl);have O:HoldsK yN 5 W g 0 (d5 a):=λj b=>by
  refine⟨?_,bq hc _⟩;rw[fZ];refine aO hc j _ ?_;have P:j<a.length*5:=by rw[size_flatK,EK] at b;exact b
  have w:(h.toList.take (a.length*5))[j]? =(flatK yN 5 (d5 a)).toList[j]? :=by grind
  grind
 have c:=EK a;have D:=Gj (dz hc) O (by rw[c];exact I) (λi o=>by rw[Ch a i (by rw[<- c];exact o)];rfl) f;rw[c] at D;refine D.mono λe w' Q=>?_;obtain⟨R,d,u,m,S,E⟩:=Q;refine⟨R,?_⟩;have p:d.size=a.length:=u.mv.sz.trans c;have t:∀x,InR d 0 a.length x->∃(j:Nat) (b:j<a.length),x=a7G j a[j]:=λx k=>by
  obtain⟨j, -,b,y⟩:=(u.mv.same x).1 k;exact⟨j,b,by rw[<- y,Ch a j b]⟩
 have q:∀x∈d.toList,∃(b:x.tag<a.length),x=a7G x.tag a[x.tag]:=λx k=>by
  have w:=xD.1 k;rw[p] at w;obtain⟨j,b,rfl⟩:=t x w;exact⟨b,rfl⟩
 have l:(d.toList.map λx=>a[x.tag]!).length=a.length:=by grind
 refine⟨d.toList.map λx=>a[x.tag]!,?_,l,?_,?_,?_⟩
 .have F:=u.mv;have H:=u.s;rw[<- c] at F H;have z:=ZA F H (λi o=>by rw[Ch a i (by rw[<- c];exact o)];rfl) (λx k=>by
   obtain⟨j, -,b,rfl⟩:=xD.1 k;rw[c] at b;rw[Ch a j b];exact v _ (List.getElem_mem b))
  rw[z,List.map_map];have T:∀x∈(d5 a).toList,S5.lv x=Pc.lv ((fq.pc∘λx:S5=>a[x.tag]!) x):=λx k=>by
   obtain⟨j, -,b,rfl⟩:=xD.1 k;rw[c] at b;rw[Ch a j b];show a[j].lv=(a[j]!).lv;grind
  rw[Rh T,Zy Pc.lv];show sN Pc.lv _=sN Pc.lv _;congr 1;apply List.ext_getElem?;intro i;rw[iN,iN];unfold d5;rw[List.toList_toArray,List.getElem?_mapIdx];cases k:a[i]? with
  |none=>rfl
  |some x=>
   obtain⟨o,rfl⟩:=kQ.1 k;show some (fq.pc a[i]!)=some (fq.pc a[i]);grind
 .grind
 .have A:(flatK yN 5 d).toList=cellsS (d.toList.map λx=>a[x.tag]!):=Ih d _ (by rw[l,p]) (λi o=>by
   have B:i<d.size:=aa;obtain⟨b,k⟩:=q d[i]! (xD.2 ⟨i,bf _,B,rfl⟩);have U:(d.toList.map λx=>a[x.tag]!)[i]=a[d[i]!.tag]:=by grind
   rw[U]
   conv=>lhs;rw[k]
   rfl)
  have r:W.heap.size=(putRowK yN 5 (Sort.ahead W m) g 0 d).heap.size:=by
   unfold putRowK;rw[size_putRow];rfl
  have C:w'.heap[g]? =some (ai (putCells id 0 (flatK yN 5 d) h) 115):=by
   rw[E];unfold sortWorldK grow;rw[Array.getElem?_append_left (by rw[<- r];exact dz hc)];unfold putRowK putRow mapBlock;rw[Array.getElem?_modify,if_pos rfl];show Option.map _ (W.heap[g]?)=_;rw[hc];rfl
  have hF:(flatK yN 5 d).size=a.length*5:=by rw[size_flatK,p]
  rw[l];refine⟨by rw[yX,l],.inr ⟨g,f,_,rfl,J,C,K,L,?_,?_⟩⟩
  .unfold putCells;grind
  .rw[<- A,<- hF];exact a3w _ h (by rw[hF,M];omega)
 .have r:W.heap.size=(putRowK yN 5 (Sort.ahead W m) g 0 d).heap.size:=by
   unfold putRowK;rw[size_putRow];rfl
  rw[E];refine⟨rfl,rfl,rfl,?_,λx k V=>?_⟩
  .unfold sortWorldK grow;grind
  .unfold sortWorldK grow;show((putRowK yN 5 (Sort.ahead W m) g 0 d).heap++S)[x]? =_;rw[Array.getElem?_append_left (by rw[<- r];exact k)];unfold putRowK putRow mapBlock;show(W.heap.modify g _)[x]? =_;grind
theorem a7H (W:ah):aJ 196 #[aj none 0 0,ag 0,ag 0,uo] W λe w'=>e=ax (aF #[])/\w'=W:=by
 go_enter func196,ntmps196;go_wp2_with fail
 go_loopw [8] (λy wr=>y=ag 1/\wr=W) (λ_ _=>0)
 case atStart=>exact⟨rfl,rfl⟩
 case round=>
  obtain⟨rfl,rfl⟩:=hrel;go_wp2_with fail
  go_end0
  exact⟨rfl,rfl⟩
theorem V6 (W:ah):aJ 134 #[aj none 0 0,ag 0,uo] W λe w'=>e=ax (aF #[])/\w'=W:=by
 have a:aJ 196 #[aj none 0 0,ag 0,ag 0,uo] W λe w'=>e=ax (aF #[])/\W=w':=(a7H W).mono λ_ _ h=>⟨h.1,h.2.symm⟩;go_enter func134,ntmps134;go_upto_region 2 with fail
 go_loopw [7,8] (λx y wr=>x=ag 0/\y=ag 20/\wr=W) (λ_ _ _=>0)
 case atStart=>exact⟨rfl,rfl,rfl⟩
 case round=>
  obtain⟨rfl,rfl,rfl⟩:=hrel;go_wp2_with(go_at_call 196;refine a.mono ?_;rintro e c ⟨rfl,rfl⟩)
  go_loopw [6] (λx b=>x=ag 20/\b=wr) (λ_ _=>0)
  case atStart=>exact⟨rfl,rfl⟩
  case round=>
   obtain⟨rfl,rfl⟩:=hrel;go_wp2_with fail
   go_end0
   exact⟨rfl,rfl⟩
theorem a3x (W:ah):aJ 79 #[aj none 0 0,uo] W λe w'=>e=ax (aF #[])/\w'=W:=by
 have a:=V6 W;go_enter func79,ntmps79;go_wp2_with(go_at_call 134;refine a.mono ?_;rintro e b ⟨rfl,rfl⟩)
 go_end0
 exact⟨rfl,rfl⟩
theorem a7I {b:Nat}{W:ah}{v:au}(a:List fq)(k:a.length<=1000)(f:∀x∈a,0<=x.lv/\x.lv<1000)(j:W.ownsRow b 115 5 v a.length (cellsS a)):
  aJ 79 #[v,uo] W λe w'=>e=ax (aF #[])/\∃c:List fq,c.map fq.pc=yj (a.map fq.pc)/\c.length=a.length/\(∀x∈c,x∈a)/\w'.ownsRow b 115 5 v c.length (cellsS c)/\W.grownBy w' v.ownBlock:=by
 obtain⟨s,l⟩:=id j;rcases l with⟨rfl,h⟩|⟨g,m,n,rfl,h,i,d,o,p,q⟩
 .obtain rfl:a=[]:=lS.1 h;refine(a3x W).mono λe w' ⟨i,d⟩=>⟨i,[],by simp[yj],rfl,λx r=>r,by rw[d];exact j,?_⟩;rw[d];exact⟨rfl,rfl,rfl,Nat.le_refl _,λ_ _ _=>rfl⟩
 .exact Ni a k f h i d o p q
def a7J (E:Nat->Addr)(W:ah)(x:Except Ft (List Pc))(e:Ending)(w':ah):Prop:=match x with
 | .error f=>∃u,e=ax (aF #[aj none 0 0,u])/\FtV E f W.heap.size u w'
 | .ok l=>∃b v,b.map fq.pc=l/\e=ax (aF #[v,aU])/\w'.ownsRow W.heap.size 115 5 v b.length (cellsS b)/\(∀x∈b,kF w' W.heap.size (He x) x.pts)/\∀x∈b,∀a∈x.pts,iJ a=0
set_option maxRecDepth 20000
theorem Ri {a:Type}(g:Nat×List Pc->a->Except Ft (Nat×List Pc))(f:∀s x b,g s x=.ok b->s.1<=100->b.1<=100):∀(l:List a) (s b:Nat×List Pc),l.foldlM g s=.ok b->s.1<=100->b.1<=100
 |[],s,b,h,c=>by cases h;exact c
 |x::l,s,b,h,c=>by
  rw[List.foldlM_cons] at h;cases d:g s x with
  |error e=>rw[d] at h;cases h
  |ok t=>
   rw[d] at h;exact Ri g f l t b h (f s x t d c)
theorem Av (M:Dm)(l:List Rl):∀(f:Nat) (n:Int) (path:List Int) (m:Mv) (st a:Nat×List Pc),fK M l f n path m st=.ok a->st.1<=100->a.1<=100
 |0,n,path,m,st,a,h,_=>by
  unfold fK at h;grind
 |f+1,n,path,m,st,a,h,_=>by
  unfold fK at h;split at h
  .cases h
  split at h
  .cases h
  next _ e=>
  have b:st.1+1<=100:=aa;split at h
  .grind
  have c:∀(d:Mv) (x:Except Nat (List Qt)),jR M l n d x (st.1+1,st.2)=.ok a->a.1<=100:=λd x h=>by
   unfold jR at h;grind
  split at h
  .cases h
  .split at h
   .exact c _ _ h
   .split at h
    .exact c _ _ h
    .split at h
     .exact Ri _ (λs x a h=>Av M l f x _ _ s a h) _ (st.1+1,st.2) a h b
     .split at h
      .cases h
      .exact Av M l f _ _ _ (st.1+1,st.2) a h b
theorem a3y {E:Nat->Addr}{W l:ah}{b DB:Nat}{s:au}{k:Nat}{c:List fq}{v:au}(p:aD W l)(hs:Sc W.heap.size b DB s k c v l)(t:c.length<=1000)(m:Jz (c.map fq.pc)):
  aJ 79 #[v,uo] l λe i=>e=ax (aF #[])/\i.cell? (aH b 3)=some v/\Hid (a7J E W (.ok (yj (c.map fq.pc))) (ax (aF #[v,aU])) i/\aD W i):=by
 refine(a7I c t (λx d=>m x.pc (List.mem_map_of_mem d)) hs.own).mono λe i ⟨u,w,y,H,q,z,n⟩=>?_;have o:v.ownBlock≠some b:=λh=>by
  obtain⟨A,f,a, -⟩:=fM hs.own b h;rw[hs.wb] at a;cases a
 have B:=(n.block b (dz hs.wb) (λh=>o h.symm)).trans hs.wb;refine⟨u,aO B 3 _ rfl,⟨w,v,y,rfl,z,λx d=>?_,λx d=>hs.rt x (q x d)⟩,p.grown n p.size (λj C=>?_)⟩
 .have r:=hs.pts x (q x d);refine di r λg D=>?_;obtain⟨A,f,a, -⟩:=fM r g D;refine n.block g (dz a) (λh=>?_);obtain⟨F,I,J, -⟩:=fM hs.own g h.symm;grind
 .obtain⟨-, -, -,a⟩:=fM hs.own j C;exact a
section
variable {E:Nat->Addr}{B:Nat}{C:dm}{W:ah}{DB D:Nat}{p:Int->Option Nat}{M:Dm}{nx c:Nat}{r:Int->Nat}{l:List Rl}{B0:Nat}{A:au}
abbrev oD (DB:Nat):Obj:=ai #[aI DB] 74
abbrev Rj (A:au):Obj:=ai #[A] 77
abbrev oW (DB H:Nat):Obj:=ai #[aI DB,xK H (H+1),ag 0,aj none 0 0] 159
abbrev oP:Obj:=ai (plA (-1) (.pointer none) .one) 168
theorem Xb (W e:ah)(a:Below (((W.alloc (oD DB)).alloc (Rj A)).alloc (oW DB W.heap.size)).heap.size (((W.alloc (oD DB)).alloc (Rj A)).alloc (oW DB W.heap.size)) e):AJ (W.heap.size+2) DB W.heap.size (W.heap.size+1) A W 0 [] (aj none 0 0) e:=by
 have j:=dI W (oD DB);have k:=dI (W.alloc (oD DB)) (Rj A);have f:=dI ((W.alloc (oD DB)).alloc (Rj A)) (oW DB W.heap.size);have g:=dN W #[aI DB] 74;have b:=dN (W.alloc (oD DB)) #[A] 77;have c:=dN ((W.alloc (oD DB)).alloc (Rj A)) #[aI DB,xK W.heap.size (W.heap.size+1),ag 0,aj none 0 0] 159;have h:(W.alloc (oD DB)).heap.size=W.heap.size+1:=dK _ _;have l:((W.alloc (oD DB)).alloc (Rj A)).heap.size=W.heap.size+2:=by rw[dK,h]
 have i:=aW k (aW f a);refine⟨aW j i,Nat.le_add_right _ _,(i.block _ (dz g)).trans g,?_,⟨?_,gp _ _ _ _,λx d=>(by cases d),λx d=>(by cases d)⟩⟩
 .rw[h] at b;have:=((aW f a).block _ (dz b)).trans b;exact this
 .rw[l] at c;exact(a.block _ (dz c)).trans c
theorem zf (h:En E B C W DB D p M nx c r l B0 A):
  aJ 40 #[aI DB,A] W λe w'=>a7J E W (eH M l) e w'/\aD W w':=by
 have S:=tV (((W.alloc (oD DB)).alloc (Rj A)).alloc (oW DB W.heap.size));obtain⟨g,i,V⟩:=bg h.row;subst V;have z:∀a,Below (((W.alloc (oD DB)).alloc (Rj (aj g l.length i))).alloc (oW DB W.heap.size)).heap.size (((W.alloc (oD DB)).alloc (Rj (aj g l.length i))).alloc (oW DB W.heap.size)) a->aJ 77 #[.pointer (some ⟨W.heap.size+2,0,none⟩),ag 0,aI a.heap.size] (a.alloc oP) λe w'=>lI E W.heap.size (W.heap.size+2) DB (xK W.heap.size (W.heap.size+1)) (aj none 0 0) (a.alloc oP) (fK M l 101 0 [-1] .one (0,[])) e w'/\Kw (W.heap.size+2) (aj none 0 0) (a.alloc oP) w':=λa d=>
  Re h 101 0 [] (aj none 0 0) (a.alloc oP) 0 (-1) .one [] a.heap.size aa ay aC (Xb W _ (aW d (dI _ _))) ⟨_,none,rfl,dN _ _ _,rfl⟩ FE
 have j:∀a,Below (((W.alloc (oD DB)).alloc (Rj (aj g l.length i))).alloc (oW DB W.heap.size)).heap.size (((W.alloc (oD DB)).alloc (Rj (aj g l.length i))).alloc (oW DB W.heap.size)) a->AJ (W.heap.size+2) DB W.heap.size (W.heap.size+1) (aj g l.length i) W 0 [] (aj none 0 0) (a.alloc oP):=λa d=>Xb W _ (aW d (dI _ _));have q:Hid (∀st,fK M l 101 0 [-1] .one (0,[])=.ok st->st.2.length<=1000/\Jz st.2/\eH M l=.ok (yj st.2)):=(λst f=>by
  have I:=wM M l 101 0 [-1] .one (0,[]) st f ay;have k:=Av M l 101 0 [-1] .one (0,[]) st f (bf _);refine⟨aa,Nh M l 101 0 [-1] .one (0,[]) st f (λx X=>(by cases X)),?_⟩;unfold eH;rw[f]:∀st,fK M l 101 0 [-1] .one (0,[])=.ok st->st.2.length<=1000/\Jz st.2/\eH M l=.ok (yj st.2))
 have s:Hid (∀m,fK M l 101 0 [-1] .one (0,[])=.error m->eH M l=.error m):=(λm f=>by unfold eH;rw[f]:∀m,fK M l 101 0 [-1] .one (0,[])=.error m->eH M l=.error m);have k1:=dQ (Rj (aj g l.length i)) (jZ W #[aI DB] 74 0 _ rfl);have N:Hid (aD W (((W.alloc (oD DB)).alloc (Rj (aj g l.length i))).alloc (oW DB W.heap.size))):=aW (dI _ _) (aW (dI _ _) (dI _ _));clear h;obtain⟨O,b⟩:∃x,fK M l 101 0 [-1] .one (0,[])=x:=⟨_,rfl⟩;rw[b] at z;cases O with
 |error m=>
  have F:=s.out m b;rw[F];have t:∀a,Below (((W.alloc (oD DB)).alloc (Rj (aj g l.length i))).alloc (oW DB W.heap.size)).heap.size (((W.alloc (oD DB)).alloc (Rj (aj g l.length i))).alloc (oW DB W.heap.size)) a->aJ 77 #[.pointer (some ⟨W.heap.size+2,0,none⟩),ag 0,aI a.heap.size] (a.alloc oP) λe w'=>∃y,e=ax (aP 67 (aI y))/\Hid (FtV E m (a.alloc oP).heap.size (aP 67 (aI y)) w'/\aD W w'):=λa d=>(z a d).mono λe w' ⟨⟨u,I,k⟩,v⟩=>by
   obtain⟨y,J,rfl,P⟩:=k;exact⟨y,I,⟨y,J,rfl,P⟩,(j a d).low.trans ((j a d).sc.low v (j a d).wb (j a d).low.size)⟩
  clear z j q s b F;go_enter func40,ntmps40;go_wp2_with(first|(go_at_call 78;refine S.mono ?_;rintro e a ⟨rfl,K⟩;have Q:=t a K)|(go_at_call 77;refine Q.mono ?_;rintro e Y ⟨y,rfl,k⟩))
  go_ret2
  obtain⟨v,J⟩:=k.out;have Z:=(aW (aW N.out K) (dI a oP)).size;exact⟨⟨_,rfl,v.low Z⟩,J⟩
 |ok st=>
  obtain⟨T,R,F⟩:=q.out st b;rw[F];have t:∀a,Below (((W.alloc (oD DB)).alloc (Rj (aj g l.length i))).alloc (oW DB W.heap.size)).heap.size (((W.alloc (oD DB)).alloc (Rj (aj g l.length i))).alloc (oW DB W.heap.size)) a->aJ 77 #[.pointer (some ⟨W.heap.size+2,0,none⟩),ag 0,aI a.heap.size] (a.alloc oP) λe w'=>e=ax aU/\∃o n w,w'.cell? ⟨W.heap.size+2,3,none⟩=some (aj o n w)/\aJ 79 #[aj o n w,uo] w' λe L=>e=ax (aF #[])/\L.cell? ⟨W.heap.size+2,3,none⟩=some (aj o n w)/\Hid (a7J E W (.ok (yj st.2)) (ax (aF #[aj o n w,aU])) L/\aD W L):=λa d=>(z a d).mono λe w' ⟨⟨I,a4,v2,k,v,J⟩,P⟩=>by
   obtain⟨o,w,hv⟩:=bg v.own;subst hv;have H:aD W w':=(j a d).low.trans ((j a d).sc.low P (j a d).wb (j a d).low.size);have U:=a3y (E:=E) H v (by have h6:=congrArg List.length k;rw[dF] at h6;omega) (by rw[k];exact R);rw[k] at U;exact⟨I,o,_,w,aO v.wb 3 _ rfl,U⟩
  clear z j q s b F;go_enter func40,ntmps40;go_wp2_with(first|(go_at_call 78;refine S.mono ?_;rintro e a ⟨rfl,K⟩;have Q:=t a K)|(go_at_call 77;refine Q.mono ?_;rintro e Y ⟨rfl,o,nn,w,c3,S3⟩)|(go_at_call 79;refine S3.mono ?_;rintro e L ⟨rfl,c4,k⟩))
  go_ret2
  exact k.out
end
end
open Go.RowKit
structure LE (E:Nat->Addr)(w:ah):Prop where
 ne:NE E w
 de:DE E w
 ty:w.cell? (aH 11 0)=some (aP 208 (.agg #[hE]))
section
variable {E:Nat->Addr}{w w':ah}
theorem LE.ce (h:LE E w):CE E w:=⟨h.de.c4,h.de.c6,h.de.c7,h.de.c8,h.de.c10⟩
theorem LE.ep (h:LE E w):EP (E 2) (E 3) (E 3) (E 10) w:=⟨⟨h.de.c2,h.de.c3,rfl⟩,h.de.c10,h.ty⟩
theorem LE.below (h:LE E w)(a:aD w w'):LE E w':=⟨h.ne.below a,h.de.below a ay,(a.cell (aR h.ty)).trans h.ty⟩
end
theorem eG.fit {M:Dm}(h:eG M):E8 M/\SzD M:=by
 refine⟨λn e b=>?_,λn e b a c=>?_⟩
 .obtain⟨f, -,d⟩:=h n e b;refine⟨λg=>(by rw[g] at f;exact absurd f aC),λa c=>?_⟩;have:=pM (d.1 a c).2;omega
 .obtain⟨-, -,d⟩:=h n e b;exact pM (d.1 a c).2
theorem Rk {a β:Type}{f g:a->List β}:∀b:List a,(∀j∈b,f j=g j)->b.flatMap f=b.flatMap g
 |[],_=>rfl
 |k::b,h=>by rw[List.flatMap_cons,List.flatMap_cons,h k aG,Rk b (λj c=>h j (by simp[c]))]
theorem Rm {b:Type}(q:b->Bool):∀l:List b,(l.filter q).length+(l.filter (λx=> !q x)).length=l.length
 |[]=>rfl
 |a::l=>by
  have c:=Rm q l;grind
theorem Rn:∀(a:List Nat) (l:List Pc),a.Nodup->(a.flatMap (λ(k:Nat)=>l.filter (λx=>x.lv==(k:Int)))).length<=l.length
 |[],_,_=>bf _
 |k::a,l,h=>by
  obtain⟨e,b⟩:=qi.1 h;have c:=Rn a (l.filter (λx=> !(x.lv==(k:Int)))) b;have d:a.flatMap (λ(j:Nat)=>(l.filter (λx=> !(x.lv==(k:Int)))).filter (λx=>x.lv==(j:Int)))=a.flatMap (λ(j:Nat)=>l.filter (λx=>x.lv==(j:Int))):=by
   refine Rk a λj f=>?_;rw[List.filter_filter];grind
  rw[d] at c;rw[List.flatMap_cons,dJ];have g:=Rm (λx:Pc=>x.lv==(k:Int)) l;omega
theorem a3z (l:List Pc):(yj l).length<=l.length:=Rn _ l List.nodup_range
def JA (M:Dm)(rl:List Rl):Prop:=∃l,eH M rl=.ok l/\∀x∈l,jU (gX x)
structure LvS (W:ah)(LB B:Nat)(tg:dm)(DB MB:Nat)(p:Int->Option Nat)(M:Dm)(nx c:Nat)(r:Int->Nat)(rl:List Rl)(rv:au)(qs:List fq)(pv:au)(w h:Nat)(cv:au):Prop where
 lb:W.heap[LB]? =some (ai #[aI DB,rv,pv,ag w,ag h,cv] 88)
 base:B<=LB
 ds:j5 B tg W DB MB p M nx c r
 ok:eG M
 rok:∀x∈rl,RlG x
 row:W.ownsRow B 150 3 rv rl.length (fE rl)
 pc:xM W B pv qs
 pm:eH M rl=.ok (qs.map fq.pc)
 pk:∀x∈qs,jU (gX x.pc)
 ql:qs.length<=1000
 Xc:W.ownsRow B 9 1 cv (w*h) ((ng bA ((qs.map fq.pc).map gX) w h).map ak)
section
variable {E:Nat->Addr}{W w':ah}{LB B:Nat}{D:dm}{DB I:Nat}{p:Int->Option Nat}{M:Dm}{nx c:Nat}{r:Int->Nat}{rl:List Rl}{C:au}{A:List fq}{pv:au}{w h:Nat}{J:au}
theorem LvS.below (a:LvS W LB B D DB I p M nx c r rl C A pv w h J)(b:aD W w'):LvS w' LB B D DB I p M nx c r rl C A pv w h J:=
 ⟨(b.block _ (aY a.lb)).trans a.lb,a.base,a.ds.below b,a.ok,a.rok,bD a.row b,a.pc.below b,a.pm,a.pk,a.ql,bD a.Xc b⟩
theorem uF {M:Dm}{rl:List Rl}{l:List Pc}(hp:eH M rl=.ok l):l.length<=1000:=by
 unfold eH at hp;cases a:fK M rl 101 0 [-1] .one (0,[]) with
 |error e=>rw[a] at hp;cases hp
 |ok st=>
  rw[a] at hp;have b:=Except.ok.inj hp;rw[<- b];have c:=wM M rl 101 0 [-1] .one (0,[]) st a ay;have d:=Av M rl 101 0 [-1] .one (0,[]) st a (bf _);have f:=a3z st.2;omega
end
mutual
theorem a3A:∀(n:Nd) (a ahead k:Nat) (p:Int),(iT n a ahead).1=0->∀e∈uK k p n,a7w e
 | .mk i ats d,a,ahead,k,p,h,e,b=>by
  unfold iT at h;split at h
  .rename_i c;rw[uK] at b;rcases gD.1 b with rfl|b
   .obtain⟨f,g, -⟩:=G8 c;refine⟨f,g,I9.ck.1 ?_⟩;unfold ck1 at c;grind
   .exact a3B d _ _ _ _ h e b
  .rename_i c;exact(c h).elim
theorem a3B:∀(l:List Nd) (a ahead k:Nat) (p:Int),(uj l a ahead).1=0->∀e∈vB k p l,a7w e
 |[],_,_,_,_,_,e,b=>by simp[vB] at b
 |n::l,a,ahead,k,p,h,e,b=>by
  by_cases c:(iT n a ahead).1=0
  .rw[rY c] at h;rw[vB] at b;rcases gT.1 b with b|b
   .exact a3A n a ahead _ _ c e b
   .exact a3B l _ _ _ _ h e b
  .rw[zW c] at h;exact(c h).elim
end
theorem nR {n:Nd}(hc:(iT n 1 0).1=0):eG (kM n):=λi e a=>by
 unfold kM kH at a;split at a
 .exact a3A n 1 0 0 (-1) hc e (gN a)
 .cases a
theorem AB.a3C {B B':Nat}{a:dm}{w:ah}{i:Int}{b:Nat}{e:gP}{va vk:au}(h:AB B a w i b e va vk)(c:B'<=B):AB B' a w i b e va vk:=⟨h.cells,h.tag,fO h.ats c,h.nO,fO h.kids c,h.jG⟩
theorem bT.a3C {B B':Nat}{a:dm}{w:ah}{DB d:Nat}{p:Int->Option Nat}{M:Dm}{nx c:Nat}(h:bT B a w DB d p M nx c)(f:B'<=B):bT B' a w DB d p M nx c:=
 ⟨h.doc,h.mH,h.map,h.mJ,λi e j=>by obtain⟨b,k,l,m,n⟩:=h.els i e j;exact⟨b,k,l,m,n.a3C f⟩,h.non,λb t g=>⟨bu f (h.low b t g).1,(h.low b t g).2⟩,h.dom,h.wf,h.few,h.We⟩
theorem abZ (V:ah)(a:Nat):xM V a (aj none 0 0) []:=⟨gp _ _ _ _,λx b=>(by cases b),λx b=>(by cases b)⟩

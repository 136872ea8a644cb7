import Derived.Test.YtbkjmamcnflncaaGreatDoorQt33
import Derived.Test.YtbkjmamcnflncaaGreatDoorQt30
import Derived.Test.YtbkjmamcnflncaaGreatDoorQt31
import Derived.Test.YtbkjmamcnflncaaGreatDoorQt32
namespace Go.Proofs.YtbkjmamcnflncaaGreatDoor
open Go.Proofs.Tryz
set_option maxHeartbeats 8000000
section
open Go.Sort
def uu {α:Type}(a:α->Int)(l:List α):List α:=(List.range 1000).flatMap (λ(k:Nat)=>l.filter (λx=>a x==(k:Int)))
theorem a0c {α β:Type}(a:β->Int)(g:α->β)(l:List α):(uu (λx=>a (g x)) l).map g=uu a (l.map g):=by
 unfold uu;rw[List.map_flatMap];congr 1;funext k;rw[List.filter_map];rfl
theorem Sm {α:Type}{R:α->α->Prop}(f:∀x y z,R x y->R y z->R x z)(hi:∀x,¬R x x):∀{l m:List α},l.Pairwise R->m.Pairwise R->(∀x,x∈l↔x∈m)->l=m
 |[],[],_,_,_=>rfl
 |[],y::m,_,_,h=>absurd ((h y).2 aI) aI
 |x::l,[],_,_,h=>absurd ((h x).1 aI) aI
 |x::l,y::m,b,c,h=>by
  rw[List.pairwise_cons] at b c;have a:x=y:=by
   rcases gP.1 ((h x).1 aI) with e|e
   .exact e
   .rcases gP.1 ((h y).2 aI) with d|d
    .exact d.symm
    .grind
  subst a;congr 1;refine Sm f hi b.2 c.2 λz=>⟨λg=>?_,λg=>?_⟩
  .grind
  .grind
section
variable {α:Type}[Inhabited α]{A:α->Int}{C:α->Nat}
theorem yh {d:Array α}{x:α}:x∈d.toList↔InR d 0 d.size x:=by
 constructor
 .intro h;obtain⟨i,b,e⟩:=List.getElem_of_mem h;have a:i<d.size:=aa;exact⟨i,bA _,a,by rw[getElem!_pos d i a];simpa using e⟩
 .rintro⟨i, -,b,rfl⟩;grind
theorem a4i {R:α->α->Prop}{d:Array α}(h:∀i j,i<j->j<d.size->R d[i]! d[j]!):d.toList.Pairwise R:=by
 rw[List.pairwise_iff_getElem];grind
omit [Inhabited α] in
theorem a4j {l:List α}(h:l.Pairwise (λx y=>C x<C y)):(uu A l).Pairwise (Cu A C):=by
 unfold uu;rw[List.pairwise_flatMap];refine⟨λk _=>?_,?_⟩
 .have e:=List.Pairwise.filter (λx=>A x==(k:Int)) h;refine List.Pairwise.imp_of_mem (λ{a b} f g i=>?_) e;have c:=(mD.1 f).2;have d:=(mD.1 g).2;simp only[beq_iff_eq] at c d;exact .inr ⟨c.trans d.symm,i⟩
 .refine List.Pairwise.imp (λ{a b} j x m y n=>?_) List.pairwise_lt_range;have c:=(mD.1 m).2;have d:=(mD.1 n).2;simp only[beq_iff_eq] at c d;exact .inl aa
omit [Inhabited α] in
theorem a0d {l:List α}(h:∀x∈l,0<=A x/\A x<1000)(x:α):x∈uu A l↔x∈l:=by
 unfold uu;simp only[List.mem_flatMap,List.mem_range,mD,beq_iff_eq];constructor
 .grind
 .intro a;obtain⟨b,c⟩:=h x a;exact⟨(A x).toNat,aa,a,aa⟩
theorem a0e {d e:Array α}(a:yV d e 0 d.size)(hs:QA A C e 0 d.size)(k:∀i,i<d.size->C d[i]! =i)(f:∀x∈d.toList,0<=A x/\A x<1000):e.toList=uu A d.toList:=by
 refine Sm (R:=Cu A C) (λ_ _ _ h g=>h.trans g) (λx h=>by unfold Cu at h;omega) (a4i λi j b c=>hs i j (bA _) b (by rw[<- a.sz];exact c)) (a4j (a4i λi j b c=>?_)) λx=>?_
 .grind
 .rw[a0d f,yh,yh,a.sz];exact a.same x
end
end
section
open Go.RowKit Go.Shelf Go.Sort
theorem acX (s:Bs):0<=JE s/\JE s<1000:=by
 unfold JE;grind
def Kl (l:List Pc):Prop:=∀x∈l,0<=x.lv/\x.lv<1000
theorem XR {α:Type}(g:Nat×List Pc->α->Except Ft (Nat×List Pc))(d:∀s x a,g s x=.ok a->Kl s.2->Kl a.2):∀(l:List α) (s a:Nat×List Pc),l.foldlM g s=.ok a->Kl s.2->Kl a.2
 |[],s,a,h,b=>by cases h;exact b
 |x::l,s,a,h,b=>by
  rw[List.foldlM_cons] at h;cases c:g s x with
  |error e=>rw[c] at h;cases h
  |ok t=>
   rw[c] at h;exact XR g d l t a h (d s x t c b)
theorem O5 (M:Dm)(l:List Rl):∀(f:Nat) (n:Int) (path:List Int) (m:Mv) (st a:Nat×List Pc),gu M l f n path m st=.ok a->Kl st.2->Kl a.2
 |0,n,path,m,st,a,h,_=>by
  unfold gu at h;grind
 |f+1,n,path,m,st,a,h,c=>by
  unfold gu at h;split at h
  .cases h
  split at h
  .cases h
  split at h
  .grind
  have d:∀(e:Mv) (x:Except Nat (List Qt)),kg M l n e x (st.1+1,st.2)=.ok a->Kl a.2:=λe x h=>by
   unfold kg at h;split at h
   .cases h
   .split at h
    .cases h
    .split at h
     .grind
     .cases h;intro y b;rcases iw.1 b with b|b
      .exact c y b
      .simp at b;subst b;exact acX _
  split at h
  .cases h
  .split at h
   .exact d _ _ h
   .split at h
    .exact d _ _ h
    .split at h
     .exact XR _ (λs x a h=>O5 M l f x _ _ s a h) _ (st.1+1,st.2) a h c
     .split at h
      .cases h
      .exact O5 M l f _ _ _ (st.1+1,st.2) a h c
theorem Sn {α:Type}{a b:α->Int}{l:List α}(h:∀x∈l,a x=b x):uu a l=uu b l:=by
 unfold uu;congr 1;funext k;exact List.filter_congr λx c=>by rw[h x c]
instance:Inhabited fM:=⟨⟨0,none,0,[],[],[],0⟩⟩
def a8x (i:Nat)(x:fM):S5:=⟨x.nd,x.o,x.pts.length,x.cap,⟨x.fill.toArray⟩,⟨x.rule.toArray⟩,x.lv,i⟩
def d5 (a:List fM):Array S5:=(a.mapIdx a8x).toArray
theorem FJ (a:List fM):(d5 a).size=a.length:=by simp[d5]
theorem De (a:List fM)(i:Nat)(hi:i<a.length):(d5 a)[i]! =a8x i a[i]:=by
 rw[getElem!_pos _ i (by rw[FJ];exact hi)];simp[d5]
theorem J8:∀(a:List fM) (i c:Nat) (hi:i<a.length),c<5->(cellsS a)[i*5+c]? =([ag a[i].nd,Ir a[i],bV a[i].fill,bV a[i].rule,ag a[i].lv]:List ax)[c]?
 |[],i,c,hi,_=>absurd hi aI
 |x::a,0,c,_,b=>by
  rw[Nat.zero_mul,gq];unfold cellsS
  match c,b with
  |0,_=>rfl
  |1,_=>rfl
  |2,_=>rfl
  |3,_=>rfl
  |4,_=>rfl
 |x::a,i+1,c,hi,b=>by
  have:=J8 a i c (by simpa using hi) b;rw[show(i+1)*5+c=i*5+c+1+1+1+1+1 from by omega];unfold cellsS;grind
theorem J9 (d:Array S5)(a:List fM)(hs:d.size=a.length)(h:∀i (hi:i<a.length),zB d[i]! =[ag a[i].nd,Ir a[i],bV a[i].fill,bV a[i].rule,ag a[i].lv]):(flatK zB 5 d).toList=cellsS a:=by
 apply List.ext_getElem?;intro t;by_cases b:t<a.length*5
 .have c:t<(flatK zB 5 d).size:=by rw[size_flatK,hs];exact b
  have hi:t/5<a.length:=aa;have e:t % 5<5:=aa;have f:=get_flatK zB 5 d t (by rw[hs];exact b);rw[getElem!_pos _ t c,h (t/5) hi] at f;have g:=J8 a (t/5) (t % 5) hi e;grind
 .rw[BV (by simp[hs];omega),BV (by rw[zK];omega)]
theorem a4k (F a:Array ax)(h:F.size<=a.size):(putCells id 0 F a).toList.take F.size=F.toList:=by
 apply List.ext_getElem?;intro k;rw[zg];split
 .next b=>
  have c:k<a.size:=aa;unfold putCells;grind
 .next b=>rw[BV bq]
theorem O6 {n:Nat}{W:ai}{g f:Nat}{h:Array ax}(a:List fM)(I:a.length<=1000)(v:∀x∈a,0<=x.lv/\x.lv<1000)(J:n<=g)(hc:W.heap[g]? =some (ak h 115))(K:a.length<=f)(L:f<=maxLen)(M:h.size=f*5)(X:h.toList.take (a.length*5)=cellsS a):
  aL 79 #[aj (some ⟨g,0,none⟩) a.length f,uT] W λe w'=>e=ay (aH #[])/\∃s:List fM,s.map fM.pc=yU (a.map fM.pc)/\s.length=a.length/\(∀x∈s,x∈a)/\w'.ownsRow n 115 5 (aj (some ⟨g,0,none⟩) a.length f) s.length (cellsS s)/\W.grownBy w' (some g):=by
 have N:(flatK zB 5 (d5 a)).toList=cellsS a:=J9 _ a (FJ a) (λi o=>by rw[De a i o];rfl);have O:HoldsK zB 5 W g 0 (d5 a):=λj b=>by
  refine⟨?_,bG hc _⟩;rw[gq];refine aQ hc j _ ?_;have P:j<a.length*5:=by rw[size_flatK,FJ] at b;exact b
  have w:(h.toList.take (a.length*5))[j]? =(flatK zB 5 (d5 a)).toList[j]? :=by grind
  grind
 have c:=FJ a;have D:=Hg (dI hc) O (by rw[c];exact I) (λi o=>by rw[De a i (by rw[<- c];exact o)];rfl) f;rw[c] at D;refine D.mono λe w' Q=>?_;obtain⟨R,d,u,m,S,E⟩:=Q;refine⟨R,?_⟩;have p:d.size=a.length:=u.mv.sz.trans c;have t:∀x,InR d 0 a.length x->∃(j:Nat) (b:j<a.length),x=a8x j a[j]:=λx k=>by
  obtain⟨j, -,b,y⟩:=(u.mv.same x).1 k;exact⟨j,b,by rw[<- y,De a j b]⟩
 have q:∀x∈d.toList,∃(b:x.tag<a.length),x=a8x x.tag a[x.tag]:=λx k=>by
  have w:=yh.1 k;rw[p] at w;obtain⟨j,b,rfl⟩:=t x w;exact⟨b,rfl⟩
 have l:(d.toList.map λx=>a[x.tag]!).length=a.length:=by grind
 refine⟨d.toList.map λx=>a[x.tag]!,?_,l,?_,?_,?_⟩
 .have F:=u.mv;have H:=u.s;rw[<- c] at F H;have z:=a0e F H (λi o=>by rw[De a i (by rw[<- c];exact o)];rfl) (λx k=>by
   obtain⟨j, -,b,rfl⟩:=yh.1 k;rw[c] at b;rw[De a j b];exact v _ (List.getElem_mem b))
  rw[z,List.map_map];have T:∀x∈(d5 a).toList,S5.lv x=Pc.lv ((fM.pc∘λx:S5=>a[x.tag]!) x):=λx k=>by
   obtain⟨j, -,b,rfl⟩:=yh.1 k;rw[c] at b;rw[De a j b];show a[j].lv=(a[j]!).lv;grind
  rw[Sn T,a0c Pc.lv];show uu Pc.lv _=uu Pc.lv _;congr 1;apply List.ext_getElem?;intro i;rw[jv,jv];unfold d5;rw[List.toList_toArray,List.getElem?_mapIdx];cases k:a[i]? with
  |none=>rfl
  |some x=>
   obtain⟨o,rfl⟩:=lK.1 k;show some (fM.pc a[i]!)=some (fM.pc a[i]);grind
 .grind
 .have A:(flatK zB 5 d).toList=cellsS (d.toList.map λx=>a[x.tag]!):=J9 d _ (by rw[l,p]) (λi o=>by
   have B:i<d.size:=aa;obtain⟨b,k⟩:=q d[i]! (yh.2 ⟨i,bA _,B,rfl⟩);have U:(d.toList.map λx=>a[x.tag]!)[i]=a[d[i]!.tag]:=by grind
   rw[U]
   conv=>lhs;rw[k]
   rfl)
  have r:W.heap.size=(putRowK zB 5 (Sort.ahead W m) g 0 d).heap.size:=by
   unfold putRowK;rw[size_putRow];rfl
  have C:w'.heap[g]? =some (ak (putCells id 0 (flatK zB 5 d) h) 115):=by
   rw[E];unfold sortWorldK grow;rw[Array.getElem?_append_left (by rw[<- r];exact dI hc)];unfold putRowK putRow mapBlock;rw[Array.getElem?_modify,aR rfl];show Option.map _ (W.heap[g]?)=_;rw[hc];rfl
  have hF:(flatK zB 5 d).size=a.length*5:=by rw[size_flatK,p]
  rw[l];refine⟨by rw[zK,l],.inr ⟨g,f,_,rfl,J,C,K,L,?_,?_⟩⟩
  .unfold putCells;grind
  .rw[<- A,<- hF];exact a4k _ h (by rw[hF,M];omega)
 .have r:W.heap.size=(putRowK zB 5 (Sort.ahead W m) g 0 d).heap.size:=by
   unfold putRowK;rw[size_putRow];rfl
  rw[E];refine⟨rfl,rfl,rfl,?_,λx k V=>?_⟩
  .unfold sortWorldK grow;grind
  .unfold sortWorldK grow;show((putRowK zB 5 (Sort.ahead W m) g 0 d).heap++S)[x]? =_;rw[Array.getElem?_append_left (by rw[<- r];exact k)];unfold putRowK putRow mapBlock;show(W.heap.modify g _)[x]? =_;grind
theorem a8y (W:ai):aL 196 #[aj none 0 0,ag 0,ag 0,uT] W λe w'=>e=ay (aH #[])/\w'=W:=by
 go_enter func196,ntmps196;go_wp2_with fail
 go_loopw [8] (λy wr=>y=ag 1/\wr=W) (λ_ _=>0)
 case atStart=>exact⟨rfl,rfl⟩
 case round=>
  obtain⟨rfl,rfl⟩:=hrel;go_wp2_with fail
  go_end0
  exact⟨rfl,rfl⟩
theorem VH (W:ai):aL 134 #[aj none 0 0,ag 0,uT] W λe w'=>e=ay (aH #[])/\w'=W:=by
 have a:aL 196 #[aj none 0 0,ag 0,ag 0,uT] W λe w'=>e=ay (aH #[])/\W=w':=(a8y W).mono λ_ _ h=>⟨h.1,h.2.symm⟩;go_enter func134,ntmps134;go_upto_region 2 with fail
 go_loopw [7,8] (λx y wr=>x=ag 0/\y=ag 20/\wr=W) (λ_ _ _=>0)
 case atStart=>exact⟨rfl,rfl,rfl⟩
 case round=>
  obtain⟨rfl,rfl,rfl⟩:=hrel;go_wp2_with(go_at_call 196;refine a.mono ?_;rintro e c ⟨rfl,rfl⟩)
  go_loopw [6] (λx b=>x=ag 20/\b=wr) (λ_ _=>0)
  case atStart=>exact⟨rfl,rfl⟩
  case round=>
   obtain⟨rfl,rfl⟩:=hrel;go_wp2_with fail
   go_end0
   exact⟨rfl,rfl⟩
theorem a4l (W:ai):aL 79 #[aj none 0 0,uT] W λe w'=>e=ay (aH #[])/\w'=W:=by
 have a:=VH W;go_enter func79,ntmps79;go_wp2_with(go_at_call 134;refine a.mono ?_;rintro e b ⟨rfl,rfl⟩)
 go_end0
 exact⟨rfl,rfl⟩
theorem a8z {b:Nat}{W:ai}{v:ax}(a:List fM)(k:a.length<=1000)(f:∀x∈a,0<=x.lv/\x.lv<1000)(j:W.ownsRow b 115 5 v a.length (cellsS a)):
  aL 79 #[v,uT] W λe w'=>e=ay (aH #[])/\∃c:List fM,c.map fM.pc=yU (a.map fM.pc)/\c.length=a.length/\(∀x∈c,x∈a)/\w'.ownsRow b 115 5 v c.length (cellsS c)/\W.grownBy w' v.ownBlock:=by
 obtain⟨s,l⟩:=id j;rcases l with⟨rfl,h⟩|⟨g,m,n,rfl,h,i,d,o,p,q⟩
 .obtain rfl:a=[]:=lu.1 h;refine(a4l W).mono λe w' ⟨i,d⟩=>⟨i,[],by simp[yU],rfl,λx r=>r,by rw[d];exact j,?_⟩;rw[d];exact⟨rfl,rfl,rfl,bJ _,λ_ _ _=>rfl⟩
 .exact O6 a k f h i d o p q
def a8A (E:Nat->Addr)(W:ai)(x:Except Ft (List Pc))(e:Ending)(w':ai):Prop:=match x with
 | .error f=>∃u,e=ay (aH #[aj none 0 0,u])/\FtV E f W.heap.size u w'
 | .ok l=>∃b v,b.map fM.pc=l/\e=ay (aH #[v,aY])/\w'.ownsRow W.heap.size 115 5 v b.length (cellsS b)/\(∀x∈b,kS w' W.heap.size (Ir x) x.pts)/\∀x∈b,∀a∈x.pts,iW a=0
set_option maxRecDepth 20000
theorem Sq {α:Type}(g:Nat×List Pc->α->Except Ft (Nat×List Pc))(d:∀s x a,g s x=.ok a->s.1<=100->a.1<=100):∀(l:List α) (s a:Nat×List Pc),l.foldlM g s=.ok a->s.1<=100->a.1<=100
 |[],s,a,h,b=>by cases h;exact b
 |x::l,s,a,h,b=>by
  rw[List.foldlM_cons] at h;cases c:g s x with
  |error e=>rw[c] at h;cases h
  |ok t=>
   rw[c] at h;exact Sq g d l t a h (d s x t c b)
theorem BD (M:Dm)(l:List Rl):∀(f:Nat) (n:Int) (path:List Int) (m:Mv) (st a:Nat×List Pc),gu M l f n path m st=.ok a->st.1<=100->a.1<=100
 |0,n,path,m,st,a,h,_=>by
  unfold gu at h;grind
 |f+1,n,path,m,st,a,h,_=>by
  unfold gu at h;split at h
  .cases h
  split at h
  .cases h
  next _ e=>
  have b:st.1+1<=100:=aa;split at h
  .grind
  have c:∀(d:Mv) (x:Except Nat (List Qt)),kg M l n d x (st.1+1,st.2)=.ok a->a.1<=100:=λd x h=>by
   unfold kg at h;grind
  split at h
  .cases h
  .split at h
   .exact c _ _ h
   .split at h
    .exact c _ _ h
    .split at h
     .exact Sq _ (λs x a h=>BD M l f x _ _ s a h) _ (st.1+1,st.2) a h b
     .split at h
      .cases h
      .exact BD M l f _ _ _ (st.1+1,st.2) a h b
theorem a4m {E:Nat->Addr}{W l:ai}{b DB:Nat}{s:ax}{k:Nat}{c:List fM}{v:ax}(p:aD W l)(hs:Sc W.heap.size b DB s k c v l)(t:c.length<=1000)(m:Kl (c.map fM.pc)):
  aL 79 #[v,uT] l λe i=>e=ay (aH #[])/\i.cell? (aJ b 3)=some v/\Hid (a8A E W (.ok (yU (c.map fM.pc))) (ay (aH #[v,aY])) i/\aD W i):=by
 refine(a8z c t (λx d=>m x.pc (List.mem_map_of_mem d)) hs.own).mono λe i ⟨u,w,y,H,q,z,n⟩=>?_;have o:v.ownBlock≠some b:=λh=>by
  obtain⟨A,f,a, -⟩:=gy hs.own b h;rw[hs.wb] at a;cases a
 have B:=(n.block b (dI hs.wb) (λh=>o h.symm)).trans hs.wb;refine⟨u,aQ B 3 _ rfl,⟨w,v,y,rfl,z,λx d=>?_,λx d=>hs.rt x (q x d)⟩,p.grown n p.size (λj C=>?_)⟩
 .have r:=hs.pts x (q x d);refine dF r λg D=>?_;obtain⟨A,f,a, -⟩:=gy r g D;refine n.block g (dI a) (λh=>?_);obtain⟨F,I,J, -⟩:=gy hs.own g h.symm;grind
 .obtain⟨-, -, -,a⟩:=gy hs.own j C;exact a
section
variable {E:Nat->Addr}{B:Nat}{C:dG}{W:ai}{DB D:Nat}{p:Int->Option Nat}{M:Dm}{nx c:Nat}{r:Int->Nat}{l:List Rl}{B0:Nat}{A:ax}
abbrev oD (DB:Nat):Obj:=ak #[aK DB] 74
abbrev Sr (A:ax):Obj:=ak #[A] 77
abbrev oW (DB H:Nat):Obj:=ak #[aK DB,yu H (H+1),ag 0,aj none 0 0] 159
abbrev oP:Obj:=ak (plA (-1) (.pointer none) .one) 168
theorem XT (W e:ai)(a:Below (((W.alloc (oD DB)).alloc (Sr A)).alloc (oW DB W.heap.size)).heap.size (((W.alloc (oD DB)).alloc (Sr A)).alloc (oW DB W.heap.size)) e):BL (W.heap.size+2) DB W.heap.size (W.heap.size+1) A W 0 [] (aj none 0 0) e:=by
 have j:=dR W (oD DB);have k:=dR (W.alloc (oD DB)) (Sr A);have f:=dR ((W.alloc (oD DB)).alloc (Sr A)) (oW DB W.heap.size);have g:=dY W #[aK DB] 74;have b:=dY (W.alloc (oD DB)) #[A] 77;have c:=dY ((W.alloc (oD DB)).alloc (Sr A)) #[aK DB,yu W.heap.size (W.heap.size+1),ag 0,aj none 0 0] 159;have h:(W.alloc (oD DB)).heap.size=W.heap.size+1:=dV _ _;have l:((W.alloc (oD DB)).alloc (Sr A)).heap.size=W.heap.size+2:=by rw[dV,h]
 have i:=bf k (bf f a);refine⟨bf j i,Nat.le_add_right _ _,(i.block _ (dI g)).trans g,?_,⟨?_,gp _ _ _ _,λx d=>(by cases d),λx d=>(by cases d)⟩⟩
 .rw[h] at b;have:=((bf f a).block _ (dI b)).trans b;exact this
 .rw[l] at c;exact(a.block _ (dI c)).trans c
theorem zQ (h:En E B C W DB D p M nx c r l B0 A):
  aL 40 #[aK DB,A] W λe w'=>a8A E W (fC M l) e w'/\aD W w':=by
 have S:=uK (((W.alloc (oD DB)).alloc (Sr A)).alloc (oW DB W.heap.size));obtain⟨g,i,V⟩:=bD h.row;subst V;have z:∀a,Below (((W.alloc (oD DB)).alloc (Sr (aj g l.length i))).alloc (oW DB W.heap.size)).heap.size (((W.alloc (oD DB)).alloc (Sr (aj g l.length i))).alloc (oW DB W.heap.size)) a->aL 77 #[.pointer (some ⟨W.heap.size+2,0,none⟩),ag 0,aK a.heap.size] (a.alloc oP) λe w'=>lZ E W.heap.size (W.heap.size+2) DB (yu W.heap.size (W.heap.size+1)) (aj none 0 0) (a.alloc oP) (gu M l 101 0 [-1] .one (0,[])) e w'/\Kw (W.heap.size+2) (aj none 0 0) (a.alloc oP) w':=λa d=>
  Sl h 101 0 [] (aj none 0 0) (a.alloc oP) 0 (-1) .one [] a.heap.size aa az aC (XT W _ (bf d (dR _ _))) ⟨_,none,rfl,dY _ _ _,rfl⟩ Gq
 have j:∀a,Below (((W.alloc (oD DB)).alloc (Sr (aj g l.length i))).alloc (oW DB W.heap.size)).heap.size (((W.alloc (oD DB)).alloc (Sr (aj g l.length i))).alloc (oW DB W.heap.size)) a->BL (W.heap.size+2) DB W.heap.size (W.heap.size+1) (aj g l.length i) W 0 [] (aj none 0 0) (a.alloc oP):=λa d=>XT W _ (bf d (dR _ _));have q:Hid (∀st,gu M l 101 0 [-1] .one (0,[])=.ok st->st.2.length<=1000/\Kl st.2/\fC M l=.ok (yU st.2)):=(λst f=>by
  have I:=xC M l 101 0 [-1] .one (0,[]) st f az;have k:=BD M l 101 0 [-1] .one (0,[]) st f (bA _);refine⟨aa,O5 M l 101 0 [-1] .one (0,[]) st f (λx X=>(by cases X)),?_⟩;unfold fC;rw[f]:∀st,gu M l 101 0 [-1] .one (0,[])=.ok st->st.2.length<=1000/\Kl st.2/\fC M l=.ok (yU st.2))
 have s:Hid (∀m,gu M l 101 0 [-1] .one (0,[])=.error m->fC M l=.error m):=(λm f=>by unfold fC;rw[f]:∀m,gu M l 101 0 [-1] .one (0,[])=.error m->fC M l=.error m);have k1:=eD (Sr (aj g l.length i)) (kJ W #[aK DB] 74 0 _ rfl);have N:Hid (aD W (((W.alloc (oD DB)).alloc (Sr (aj g l.length i))).alloc (oW DB W.heap.size))):=bf (dR _ _) (bf (dR _ _) (dR _ _));clear h;obtain⟨O,b⟩:∃x,gu M l 101 0 [-1] .one (0,[])=x:=⟨_,rfl⟩;rw[b] at z;cases O with
 |error m=>
  have F:=s.out m b;rw[F];have t:∀a,Below (((W.alloc (oD DB)).alloc (Sr (aj g l.length i))).alloc (oW DB W.heap.size)).heap.size (((W.alloc (oD DB)).alloc (Sr (aj g l.length i))).alloc (oW DB W.heap.size)) a->aL 77 #[.pointer (some ⟨W.heap.size+2,0,none⟩),ag 0,aK a.heap.size] (a.alloc oP) λe w'=>∃y,e=ay (aU 67 (aK y))/\Hid (FtV E m (a.alloc oP).heap.size (aU 67 (aK y)) w'/\aD W w'):=λa d=>(z a d).mono λe w' ⟨⟨u,I,k⟩,v⟩=>by
   obtain⟨y,J,rfl,P⟩:=k;exact⟨y,I,⟨y,J,rfl,P⟩,(j a d).low.trans ((j a d).sc.low v (j a d).wb (j a d).low.size)⟩
  clear z j q s b F;go_enter func40,ntmps40;go_wp2_with(first|(go_at_call 78;refine S.mono ?_;rintro e a ⟨rfl,K⟩;have Q:=t a K)|(go_at_call 77;refine Q.mono ?_;rintro e Y ⟨y,rfl,k⟩))
  go_ret2
  obtain⟨v,J⟩:=k.out;have Z:=(bf (bf N.out K) (dR a oP)).size;exact⟨⟨_,rfl,v.low Z⟩,J⟩
 |ok st=>
  obtain⟨T,R,F⟩:=q.out st b;rw[F];have t:∀a,Below (((W.alloc (oD DB)).alloc (Sr (aj g l.length i))).alloc (oW DB W.heap.size)).heap.size (((W.alloc (oD DB)).alloc (Sr (aj g l.length i))).alloc (oW DB W.heap.size)) a->aL 77 #[.pointer (some ⟨W.heap.size+2,0,none⟩),ag 0,aK a.heap.size] (a.alloc oP) λe w'=>e=ay aY/\∃o n w,w'.cell? ⟨W.heap.size+2,3,none⟩=some (aj o n w)/\aL 79 #[aj o n w,uT] w' λe L=>e=ay (aH #[])/\L.cell? ⟨W.heap.size+2,3,none⟩=some (aj o n w)/\Hid (a8A E W (.ok (yU st.2)) (ay (aH #[aj o n w,aY])) L/\aD W L):=λa d=>(z a d).mono λe w' ⟨⟨I,a4,v2,k,v,J⟩,P⟩=>by
   obtain⟨o,w,hv⟩:=bD v.own;subst hv;have H:aD W w':=(j a d).low.trans ((j a d).sc.low P (j a d).wb (j a d).low.size);have U:=a4m (E:=E) H v (by have h6:=congrArg List.length k;rw[dP] at h6;omega) (by rw[k];exact R);rw[k] at U;exact⟨I,o,_,w,aQ v.wb 3 _ rfl,U⟩
  clear z j q s b F;go_enter func40,ntmps40;go_wp2_with(first|(go_at_call 78;refine S.mono ?_;rintro e a ⟨rfl,K⟩;have Q:=t a K)|(go_at_call 77;refine Q.mono ?_;rintro e Y ⟨rfl,o,nn,w,c3,S3⟩)|(go_at_call 79;refine S3.mono ?_;rintro e L ⟨rfl,c4,k⟩))
  go_ret2
  exact k.out
end
end
open Go.RowKit
structure LE (E:Nat->Addr)(w:ai):Prop where
 ne:NE E w
 de:DE E w
 ty:w.cell? (aJ 11 0)=some (aU 208 (.agg #[hE]))
section
variable {E:Nat->Addr}{w w':ai}
theorem LE.ce (h:LE E w):CE E w:=⟨h.de.c4,h.de.c6,h.de.c7,h.de.c8,h.de.c10⟩
theorem LE.ep (h:LE E w):EP (E 2) (E 3) (E 3) (E 10) w:=⟨⟨h.de.c2,h.de.c3,rfl⟩,h.de.c10,h.ty⟩
theorem LE.below (h:LE E w)(a:aD w w'):LE E w':=⟨h.ne.below a,h.de.below a az,(a.cell (aX h.ty)).trans h.ty⟩
end
theorem fq.fit {M:Dm}(h:fq M):EU M/\SzD M:=by
 refine⟨λn e b=>?_,λn e b a c=>?_⟩
 .obtain⟨f, -,d⟩:=h n e b;refine⟨λg=>(by rw[g] at f;exact absurd f aC),λa c=>?_⟩;have:=qF (d.1 a c).2;omega
 .obtain⟨-, -,d⟩:=h n e b;exact qF (d.1 a c).2
theorem Su {α β:Type}{f g:α->List β}:∀a:List α,(∀j∈a,f j=g j)->a.flatMap f=a.flatMap g
 |[],_=>rfl
 |k::a,h=>by rw[List.flatMap_cons,List.flatMap_cons,h k aI,Su a (λj b=>h j (by simp[b]))]
theorem Sv {α:Type}(q:α->Bool):∀l:List α,(l.filter q).length+(l.filter (λx=> !q x)).length=l.length
 |[]=>rfl
 |a::l=>by
  have b:=Sv q l;grind
theorem Sw:∀(a:List Nat) (l:List Pc),a.Nodup->(a.flatMap (λ(k:Nat)=>l.filter (λx=>x.lv==(k:Int)))).length<=l.length
 |[],_,_=>bA _
 |k::a,l,h=>by
  obtain⟨e,b⟩:=qN.1 h;have c:=Sw a (l.filter (λx=> !(x.lv==(k:Int)))) b;have d:a.flatMap (λ(j:Nat)=>(l.filter (λx=> !(x.lv==(k:Int)))).filter (λx=>x.lv==(j:Int)))=a.flatMap (λ(j:Nat)=>l.filter (λx=>x.lv==(j:Int))):=by
   refine Su a λj f=>?_;rw[List.filter_filter];grind
  rw[d] at c;rw[List.flatMap_cons,dO];have g:=Sv (λx:Pc=>x.lv==(k:Int)) l;omega
theorem a4n (l:List Pc):(yU l).length<=l.length:=Sw _ l List.nodup_range
def Km (M:Dm)(rl:List Rl):Prop:=∃l,fC M rl=.ok l/\∀x∈l,kE (iB x)
structure LvS (W:ai)(LB B:Nat)(tg:dG)(DB MB:Nat)(p:Int->Option Nat)(M:Dm)(nx c:Nat)(r:Int->Nat)(rl:List Rl)(rv:ax)(qs:List fM)(pv:ax)(w h:Nat)(cv:ax):Prop where
 lb:W.heap[LB]? =some (ak #[aK DB,rv,pv,ag w,ag h,cv] 88)
 base:B<=LB
 ds:jk B tg W DB MB p M nx c r
 ok:fq M
 rok:∀x∈rl,RlG x
 row:W.ownsRow B 150 3 rv rl.length (fP rl)
 pc:yx W B pv qs
 pm:fC M rl=.ok (qs.map fM.pc)
 pk:∀x∈qs,kE (iB x.pc)
 ql:qs.length<=1000
 XU:W.ownsRow B 9 1 cv (w*h) ((nM bT ((qs.map fM.pc).map iB) w h).map au)
section
variable {E:Nat->Addr}{W w':ai}{LB B:Nat}{D:dG}{DB I:Nat}{p:Int->Option Nat}{M:Dm}{nx c:Nat}{r:Int->Nat}{rl:List Rl}{C:ax}{A:List fM}{pv:ax}{w h:Nat}{J:ax}
theorem LvS.below (a:LvS W LB B D DB I p M nx c r rl C A pv w h J)(b:aD W w'):LvS w' LB B D DB I p M nx c r rl C A pv w h J:=
 ⟨(b.block _ (bu a.lb)).trans a.lb,a.base,a.ds.below b,a.ok,a.rok,bY a.row b,a.pc.below b,a.pm,a.pk,a.ql,bY a.XU b⟩
theorem vw {M:Dm}{rl:List Rl}{l:List Pc}(hp:fC M rl=.ok l):l.length<=1000:=by
 unfold fC at hp;cases a:gu M rl 101 0 [-1] .one (0,[]) with
 |error e=>rw[a] at hp;cases hp
 |ok st=>
  rw[a] at hp;have b:=Except.ok.inj hp;rw[<- b];have c:=xC M rl 101 0 [-1] .one (0,[]) st a az;have d:=BD M rl 101 0 [-1] .one (0,[]) st a (bA _);have f:=a4n st.2;omega
end
mutual
theorem a4o:∀(n:Nd) (a ahead k:Nat) (p:Int),(je n a ahead).1=0->∀e∈vG k p n,a8n e
 | .mk i ats d,a,ahead,k,p,h,e,b=>by
  unfold je at h;split at h
  .rename_i c;rw[vG] at b;rcases gP.1 b with rfl|b
   .obtain⟨f,g, -⟩:=GL c;refine⟨f,g,J3.ck.1 ?_⟩;unfold ck1 at c;grind
   .exact a4p d _ _ _ _ h e b
  .rename_i c;exact(c h).elim
theorem a4p:∀(l:List Nd) (a ahead k:Nat) (p:Int),(uQ l a ahead).1=0->∀e∈wB k p l,a8n e
 |[],_,_,_,_,_,e,b=>by simp[wB] at b
 |n::l,a,ahead,k,p,h,e,b=>by
  by_cases c:(je n a ahead).1=0
  .rw[tQ c] at h;rw[wB] at b;rcases iw.1 b with b|b
   .exact a4o n a ahead _ _ c e b
   .exact a4p l _ _ _ _ h e b
  .rw[Az c] at h;exact(c h).elim
end
theorem oI {n:Nd}(hc:(je n 1 0).1=0):fq (l9 n):=λi e a=>by
 unfold l9 kV at a;split at a
 .exact a4o n 1 0 0 (-1) hc e (ic a)
 .cases a
theorem BK.a4q {B B':Nat}{a:dG}{w:ai}{i:Int}{b:Nat}{e:ig}{va vk:ax}(h:BK B a w i b e va vk)(c:B'<=B):BK B' a w i b e va vk:=⟨h.cells,h.tag,gz h.ats c,h.oC,gz h.kids c,h.jQ⟩
theorem dm.a4q {B B':Nat}{a:dG}{w:ai}{DB d:Nat}{p:Int->Option Nat}{M:Dm}{nx c:Nat}(h:dm B a w DB d p M nx c)(f:B'<=B):dm B' a w DB d p M nx c:=
 ⟨h.doc,h.mY,h.map,h.mZ,λi e j=>by obtain⟨b,k,l,m,n⟩:=h.els i e j;exact⟨b,k,l,m,n.a4q f⟩,h.non,λb t g=>⟨bO f (h.low b t g).1,(h.low b t g).2⟩,h.dom,h.wf,h.few,h.Xa⟩
theorem ad1 (V:ai)(a:Nat):yx V a (aj none 0 0) []:=⟨gp _ _ _ _,λx b=>(by cases b),λx b=>(by cases b)⟩

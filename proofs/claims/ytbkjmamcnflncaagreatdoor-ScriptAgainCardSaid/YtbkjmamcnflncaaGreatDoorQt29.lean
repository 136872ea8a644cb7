import Derived.Test.YtbkjmamcnflncaaGreatDoorQt28
namespace Go.Proofs.YtbkjmamcnflncaaGreatDoor
section
def iB (p:Pc):Pm:=⟨p.pts,⟨p.fill.toArray⟩,⟨p.rule.toArray⟩⟩
def uo (p:Pc):Bs×Bs×List Qt:=(p.fill,p.rule,p.pts)
def Da (l:List Pc)(y:Int):List Pc:=l.filter λp=>bT p.pts y
def NZ (a b:List Pc):Prop:=a.map uo=b.map uo
def uq (a b:List Pc)(h:Nat):List Nat:=(List.range h).filter λ(y:Nat)=> !decide ((Da a y).map uo=(Da b y).map uo)
def IZ (a:List aO)(b:List Pc)(w:Nat):List Nat->List aO
 |[]=>a
 |y::l=>IZ (a.take (w*y)++uk bT (b.map iB) w (y:Int)++a.drop (w*y+w)) b w l
theorem Vx (l:List Pc)(y:Int):(l.map iB).filter (λs=>bT s.pts y)=(Da l y).map iB:=by
 unfold Da;rw[List.filter_map];rfl
theorem XQ {a b:List Pc}(h:NZ a b):a.map iB=b.map iB:=by
 have:∀l:List Pc,l.map iB=(l.map uo).map (λx=>(⟨x.2.2,⟨x.1.toArray⟩,⟨x.2.1.toArray⟩⟩:Pm)):=λl=>by
  rw[List.map_map];rfl
 rw[this a,this b,show a.map uo=b.map uo from h]
theorem a3T {a b:List Pc}{w:Nat}{y:Int}(h:NZ (Da a y) (Da b y)):uk bT (a.map iB) w y=uk bT (b.map iB) w y:=by
 unfold uk;rw[Vx,Vx,XQ h]
theorem Vy (a b:List Pc)(h:Nat):(uq a b h).Pairwise (·<·)/\∀y∈uq a b h,y<h:=by
 refine⟨List.pairwise_lt_range.filter _,λy c=>?_⟩;unfold uq at c;grind
theorem a8i {a b:List Pc}{h y:Nat}:y∈uq a b h↔y<h/\¬NZ (Da a y) (Da b y):=by
 unfold uq NZ;grind
theorem Ki {α:Type}{a b:List α}{w h:Nat}(e:a.length=w*h)(f:b.length=w*h)(c:∀y,y<h->(a.drop (w*y)).take w=(b.drop (w*y)).take w):a=b:=by
 induction h generalizing a b with
 |zero=>
  grind
 |succ h g=>
  have d:=c 0 aa;rw[Nat.mul_zero,List.drop_zero,List.drop_zero] at d;have i:a.drop w=b.drop w:=by
   refine g (by rw[lC,e,Nat.mul_succ];omega) (by rw[lC,f,Nat.mul_succ];omega) λy j=>?_;have:=c (y+1) aa;rw[Nat.mul_succ] at this;rw[nC,nC,Nat.add_comm w];exact this
  rw[<- jS w a,d,i,jS]
theorem a8j {α:Type}{c a:List α}{w h y:Nat}(hc:c.length=w*h)(f:a.length=w)(i:y<h):(c.take (w*y)++a++c.drop (w*y+w)).length=w*h/\∀z,z<h->((c.take (w*y)++a++c.drop (w*y+w)).drop (w*z)).take w=if z=y then a else(c.drop (w*z)).take w:=by
 have j:w*(y+1)<=w*h:=Nat.mul_le_mul_left w i;rw[Nat.mul_succ] at j;have g:(c.take (w*y)).length=w*y:=by grind
 refine⟨by rw[dO,dO,lC,g,f,hc];omega,λz k=>?_⟩;by_cases e:z=y
 .grind
 .rw[aG e];have l:w*(z+1)<=w*h:=Nat.mul_le_mul_left w k;rw[Nat.mul_succ] at l;by_cases b:z<y
  .have d:w*(z+1)<=w*y:=Nat.mul_le_mul_left w b;rw[Nat.mul_succ] at d;rw[lF,List.drop_append_of_le_length aa,List.take_append_of_le_length (by rw[lC];omega),List.drop_take,List.take_take,Nat.min_eq_left aa]
  .have d:w*(y+1)<=w*z:=Nat.mul_le_mul_left w aa;rw[Nat.mul_succ] at d;rw[List.drop_append,List.drop_eq_nil_of_le (by rw[dO];omega),gK,dO,g,f,nC];grind
theorem LY {c:List aO}{b:List Pc}{w h:Nat}:∀(l:List Nat),c.length=w*h->(∀y∈l,y<h)->(IZ c b w l).length=w*h/\∀z,z<h->((IZ c b w l).drop (w*z)).take w=if z∈l then uk bT (b.map iB) w (z:Int) else(c.drop (w*z)).take w
 |[],a,_=>⟨a,λz _=>by rw[aG aI];rfl⟩
 |y::l,a,d=>by
  rw[IZ];obtain⟨f,i⟩:=a8j a (xw bT (b.map iB) w (y:Int)) (d y aI);obtain⟨g,j⟩:=LY l f (λz e=>d z (by simp[e]));refine⟨g,λz e=>?_⟩;grind
theorem a3U (a b:List Pc)(w h:Nat):IZ (nM bT (a.map iB) w h) b w (uq a b h)=nM bT (b.map iB) w h:=by
 obtain⟨e,f⟩:=LY (b:=b) (uq a b h) (lY bT (a.map iB) w h) (Vy a b h).2;refine Ki e (lY _ _ _ _) λy c=>?_;rw[f y c];by_cases d:y∈uq a b h
 .rw[aR d,Bp _ _ _ _ _ c]
 .rw[aG d,Bp _ _ _ _ _ c,Bp _ _ _ _ _ c];rw[a8i] at d;exact a3T (Classical.byContradiction λg=>d ⟨c,g⟩)
end
open Go.RowKit
def fM.p5 (x:fM):P5:=⟨x.nd,x.o,x.cap,⟨x.pts,⟨x.fill.toArray⟩,⟨x.rule.toArray⟩⟩,x.lv⟩
theorem RZ:∀l:List fM,cells5 (l.map fM.p5)=cellsS l
 |[]=>rfl
 |x::l=>by rw[ny,cells5,RZ l];rfl
theorem aaf (l:List fM):sP (l.map fM.p5)=(l.map fM.pc).map iB:=by
 rw[sP,List.map_map,List.map_map];rfl
structure yx (w:ai)(base:Nat)(v:ax)(qs:List fM):Prop where
 own:w.ownsRow base 115 5 v qs.length (cellsS qs)
 pts:∀x∈qs,kS w base (Ir x) x.pts
 rt:∀x∈qs,∀a∈x.pts,iW a=0
variable {w w':ai}{f:Nat}{v:ax}{d:List fM}
theorem yx.below (h:yx w f v d)(a:aD w w'):yx w' f v d:=⟨bY h.own a,λx b=>(h.pts x b).keep a,h.rt⟩
theorem yx.low (h:yx w f v d){b:Nat}(a:b<=f):yx w b v d:=⟨gz h.own a,λx c=>(h.pts x c).low a,h.rt⟩
theorem a8k {a:Qt}(h:iW a=0):PI a:=by
 obtain⟨b,c⟩:=jc.1 h;rw[gU] at b c;refine⟨⟨?_,?_⟩,⟨?_,?_⟩,⟨?_,?_⟩,⟨?_,?_⟩⟩<;>omega
theorem yx.row (h:yx w f v d):∃o b,v=aj o (d.map fM.p5).length b/\EW w o b (d.map fM.p5)/\lq w (d.map fM.p5):=by
 obtain⟨o,b,t,z, -,A,B⟩:=eT h.own;refine⟨o,b,by rw[dP];exact t,⟨λi x k=>?_,by rw[dP];exact z,A⟩,λx k=>?_⟩
 .obtain⟨m,n,p,q,r⟩:=zN _ i x k;rw[RZ] at m n p q r;obtain⟨g,C,D⟩:=eF h.own _ _ m;have e:∀{j:Nat} {u:ax},(cellsS d)[j]? =some u->w.cell? (aJ g j)=some u:=λ{j u} E=>by
   obtain⟨K,F,L⟩:=eF h.own j u E;grind
  exact⟨g,0,B g C,by rw[gq];exact⟨D,e n,e p,e q,e r⟩⟩
 .obtain⟨y,s,rfl⟩:=gL.1 k;obtain⟨H,c,l,I⟩:=(h.pts y s).at_ (λa J=>a8k (h.rt y s a J));have l:Value.slice y.o y.pts.length y.cap=aj H y.pts.length c:=l;cases l;exact I

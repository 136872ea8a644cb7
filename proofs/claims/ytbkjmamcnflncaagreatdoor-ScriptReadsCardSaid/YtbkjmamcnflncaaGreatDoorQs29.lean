import Derived.Test.YtbkjmamcnflncaaGreatDoorQs28
namespace Go.Proofs.YtbkjmamcnflncaaGreatDoor
section
def gX (p:Pc):Pm:=⟨p.pts,⟨p.fill.toArray⟩,⟨p.rule.toArray⟩⟩
def sJ (p:Pc):Bs×Bs×List Qt:=(p.fill,p.rule,p.pts)
def Ce (l:List Pc)(y:Int):List Pc:=l.filter λp=>bA p.pts y
def Nb (a b:List Pc):Prop:=a.map sJ=b.map sJ
def sM (a b:List Pc)(h:Nat):List Nat:=(List.range h).filter λ(y:Nat)=> !decide ((Ce a y).map sJ=(Ce b y).map sJ)
def I7 (a:List aM)(b:List Pc)(w:Nat):List Nat->List aM
 |[]=>a
 |y::l=>I7 (a.take (w*y)++sH bA (b.map gX) w (y:Int)++a.drop (w*y+w)) b w l
theorem UO (l:List Pc)(y:Int):(l.map gX).filter (λs=>bA s.pts y)=(Ce l y).map gX:=by
 unfold Ce;rw[List.filter_map];rfl
theorem X9 {a b:List Pc}(h:Nb a b):a.map gX=b.map gX:=by
 have:∀l:List Pc,l.map gX=(l.map sJ).map (λx=>(⟨x.2.2,⟨x.1.toArray⟩,⟨x.2.1.toArray⟩⟩:Pm)):=λl=>by
  rw[List.map_map];rfl
 rw[this a,this b,show a.map sJ=b.map sJ from h]
theorem a3f {a b:List Pc}{w:Nat}{y:Int}(h:Nb (Ce a y) (Ce b y)):sH bA (a.map gX) w y=sH bA (b.map gX) w y:=by
 unfold sH;rw[UO,UO,X9 h]
theorem UQ (a b:List Pc)(h:Nat):(sM a b h).Pairwise (·<·)/\∀y∈sM a b h,y<h:=by
 refine⟨List.pairwise_lt_range.filter _,λy c=>?_⟩;unfold sM at c;grind
theorem a7r {a b:List Pc}{h y:Nat}:y∈sM a b h↔y<h/\¬Nb (Ce a y) (Ce b y):=by
 unfold sM Nb;grind
theorem Jv {c:Type}{a b:List c}{w h:Nat}(f:a.length=w*h)(g:b.length=w*h)(d:∀y,y<h->(a.drop (w*y)).take w=(b.drop (w*y)).take w):a=b:=by
 induction h generalizing a b with
 |zero=>
  grind
 |succ h i=>
  have e:=d 0 aa;rw[Nat.mul_zero,List.drop_zero,List.drop_zero] at e;have j:a.drop w=b.drop w:=by
   refine i (by rw[kU,f,Nat.mul_succ];omega) (by rw[kU,g,Nat.mul_succ];omega) λy k=>?_;have:=d (y+1) aa;rw[Nat.mul_succ] at this;rw[mP,mP,Nat.add_comm w];exact this
  rw[<- jJ w a,e,j,jJ]
theorem a7s {a:Type}{c b:List a}{w h y:Nat}(hc:c.length=w*h)(g:b.length=w)(j:y<h):(c.take (w*y)++b++c.drop (w*y+w)).length=w*h/\∀z,z<h->((c.take (w*y)++b++c.drop (w*y+w)).drop (w*z)).take w=if z=y then b else(c.drop (w*z)).take w:=by
 have k:w*(y+1)<=w*h:=Nat.mul_le_mul_left w j;rw[Nat.mul_succ] at k;have i:(c.take (w*y)).length=w*y:=by grind
 refine⟨by rw[dJ,dJ,kU,i,g,hc];omega,λz l=>?_⟩;by_cases e:z=y
 .grind
 .rw[if_neg e];have m:w*(z+1)<=w*h:=Nat.mul_le_mul_left w l;rw[Nat.mul_succ] at m;by_cases d:z<y
  .have f:w*(z+1)<=w*y:=Nat.mul_le_mul_left w d;rw[Nat.mul_succ] at f;rw[kV,List.drop_append_of_le_length aa,List.take_append_of_le_length (by rw[kU];omega),List.drop_take,List.take_take,Nat.min_eq_left aa]
  .have f:w*(y+1)<=w*z:=Nat.mul_le_mul_left w aa;rw[Nat.mul_succ] at f;rw[List.drop_append,List.drop_eq_nil_of_le (by rw[dJ];omega),gF,dJ,i,g,mP];grind
theorem KZ {c:List aM}{b:List Pc}{w h:Nat}:∀(l:List Nat),c.length=w*h->(∀y∈l,y<h)->(I7 c b w l).length=w*h/\∀z,z<h->((I7 c b w l).drop (w*z)).take w=if z∈l then sH bA (b.map gX) w (z:Int) else(c.drop (w*z)).take w
 |[],a,_=>⟨a,λz _=>by rw[if_neg aG];rfl⟩
 |y::l,a,d=>by
  rw[I7];obtain⟨f,i⟩:=a7s a (wG bA (b.map gX) w (y:Int)) (d y aG);obtain⟨g,j⟩:=KZ l f (λz e=>d z (by simp[e]));refine⟨g,λz e=>?_⟩;grind
theorem a3g (a b:List Pc)(w h:Nat):I7 (ng bA (a.map gX) w h) b w (sM a b h)=ng bA (b.map gX) w h:=by
 obtain⟨e,f⟩:=KZ (b:=b) (sM a b h) (lH bA (a.map gX) w h) (UQ a b h).2;refine Jv e (lH _ _ _ _) λy c=>?_;rw[f y c];by_cases d:y∈sM a b h
 .rw[if_pos d,Ak _ _ _ _ _ c]
 .rw[if_neg d,Ak _ _ _ _ _ c,Ak _ _ _ _ _ c];rw[a7r] at d;exact a3f (Classical.byContradiction λg=>d ⟨c,g⟩)
end
open Go.RowKit
def fq.p5 (x:fq):P5:=⟨x.nd,x.o,x.cap,⟨x.pts,⟨x.fill.toArray⟩,⟨x.rule.toArray⟩⟩,x.lv⟩
theorem QV:∀l:List fq,cells5 (l.map fq.p5)=cellsS l
 |[]=>rfl
 |x::l=>by rw[nI,cells5,QV l];rfl
theorem a9w (l:List fq):sP (l.map fq.p5)=(l.map fq.pc).map gX:=by
 rw[sP,List.map_map,List.map_map];rfl
structure xM (w:ah)(base:Nat)(v:au)(qs:List fq):Prop where
 own:w.ownsRow base 115 5 v qs.length (cellsS qs)
 pts:∀x∈qs,kF w base (He x) x.pts
 rt:∀x∈qs,∀a∈x.pts,iJ a=0
variable {w w':ah}{f:Nat}{v:au}{d:List fq}
theorem xM.below (h:xM w f v d)(a:aD w w'):xM w' f v d:=⟨bD h.own a,λx b=>(h.pts x b).keep a,h.rt⟩
theorem xM.low (h:xM w f v d){b:Nat}(a:b<=f):xM w b v d:=⟨fO h.own a,λx c=>(h.pts x c).low a,h.rt⟩
theorem a7t {a:Qt}(h:iJ a=0):PI a:=by
 obtain⟨b,c⟩:=iQ.1 h;rw[gI] at b c;refine⟨⟨?_,?_⟩,⟨?_,?_⟩,⟨?_,?_⟩,⟨?_,?_⟩⟩<;>omega
theorem xM.row (h:xM w f v d):∃o b,v=aj o (d.map fq.p5).length b/\E9 w o b (d.map fq.p5)/\kT w (d.map fq.p5):=by
 obtain⟨o,b,t,z, -,A,B⟩:=eT h.own;refine⟨o,b,by rw[dF];exact t,⟨λi x k=>?_,by rw[dF];exact z,A⟩,λx k=>?_⟩
 .obtain⟨m,n,p,q,r⟩:=yZ _ i x k;rw[QV] at m n p q r;obtain⟨g,C,D⟩:=dO h.own _ _ m;have e:∀{j:Nat} {u:au},(cellsS d)[j]? =some u->w.cell? (aH g j)=some u:=λ{j u} E=>by
   obtain⟨K,F,L⟩:=dO h.own j u E;grind
  exact⟨g,0,B g C,by rw[fZ];exact⟨D,e n,e p,e q,e r⟩⟩
 .obtain⟨y,s,rfl⟩:=gu.1 k;obtain⟨H,c,l,I⟩:=(h.pts y s).at_ (λa J=>a7t (h.rt y s a J));have l:Value.slice y.o y.pts.length y.cap=aj H y.pts.length c:=l;cases l;exact I

import Derived.Test.YtbkjmamcnflncaaGreatDoorQt24
namespace Go.Proofs.YtbkjmamcnflncaaGreatDoor
open Go.Proofs.Tryz
set_option maxHeartbeats 8000000
variable{b:Nat}{aB aS:Addr}{w:ai}
section
structure Pm where
 pts:List Qt
 fill:aO
 rule:aO
def nP (x y:Int):Qt:=⟨2*x+1,2,2*y+1,2⟩
def pE (y n d:Int):Int:=2*n-(2*y+1)*d
def a3F:List UInt8:=[119,105,110,100]
def aac:List UInt8:=[101,118,101,110]
def a7X:aO:=⟨#[46]⟩
def holdB (l:List Qt)(d:aO)(c:Qt):Bool:=if d.toList=a3F then yM (fo c) l !=0 else(yM (λa b=>fo c a b*fo c a b) l).tmod 2==1
def oG:List Pm->Qt->aO
 |[],_=>a7X
 |s::l,c=>if holdB s.pts s.rule c then s.fill else oG l c
def kz (l:List Pm)(c:Qt):aO:=oG l.reverse c
theorem Iw (a b:List Pm)(c:Qt)(h:∀s∈a,holdB s.pts s.rule c=false):oG (a++b) c=oG b c:=by
 induction a with
 |nil=>rfl
 |cons s a d=>
  rw[gH,oG,h s (List.mem_cons_self ..),aG aI];grind
theorem Vl (a b:List Pm)(s:Pm)(c:Qt)(h:∀s∈a,holdB s.pts s.rule c=false)(hs:holdB s.pts s.rule c=true):oG (a++s::b) c=s.fill:=by
 rw[Iw a _ c h,oG,aR hs]
theorem Rq (a:List Pm)(c:Qt)(h:∀s∈a,holdB s.pts s.rule c=false):oG a c=a7X:=by
 have:=Iw a [] c h;rwa[List.append_nil] at this
section
variable (g:List Qt->Int->Bool)
def uk (l:List Pm)(w:Nat)(y:Int):List aO:=(List.range w).map λ(x:Nat)=>kz (l.filter λs=>g s.pts y) (nP (x:Int) y)
def nM (l:List Pm)(w h:Nat):List aO:=(List.range h).flatMap λ(y:Nat)=>uk g l w (y:Int)
theorem xw (l:List Pm)(w:Nat)(y:Int):(uk g l w y).length=w:=by simp[uk]
theorem xZ (l:List Pm)(w h:Nat):nM g l w (h+1)=nM g l w h++uk g l w h:=by
 unfold nM;rw[List.range_succ,List.flatMap_append];simp
theorem lY (l:List Pm)(w:Nat):∀h:Nat,(nM g l w h).length=w*h
 |0=>rfl
 |h+1=>by rw[xZ,dO,lY l w h,xw,Nat.mul_succ]
theorem Bp (l:List Pm)(w:Nat):∀h y:Nat,y<h->((nM g l w h).drop (w*y)).take w=uk g l w y
 |0,y,a=>aa
 |h+1,y,a=>by
  rw[xZ];by_cases e:y=h
  .subst e;rw[List.drop_append_of_le_length (by rw[lY];exact bJ _),List.drop_eq_nil_of_le (by rw[lY];exact bJ _),gK,jH (by rw[xw];exact bJ _)]
  .have b:y+1<=h:=aa;have c:w*(y+1)<=w*h:=Nat.mul_le_mul_left w b;rw[Nat.mul_succ] at c;rw[List.drop_append_of_le_length (by rw[lY];omega),List.take_append_of_le_length (by rw[lC,lY];omega)];exact Bp l w h y aa
end
def XK (l:List Qt)(y:Int):Bool:=l.any λa=>decide (pE y a.yn a.yd<=0)
def NH (l:List Qt)(y:Int):Bool:=l.any λa=>decide (0<=pE y a.yn a.yd)
def bT (l:List Qt)(y:Int):Bool:=
 if y< -1073741824\/1073741824<=y then false else l.all (λa=>decide (fV a.xn a.xd=0) && decide (fV a.yn a.yd=0)) && (XK l y && NH l y)
end
section
open Go.RowKit
abbrev Iy (n:Int):Obj:=ak #[ag (2*n+1),ag 2] 163
theorem Rs (n:Int)(w:ai)(a: -1000<=n)(b:n<=1000):
  aL 188 #[ag n] w λe W=>e=ay (.agg #[ag (2*n+1),ag 2])/\W=w.alloc (Iy n):=by
 go_enter func188,ntmps188;go_wp2;exact bg (v:=.agg #[ag (2*n+1),ag 2]) (by simp[results,results188,go_sem]) rfl ⟨rfl,rfl⟩
abbrev ace (x y:Int):Obj:=ak #[ag (2*x+1),ag 2,ag (2*y+1),ag 2] 233
theorem LQ (x y:Int)(w:ai):aD w (((w.alloc (ace x y)).alloc (Iy x)).alloc (Iy y)):=(((aW _ _).alloc az _).alloc aI _).alloc bq _
theorem Iz (x y:Int)(w:ai)(a: -1000<=x)(b:x<=1000)(c: -1000<=y)(d:y<=1000):
  aL 128 #[ag x,ag y] w λe W=>e=ay (rT (nP x y))/\W=((w.alloc (ace x y)).alloc (Iy x)).alloc (Iy y):=by
 have f:=λV=>Rs x V a b;have g:=λV=>Rs y V c d;go_enter func128,ntmps128;go_wp2_with(first|(go_at_call_of 188 y;refine(g _).mono ?_;rintro e h ⟨rfl,rfl⟩)|(go_at_call_of 188 x;refine(f _).mono ?_;rintro e i ⟨rfl,rfl⟩));exact bg (v:=rT (nP x y)) (by simp[results,results128,go_sem,nP]) rfl ⟨rfl,rfl⟩
theorem zM (n:Int)(w:ai):aL 73 #[ag n] w λe W=>e=ay (.bool (decide (1<=n/\n<=40)))/\W=w:=by
 by_cases b:1<=n
 .by_cases a:n<=40
  .go_enter func73,ntmps73;go_wp2;go_ret;exact⟨Ae (by simp[b,a]),rfl⟩
  .go_enter func73,ntmps73;go_wp2;go_ret;exact⟨Ae (by simp[a]),rfl⟩
 .go_enter func73,ntmps73;go_wp2;go_ret;exact⟨Ae bq,rfl⟩
theorem Vm {y n d:Int}(c: -1073741824<=y)(e:y<1073741824)(h:fV n d=0):kU (2*n)/\kU (2*y)/\kU (2*y+1)/\kU ((2*y+1)*d)/\kU (2*n-(2*y+1)*d):=by
 obtain⟨f, -,g,i⟩:=gU.1 h;have a:0<=d:=aa;have b:d<=1073741824:=aa;have j:(2*y+1)*d<=2147483647*d:=Int.mul_le_mul_of_nonneg_right aa a;have k: -2147483648*d<=(2*y+1)*d:=Int.mul_le_mul_of_nonneg_right aa a;refine⟨⟨aa,aa⟩,⟨aa,aa⟩,⟨aa,aa⟩,⟨aa,aa⟩,⟨aa,aa⟩⟩
theorem NI (y n d:Int)(w:ai)(a: -1073741824<=y)(b:y<1073741824)(h:fV n d=0):
  aL 186 #[ag y,.agg #[ag n,ag d]] w λe W=>e=ay (ag (pE y n d))/\aD w W:=by
 obtain⟨⟨g,i⟩,⟨j,k⟩,⟨l,m⟩,⟨o,p⟩,⟨q,c⟩⟩:=Vm a b h;have f:=dz w (ak #[ag n,ag d] 163);unfold pE;go_enter func186,ntmps186;go_wp2;go_ret;exact⟨rfl,f⟩
structure P5 where
 nd:Int
 o:Option Addr
 cap:Nat
 s:Pm
 lv:Int
abbrev p5V (x:P5):ax:=.agg #[ag x.nd,aj x.o x.s.pts.length x.cap,au x.s.fill,au x.s.rule,ag x.lv]
abbrev Bq (x:P5):Array ax:=#[ag x.nd,aj x.o x.s.pts.length x.cap,au x.s.fill,au x.s.rule,ag x.lv]
structure Vn (w:ai)(b i:Nat)(x:P5):Prop where
 c0:w.cell? (aJ b i)=some (ag x.nd)
 c1:w.cell? (aJ b (i+1))=some (aj x.o x.s.pts.length x.cap)
 c2:w.cell? (aJ b (i+2))=some (au x.s.fill)
 c3:w.cell? (aJ b (i+3))=some (au x.s.rule)
 c4:w.cell? (aJ b (i+4))=some (ag x.lv)
theorem Vn.below {w w':ai}{i n:Nat}{x:P5}(h:Vn w b i x)(a:Below n w w')(d:w.heap.size<=n):Vn w' b i x:=by
 have c:b<n:=fK (aX h.c0) d;exact⟨(a.cell (p:=⟨b,i,none⟩) c).trans h.c0,(a.cell (p:=⟨b,i+1,none⟩) c).trans h.c1,(a.cell (p:=⟨b,i+2,none⟩) c).trans h.c2,(a.cell (p:=⟨b,i+3,none⟩) c).trans h.c3,(a.cell (p:=⟨b,i+4,none⟩) c).trans h.c4⟩
theorem Vn.new (w:ai)(x:P5)(t:TypeId):Vn (w.alloc (ak (Bq x) t)) w.heap.size 0 x:=⟨aI,aI,aI,aI,aI⟩
def kI (w:ai)(o:Option Addr)(l:List P5):Prop:=∀i x,l[i]? =some x->∃b a,o=some ⟨b,a,none⟩/\Vn w b (a+i*5) x
theorem kI.below {w w':ai}{o:Option Addr}{l:List P5}{n:Nat}(h:kI w o l)(d:Below n w w')(e:w.heap.size<=n):kI w' o l:=λi a f=>by
 obtain⟨b,c,g,j⟩:=h i a f;exact⟨b,c,g,j.below d e⟩
def lq (w:ai)(l:List P5):Prop:=∀x∈l,iH w x.o x.s.pts
theorem lq.below {w w':ai}{l:List P5}{n:Nat}(h:lq w l)(a:Below n w w')(b:w.heap.size<=n):lq w' l:=λx c=>(h x c).below a b
abbrev sP (l:List P5):List Pm:=l.map (·.s)
set_option maxRecDepth 20000
structure EP (aB aS aZ aV:Addr)(w:ai):Prop where
 e3:E3 aB aS aZ w
 v:w.cell? (aJ 9 0)=some (aU 453 (.pointer (some aV)))
 et:w.cell? (aJ 11 0)=some (aU 208 (.agg #[hE]))
theorem EP.below {aB aS aZ c:Addr}{w w':ai}{B:Nat}(h:EP aB aS aZ c w)(a:Below B w w')(b:w.heap.size<=B):EP aB aS aZ c w':=
 ⟨h.e3.below a b,(a.cell (fK (aX h.v) b)).trans h.v,(a.cell (fK (aX h.et) b)).trans h.et⟩
def xy (r:aO):Prop:=r.toList=a3F\/r.toList=aac
instance (r:aO):Decidable (xy r):=by unfold xy;infer_instance
theorem ba_eq {a b:aO}(h:a.toList=b.toList):a=b:=by
 rw[gN,gN] at h;cases a;cases b;simpa using h
def acf (l:List Qt)(p:Qt)(r:aO)(b:Bool)(v:ax):Prop:=
 (qd l/\jZ p=0/\xy r/\b=holdB l r p/\v=aY)\/(¬(qd l/\jZ p=0/\xy r)/\(qd l->jZ p=0->∃a,v=aU 453 (.pointer (some a)))/\a6M v)
theorem Es (b:Addr)(l:List Qt)(o:Option Addr)(a:Nat)(p:Qt)(r:aO)(w:ai)(i:(r.toList==[119,105,110,100])=false)(j:(r.toList==[101,118,101,110])=false)(c:w.cell? (aJ 9 0)=some (aU 453 (.pointer (some b)))):
  aL 183 #[.agg #[aj o l.length a],rT p,au r] w λe W=>e=ay (aH #[.bool false,aU 453 (.pointer (some b))])/\aD w W:=by
 go_enter func183,ntmps183;go_upto_region 1 with fail;obtain⟨U,d⟩:∃U,(w.alloc (ak #[aj o l.length a] 113)).alloc (ak #[ag p.xn,ag p.xd,ag p.yn,ag p.yd] 233)=U:=⟨_,rfl⟩;obtain⟨k,⟨m,n,q,s⟩,g⟩:=Cy w _ _ _ _ _ _ _ U d;have f:=(g.cell (aX c)).trans c;rw[d];clear d c;have h:U.drew.cell? (aJ 9 0)=some (aU 453 (.pointer (some b))):=f;go_wp2_with fail;go_region
 all_goals
  go_wp2_with fail;refine bg (results_tmp2 rfl _ _ _) rfl ?_;exact⟨rfl,g.drew⟩
theorem ZT (aB aS aZ k:Addr)(l:List Qt)(o:Option Addr)(c:Nat)(p:Qt)(r:aO)(w:ai)(h:iH w o l)(hp:PI p)(hE:EP aB aS aZ k w):
  aL 183 #[.agg #[aj o l.length c],rT p,au r] w λe W=>∃g v,acf l p r g v/\e=ay (aH #[.bool g,v])/\aD w W:=by
 by_cases i:r.toList=a3F
 .have n:r=⟨#[119,105,110,100]⟩:=ba_eq (by rw[i,gN];rfl);subst n;refine(V8 aB aS aZ l o c p w h hp hE.e3).mono ?_;rintro e W ⟨q,s,v,g,rfl,j⟩;refine⟨_,_,?_,rfl,j⟩;rcases g with⟨d,f,rfl,rfl,rfl⟩|⟨d,rfl,rfl,f⟩
  .exact .inl ⟨d,f,.inl i,by rw[holdB,aR i],rfl⟩
  .exact .inr ⟨λh=>d ⟨h.1,h.2.1⟩,λa b=>absurd ⟨a,b⟩ d,f⟩
 .by_cases m:r.toList=aac
  .have n:r=⟨#[101,118,101,110]⟩:=ba_eq (by rw[m,gN];rfl);subst n;refine(V9 aB aS aZ l o c p w h hp hE.e3).mono ?_;rintro e W ⟨q,s,v,g,rfl,j⟩;refine⟨_,_,?_,rfl,j⟩;rcases g with⟨d,f,rfl,rfl,rfl⟩|⟨d,rfl,rfl,f⟩
   .exact .inl ⟨d,f,.inr m,by rw[holdB,aG i];rfl,rfl⟩
   .exact .inr ⟨λh=>d ⟨h.1,h.2.1⟩,λa b=>absurd ⟨a,b⟩ d,f⟩
  .refine(Es k l o c p r w (dW.2 i) (dW.2 m) hE.v).mono ?_;rintro e W ⟨rfl,j⟩;exact⟨_,_,.inr ⟨λh=>h.2.2.elim i m,λ_ _=>⟨k,rfl⟩,.inl ⟨k,rfl⟩⟩,rfl,j⟩
def IG (A:Addr)(w:ai)(v:ax):Prop:=v=aU 453 (.pointer (some A))\/(∃a,w.cell? (aJ a 1)=some (aU 453 (.pointer (some A)))/\v=aU 67 (aK a))
def Vo (aB aS:Addr)(a:Qt->Nat)(l:List Qt)(d:Addr):Addr:=match l.find? (λy=>a y !=0) with
 |some y=>if a y=2 then aB else aS
 |none=>d
def CO (aB aS a:Addr)(l:List Qt):Addr:=if 30<l.length then aB else Vo aB aS iW l (Vo aB aS nI l a)
theorem CQ {d:Addr}{a:Qt->Nat}{l:List Qt}(h:∀y∈l,a y=0):Vo aB aS a l d=d:=by
 unfold Vo;grind
theorem a7Y {b:Addr}{l:List Qt}(h:qd l):CO aB aS b l=b:=by
 unfold CO;rw[aG (by have:=h.1;omega),CQ λy a=>(jC.1 (h.2 y a)).1,CQ λy a=>(jC.1 (h.2 y a)).2]
def kE (s:Pm):Prop:=qd s.pts/\xy s.rule
theorem a3H {x y:Int}(d:0<=x)(e:x<=100)(f:0<=y)(g:y<=100):jZ (nP x y)=0/\PI (nP x y):=by
 have c:∀n:Int,0<=n->n<=100->fV (2*n+1) 2=0:=λn a b=>by
  rw[gU];refine⟨aC,?_,aa,aC⟩;unfold ji;have:(2*n+1).natAbs=2*n.natAbs+1:=aa;rw[this];show Nat.gcd (2*n.natAbs+1) 2=1;rw[Nat.gcd_comm,Nat.gcd_rec];simp
 refine⟨jC.2 ⟨jc.2 ⟨c x d e,c y f g⟩,?_⟩,⟨⟨?_,?_⟩,⟨by show(-9223372036854775808:Int)<=2;omega,by show(2:Int)<=9223372036854775807;omega⟩,⟨?_,?_⟩,⟨by show(-9223372036854775808:Int)<=2;omega,by show(2:Int)<=9223372036854775807;omega⟩⟩⟩
 .unfold nI YO nP;grind
 all_goals(simp only[nP];omega)
theorem Rt (aB aS aZ b:Addr)(l:List Qt)(o:Option Addr)(a:Nat)(p:Qt)(r:aO)(w:ai)(h:iH w o l)(hp:PI p)(hE:EP aB aS aZ b w)(f:qd l)(g:jZ p=0)(i:xy r):
    aL 183 #[.agg #[aj o l.length a],rT p,au r] w λe W=>e=ay (aH #[.bool (holdB l r p),aY])/\aD w W:=
  (ZT aB aS aZ b l o a p r w h hp hE).mono λe W ⟨j,v,k,c,d⟩=>by
    rcases k with⟨-, -, -,rfl,rfl⟩|⟨k, -⟩
    . exact⟨c,d⟩
    . grind
theorem NJ (x y:Int)(w:ai)(a: -1000<=x)(b:x<=1000)(c: -1000<=y)(d:y<=1000):
  aL 128 #[ag x,ag y] w λe W=>e=ay (rT (nP x y))/\aD w W:=
 (Iz x y w a b c d).mono λ_ _ ⟨a,b⟩=>⟨a,by rw[b];exact LQ x y w⟩
theorem IG.Ru {aZ d:Addr}{b:Qt->Nat}{l:List Qt}{e:Ending}{W:ai}(h:wQ aB aS aZ b w l e W)(hc:∀a,b a=0\/b a=2\/b a=3)(k:¬∀y∈l,b y=0):∃v,IG (Vo aB aS b l d) W v/\e=ay v:=by
 rcases h with⟨h, -⟩|⟨q,x,r,f,m,n,o, -,g,p,i⟩
 .grind
 .refine⟨_,.inr ⟨f,?_,rfl⟩,g⟩;have j:l.find? (λy=>b y !=0)=some x:=by grind
  rw[i];unfold Vo;rw[j];rcases hc x with c|c|c
  .omega
  .simp only[c,if_true];rfl
  .simp only[c];rfl
theorem IG.acg {aZ:Addr}(k:Addr){w:ai}{l:List Qt}{e:Ending}{W:ai}(h:a2d aB aS aZ w l e W):(qd l/\e=ay aY)\/(¬qd l/\∃v,IG (CO aB aS k l) W v/\e=ay v):=by
 have c:=h.plain;unfold CO;rcases h with⟨f,g⟩|⟨f,⟨y,b,d⟩,i⟩|⟨f,g,i⟩
 .rw[aR f];exact .inr ⟨λh=>by have:=h.1;omega,_,.inl rfl,g⟩
 .rw[aG aa];exact .inr ⟨λh=>d (jC.1 (h.2 y b)).1,IG.Ru i uO (λh=>d (h y b))⟩
 .rw[aG aa,CQ g];by_cases j:∀y∈l,nI y=0
  .rcases c with c|⟨c, -⟩
   .exact .inl c
   .exact absurd ⟨f,λy b=>jC.2 ⟨g y b,j y b⟩⟩ c
  .refine .inr ⟨λh=>j (λy b=>(jC.1 (h.2 y b)).2),IG.Ru i (λa=>by have:=qX a;omega) j⟩
theorem II (aB aS aZ g:Addr)(x:P5)(w:ai)(h:iH w x.o x.s.pts)(hE:EP aB aS aZ g w):
  aL 121 #[p5V x] w λe W=>((kE x.s/\e=ay aY)\/(¬kE x.s/\∃v,IG (CO aB aS g x.s.pts) W v/\e=ay v))/\aD w W:=by
 have C:=Vn.new w x 115;have r:=dz w (ak (Bq x) 115);go_enter func121,ntmps121;go_upto_region 1 with fail;obtain⟨U,L⟩:∃U,w.alloc (ak (Bq x) 115)=U:=⟨_,rfl⟩;rw[L] at C r⊢;clear L;have m:=h.below r az;have M:=hE.below r az;have N:=Aw aB aS aZ x.s.pts x.o x.cap U m M.e3;obtain⟨S,T,V,X,Y⟩:=id C;go_upto_region 2 with(go_at_call 182;refine N.mono ?_;rintro e a ⟨s,t⟩;have s:=IG.acg g s;obtain⟨v,rfl,u⟩:∃v,e=ay v/\((qd x.s.pts/\v=aY)\/(¬qd x.s.pts/\IG (CO aB aS g x.s.pts) a v)):=(by rcases s with⟨D,E⟩|⟨D,v,E,Z⟩;exact⟨_,E,.inl ⟨D,rfl⟩⟩;exact⟨v,Z,.inr ⟨D,E⟩⟩));clear s N S T V X Y;have z:=C.below t az;have B:=aP r t;have F:=m.below t az;have n:=M.below t az;rcases u with⟨k,rfl⟩|⟨H,u⟩
 .go_upto_region 4 with fail;obtain⟨ec,ip⟩:=a3H (x:=0) (y:=0) aC aC aC aC;have CE:∀d b,aL 128 #[ag 0,ag 0] (Go.Sort.grow (redrawn a d) b) λe c=>e=ay (rT (nP 0 0))/\∃p:Regrown,c=Go.Sort.grow (redrawn a p.d) p.os:=λd b=>Calls.regrown_of (NJ 0 0 _ aC aC aC aC);by_cases o:xy x.s.rule
  .have I:∀d b,aL 183 #[.agg #[aj x.o x.s.pts.length x.cap],rT (nP 0 0),au x.s.rule] (Go.Sort.grow (redrawn a d) b) λe c=>e=ay (aH #[.bool (holdB x.s.pts x.s.rule (nP 0 0)),aY])/\∃p:Regrown,c=Go.Sort.grow (redrawn a p.d) p.os:=λd b=>Calls.regrown_of (Rt aB aS aZ g x.s.pts x.o x.cap (nP 0 0) x.s.rule _ (F.below (below_regrown a d b) az) ip (n.below (below_regrown a d b) az) k ec o);have r1:=cell_regrown z.c1;have r3:=cell_regrown z.c3;refine wp_region_quiet_below aA aA ?_
   repeat(quiet_step (first|(go_at_call 183;exact I _ _)|(go_at_call 128;exact CE _ _)))
   refine wpQuiet_nil ?_;intro _ l;obtain⟨i,f⟩:=l;subst f;have q:=below_regrown a i.d i.os;generalize Go.Sort.grow (redrawn a i.d) i.os=w2 at q⊢;go_wp2_with fail;go_ret;exact⟨.inl ⟨⟨k,o⟩,rfl⟩,aP B q⟩
  .have O:(x.s.rule.toList==[119,105,110,100])=false:=dW.2 (λh=>o (.inl h));have P:(x.s.rule.toList==[101,118,101,110])=false:=dW.2 (λh=>o (.inr h));have I:∀d b,aL 183 #[.agg #[aj x.o x.s.pts.length x.cap],rT (nP 0 0),au x.s.rule] (Go.Sort.grow (redrawn a d) b) λe c=>e=ay (aH #[.bool false,aU 453 (.pointer (some g))])/\∃p:Regrown,c=Go.Sort.grow (redrawn a p.d) p.os:=λd b=>Calls.regrown_of (Es g x.s.pts x.o x.cap (nP 0 0) x.s.rule _ O P (n.below (below_regrown a d b) az).v);have r1:=cell_regrown z.c1;have r3:=cell_regrown z.c3;clear O P;refine wp_region_quiet_below aA aA ?_
   repeat(quiet_step (first|(go_at_call 183;exact I _ _)|(go_at_call 128;exact CE _ _)))
   refine wpQuiet_nil ?_;intro _ l;obtain⟨i,f⟩:=l;subst f;have q:=below_regrown a i.d i.os;generalize Go.Sort.grow (redrawn a i.d) i.os=w2 at q⊢;go_wp2_with fail;go_ret;exact⟨.inr ⟨λh=>o h.2,aU 453 (.pointer (some g)),.inl (by rw[a7Y k]),rfl⟩,aP B q⟩
 .have j:¬kE x.s:=λh=>H h.1;obtain⟨A,J⟩:∃A,CO aB aS g x.s.pts=A:=⟨_,rfl⟩;rw[J] at u;have Q:=aF J;clear J;rcases u with rfl|⟨R,K,rfl⟩
  .go_wp2_with fail;go_ret;exact⟨.inr ⟨j,aU 453 (.pointer (some A)),by rw[Q.out];exact .inl rfl,rfl⟩,B⟩
  .go_wp2_with fail;go_ret;exact⟨.inr ⟨j,aU 67 (aK R),by rw[Q.out];exact .inr ⟨R,K,rfl⟩,rfl⟩,B⟩
theorem CV (aB aS aZ k A:Addr)(v:ax)(w:ai)(h:IG A w v)(hE:EP aB aS aZ k w):
  aL 122 #[v] w λe W=>e=ay (aU 453 (.pointer (some A)))/\aD w W:=by
 have g:=dz w (ak #[.pointer none] 67);have c:=hE.below g az;rcases h with rfl|⟨b,j,rfl⟩
 .have l:=Xx A ⟨w.heap.size,0,none⟩ (w.alloc (ak #[.pointer none] 67)) c.et;go_enter func122,ntmps122;go_wp2_with(go_at_call 34;refine l.mono ?_;rintro e d ⟨rfl,f⟩);go_ret;exact⟨rfl,aP g f⟩
 .have m:=a2U ⟨b,0,none⟩ ⟨w.heap.size,0,none⟩ (.pointer none) (w.alloc (ak #[.pointer none] 67)) c.et aI aI;have i:=aX j;go_enter func122,ntmps122;go_wp2_with fail;refine m.mono ?_;rintro e n ⟨rfl,d,f,rfl⟩;have a:aD w (d.setCell ⟨w.heap.size,0,none⟩ (aK b)):=(aP g f).setCell az _;have o:=(a.cell (p:=⟨b,1,none⟩) i).trans j;have q:(d.setCell ⟨w.heap.size,0,none⟩ (aK b)).cell? ⟨w.heap.size,0,none⟩=some (aK b):=by
   have r:d.cell? ⟨w.heap.size,0,none⟩=some (.pointer none):=by rw[f.cell (p:=⟨w.heap.size,0,none⟩) aI];simp
   exact iJ _ _ _ (by rw[r];rfl)
  generalize (d.setCell ⟨w.heap.size,0,none⟩ (aK b))=s at a o q⊢;go_wp2;go_ret;exact⟨rfl,a⟩
def Kb (aB aS c:Addr)(l:List P5)(a b:Nat)(W:ai):Prop:=∃q x r,l=q++x::r/\(∀y∈q,kE y.s)/\¬kE x.s/\a<=b/\(∃n,W.cell? (aJ b 0)=some (ag n))/\W.cell? (aJ b 1)=some (aU 453 (.pointer (some (CO aB aS c x.s.pts))))
theorem xz (aB aS aZ j:Addr)(l:List P5)(o:Option Addr)(B:Nat)(w:ai)(hl:l.length<=1000)(h:kI w o l)(hP:lq w l)(hE:EP aB aS aZ j w):
  aL 74 #[aj o l.length B] w λe W=>(((∀x∈l,kE x.s)/\e=ay aY)\/(∃C,Kb aB aS j l w.heap.size C W/\e=ay (aU 67 (aK C))))/\aD w W:=by
 go_enter func74,ntmps74;go_wp2
 go_loopw [8] (λi wr=>∃k:Nat,k<=l.length/\i=ag k/\(∀x∈l.take k,kE x.s)/\aD w wr) (λi _=>l.length-(intOf i).toNat)
 case atStart=>exact⟨0,bA _,rfl,(λa Y=>by simp at Y),aW _ _⟩
 case round=>
  obtain⟨k,hk,rfl,c,D⟩:=hrel;by_cases E:k<l.length
  .have Q:(k:Int)<(l.length:Int):=aa;obtain⟨x,t⟩:∃x,l[k]? =some x:=⟨_,fD E⟩;have m:x∈l:=ic t;obtain⟨b,Z,rfl,hC⟩:=h.below D az k x t;have C0:=Vn.new wr x 115;have b1:=dz wr (ak (Bq x) 115);have F:=aP D b1;have R:=II aB aS aZ j x (wr.alloc (ak (Bq x) 115)) ((hP x m).below F az) (hE.below F az);obtain⟨c0,c1,c2,c3,c4⟩:=hC;have S:=aF t;clear t;go_upto_region 5 with(go_at_call 121;refine R.mono ?_;rintro e T ⟨U,b2⟩;obtain⟨v,rfl,n⟩:∃v,e=ay v/\((kE x.s/\v=aY)\/(¬kE x.s/\IG (CO aB aS j x.s.pts) T v)):=(by rcases U with⟨H,I⟩|⟨H,v,I,k3⟩;exact⟨_,I,.inl ⟨H,rfl⟩⟩;exact⟨v,k3,.inr ⟨H,I⟩⟩));clear U R;have u:=aP F b2;rcases n with⟨J,rfl⟩|⟨p,n⟩
   .go_wp2_with fail
    go_roundw
    case rel=>exact⟨k+1,aa,by go_num,λy d=>by rw[eX,S.out] at d;rcases iw.1 d with d|d;exact c y d;simp at d;subst d;exact J,u⟩
    case measure=>simp[intOf];omega
   .have K:=CV aB aS aZ j _ v T n (hE.below u az);have f:∀z,z=v->((∃a,z=Value.iface 453 (.pointer (some a)))\/(∃a,z=Value.iface 67 (.pointer (some a)))):=λz e=>by
     subst e;rcases n with h|⟨C, -,h⟩
     .exact .inl ⟨_,h⟩
     .exact .inr ⟨_,h⟩
    have f:=f v rfl;clear n;have V:Hid (∃q r,l=q++x::r/\∀y∈q,kE y.s):=by
     obtain⟨s,L⟩:=lK.1 S.out;exact⟨l.take k,l.drop (k+1),by rw[<- L,<- wz s,jS],c⟩
    obtain⟨A,M⟩:∃A,CO aB aS j x.s.pts=A:=⟨_,rfl⟩;rw[M] at K;have X:=aF M;clear M;rcases f with⟨a,rfl⟩|⟨a,rfl⟩
    .go_wp2_with(go_at_call 122;refine K.mono ?_;rintro e w2 ⟨rfl,N⟩);go_ret;have g:=aP u N;obtain⟨q,r,O,P⟩:=V.out;exact⟨.inr ⟨_,⟨q,x,r,O,P,p,g.size,⟨k,aI⟩,by rw[X.out];simp⟩,rfl⟩,g.alloc g.size _⟩
    .go_wp2_with(go_at_call 122;refine K.mono ?_;rintro e w2 ⟨rfl,N⟩);go_ret;have g:=aP u N;obtain⟨q,r,O,P⟩:=V.out;exact⟨.inr ⟨_,⟨q,x,r,O,P,p,g.size,⟨k,aI⟩,by rw[X.out];simp⟩,rfl⟩,g.alloc g.size _⟩
  .obtain rfl:k=l.length:=aa;go_wp2_with fail;go_ret;rw[gJ] at c;exact⟨.inl ⟨c,rfl⟩,D⟩
theorem ZU (aB aS aZ c:Addr)(l:List P5)(o:Option Addr)(b:Nat)(w:ai)(d:l.length<=1000)(h:kI w o l)(hP:lq w l)(hE:EP aB aS aZ c w):
  aL 74 #[aj o l.length b] w λe W=>(((∀x∈l,kE x.s)/\e=ay aY)\/((∃x∈l,¬kE x.s)/\∃a,e=ay (aU 67 (.pointer (some a)))))/\aD w W:=(xz aB aS aZ c l o b w d h hP hE).mono λe W ⟨f,g⟩=>⟨f.imp id λ⟨m,⟨q,x,r,i,_,j,_⟩,k⟩=>⟨⟨x,by rw[i];simp,j⟩,_,k⟩,g⟩
end
open Go.RowKit Go.Shelf
set_option maxRecDepth 100000
attribute [local go_sem] Oper.semAt_some
structure BkI (w0:ai) where
 ix:Nat
 x:P5
 hp:iH w0 x.o x.s.pts
 ok:kE x.s
abbrev bkV {w0:ai}(e:BkI w0):Array ax:=#[ag e.ix,p5V e.x]
theorem aad (w0:ai)(l:List P5)(hP:lq w0 l)(b:∀x∈l,kE x.s):∀n,n<=l.length->∃a:List (BkI w0),a.length=n/\a.map (·.x)=(l.take n).reverse/\∀k e,a[k]? =some e->e.ix=n-1-k
 |0,_=>⟨[],rfl,rfl,λk e h=>by simp at h⟩
 |n+1,g=>by
  obtain⟨a,d,f,i⟩:=aad w0 l hP b n aa;have j:l[n]? =some l[n]:=by grind
  have c:l[n]∈l:=by grind
  refine⟨⟨n,l[n],hP _ c,b _ c⟩::a,by simp[d],?_,λk e h=>?_⟩
  .rw[ny,f];have e:l.take (n+1)=l.take n++[l[n]]:=Rm l n aa;grind
  .grind
def bkT (Bs:Nat)(o:Option Addr)(l:List P5)(k:Nat):Prop:=k=Bs\/(l≠[]/\∃a,o=some ⟨k,a,none⟩)
theorem kI.kept {w':ai}{o:Option Addr}{l:List P5}{Bs:Nat}(h:kI w o l)(g:xW (bkT Bs o l) w w'):kI w' o l:=λi a e=>by
 obtain⟨b,c,f,j,k,m,n,q⟩:=h i a e;have d:=g b (.inr ⟨by rintro rfl;simp at e,c,f⟩);exact⟨b,c,f,(cell_of_heap (p:=⟨b,_,none⟩) d).trans j,(cell_of_heap (p:=⟨b,_,none⟩) d).trans k,(cell_of_heap (p:=⟨b,_,none⟩) d).trans m,(cell_of_heap (p:=⟨b,_,none⟩) d).trans n,(cell_of_heap (p:=⟨b,_,none⟩) d).trans q⟩
theorem a3I (l:List P5)(w0:ai)(a:List (BkI w0))(Q:a.length=l.length)(v:a.map (·.x)=l.reverse)(w:∀k e,a[k]? =some e->e.ix=l.length-1-k)(hl:l.length<=1000)(o:Option Addr)(c n Bs:Nat)(H:w0.heap[Bs]? =some (ak #[aj o l.length c] 84))(hP:kI w0 o l):
  SeqStopsK Fence.wide n prog 254 #[aK Bs] bkV (xW (bkT Bs o l)) (λR=>R=a) (λp=>p<+:a) a.length w0:=by
 intro L J Jx W I hJ S T U;have y:Bs<w0.heap.size:=(eY.1 H).1;have z:W.heap[Bs]? =some (ak #[aj o l.length c] 84):=(I.block Bs y).trans H;have V:W.cell? (aJ Bs 0)=some (aj o l.length c):=by simp[World.cell?,z]
 have A:=hP.below I az;refine callsIn_of_wp func254 rfl trivial ?_ rfl;simp only[ntmps254,jw,eZ,iT,Nat.reduceAdd,Nat.reduceSub,jV,jU,jX,jW,gK,gH]
 gi_wp2
 gi_loopw [3] (λi wr=>∃k:Nat,k<=l.length/\i=ag ((l.length:Int)-1-k)/\J (a.take k) wr/\xW (bkT Bs o l) W wr) (λi _=>(intOf i+1).toNat)
 case atStart=>exact⟨0,bA _,aI,U,xW.refl _⟩
 case round=>
  obtain⟨k,hk,rfl,g,d⟩:=hrel;by_cases B:k<l.length
  .have C:k<a.length:=aa;obtain⟨x,b⟩:∃x,a[k]? =some x:=⟨_,fD C⟩;have D:=w k x b;have f:l[l.length-1-k]? =some x.x:=by
    have K:(a.map (·.x))[k]? =some x.x:=by rw[jv,b];rfl
    rw[v,List.getElem?_reverse B] at K;exact K
   have m:a.take (k+1)=a.take k++[x]:=by rw[eX,b];rfl
   have q:(a.take k).length<a.length:=by rw[iR];omega
   obtain⟨j,M⟩:∃j:Nat,l.length-1-k=j:=⟨_,rfl⟩;rw[M] at D f;have r:(l.length:Int)-1-k=(j:Int):=aa;have X:j<l.length:=aa;have Y:(j:Int)<(l.length:Int):=aa;obtain⟨bb,Z,ho,q0,q1,q2,q3,q4⟩:=A.kept d j x.x f;have cB:=(cell_of_heap (p:=⟨Bs,0,none⟩) (d Bs (.inl rfl))).trans V;subst ho;obtain⟨fn,N,u,O,P,hR⟩:=T (a.take k) x wr g q;have s:=aF m;have HJ:Hid (j+k+1=l.length):=(by omega:j+k+1=l.length);rw[r];unfold bkV at P;rw[D] at P;clear m q f D M b r
   gi_wp2
   refine⟨(λh=>by cases h),hR.mono ?_⟩;rintro e W3 (⟨rfl,E,F⟩|⟨rfl,t⟩)
   .gi_wp2
    go_roundw
    case rel=>exact⟨k+1,aa,by have:=HJ.out;congr 1;omega,by rw[s.out];exact E,d.trans F⟩
    case measure=>simp[intOf]
   .gi_wp2
    refine bg (results_none rfl _ _ _) rfl ?_;exact⟨⟨_,rfl⟩,.inr ⟨_,by rw[<- s.out];exact List.take_prefix _ _,t⟩⟩
  .obtain rfl:k=l.length:=aa;have hz:(l.length:Int)-1-(l.length:Nat)= -1:=aa;rw[hz]
   gi_wp2
   go_end0
   exact⟨⟨_,rfl⟩,.inl ⟨_,by rw[jH aa],g⟩⟩
theorem NK (o:Option Addr)(n c:Nat)(W:ai):aL 187 #[aj o n c] W λe w'=>e=ay (.func (.func 254) #[] #[aK W.heap.size])/\w'=W.alloc (ak #[aj o n c] 84):=by
 go_enter func187,ntmps187;go_wp2;go_ret;exact⟨rfl,rfl⟩
structure ShI (p:Qt)(B1 B2 N:Nat)(W:ai):Prop where
 f:Four W B1 (ag p.xn) (ag p.xd) (ag p.yn) (ag p.yd)
 r:W.heap[B2]? =some (ak #[au ⟨#[]⟩] 9)
 sz:N<=W.heap.size
theorem ShI.below {p:Qt}{b c N:Nat}{A B:ai}(h:ShI p b c N A)(a:aD A B):ShI p b c N B:=
 ⟨h.f.below a az,(a.block _ (eY.1 h.r).1).trans h.r,bO h.sz a.size⟩
theorem Rv {A C:ai}{a:Option Nat}{U k:Nat}{o:Obj}(h:A.heap[k]? =some o)(d:k<U)(b:A.grownBy C a)(c:∀r,a=some r->U<=r/\∃o:Obj,A.heap[r]? =some o/\o.isCells=false):C.heap[k]? =some o:=
 (b.block k (eY.1 h).1 (λe=>by have:=(c k e.symm).1;omega)).trans h
theorem Rw {v:ax}{t:TypeId}(h:w.heap[b]? =some (ak #[v] t))(u:ax):(w.setCell ⟨b,0,none⟩ u).heap[b]? =some (ak #[u] t):=by
 rw[heap_setCell_same w b 0 _ _ _ h];rfl
theorem yc {v:ax}{t:TypeId}(h:w.heap[b]? =some (ak #[v] t)):w.cell? (aJ b 0)=some v:=by simp[World.cell?,h]
theorem LU {v:ax}{t:TypeId}(h:w.heap[b]? =some (ak #[v] t)):w.frozen? ⟨b,0,none⟩=false:=by
 unfold World.frozen?;rw[h];simp
def IJ {w0:ai}(p:Qt)(pre:List (BkI w0)):Prop:=∀e∈pre,holdB e.x.s.pts e.x.s.rule p=false
theorem IJ.snoc {w0:ai}{p:Qt}{pre:List (BkI w0)}{e:BkI w0}(h:IJ p pre)(he:holdB e.x.s.pts e.x.s.rule p=false):IJ p (pre++[e]):=λx a=>by
 rcases iw.1 a with a|a
 .exact h x a
 .grind
theorem IJ.pm {w0:ai}{p:Qt}{pre:List (BkI w0)}(h:IJ p pre):∀s∈pre.map (·.x.s),holdB s.pts s.rule p=false:=λs a=>by
 obtain⟨e,b,rfl⟩:=gL.1 a;exact h e b
theorem Vp (aB aS aZ aV:Addr)(l:List P5)(o:Option Addr)(n:Nat)(p:Qt)(w:ai)(hl:l.length<=1000)(h:kI w o l)(hP:lq w l)(m:∀x∈l,kE x.s)(hp:PI p)(a6:jZ p=0)(hE:EP aB aS aZ aV w):
  CallsIn Fence.wide 9 prog 127 #[aj o l.length n,rT p] w λe W=>e=ay (au (kz (sP l) p))/\aD w W:=by
 refine callsIn_of_wp_marks func127 rfl trivial ?_ rfl;simp only[ntmps127,jw,eZ,iT,Nat.reduceAdd,Nat.reduceSub,jV,jU,jX,jW,gK,gH]
 gi_wp2
 obtain⟨U,hU⟩:∃U,(w.alloc (ak #[ag p.xn,ag p.xd,ag p.yn,ag p.yd] 233)).alloc (ak #[au ⟨#[]⟩] 9)=U:=⟨_,rfl⟩;have F0:=Four.new w (ag p.xn) (ag p.xd) (ag p.yn) (ag p.yd) 233;have b0:=dz w (ak #[ag p.xn,ag p.xd,ag p.yn,ag p.yd] 233);have b1:=dz (w.alloc (ak #[ag p.xn,ag p.xd,ag p.yn,ag p.yd] 233)) (ak #[au ⟨#[]⟩] 9);have S:=fE (w.alloc (ak #[ag p.xn,ag p.xd,ag p.yn,ag p.yd] 233)) (ak #[au ⟨#[]⟩] 9);have F1:=F0.below b1 az;rw[show(w.alloc (ak #[ag p.xn,ag p.xd,ag p.yn,ag p.yd] 233)).heap.size=w.heap.size+1 from by simp] at S;have bU:=aP b0 b1;rw[hU] at F1 S bU;rw[hU];clear hU F0 b0 b1;refine⟨trivial,(dM.2 (NK o l.length n U)).mono ?_⟩;rintro e y ⟨rfl,J⟩;have b3:=dz U (ak #[aj o l.length n] 84);have hX:y.heap[U.heap.size]? =some (ak #[aj o l.length n] 84):=by rw[J];exact fE U _
 rw[<- J] at b3;clear J;have M:=aP bU b3;have T:U.heap.size<y.heap.size:=(eY.1 hX).1;have a7:=hP.below M az;have h3:=h.below M az;have Uy:=hE.below M az;obtain⟨xs,V,E,X⟩:=aad y l a7 m l.length az;rw[gJ] at E;have b6:w.heap.size+1<U.heap.size:=(eY.1 S).1;have LG:∀k,bkT U.heap.size o l k->k<y.heap.size/\k≠w.heap.size+1:=λk m=>by
  rcases m with rfl|⟨a8,b7,ho⟩
  .exact⟨T,aa⟩
  .cases l with
   |nil=>exact absurd rfl a8
   |cons a l=>
    obtain⟨b,b5,e1,h2⟩:=h 0 a rfl;rw[ho] at e1;cases e1;have m:=aX h2.c0;simp at m;exact⟨by have:=M.size;omega,aa⟩
 have N:ShI p w.heap.size (w.heap.size+1) 0 y:=ShI.below ⟨F1,S,bA _⟩ b3;have I0:ShI p w.heap.size (w.heap.size+1) y.heap.size y:=⟨N.f,N.r,bJ _⟩;have H:xs.map (·.x.s)=(sP l).reverse:=by
  have:(xs.map (·.x)).map (·.s)=(l.reverse).map (·.s):=by rw[E]
  rw[List.map_map] at this;rw[sP,<- List.map_reverse,<- this];rfl
 have HM:=aF H;have Y:=a3I l y xs V E X hl o n (9-1) U.heap.size hX h3;clear N V E X H F1 S
 gi_wp2
 refine wpIn_rangeFunc_ownH rfl aa (gf:=254) (lb:=#[aK U.heap.size]) rfl trivial (enters_of func254 aA rfl)
  Y xW.trans (xW.put (λk m=>(LG k m).1)) (aW _ _) (λ_=>rfl)
  (λpre W=>ShI p w.heap.size (w.heap.size+1) y.heap.size W/\aD w W/\aD y W/\IJ p pre)
  (λc pre W=>c=.ret/\∃v e,pre=v++[e]/\IJ p v/\holdB e.x.s.pts e.x.s.rule p=true/\W.heap[w.heap.size+1]? =some (ak #[au e.x.s.fill] 9)/\aD w W)
  ?own ?al0
  ⟨I0,M,aW _ _,λe he=>by cases he⟩
  (λx a' W=>∃Z,Vn W Z 0 x.x/\a'={tmps:=#[aj o l.length n,rT p,undef,aK w.heap.size,.pointer (some ⟨w.heap.size+1,0,none⟩),undef,aK Z,undef,undef,aj o l.length n,.func (.func 254) #[] #[aK U.heap.size],ag x.ix,p5V x.x,undef,undef,undef,undef,undef,undef,undef,undef,undef,undef,undef,undef],defers:=[]})
  ?agQ
  ?assign ?body ?done ?stop
 case own=>
  intro pre A B F hs f z;obtain⟨t,g,d,C⟩:=hs;have q:∀r,F=some r->∃o:Obj,A.heap[r]? =some o/\o.isCells=false:=λr e=>(z r e).2;refine⟨⟨t.f.kept' f q,Rv t.r aa f z,bO t.sz f.size⟩,?_,?_,C⟩
  .exact⟨f.os.trans g.os,f.tape.trans g.tape,f.output.trans g.output,bO g.size f.size,λk m=>(f.block k (fK m g.size) (λe=>by have:=(z k e.symm).1;omega)).trans (g.block k m)⟩
  .exact⟨f.os.trans d.os,f.tape.trans d.tape,f.output.trans d.output,bO d.size f.size,λk m=>(f.block k (fK m d.size) (λe=>by have:=(z k e.symm).1;omega)).trans (d.block k m)⟩
 case al0=>
  intro c pre A B F hs f z;obtain⟨hc,v,e,h1,h2,a9,h4,g⟩:=hs;exact⟨hc,v,e,h1,h2,a9,Rv h4 aa f z,⟨f.os.trans g.os,f.tape.trans g.tape,f.output.trans g.output,bO g.size f.size,λk m=>(f.block k (fK m g.size) (λe=>by have:=(z k e.symm).1;omega)).trans (g.block k m)⟩⟩
 case agQ=>
  intro x a' s A B F hs f z;obtain⟨Z,hC,ha⟩:=hs;have q:∀r,F=some r->∃o:Obj,A.heap[r]? =some o/\o.isCells=false:=λr e=>(z r e).2;exact⟨Z,⟨cell_kept hC.c0 f q,cell_kept hC.c1 f q,cell_kept hC.c2 f q,cell_kept hC.c3 f q,cell_kept hC.c4 f q⟩,ha⟩
 case assign=>
  rintro L pre x W K ⟨t,g,d,C⟩ R
  gi_wp2
  have k1:=dz W (ak (Bq x.x) 115);exact R _ _ ((KeepsOthers.alloc _ _).from _) (xW.of_below k1 (λj hj=>by have h1:=(LG j hj).1;have h2:=t.sz;omega)) ⟨t.below k1,aP g k1,aP d k1,C⟩ ⟨W.heap.size,Vn.new W x.x 115,rfl⟩
 case body=>
  rintro L pre x a' W b8 z ⟨t,g,d,C⟩ ⟨Z,⟨x0,x1,x2,x3,x4⟩,rfl⟩ b9;have HO:=Rt aB aS aZ aV x.x.s.pts x.x.o x.x.cap p x.x.s.rule W (x.hp.below d az) hp (Uy.below d az) x.ok.1 a6 x.ok.2;obtain⟨⟨z0,z1,z2,z3⟩,i,c0⟩:=id t;have cr:=yc i;have fr:=LU i;have HI:=aF t;clear t i;cases I:holdB x.x.s.pts x.x.s.rule p with
  |false=>
   rw[I] at HO;have HH:=aF I;clear I
   gi_wp2_with (refine⟨trivial,?_⟩;gi_at_call 183;refine(CallsIn.inRound L (dM.2 HO)).mono ?_;rintro e w' ⟨rfl,u⟩)
   exact⟨(zH u).from _,xW.of_below u (λj hj=>by have h1:=(LG j hj).1;omega),HI.out.below u,aP g u,aP d u,C.snoc HH.out⟩
  |true=>
   rw[I] at HO;have HH:=aF I;clear I
   gi_wp2_with (refine⟨trivial,?_⟩;gi_at_call 183;refine(CallsIn.inRound L (dM.2 HO)).mono ?_;rintro e w' ⟨rfl,u⟩;have c1:=(u.cell (aX cr)).trans cr;have c2:=(u.frozen (aX cr)).trans fr;have c3:=(u.cell (aX x2)).trans x2)
   have b2:=HI.out.below u;exact⟨((zH u).trans (gT _ _ _)).from _,rfl,pre,x,rfl,C,HH.out,Rw b2.r _,(aP g u).setCell aI _⟩
 case done=>
  rintro D ys W hD rfl ⟨t,g,d,C⟩ R;have i:=t.r;have cr:=yc i;have fr:=LU i;have O:kz (sP l) p=a7X:=by
   unfold kz;rw[<- HM.out];exact Rq _ _ C.pm
  gi_wp2
  have a4:=(gT W ⟨w.heap.size+1,0,none⟩ (au ⟨#[46]⟩)).same D _ R rfl;refine⟨aI,.inl ⟨_,_,rfl,run_takeDeferred a4,?_⟩⟩;have b4:=Rw i (au ⟨#[46]⟩);have P:=(nZ (w:=W.setCell ⟨w.heap.size+1,0,none⟩ (au ⟨#[46]⟩)) (o:=.deferred none) (show w.heap.size+1≠D by omega)).trans b4;have oc:=yc P;refine⟨au ⟨#[46]⟩,?_,by rw[O];rfl,(g.setCell aI _).trans (belowK_b (w:=w) az _ D _ _ (by have:=M.size;omega) a4 rfl rfl)⟩;simp[results,results127,go_sem,oc]
 case stop=>
  rintro D c pre W hD a5 ⟨rfl,v,e,rfl,C,I,i,g⟩ R;have O:kz (sP l) p=e.x.s.fill:=by
   unfold kz;obtain⟨rest,Q⟩:=a5;rw[<- HM.out,<- Q,iK,iK,lF];exact Vl _ _ _ _ C.pm I
  gi_wp2
  refine⟨aI,.inl ⟨_,_,rfl,run_takeDeferred R,?_⟩⟩;have P:=(nZ (w:=W) (o:=.deferred none) (show w.heap.size+1≠D by omega)).trans i;have oc:=yc P;refine⟨au e.x.s.fill,?_,by rw[O],g.trans (belowK_b (w:=w) az W D _ _ (by have:=M.size;omega) R rfl rfl)⟩;simp[results,results127,go_sem,oc]
theorem Rx (aB aS aZ c:Addr)(l:List P5)(o:Option Addr)(a:Nat)(p:Qt)(w:ai)(d:l.length<=1000)(h:kI w o l)(hP:lq w l)(f:∀x∈l,kE x.s)(hp:PI p)(b:jZ p=0)(hE:EP aB aS aZ c w):
  aL 127 #[aj o l.length a,rT p] w λe W=>e=ay (au (kz (sP l) p))/\aD w W:=dM.1 (Vp aB aS aZ c l o a p w d h hP f hp b hE)

import Derived.Test.YtbkjmamcnflncaaGreatDoorQt2
import Derived.Deep.CutRange
namespace Go.Proofs.YtbkjmamcnflncaaGreatDoor
open Go.Proofs.Tryz
set_option maxHeartbeats 4000000
variable{W:ai}
section
structure Qt where
 xn:Int
 xd:Int
 yn:Int
 yd:Int
deriving DecidableEq
def nX (a b:Qt):Int:=a.xn*b.xd-b.xn*a.xd
def nY (a b:Qt):Int:=a.yn*b.yd-b.yn*a.yd
def Gu (f t p:Qt):Int:=nX t f*nY p f*(p.xd*f.xd)*(t.yd*f.yd)-nX p f*nY t f*(t.xd*f.xd)*(p.yd*f.yd)
def fo (p f t:Qt):Int:=
 if 0<=nY p f/\¬0<=nY p t/\0<Gu f t p then 1 else if 0<=nY p t/\¬0<=nY p f/\Gu f t p<0 then -1 else 0
theorem Gv (p f t:Qt):fo p f t=1\/fo p f t= -1\/fo p f t=0:=by
 unfold fo;omega
structure Pos (a:Qt):Prop where
 x:1<=a.xd
 y:1<=a.yd
def pg:List Qt->List (Qt×Qt)
 |[]=>[]
 |a::l=>(a::l).zip (l++[a])
theorem Lc:∀l:List Qt,(pg l).length=l.length
 |[]=>rfl
 |a::l=>by unfold pg;simp
theorem YN {l:List Qt}{i:Nat}(hi:i<l.length):∃a b,l[i]? =some a/\l[(i+1) % l.length]? =some b/\(pg l)[i]? =some (a,b):=by
 cases l with
 |nil=>cases hi
 |cons a l=>
  have e:i<(a::l).length:=hi;have g:i<(l++[a]).length:=by grind
  refine⟨(a::l)[i],(l++[a])[i],fD e,?_,?_⟩
  .by_cases f:i+1=(a::l).length
   .rw[f,Nat.mod_self];grind
   .have d:i+1<(a::l).length:=aa;have c:i<l.length:=by grind
    rw[Nat.mod_eq_of_lt d,List.getElem?_cons_succ,fD c,List.getElem_append_left c]
  .unfold pg;grind
def iG (T:Qt->Qt->Int)(l:List (Qt×Qt)):Int:=(l.map λe=>T e.1 e.2).sum
theorem Qe (T:Qt->Qt->Int)(l m:List (Qt×Qt)):iG T (l++m)=iG T l+iG T m:=by unfold iG;rw[iK,List.sum_append]
def path (T:Qt->Qt->Int):List Qt->Int
 |[]=>0
 |[_]=>0
 |a::b::l=>T a b+path T (b::l)
def yM (T:Qt->Qt->Int)(l:List Qt):Int:=iG T (pg l)
theorem WZ (T:Qt->Qt->Int)(h:∀a b,T a b=1\/T a b= -1\/T a b=0):∀l:List (Qt×Qt),(iG T l-iG (λa b=>T a b*T a b) l) % 2=0/\iG T l<=iG (λa b=>T a b*T a b) l/\ - iG T l<=iG (λa b=>T a b*T a b) l/\0<=iG (λa b=>T a b*T a b) l/\iG (λa b=>T a b*T a b) l<=l.length/\ - (l.length:Int)<=iG T l/\iG T l<=l.length
 |[]=>by simp[iG]
 |e::l=>by
  obtain⟨f,g,i,j,k,m,n⟩:=WZ T h l;have c:iG T (e::l)=T e.1 e.2+iG T l:=by simp[iG]
  have d:iG (λa b=>T a b*T a b) (e::l)=T e.1 e.2*T e.1 e.2+iG (λa b=>T a b*T a b) l:=by simp[iG]
  rw[c,d,eZ];grind
end
section
open Go.RowKit
abbrev rT (a:Qt):ax:=.agg #[ag a.xn,ag a.xd,ag a.yn,ag a.yd]
structure PI (a:Qt):Prop where
 xn:kU a.xn
 xd:kU a.xd
 yn:kU a.yn
 yd:kU a.yd
def YO (n d:Int):Bool:=decide (20<d\/1000*d<n\/n< -1000*d)
def iW (a:Qt):Nat:=if fV a.xn a.xd≠0 then fV a.xn a.xd else fV a.yn a.yd
def nI (a:Qt):Nat:=if YO a.xn a.xd=true\/YO a.yn a.yd=true then 2 else 0
theorem uO (a:Qt):iW a=0\/iW a=2\/iW a=3:=by
 unfold iW;split
 .exact iD _ _
 .exact iD _ _
theorem qX (a:Qt):nI a=0\/nI a=2:=by
 unfold nI;split<;>simp
theorem jc {a:Qt}:iW a=0↔fV a.xn a.xd=0/\fV a.yn a.yd=0:=by
 unfold iW;grind
theorem Au {a:Qt}(h:iW a=0):Pos a:=⟨(gU.1 (jc.1 h).1).1,(gU.1 (jc.1 h).2).1⟩
theorem dz (W:ai)(o:Obj):aD W (W.alloc o):=(aW _ _).alloc az o
theorem aP {X Y:ai}(a:aD W X)(b:aD X Y):aD W Y:=a.trans (b.mono a.size)
theorem DX (n d:Int)(w:ai)(a:kU n)(c:1<=d):
  aL 311 #[.agg #[ag n,ag d]] w λe w'=>e=ay (.bool (YO n d))/\aD w w':=by
 obtain⟨f,g⟩:=a;by_cases b:20<d
 .have e:YO n d=true:=by unfold YO;simp;omega
  rw[e];go_enter func311,ntmps311;go_wp2;go_ret;exact⟨rfl,dz w _⟩
 .by_cases h:1000*d<n
  .have e:YO n d=true:=by unfold YO;simp;omega
   rw[e];go_enter func311,ntmps311;go_wp2;go_ret;exact⟨rfl,dz w _⟩
  .have e:YO n d=decide (n< -1000*d):=by unfold YO;simp only[decide_eq_decide];omega
   rw[e];go_enter func311,ntmps311;go_wp2;go_ret;exact⟨rfl,dz w _⟩
structure Four (w:ai)(b:Nat)(x y z u:ax):Prop where
 c0:w.cell? (aJ b 0)=some x
 c1:w.cell? (aJ b 1)=some y
 c2:w.cell? (aJ b 2)=some z
 c3:w.cell? (aJ b 3)=some u
theorem Four.below {w w':ai}{b B:Nat}{x y z u:ax}(h:Four w b x y z u)(a:Below B w w')(d:w.heap.size<=B):Four w' b x y z u:=by
 have c:b<B:=fK (aX h.c0) d;exact⟨(a.cell (p:=⟨b,0,none⟩) c).trans h.c0,(a.cell (p:=⟨b,1,none⟩) c).trans h.c1,(a.cell (p:=⟨b,2,none⟩) c).trans h.c2,(a.cell (p:=⟨b,3,none⟩) c).trans h.c3⟩
theorem Four.new (w:ai)(x y z u:ax)(t:TypeId):Four (w.alloc (ak #[x,y,z,u] t)) w.heap.size x y z u:=⟨aI,aI,aI,aI⟩
theorem sG (aB aS aZ:Addr)(a:Qt)(w:ai)(o:PI a)(hp:Pos a)(h:E3 aB aS aZ w):
  aL 251 #[rT a] w λe w'=>e=ay (er aB aS aZ (nI a))/\aD w w':=by
 have v:=h.b;have d:=λV=>DX a.xn a.xd V o.xn hp.x;have i:=λV=>DX a.yn a.yd V o.yn hp.y;have p:=Four.new w (ag a.xn) (ag a.xd) (ag a.yn) (ag a.yd) 233;have m:=dz w (ak #[ag a.xn,ag a.xd,ag a.yn,ag a.yd] 233);cases j:YO a.xn a.xd with
 |true=>
  have e:nI a=2:=by unfold nI;rw[aR (.inl j)]
  rw[e];rw[j] at d;go_enter func251,ntmps251;go_wp2_with(go_at_call 311;refine(d _).mono ?_;rintro e k ⟨rfl,b⟩;have c:=aP m b;have f:=(h.below c az).b);go_ret;exact⟨rfl,c⟩
 |false=>
  rw[j] at d;cases l:YO a.yn a.yd with
  |true=>
   have e:nI a=2:=by unfold nI;rw[aR (.inr l)]
   rw[e];rw[l] at i;go_enter func251,ntmps251;go_wp2_with(first|(go_at_call 311;refine(i k).mono ?_;rintro e q ⟨rfl,n⟩;have g:=aP c n;have f:=(h.below g az).b)|(go_at_call 311;refine(d _).mono ?_;rintro e k ⟨rfl,b⟩;have c:=aP m b;obtain⟨r,s,t,u⟩:=p.below b az));go_ret;exact⟨rfl,g⟩
  |false=>
   have e:nI a=0:=by unfold nI;rw[aG (by simp[j,l])]
   rw[e];rw[l] at i;go_enter func251,ntmps251;go_wp2_with(first|(go_at_call 311;refine(i k).mono ?_;rintro e q ⟨rfl,n⟩;have g:=aP c n;have f:=(h.below g az).b)|(go_at_call 311;refine(d _).mono ?_;rintro e k ⟨rfl,b⟩;have c:=aP m b;obtain⟨r,s,t,u⟩:=p.below b az));go_ret;exact⟨rfl,g⟩
theorem wP (aB aS aZ:Addr)(a:Qt)(w:ai)(c:PI a)(h:E3 aB aS aZ w):
  aL 250 #[rT a] w λe w'=>e=ay (er aB aS aZ (iW a))/\aD w w':=by
 have m:=Four.new w (ag a.xn) (ag a.xd) (ag a.yn) (ag a.yd) 233;have d:=dz w (ak #[ag a.xn,ag a.xd,ag a.yn,ag a.yd] 233);have f:=λV (j:aD w V)=>kZ aB aS aZ a.xn a.xd V c.xn c.xd (h.below j az);have n:=λV (j:aD w V)=>kZ aB aS aZ a.yn a.yd V c.yn c.yd (h.below j az);by_cases b:fV a.xn a.xd=0
 .have e:iW a=fV a.yn a.yd:=by unfold iW;rw[aG (by simp[b])]
  rw[e];rw[b] at f;clear b;go_enter func250,ntmps250;go_wp2_with(first|(go_at_call 185;refine(n k g).mono ?_;rintro e q ⟨rfl,o⟩;have p:=aP g o)|(go_at_call 185;refine(f _ d).mono ?_;rintro e k ⟨rfl,i⟩;simp only[wF];have g:=aP d i;obtain⟨r,s,t,u⟩:=m.below i az));go_ret;exact⟨rfl,p⟩
 .have e:iW a=fV a.xn a.xd:=by unfold iW;rw[aR b]
  rw[e];obtain⟨v,l⟩:=jy aB aS aZ (show fV a.xn a.xd=2\/fV a.xn a.xd=3 by have:=iD a.xn a.xd;omega);rw[l] at f⊢;clear b l e;go_enter func250,ntmps250;go_wp2_with(go_at_call 185;refine(f _ d).mono ?_;rintro e k ⟨rfl,i⟩;have g:=aP d i);go_ret;exact⟨rfl,g⟩
def jZ (a:Qt):Nat:=if iW a≠0 then iW a else nI a
theorem Uj (a:Qt):jZ a=0\/jZ a=2\/jZ a=3:=by
 unfold jZ;split
 .exact uO a
 .have:=qX a;omega
theorem jC {a:Qt}:jZ a=0↔iW a=0/\nI a=0:=by
 unfold jZ;grind
theorem Gw (aB aS aZ:Addr)(a:Qt)(w:ai)(j:PI a)(h:E3 aB aS aZ w):
  aL 312 #[rT a] w λe w'=>e=ay (er aB aS aZ (jZ a))/\aD w w':=by
 have m:=Four.new w (ag a.xn) (ag a.xd) (ag a.yn) (ag a.yd) 233;have c:=dz w (ak #[ag a.xn,ag a.xd,ag a.yn,ag a.yd] 233);have d:=λV (i:aD w V)=>wP aB aS aZ a V j (h.below i az);by_cases b:iW a=0
 .have e:jZ a=nI a:=by unfold jZ;rw[aG (by simp[b])]
  have n:=λV (i:aD w V)=>sG aB aS aZ a V j (Au b) (h.below i az);rw[e];rw[b] at d;clear b;go_enter func312,ntmps312;go_wp2_with(first|(go_at_call 251;refine(n k f).mono ?_;rintro e q ⟨rfl,o⟩;have p:=aP f o)|(go_at_call 250;refine(d _ c).mono ?_;rintro e k ⟨rfl,g⟩;simp only[wF];have f:=aP c g;obtain⟨r,s,t,u⟩:=m.below g az));go_ret;exact⟨rfl,p⟩
 .have e:jZ a=iW a:=by unfold jZ;rw[aR b]
  rw[e];obtain⟨v,l⟩:=jy aB aS aZ (show iW a=2\/iW a=3 by have:=uO a;omega);rw[l] at d⊢;clear b l e;go_enter func312,ntmps312;go_wp2_with(go_at_call 250;refine(d _ c).mono ?_;rintro e k ⟨rfl,g⟩;have f:=aP c g);go_ret;exact⟨rfl,f⟩
def zw (an ad bn bd:Int)(w:ai):ai:=((w.alloc (ak #[ag an,ag ad] 163)).alloc (ak #[ag bn,ag bd] 163)).alloc (ak #[ag (an*bd-bn*ad),ag (ad*bd)] 435)
theorem MW (an ad bn bd:Int)(w:ai):aD w (zw an ad bn bd w):=(((aW _ _).alloc az _).alloc aI _).alloc bq _
theorem YP (an ad bn bd:Int)(w:ai)(a:kU (an*bd))(b:kU (bn*ad))(c:kU (an*bd-bn*ad))(d:kU (ad*bd)):
  aL 347 #[.agg #[ag an,ag ad],.agg #[ag bn,ag bd]] w λe w'=>e=ay (.agg #[ag (an*bd-bn*ad),ag (ad*bd)])/\w'=zw an ad bn bd w:=by
 obtain⟨f,g⟩:=a;obtain⟨h,i⟩:=b;obtain⟨j,k⟩:=c;obtain⟨l,m⟩:=d;go_enter func347,ntmps347;go_wp2;exact bg (v:=.agg #[ag (an*bd-bn*ad),ag (ad*bd)]) (by simp[results,results347,go_sem]) rfl ⟨rfl,rfl⟩
structure PB (a:Qt):Prop where
 x1:1<=a.xd
 x2:a.xd<=20
 x3: -20000<=a.xn
 x4:a.xn<=20000
 y1:1<=a.yd
 y2:a.yd<=20
 y3: -20000<=a.yn
 y4:a.yn<=20000
theorem PB.of {a:Qt}(h:jZ a=0):PB a:=by
 obtain⟨c,b⟩:=jC.1 h;obtain⟨d,e⟩:=Au c;unfold nI YO at b;split at b
 .cases b
 .rename_i f;simp at f;exact⟨d,aa,aa,aa,e,aa,aa,aa⟩
theorem xM {a b A B:Int}(e: -A<=a)(f:a<=A)(g: -B<=b)(h:b<=B): -(A*B)<=a*b/\a*b<=A*B:=by
 have c:0<=A:=aa;have d:0<=B:=aa;have i:(a*b).natAbs<=(A*B).natAbs:=by
  rw[Int.natAbs_mul,Int.natAbs_mul];exact Nat.mul_le_mul aa aa
 have j:0<=A*B:=Int.mul_nonneg c d;omega
theorem Qf {an ad bn bd:Int}(a1:1<=ad)(a2:ad<=20)(a3: -20000<=an)(d:an<=20000)(g:1<=bd)(c:bd<=20)(e: -20000<=bn)(f:bn<=20000):
  (-400000<=an*bd/\an*bd<=400000)/\(-400000<=bn*ad/\bn*ad<=400000)/\(-800000<=an*bd-bn*ad/\an*bd-bn*ad<=800000)/\(1<=ad*bd/\ad*bd<=400):=by
 have h:=xM (a:=an) (b:=bd) (A:=20000) (B:=20) a3 d aa c;have i:=xM (a:=bn) (b:=ad) (A:=20000) (B:=20) e f aa a2;have j:=xM (a:=ad) (b:=bd) (A:=20) (B:=20) aa a2 aa c;have k:0<ad*bd:=Int.mul_pos aa aa;omega
theorem Av {an ad bn bd:Int}(w:ai)(a1:1<=ad)(a2:ad<=20)(a3: -20000<=an)(a:an<=20000)(b:1<=bd)(c:bd<=20)(d: -20000<=bn)(f:bn<=20000):
  aL 347 #[.agg #[ag an,ag ad],.agg #[ag bn,ag bd]] w λe w'=>e=ay (.agg #[ag (an*bd-bn*ad),ag (ad*bd)])/\w'=zw an ad bn bd w:=by
 obtain⟨g,h,i,j⟩:=Qf a1 a2 a3 a b c d f;exact YP an ad bn bd w ⟨aa,aa⟩ ⟨aa,aa⟩ ⟨aa,aa⟩ ⟨aa,aa⟩
theorem a2b {w y c d:Int}(e: -800000<=w/\w<=800000)(f: -800000<=y/\y<=800000)(g:1<=c/\c<=400)(h:1<=d/\d<=400):
  (-640000000000<=w*y/\w*y<=640000000000)/\(-256000000000000<=w*y*c/\w*y*c<=256000000000000)/\(-102400000000000000<=w*y*c*d/\w*y*c*d<=102400000000000000):=by
 have i:=xM (a:=w) (b:=y) (A:=800000) (B:=800000) e.1 e.2 f.1 f.2;have j:=xM (a:=w*y) (b:=c) (A:=640000000000) (B:=400) aa aa aa aa;have k:=xM (a:=w*y*c) (b:=d) (A:=256000000000000) (B:=400) aa aa aa aa;omega
theorem Four.al {w:ai}{b:Nat}{x y z u:ax}(h:Four w b x y z u)(o:Obj):Four (w.alloc o) b x y z u:=h.below (dz w o) az
theorem a9R (w:ai)(b c d e f g i j k l m n:ax)(t o a:TypeId):
  Four (((w.alloc (ak #[b,c,d,e] t)).alloc (ak #[f,g,i,j] o)).alloc (ak #[k,l,m,n] a)) w.heap.size b c d e/\
  Four (((w.alloc (ak #[b,c,d,e] t)).alloc (ak #[f,g,i,j] o)).alloc (ak #[k,l,m,n] a)) (w.heap.size+1) f g i j/\
  Four (((w.alloc (ak #[b,c,d,e] t)).alloc (ak #[f,g,i,j] o)).alloc (ak #[k,l,m,n] a)) (w.heap.size+1+1) k l m n:=by
 refine⟨((Four.new w b c d e t).al _).al _,?_,?_⟩
 .have h:=(Four.new (w.alloc (ak #[b,c,d,e] t)) f g i j o).al (ak #[k,l,m,n] a);simpa using h
 .have h:=Four.new ((w.alloc (ak #[b,c,d,e] t)).alloc (ak #[f,g,i,j] o)) k l m n a;simpa using h
structure Gap (U w:ai)(X Y:Nat)(x0 x1 y0 y1:ax):Prop where
 b:aD U w
 x:w.cell? (aJ X 0)=some x0/\w.cell? (aJ X 1)=some x1
 y:w.cell? (aJ Y 0)=some y0/\w.cell? (aJ Y 1)=some y1
theorem a2c (f t p:Qt)(w:ai)(a:PB f)(b:PB t)(hp:PB p):
  aL 348 #[rT f,rT t,rT p] w λe w'=>e=ay (ag (Gu f t p))/\aD w w':=by
 have I:=λV=>Av (an:=t.xn) (ad:=t.xd) (bn:=f.xn) (bd:=f.xd) V b.x1 b.x2 b.x3 b.x4 a.x1 a.x2 a.x3 a.x4;have J:=λV=>Av (an:=t.yn) (ad:=t.yd) (bn:=f.yn) (bd:=f.yd) V b.y1 b.y2 b.y3 b.y4 a.y1 a.y2 a.y3 a.y4;have K:=λV=>Av (an:=p.xn) (ad:=p.xd) (bn:=f.xn) (bd:=f.xd) V hp.x1 hp.x2 hp.x3 hp.x4 a.x1 a.x2 a.x3 a.x4;have L:=λV=>Av (an:=p.yn) (ad:=p.yd) (bn:=f.yn) (bd:=f.yd) V hp.y1 hp.y2 hp.y3 hp.y4 a.y1 a.y2 a.y3 a.y4;obtain⟨S,hS⟩:∃S,Gu f t p=S:=⟨_,rfl⟩;rw[hS];have HS:=aF hS;clear hS;go_enter func348,ntmps348;go_upto_region 1 with fail;obtain⟨U,s⟩:∃U,((w.alloc (ak #[ag f.xn,ag f.xd,ag f.yn,ag f.yd] 233)).alloc (ak #[ag t.xn,ag t.xd,ag t.yn,ag t.yd] 233)).alloc (ak #[ag p.xn,ag p.xd,ag p.yn,ag p.yd] 233)=U:=⟨_,rfl⟩;have a5:w.heap.size+1+1<U.heap.size:=by rw[<- s];simp
 have M:aD w U:=by rw[<- s];exact(((aW _ _).alloc az _).alloc aI _).alloc bq _
 obtain⟨N,O,P⟩:Four U (w.heap.size) (ag f.xn) (ag f.xd) (ag f.yn) (ag f.yd)/\Four U (w.heap.size+1) (ag t.xn) (ag t.xd) (ag t.yn) (ag t.yd)/\Four U (w.heap.size+1+1) (ag p.xn) (ag p.xd) (ag p.yn) (ag p.yd):=by rw[<- s];exact a9R w _ _ _ _ _ _ _ _ _ _ _ _ _ _ _
 rw[s];clear s;have h:∀V,aD U V->(λw':ai=>w'.cell? ⟨w.heap.size,0,none⟩=some (ag f.xn)/\w'.cell? ⟨w.heap.size,1,none⟩=some (ag f.xd)/\w'.cell? ⟨w.heap.size,2,none⟩=some (ag f.yn)/\w'.cell? ⟨w.heap.size,3,none⟩=some (ag f.yd)/\w'.cell? ⟨w.heap.size+1,0,none⟩=some (ag t.xn)/\w'.cell? ⟨w.heap.size+1,1,none⟩=some (ag t.xd)/\w'.cell? ⟨w.heap.size+1,2,none⟩=some (ag t.yn)/\w'.cell? ⟨w.heap.size+1,3,none⟩=some (ag t.yd)/\w'.cell? ⟨w.heap.size+1+1,0,none⟩=some (ag p.xn)/\w'.cell? ⟨w.heap.size+1+1,1,none⟩=some (ag p.xd)/\w'.cell? ⟨w.heap.size+1+1,2,none⟩=some (ag p.yn)/\w'.cell? ⟨w.heap.size+1+1,3,none⟩=some (ag p.yd)) V:=λV y=>by
  obtain⟨a0,Q,R,T⟩:=N.below y az;obtain⟨b0,b1,b2,b3⟩:=O.below y az;obtain⟨c0,c1,c2,c3⟩:=P.below y az;exact⟨a0,Q,R,T,b0,b1,b2,b3,c0,c1,c2,c3⟩
 obtain⟨W,s1,s2,s3⟩:=N;obtain⟨s4,s5,s6,s7⟩:=O;obtain⟨s8,s9,u,v⟩:=P
 go_cut [7,8] from 11 to 20 (λp q z=>∃X Y,p=aK X/\q=aK Y/\Gap U z X Y (ag (nX t f)) (ag (t.xd*f.xd)) (ag (nY t f)) (ag (t.yd*f.yd)))
 case first=>
  go_region_held3 (λw'=>w'.cell? ⟨w.heap.size,0,none⟩=some (ag f.xn)/\w'.cell? ⟨w.heap.size,1,none⟩=some (ag f.xd)/\w'.cell? ⟨w.heap.size,2,none⟩=some (ag f.yn)/\w'.cell? ⟨w.heap.size,3,none⟩=some (ag f.yd)/\w'.cell? ⟨w.heap.size+1,0,none⟩=some (ag t.xn)/\w'.cell? ⟨w.heap.size+1,1,none⟩=some (ag t.xd)/\w'.cell? ⟨w.heap.size+1,2,none⟩=some (ag t.yn)/\w'.cell? ⟨w.heap.size+1,3,none⟩=some (ag t.yd)/\w'.cell? ⟨w.heap.size+1+1,0,none⟩=some (ag p.xn)/\w'.cell? ⟨w.heap.size+1+1,1,none⟩=some (ag p.xd)/\w'.cell? ⟨w.heap.size+1+1,2,none⟩=some (ag p.yn)/\w'.cell? ⟨w.heap.size+1+1,3,none⟩=some (ag p.yd)) ((refine h _ ?_;repeat(first|exact aW _ _|refine Below.drew ?_|refine Below.alloc ?_ (by first|omega|(simp;done)|(simp;omega)) _|refine Below.setCell ?_ (by first|omega|(simp;done)|(simp;omega)) _))) (first|(go_at_call_of 347 t.xn;refine(I _).mono ?_;rintro e w1 ⟨rfl,rfl⟩;unfold zw)|(go_at_call_of 347 t.yn;refine(J _).mono ?_;rintro e w2 ⟨rfl,rfl⟩;unfold zw))
  all_goals(go_wp2_with fail;go_meet;exact⟨_,_,rfl,rfl,⟨by repeat(first|exact aW _ _|refine Below.drew ?_|refine Below.alloc ?_ (by first|omega|(simp;done)|(simp;omega)) _),⟨by simp[go_sem];rfl,by simp[go_sem]⟩,⟨by simp[go_sem];rfl,by simp[go_sem]⟩⟩⟩)
 case rest=>
  obtain⟨X,Y,rfl,rfl,x,⟨A,B⟩,⟨C,D⟩⟩:=hcut;obtain⟨V,rfl⟩:∃V,V=wc:=⟨_,rfl⟩;have Oq:=x.size;obtain⟨W,s1,s2,s3,s4,s5,s6,s7,s8,s9,u,v⟩:=h V x;go_upto_region 2 with fail
  go_cut [9,10] from 21 to 30 (λp' q' z=>∃E F,p'=aK E/\q'=aK F/\Gap V z E F (ag (nX p f)) (ag (p.xd*f.xd)) (ag (nY p f)) (ag (p.yd*f.yd)))
  case first=>
   go_region_held3 (λw'=>w'.cell? ⟨w.heap.size,0,none⟩=some (ag f.xn)/\w'.cell? ⟨w.heap.size,1,none⟩=some (ag f.xd)/\w'.cell? ⟨w.heap.size,2,none⟩=some (ag f.yn)/\w'.cell? ⟨w.heap.size,3,none⟩=some (ag f.yd)/\w'.cell? ⟨w.heap.size+1,0,none⟩=some (ag t.xn)/\w'.cell? ⟨w.heap.size+1,1,none⟩=some (ag t.xd)/\w'.cell? ⟨w.heap.size+1,2,none⟩=some (ag t.yn)/\w'.cell? ⟨w.heap.size+1,3,none⟩=some (ag t.yd)/\w'.cell? ⟨w.heap.size+1+1,0,none⟩=some (ag p.xn)/\w'.cell? ⟨w.heap.size+1+1,1,none⟩=some (ag p.xd)/\w'.cell? ⟨w.heap.size+1+1,2,none⟩=some (ag p.yn)/\w'.cell? ⟨w.heap.size+1+1,3,none⟩=some (ag p.yd)) ((refine h _ ?_;repeat(first|exact x|refine Below.drew ?_|refine Below.alloc ?_ (by first|omega|(simp;done)|(simp;omega)) _|refine Below.setCell ?_ (by first|omega|(simp;done)|(simp;omega)) _))) (first|(go_at_call_of 347 p.xn;refine(K _).mono ?_;rintro e w1 ⟨rfl,rfl⟩;unfold zw)|(go_at_call_of 347 p.yn;refine(L _).mono ?_;rintro e w2 ⟨rfl,rfl⟩;unfold zw))
   all_goals(go_wp2_with fail;go_meet;exact⟨_,_,rfl,rfl,⟨by repeat(first|exact aW _ _|refine Below.drew ?_|refine Below.alloc ?_ (by first|omega|(simp;done)|(simp;omega)) _),⟨by simp[go_sem];rfl,by simp[go_sem]⟩,⟨by simp[go_sem];rfl,by simp[go_sem]⟩⟩⟩)
  case rest=>
   obtain⟨E,F,rfl,rfl,c,⟨i,j⟩,⟨k,l⟩⟩:=hcut;obtain⟨Z,rfl⟩:∃Z,Z=wc:=⟨_,rfl⟩;have m:=(c.cell (aX A)).trans A;have n:=(c.cell (aX B)).trans B;have o:=(c.cell (aX C)).trans C;have r:=(c.cell (aX D)).trans D;have H:=M.trans ((x.trans (c.mono Oq)).mono M.size);obtain⟨-, -,B1,D1⟩:=Qf (an:=t.xn) (ad:=t.xd) (bn:=f.xn) (bd:=f.xd) b.x1 b.x2 b.x3 b.x4 a.x1 a.x2 a.x3 a.x4;obtain⟨-, -,B2,D2⟩:=Qf (an:=t.yn) (ad:=t.yd) (bn:=f.yn) (bd:=f.yd) b.y1 b.y2 b.y3 b.y4 a.y1 a.y2 a.y3 a.y4;obtain⟨-, -,B3,D3⟩:=Qf (an:=p.xn) (ad:=p.xd) (bn:=f.xn) (bd:=f.xd) hp.x1 hp.x2 hp.x3 hp.x4 a.x1 a.x2 a.x3 a.x4;obtain⟨-, -,B4,D4⟩:=Qf (an:=p.yn) (ad:=p.yd) (bn:=f.yn) (bd:=f.yd) hp.y1 hp.y2 hp.y3 hp.y4 a.y1 a.y2 a.y3 a.y4;have d:=a2b B1 B4 D3 D2;have g:=a2b B3 B2 D1 D4;have hS:=HS.out;unfold Gu at hS;have e1:t.xn*f.xd-f.xn*t.xd=nX t f:=rfl;have e2:t.yn*f.yd-f.yn*t.yd=nY t f:=rfl;have e3:p.xn*f.xd-f.xn*p.xd=nX p f:=rfl;have e4:p.yn*f.yd-f.yn*p.yd=nY p f:=rfl;rw[e1,e4] at d;rw[e3,e2] at g;clear e1 e2 e3 e4 B1 B2 B3 B4 D1 D2 D3 D4 I J K L h W s1 s2 s3 s4 s5 s6 s7 s8 s9 u v A B C D a b hp;generalize nX t f=Q at hS m n o r i j k l d g;generalize nY t f=R at hS m n o r i j k l d g;generalize nX p f=T at hS m n o r i j k l d g;generalize nY p f=a4 at hS m n o r i j k l d g;generalize t.xd*f.xd=d1 at hS m n o r i j k l d g;generalize t.yd*f.yd=d2 at hS m n o r i j k l d g;generalize p.xd*f.xd=d3 at hS m n o r i j k l d g;generalize p.yd*f.yd=d4 at hS m n o r i j k l d g;obtain⟨⟨p1,p2⟩,⟨p3,p4⟩,⟨p5,p6⟩⟩:=d;obtain⟨⟨q1,q2⟩,⟨q3,q4⟩,⟨q5,q6⟩⟩:=g;go_wp2;go_ret;exact⟨rfl,H⟩
set_option maxRecDepth 20000
theorem TC {X Y:ai}(a:aD W X)(b:aD X Y):aD W Y:=a.trans (b.mono a.size)
structure Tri (U:ai)(A B C:Nat)(a0 a1 a2 a3 b0 b1 b2 b3 c0 c1 c2 c3:ax):Prop where
 a:Four U A a0 a1 a2 a3
 b:Four U B b0 b1 b2 b3
 c:Four U C c0 c1 c2 c3
theorem Tri.below {U V:ai}{A B C n:Nat}{a0 a1 a2 a3 c d e f g i j k:ax}(h:Tri U A B C a0 a1 a2 a3 c d e f g i j k)(a:Below n U V)(b:U.heap.size<=n):Tri V A B C a0 a1 a2 a3 c d e f g i j k:=⟨h.a.below a b,h.b.below a b,h.c.below a b⟩
theorem Ld {an ad bn bd:Int}(w:ai)(a1:1<=ad)(a2:ad<=20)(a3: -20000<=an)(a:an<=20000)(b:1<=bd)(c:bd<=20)(d: -20000<=bn)(f:bn<=20000):
  aL 347 #[.agg #[ag an,ag ad],.agg #[ag bn,ag bd]] w λe w'=>e=ay (.agg #[ag (an*bd-bn*ad),ag (ad*bd)])/\aD w w':=
 (Av w a1 a2 a3 a b c d f).mono λ_ _ h=>⟨h.1,by rw[h.2];exact MW _ _ _ _ _⟩
theorem afq (x y:Int)(w:ai):(Instr.field 435 (.agg #[ag x,ag y]) 0).run prog w=.ok (ag x) w:=aA
theorem YQ (f t p:Qt)(w:ai)(y:PB f)(z:PB t)(hp:PB p):
  aL 314 #[rT f,rT t,rT p] w λe w'=>e=ay (ag (fo p f t))/\aD w w':=by
 have r:=λV=>Ld (an:=p.yn) (ad:=p.yd) (bn:=f.yn) (bd:=f.yd) V hp.y1 hp.y2 hp.y3 hp.y4 y.y1 y.y2 y.y3 y.y4;have s:=λV=>Ld (an:=p.yn) (ad:=p.yd) (bn:=t.yn) (bd:=t.yd) V hp.y1 hp.y2 hp.y3 hp.y4 z.y1 z.y2 z.y3 z.y4;have SD:=λV=>a2c f t p V y z hp;have e1:p.yn*f.yd-f.yn*p.yd=nY p f:=rfl;have e2:p.yn*t.yd-t.yn*p.yd=nY p t:=rfl;simp only[e1] at r;simp only[e2] at s;clear e1 e2;obtain⟨tv,u⟩:∃v,fo p f t=v:=⟨_,rfl⟩;rw[u];have A:=aF u;clear u;clear y z hp;have a4:=λV=>afq (nY p f) (p.yd*f.yd) V;have a5:=λV=>afq (nY p t) (p.yd*t.yd) V;go_enter func314,ntmps314;go_upto_region 1 with fail;obtain⟨U,hU⟩:∃U,((w.alloc (ak #[ag f.xn,ag f.xd,ag f.yn,ag f.yd] 233)).alloc (ak #[ag t.xn,ag t.xd,ag t.yn,ag t.yd] 233)).alloc (ak #[ag p.xn,ag p.xd,ag p.yn,ag p.yd] 233)=U:=⟨_,rfl⟩;have B:aD w U:=by rw[<- hU];exact(((aW _ _).alloc az _).alloc aI _).alloc bq _
 obtain⟨FA,FB,FC⟩:Four U (w.heap.size) (ag f.xn) (ag f.xd) (ag f.yn) (ag f.yd)/\Four U (w.heap.size+1) (ag t.xn) (ag t.xd) (ag t.yn) (ag t.yd)/\Four U (w.heap.size+1+1) (ag p.xn) (ag p.xd) (ag p.yn) (ag p.yd):=by rw[<- hU];exact a9R w _ _ _ _ _ _ _ _ _ _ _ _ _ _ _
 rw[hU];clear hU;have C:=Tri.mk FA FB FC;obtain⟨s0,s1,s2,s3⟩:=FA;obtain⟨s4,s5,s6,s7⟩:=FB;obtain⟨s8,s9,a6,a7⟩:=FC;by_cases D:0<=nY p f
 .by_cases E:0<=nY p t
  .have d:Hid (fo p f t=0):=(by unfold fo;rw[aG (λh=>h.2.1 E),aG (λh=>h.2.1 D)]:fo p f t=_);go_wp2_with(first|(go_at_call_of 347 p.yn;refine(s g).mono ?_;rintro e q ⟨rfl,a⟩;have i:=b.below a az;have j:=i;obtain⟨⟨F,H,I,J⟩,⟨K,L,M,N⟩,⟨O,P,k,l⟩⟩:=j)|(go_at_call_of 347 p.yn;refine(r _).mono ?_;rintro e g ⟨rfl,c⟩;have b:=C.below c az;have m:=b;obtain⟨⟨Q,R,S,T⟩,⟨W,X,Y,Z⟩,⟨x8,x9,n,o⟩⟩:=m));go_ret;exact⟨pR (d.out.symm.trans A.out),TC B (TC c a)⟩
  .have k2:(!decide (0<=nY p t))=true:=bq;by_cases h3:0<Gu f t p
   .have d:Hid (fo p f t=1):=(by unfold fo;rw[aR ⟨D,E,h3⟩]:fo p f t=_);go_wp2_with(first|(go_at_call 348;refine(SD q).mono ?_;rintro e w3 ⟨rfl,x⟩)|(go_at_call_of 347 p.yn;refine(s g).mono ?_;rintro e q ⟨rfl,a⟩;have i:=b.below a az;have j:=i;obtain⟨⟨F,H,I,J⟩,⟨K,L,M,N⟩,⟨O,P,k,l⟩⟩:=j)|(go_at_call_of 347 p.yn;refine(r _).mono ?_;rintro e g ⟨rfl,c⟩;have b:=C.below c az;have m:=b;obtain⟨⟨Q,R,S,T⟩,⟨W,X,Y,Z⟩,⟨x8,x9,n,o⟩⟩:=m));go_ret;exact⟨pR (d.out.symm.trans A.out),TC B (TC (TC c a) x)⟩
   .have d:Hid (fo p f t=0):=(by unfold fo;rw[aG (λh=>h3 h.2.2),aG (λh=>E h.1)]:fo p f t=_);go_wp2_with(first|(go_at_call 348;refine(SD q).mono ?_;rintro e w3 ⟨rfl,x⟩)|(go_at_call_of 347 p.yn;refine(s g).mono ?_;rintro e q ⟨rfl,a⟩;have i:=b.below a az;have j:=i;obtain⟨⟨F,H,I,J⟩,⟨K,L,M,N⟩,⟨O,P,k,l⟩⟩:=j)|(go_at_call_of 347 p.yn;refine(r _).mono ?_;rintro e g ⟨rfl,c⟩;have b:=C.below c az;have m:=b;obtain⟨⟨Q,R,S,T⟩,⟨W,X,Y,Z⟩,⟨x8,x9,n,o⟩⟩:=m));go_ret;exact⟨pR (d.out.symm.trans A.out),TC B (TC (TC c a) x)⟩
 .by_cases E:0<=nY p t
  .by_cases h3:Gu f t p<0
   .have d:Hid (fo p f t= -1):=(by unfold fo;rw[aG (λh=>D h.1),aR ⟨E,D,h3⟩]:fo p f t=_);go_wp2_with(first|(go_at_call 348;refine(SD q).mono ?_;rintro e w3 ⟨rfl,x⟩)|(go_at_call_of 347 p.yn;refine(s g).mono ?_;rintro e q ⟨rfl,a⟩;have i:=b.below a az;have j:=i;obtain⟨⟨F,H,I,J⟩,⟨K,L,M,N⟩,⟨O,P,k,l⟩⟩:=j)|(go_at_call_of 347 p.yn;refine(r _).mono ?_;rintro e g ⟨rfl,c⟩;have b:=C.below c az;have m:=b;obtain⟨⟨Q,R,S,T⟩,⟨W,X,Y,Z⟩,⟨x8,x9,n,o⟩⟩:=m));go_ret;exact⟨pR (d.out.symm.trans A.out),TC B (TC (TC c a) x)⟩
   .have d:Hid (fo p f t=0):=(by unfold fo;rw[aG (λh=>D h.1),aG (λh=>h3 h.2.2)]:fo p f t=_);go_wp2_with(first|(go_at_call 348;refine(SD q).mono ?_;rintro e w3 ⟨rfl,x⟩)|(go_at_call_of 347 p.yn;refine(s g).mono ?_;rintro e q ⟨rfl,a⟩;have i:=b.below a az;have j:=i;obtain⟨⟨F,H,I,J⟩,⟨K,L,M,N⟩,⟨O,P,k,l⟩⟩:=j)|(go_at_call_of 347 p.yn;refine(r _).mono ?_;rintro e g ⟨rfl,c⟩;have b:=C.below c az;have m:=b;obtain⟨⟨Q,R,S,T⟩,⟨W,X,Y,Z⟩,⟨x8,x9,n,o⟩⟩:=m));go_ret;exact⟨pR (d.out.symm.trans A.out),TC B (TC (TC c a) x)⟩
  .have d:Hid (fo p f t=0):=(by unfold fo;rw[aG (λh=>D h.1),aG (λh=>E h.1)]:fo p f t=_);go_wp2_with(first|(go_at_call_of 347 p.yn;refine(s g).mono ?_;rintro e q ⟨rfl,a⟩;have i:=b.below a az;have j:=i;obtain⟨⟨F,H,I,J⟩,⟨K,L,M,N⟩,⟨O,P,k,l⟩⟩:=j)|(go_at_call_of 347 p.yn;refine(r _).mono ?_;rintro e g ⟨rfl,c⟩;have b:=C.below c az;have m:=b;obtain⟨⟨Q,R,S,T⟩,⟨W,X,Y,Z⟩,⟨x8,x9,n,o⟩⟩:=m));go_ret;exact⟨pR (d.out.symm.trans A.out),TC B (TC c a)⟩
structure PtC (w:ai)(b i:Nat)(a:Qt):Prop where
 c0:w.cell? (aJ b i)=some (ag a.xn)
 c1:w.cell? (aJ b (i+1))=some (ag a.xd)
 c2:w.cell? (aJ b (i+2))=some (ag a.yn)
 c3:w.cell? (aJ b (i+3))=some (ag a.yd)
 pi:PI a
theorem PtC.below {w w':ai}{b i n:Nat}{a:Qt}(h:PtC w b i a)(c:Below n w w')(e:w.heap.size<=n):PtC w' b i a:=by
 have d:b<n:=fK (aX h.c0) e;exact⟨(c.cell (p:=⟨b,i,none⟩) d).trans h.c0,(c.cell (p:=⟨b,i+1,none⟩) d).trans h.c1,(c.cell (p:=⟨b,i+2,none⟩) d).trans h.c2,(c.cell (p:=⟨b,i+3,none⟩) d).trans h.c3,h.pi⟩
def iH (w:ai)(o:Option Addr)(l:List Qt):Prop:=∀i a,l[i]? =some a->∃b c,o=some ⟨b,c,none⟩/\PtC w b (c+i*4) a
theorem iH.below {w w':ai}{o:Option Addr}{l:List Qt}{n:Nat}(h:iH w o l)(d:Below n w w')(e:w.heap.size<=n):iH w' o l:=λi a f=>by
 obtain⟨b,c,g,j⟩:=h i a f;exact⟨b,c,g,j.below d e⟩
def wQ (aB aS aZ:Addr)(a:Qt->Nat)(w:ai)(l:List Qt)(e:Ending)(W:ai):Prop:=
 ((∀y∈l,a y=0)/\e=ay aY)\/
 (∃q x r b,l=q++x::r/\(∀y∈q,a y=0)/\a x≠0/\w.heap.size<=b/\e=ay (aU 67 (aK b))/\W.cell? (aJ b 0)=some (ag q.length)/\W.cell? (aJ b 1)=some (er aB aS aZ (a x)))
theorem Qg {b:Qt->Nat}{l:List Qt}{k:Nat}{a:Qt}(h:∀y∈l.take k,b y=0)(c:l[k]? =some a)(e:b a=0):∀y∈l.take (k+1),b y=0:=λy d=>by
 rw[eX,c] at d;grind
theorem Qh {l:List Qt}{k:Nat}{a:Qt}(b:l[k]? =some a):l=l.take k++a::l.drop (k+1)/\(l.take k).length=k:=by
 obtain⟨c,e⟩:=lK.1 b;refine⟨?_,by rw[iR];omega⟩;rw[<- e,List.getElem_cons_drop,jS]
theorem Uk (aB aS aZ:Addr)(l:List Qt)(o:Option Addr)(m:Nat)(w:ai)(H:l.length<=1000)(h:iH w o l)(hE:E3 aB aS aZ w):
  aL 249 #[aj o l.length m,.func (.func 250) #[] #[]] w λe W=>wQ aB aS aZ iW w l e W/\aD w W:=by
 go_enter func249,ntmps249;go_wp2
 go_loopw [10] (λy wr=>∃k:Nat,k<=l.length/\y=ag k/\(∀y∈l.take k,iW y=0)/\aD w wr) (λy _=>l.length-(intOf y).toNat)
 case atStart=>exact⟨0,bA _,rfl,aI,aW _ _⟩
 case round=>
  obtain⟨k,I,rfl,c,i⟩:=hrel;have n:=aF c;clear c;by_cases p:k<l.length
  .have v:(k:Int)<(l.length:Int):=aa;obtain⟨a,q⟩:∃a,l[k]? =some a:=⟨_,fD p⟩;obtain⟨b,A,B,C⟩:=h k a q;subst B;obtain⟨J,K,L,M,r⟩:=C.below i az;have x:=aF q;have d:=i.alloc i.size (ak #[ag a.xn,ag a.xd,ag a.yn,ag a.yd] 233);have j:=wP aB aS aZ a _ r (hE.below d az);clear q;by_cases g:iW a=0
   .rw[g] at j;have s:=aF g;clear g;go_wp2_with(go_at_call 250;refine j.mono ?_;rintro e z ⟨rfl,t⟩;simp only[wF])
    go_roundw
    case rel=>exact⟨k+1,aa,by go_num,Qg n.out x.out s.out,d.trans (t.mono (by have:=d.size;omega))⟩
    case measure=>simp[intOf];omega
   .obtain⟨N,u⟩:=jy aB aS aZ (show iW a=2\/iW a=3 by have:=uO a;omega);have s:=aF g;have D:=aF u;rw[u] at j;clear g u;go_wp2_with(go_at_call 250;refine j.mono ?_;rintro e z ⟨rfl,t⟩);have f:=d.trans (t.mono (by have:=d.size;omega));go_ret;obtain⟨E,F⟩:=Qh x.out;refine⟨.inr ⟨_,_,_,z.heap.size,E,n.out,s.out,f.size,rfl,?_,?_⟩,f.alloc f.size _⟩
    .rw[F];simp
    .rw[D.out];simp
  .obtain rfl:k=l.length:=aa;go_wp2;go_ret;have c:=n.out;rw[gJ] at c;exact⟨.inl ⟨c,rfl⟩,i⟩
theorem YR (aB aS aZ:Addr)(l:List Qt)(o:Option Addr)(n:Nat)(w:ai)(I:l.length<=1000)(h:iH w o l)(hE:E3 aB aS aZ w)(A:∀a∈l,iW a=0):
  aL 249 #[aj o l.length n,.func (.func 251) #[] #[]] w λe W=>wQ aB aS aZ nI w l e W/\aD w W:=by
 go_enter func249,ntmps249;go_wp2
 go_loopw [10] (λy wr=>∃k:Nat,k<=l.length/\y=ag k/\(∀y∈l.take k,nI y=0)/\aD w wr) (λy _=>l.length-(intOf y).toNat)
 case atStart=>exact⟨0,bA _,rfl,aI,aW _ _⟩
 case round=>
  obtain⟨k,J,rfl,c,i⟩:=hrel;have p:=aF c;clear c;by_cases q:k<l.length
  .have v:(k:Int)<(l.length:Int):=aa;obtain⟨a,j⟩:∃a,l[k]? =some a:=⟨_,fD q⟩;obtain⟨b,B,C,D⟩:=h k a j;subst C;obtain⟨K,L,M,N,r⟩:=D.below i az;have x:=aF j;have d:=i.alloc i.size (ak #[ag a.xn,ag a.xd,ag a.yn,ag a.yd] 233);have m:=sG aB aS aZ a _ r (Au (A a (ic j))) (hE.below d az);clear j;by_cases g:nI a=0
   .rw[g] at m;have s:=aF g;clear g;go_wp2_with(go_at_call 251;refine m.mono ?_;rintro e z ⟨rfl,t⟩;simp only[wF])
    go_roundw
    case rel=>exact⟨k+1,aa,by go_num,Qg p.out x.out s.out,d.trans (t.mono (by have:=d.size;omega))⟩
    case measure=>simp[intOf];omega
   .obtain⟨O,u⟩:=jy aB aS aZ (show nI a=2\/nI a=3 by have:=qX a;omega);have s:=aF g;have E:=aF u;rw[u] at m;clear g u;go_wp2_with(go_at_call 251;refine m.mono ?_;rintro e z ⟨rfl,t⟩);have f:=d.trans (t.mono (by have:=d.size;omega));go_ret;obtain⟨F,H⟩:=Qh x.out;refine⟨.inr ⟨_,_,_,z.heap.size,F,p.out,s.out,f.size,rfl,?_,?_⟩,f.alloc f.size _⟩
    .rw[H];simp
    .rw[E.out];simp
  .obtain rfl:k=l.length:=aa;go_wp2;go_ret;have c:=p.out;rw[gJ] at c;exact⟨.inl ⟨c,rfl⟩,i⟩
theorem wQ.mono {aB aS aZ:Addr}{a:Qt->Nat}{w u:ai}{l:List Qt}{e:Ending}(h:wQ aB aS aZ a u l e W)(hs:w.heap.size<=u.heap.size):wQ aB aS aZ a w l e W:=by
 rcases h with h|⟨q,x,r,b,c,d,f,g,i⟩
 .exact .inl h
 .exact .inr ⟨q,x,r,b,c,d,f,bO hs g,i⟩
def a2d (aB aS aZ:Addr)(w:ai)(l:List Qt)(e:Ending)(W:ai):Prop:=
 (30<l.length/\e=ay (er aB aS aZ 2))\/(l.length<=30/\(∃y∈l,iW y≠0)/\wQ aB aS aZ iW w l e W)\/(l.length<=30/\(∀y∈l,iW y=0)/\wQ aB aS aZ nI w l e W)
def qd (l:List Qt):Prop:=l.length<=30/\∀y∈l,jZ y=0
def a6M (v:ax):Prop:=(∃a,v=aU 453 (.pointer (some a)))\/(∃a,v=aU 67 (.pointer (some a)))
theorem a2d.plain {aB aS aZ:Addr}{w:ai}{l:List Qt}{e:Ending}(h:a2d aB aS aZ w l e W):(qd l/\e=ay aY)\/(¬qd l/\∃v,a6M v/\e=ay v):=by
 rcases h with⟨d,f⟩|⟨d,⟨y,b,g⟩,i⟩|⟨d,f,i⟩
 .exact .inr ⟨λh=>by have:=h.1;omega,_,.inl ⟨aB,rfl⟩,f⟩
 .have j:¬qd l:=λh=>g (jC.1 (h.2 y b)).1;rcases i with⟨c, -⟩|⟨q,x,r,k, -, -, -, -,a, -⟩
  .grind
  .exact .inr ⟨j,_,.inr ⟨_,rfl⟩,a⟩
 .rcases i with⟨c,a⟩|⟨q,x,r,k,m, -,c, -,a, -⟩
  .exact .inl ⟨⟨d,λy b=>jC.2 ⟨f y b,c y b⟩⟩,a⟩
  .exact .inr ⟨λh=>c (jC.1 (h.2 x (by rw[m];simp))).2,_,.inr ⟨_,rfl⟩,a⟩
theorem Aw (aB aS aZ:Addr)(l:List Qt)(o:Option Addr)(b:Nat)(w:ai)(h:iH w o l)(hE:E3 aB aS aZ w):
  aL 182 #[.agg #[aj o l.length b]] w λe W=>a2d aB aS aZ w l e W/\aD w W:=by
 have d:=dz w (ak #[aj o l.length b] 113);have F:=(hE.below d az).b;by_cases k:30<l.length
 .have m:30<(l.length:Int):=aa;go_enter func182,ntmps182;go_wp2;go_ret;exact⟨.inl ⟨k,rfl⟩,d⟩
 .have m:¬30<(l.length:Int):=aa;have A:=Uk aB aS aZ l o b _ aa (h.below d az) (hE.below d az);by_cases f:∀y∈l,iW y=0
  .have F2:=λV (B:aD w V)=>YR aB aS aZ l o b V aa (h.below B az) (hE.below B az) f;have C:=aF f;clear f;go_enter func182,ntmps182;go_wp2_with(first|(go_at_call 249;refine(F2 D n).mono ?_;rintro e M ⟨g,H⟩;obtain⟨N,rfl⟩:∃v,e=ay v:=(by rcases g with⟨-,rfl⟩|⟨_,_,_,_, -, -, -, -,rfl, -⟩;exact⟨_,rfl⟩;exact⟨_,rfl⟩))|(go_at_call 249;refine A.mono ?_;rintro e D ⟨c,j⟩;have s:e=ay aY:=(by rcases c with⟨-,t⟩|⟨q,x,r,I,J, -,K, -⟩;exact t;exact absurd (C.out x (by rw[J];simp)) K);subst s;clear c;have n:=aP d j;have O:=(j.cell (p:=⟨w.heap.size,0,none⟩) aI).trans (show(w.alloc (ak #[aj o l.length b] 113)).cell? ⟨w.heap.size,0,none⟩=some (aj o l.length b) by simp)));go_ret;exact⟨.inr (.inr ⟨aa,C.out,g.mono n.size⟩),aP n H⟩
  .have i:∃y∈l,iW y≠0:=by
    apply Classical.byContradiction;intro L;refine f λy u=>?_;apply Classical.byContradiction;exact λz=>L ⟨y,u,z⟩
   have E:=aF i;clear f i;go_enter func182,ntmps182;go_wp2_with(go_at_call 249;refine A.mono ?_;rintro e D ⟨c,j⟩;have s:∃a,e=ay (aU 67 (.pointer (some a))):=(by rcases c with⟨t, -⟩|⟨q,x,r,I, -, -, -, -,rfl, -⟩;exact absurd E.out (λ⟨y,u,z⟩=>z (t y u));exact⟨_,rfl⟩);obtain⟨P,rfl⟩:=s);go_ret;exact⟨.inr (.inl ⟨aa,E.out,c.mono d.size⟩),aP d j⟩
end
def Ul (a b c d e f g h:Int):List Qt:=[⟨a,b,c,d⟩,⟨e,f,c,d⟩,⟨e,f,g,h⟩,⟨a,b,g,h⟩]

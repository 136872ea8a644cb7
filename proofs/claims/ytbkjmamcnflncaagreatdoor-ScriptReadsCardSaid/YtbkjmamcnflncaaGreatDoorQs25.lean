import Derived.Test.YtbkjmamcnflncaaGreatDoorQs24
namespace Go.Proofs.YtbkjmamcnflncaaGreatDoor
open Go.Proofs.Tryz
set_option maxHeartbeats 8000000
section
structure Pm where
 pts:List Qt
 fill:aM
 rule:aM
def nu (x y:Int):Qt:=⟨2*x+1,2,2*y+1,2⟩
def oz (y n d:Int):Int:=2*n-(2*y+1)*d
def a2R:List UInt8:=[119,105,110,100]
def a9u:List UInt8:=[101,118,101,110]
def a7e:aM:=⟨#[46]⟩
def holdB (l:List Qt)(d:aM)(c:Qt):Bool:=if d.toList=a2R then xY (eF c) l !=0 else(xY (λa b=>eF c a b*eF c a b) l).tmod 2==1
def nQ:List Pm->Qt->aM
 |[],_=>a7e
 |s::l,c=>if holdB s.pts s.rule c then s.fill else nQ l c
def jT (l:List Pm)(c:Qt):aM:=nQ l.reverse c
theorem Hg (a b:List Pm)(c:Qt)(h:∀s∈a,holdB s.pts s.rule c=false):nQ (a++b) c=nQ b c:=by
 induction a with
 |nil=>rfl
 |cons s a d=>
  rw[fV,nQ,h s (List.mem_cons_self ..),if_neg aG];grind
theorem UD (a b:List Pm)(s:Pm)(c:Qt)(h:∀s∈a,holdB s.pts s.rule c=false)(hs:holdB s.pts s.rule c=true):nQ (a++s::b) c=s.fill:=by
 rw[Hg a _ c h,nQ,if_pos hs]
theorem QD (a:List Pm)(c:Qt)(h:∀s∈a,holdB s.pts s.rule c=false):nQ a c=a7e:=by
 have:=Hg a [] c h;rwa[List.append_nil] at this
section
variable (g:List Qt->Int->Bool)
def sH (l:List Pm)(w:Nat)(y:Int):List aM:=(List.range w).map λ(x:Nat)=>jT (l.filter λs=>g s.pts y) (nu (x:Int) y)
def ng (l:List Pm)(w h:Nat):List aM:=(List.range h).flatMap λ(y:Nat)=>sH g l w (y:Int)
theorem wG (l:List Pm)(w:Nat)(y:Int):(sH g l w y).length=w:=by simp[sH]
theorem xz (l:List Pm)(w h:Nat):ng g l w (h+1)=ng g l w h++sH g l w h:=by
 unfold ng;rw[List.range_succ,List.flatMap_append];simp
theorem lH (l:List Pm)(w:Nat):∀h:Nat,(ng g l w h).length=w*h
 |0=>rfl
 |h+1=>by rw[xz,dJ,lH l w h,wG,Nat.mul_succ]
theorem Ak (l:List Pm)(w:Nat):∀h y:Nat,y<h->((ng g l w h).drop (w*y)).take w=sH g l w y
 |0,y,a=>aa
 |h+1,y,a=>by
  rw[xz];by_cases e:y=h
  .subst e;rw[List.drop_append_of_le_length (by rw[lH];exact Nat.le_refl _),List.drop_eq_nil_of_le (by rw[lH];exact Nat.le_refl _),gF,jg (by rw[wG];exact Nat.le_refl _)]
  .have b:y+1<=h:=aa;have c:w*(y+1)<=w*h:=Nat.mul_le_mul_left w b;rw[Nat.mul_succ] at c;rw[List.drop_append_of_le_length (by rw[lH];omega),List.take_append_of_le_length (by rw[kU,lH];omega)];exact Ak l w h y aa
end
def X3 (l:List Qt)(y:Int):Bool:=l.any λa=>decide (oz y a.yn a.yd<=0)
def MP (l:List Qt)(y:Int):Bool:=l.any λa=>decide (0<=oz y a.yn a.yd)
def bA (l:List Qt)(y:Int):Bool:=
 if y< -1073741824\/1073741824<=y then false else l.all (λa=>decide (fH a.xn a.xd=0) && decide (fH a.yn a.yd=0)) && (X3 l y && MP l y)
end
section
open Go.RowKit
abbrev Hl (n:Int):Obj:=ai #[ag (2*n+1),ag 2] 163
theorem QE (n:Int)(w:ah)(a: -1000<=n)(b:n<=1000):
  aJ 188 #[ag n] w λe W=>e=ax (.agg #[ag (2*n+1),ag 2])/\W=w.alloc (Hl n):=by
 go_enter func188,ntmps188;go_wp2;exact bodyPost_ret (v:=.agg #[ag (2*n+1),ag 2]) (by simp[results,results188,go_sem]) rfl ⟨rfl,rfl⟩
abbrev abf (x y:Int):Obj:=ai #[ag (2*x+1),ag 2,ag (2*y+1),ag 2] 233
theorem KI (x y:Int)(w:ah):aD w (((w.alloc (abf x y)).alloc (Hl x)).alloc (Hl y)):=(((aQ _ _).alloc ay _).alloc aG _).alloc aX _
theorem Ho (x y:Int)(w:ah)(a: -1000<=x)(b:x<=1000)(c: -1000<=y)(d:y<=1000):
  aJ 128 #[ag x,ag y] w λe W=>e=ax (qR (nu x y))/\W=((w.alloc (abf x y)).alloc (Hl x)).alloc (Hl y):=by
 have f:=λV=>QE x V a b;have g:=λV=>QE y V c d;go_enter func128,ntmps128;go_wp2_with(first|(go_at_call_of 188 y;refine(g _).mono ?_;rintro e h ⟨rfl,rfl⟩)|(go_at_call_of 188 x;refine(f _).mono ?_;rintro e i ⟨rfl,rfl⟩));exact bodyPost_ret (v:=qR (nu x y)) (by simp[results,results128,go_sem,nu]) rfl ⟨rfl,rfl⟩
theorem yY (n:Int)(w:ah):aJ 73 #[ag n] w λe W=>e=ax (.bool (decide (1<=n/\n<=40)))/\W=w:=by
 by_cases b:1<=n
 .by_cases a:n<=40
  .go_enter func73,ntmps73;go_wp2;go_ret;exact⟨zC (by simp[b,a]),rfl⟩
  .go_enter func73,ntmps73;go_wp2;go_ret;exact⟨zC (by simp[a]),rfl⟩
 .go_enter func73,ntmps73;go_wp2;go_ret;exact⟨zC aX,rfl⟩
theorem UE {y n d:Int}(c: -1073741824<=y)(e:y<1073741824)(h:fH n d=0):kS (2*n)/\kS (2*y)/\kS (2*y+1)/\kS ((2*y+1)*d)/\kS (2*n-(2*y+1)*d):=by
 obtain⟨f, -,g,i⟩:=gI.1 h;have a:0<=d:=aa;have b:d<=1073741824:=aa;have j:(2*y+1)*d<=2147483647*d:=Int.mul_le_mul_of_nonneg_right aa a;have k: -2147483648*d<=(2*y+1)*d:=Int.mul_le_mul_of_nonneg_right aa a;refine⟨⟨aa,aa⟩,⟨aa,aa⟩,⟨aa,aa⟩,⟨aa,aa⟩,⟨aa,aa⟩⟩
theorem MR (y n d:Int)(w:ah)(a: -1073741824<=y)(b:y<1073741824)(h:fH n d=0):
  aJ 186 #[ag y,.agg #[ag n,ag d]] w λe W=>e=ax (ag (oz y n d))/\aD w W:=by
 obtain⟨⟨g,i⟩,⟨j,k⟩,⟨l,m⟩,⟨o,p⟩,⟨q,c⟩⟩:=UE a b h;have f:=bZ w (ai #[ag n,ag d] 163);unfold oz;go_enter func186,ntmps186;go_wp2;go_ret;exact⟨rfl,f⟩
structure P5 where
 nd:Int
 o:Option Addr
 cap:Nat
 s:Pm
 lv:Int
abbrev p5V (x:P5):au:=.agg #[ag x.nd,aj x.o x.s.pts.length x.cap,ak x.s.fill,ak x.s.rule,ag x.lv]
abbrev Al (x:P5):Array au:=#[ag x.nd,aj x.o x.s.pts.length x.cap,ak x.s.fill,ak x.s.rule,ag x.lv]
structure UF (w:ah)(b i:Nat)(x:P5):Prop where
 c0:w.cell? (aH b i)=some (ag x.nd)
 c1:w.cell? (aH b (i+1))=some (aj x.o x.s.pts.length x.cap)
 c2:w.cell? (aH b (i+2))=some (ak x.s.fill)
 c3:w.cell? (aH b (i+3))=some (ak x.s.rule)
 c4:w.cell? (aH b (i+4))=some (ag x.lv)
theorem UF.below {w w':ah}{b i n:Nat}{x:P5}(h:UF w b i x)(a:Below n w w')(d:w.heap.size<=n):UF w' b i x:=by
 have c:b<n:=dP (aR h.c0) d;exact⟨(a.cell (p:=⟨b,i,none⟩) c).trans h.c0,(a.cell (p:=⟨b,i+1,none⟩) c).trans h.c1,(a.cell (p:=⟨b,i+2,none⟩) c).trans h.c2,(a.cell (p:=⟨b,i+3,none⟩) c).trans h.c3,(a.cell (p:=⟨b,i+4,none⟩) c).trans h.c4⟩
theorem UF.new (w:ah)(x:P5)(t:TypeId):UF (w.alloc (ai (Al x) t)) w.heap.size 0 x:=⟨aG,aG,aG,aG,aG⟩
def jY (w:ah)(o:Option Addr)(l:List P5):Prop:=∀i x,l[i]? =some x->∃b a,o=some ⟨b,a,none⟩/\UF w b (a+i*5) x
theorem jY.below {w w':ah}{o:Option Addr}{l:List P5}{n:Nat}(h:jY w o l)(d:Below n w w')(e:w.heap.size<=n):jY w' o l:=λi a f=>by
 obtain⟨b,c,g,j⟩:=h i a f;exact⟨b,c,g,j.below d e⟩
def kT (w:ah)(l:List P5):Prop:=∀x∈l,iw w x.o x.s.pts
theorem kT.below {w w':ah}{l:List P5}{n:Nat}(h:kT w l)(a:Below n w w')(b:w.heap.size<=n):kT w' l:=λx c=>(h x c).below a b
abbrev sP (l:List P5):List Pm:=l.map (·.s)
set_option maxRecDepth 20000
structure EP (aB aS aZ aV:Addr)(w:ah):Prop where
 e3:E3 aB aS aZ w
 v:w.cell? (aH 9 0)=some (aP 453 (.pointer (some aV)))
 et:w.cell? (aH 11 0)=some (aP 208 (.agg #[hE]))
theorem EP.below {aB aS aZ c:Addr}{w w':ah}{B:Nat}(h:EP aB aS aZ c w)(a:Below B w w')(b:w.heap.size<=B):EP aB aS aZ c w':=
 ⟨h.e3.below a b,(a.cell (dP (aR h.v) b)).trans h.v,(a.cell (dP (aR h.et) b)).trans h.et⟩
def wH (r:aM):Prop:=r.toList=a2R\/r.toList=a9u
instance (r:aM):Decidable (wH r):=by unfold wH;infer_instance
theorem ba_eq {a b:aM}(h:a.toList=b.toList):a=b:=by
 rw[gz,gz] at h;cases a;cases b;simpa using h
def abg (l:List Qt)(p:Qt)(r:aM)(b:Bool)(v:au):Prop:=
 (oU l/\jQ p=0/\wH r/\b=holdB l r p/\v=aU)\/(¬(oU l/\jQ p=0/\wH r)/\(oU l->jQ p=0->∃a,v=aP 453 (.pointer (some a)))/\a5U v)
theorem Dt (b:Addr)(l:List Qt)(o:Option Addr)(a:Nat)(p:Qt)(r:aM)(w:ah)(i:(r.toList==[119,105,110,100])=false)(j:(r.toList==[101,118,101,110])=false)(c:w.cell? (aH 9 0)=some (aP 453 (.pointer (some b)))):
  aJ 183 #[.agg #[aj o l.length a],qR p,ak r] w λe W=>e=ax (aF #[.bool false,aP 453 (.pointer (some b))])/\aD w W:=by
 go_enter func183,ntmps183;go_upto_region 1 with fail;obtain⟨U,d⟩:∃U,(w.alloc (ai #[aj o l.length a] 113)).alloc (ai #[ag p.xn,ag p.xd,ag p.yn,ag p.yd] 233)=U:=⟨_,rfl⟩;obtain⟨k,⟨m,n,q,s⟩,g⟩:=BJ w _ _ _ _ _ _ _ U d;have f:=(g.cell (aR c)).trans c;rw[d];clear d c;have h:U.drew.cell? (aH 9 0)=some (aP 453 (.pointer (some b))):=f;go_wp2_with fail;go_region
 all_goals
  go_wp2_with fail;refine bodyPost_ret (results_tmp2 rfl _ _ _) rfl ?_;exact⟨rfl,g.drew⟩
theorem Zf (aB aS aZ k:Addr)(l:List Qt)(o:Option Addr)(c:Nat)(p:Qt)(r:aM)(w:ah)(h:iw w o l)(hp:PI p)(hE:EP aB aS aZ k w):
  aJ 183 #[.agg #[aj o l.length c],qR p,ak r] w λe W=>∃g v,abg l p r g v/\e=ax (aF #[.bool g,v])/\aD w W:=by
 by_cases i:r.toList=a2R
 .have n:r=⟨#[119,105,110,100]⟩:=ba_eq (by rw[i,gz];rfl);subst n;refine(Ur aB aS aZ l o c p w h hp hE.e3).mono ?_;rintro e W ⟨q,s,v,g,rfl,j⟩;refine⟨_,_,?_,rfl,j⟩;rcases g with⟨d,f,rfl,rfl,rfl⟩|⟨d,rfl,rfl,f⟩
  .exact .inl ⟨d,f,.inl i,by rw[holdB,if_pos i],rfl⟩
  .exact .inr ⟨λh=>d ⟨h.1,h.2.1⟩,λa b=>absurd ⟨a,b⟩ d,f⟩
 .by_cases m:r.toList=a9u
  .have n:r=⟨#[101,118,101,110]⟩:=ba_eq (by rw[m,gz];rfl);subst n;refine(Us aB aS aZ l o c p w h hp hE.e3).mono ?_;rintro e W ⟨q,s,v,g,rfl,j⟩;refine⟨_,_,?_,rfl,j⟩;rcases g with⟨d,f,rfl,rfl,rfl⟩|⟨d,rfl,rfl,f⟩
   .exact .inl ⟨d,f,.inr m,by rw[holdB,if_neg i];rfl,rfl⟩
   .exact .inr ⟨λh=>d ⟨h.1,h.2.1⟩,λa b=>absurd ⟨a,b⟩ d,f⟩
  .refine(Dt k l o c p r w (dL.2 i) (dL.2 m) hE.v).mono ?_;rintro e W ⟨rfl,j⟩;exact⟨_,_,.inr ⟨λh=>h.2.2.elim i m,λ_ _=>⟨k,rfl⟩,.inl ⟨k,rfl⟩⟩,rfl,j⟩
def Hq (A:Addr)(w:ah)(v:au):Prop:=v=aP 453 (.pointer (some A))\/(∃a,w.cell? (aH a 1)=some (aP 453 (.pointer (some A)))/\v=aP 67 (aI a))
def UG (aB aS:Addr)(a:Qt->Nat)(l:List Qt)(d:Addr):Addr:=match l.find? (λy=>a y !=0) with
 |some y=>if a y=2 then aB else aS
 |none=>d
def C9 (aB aS a:Addr)(l:List Qt):Addr:=if 30<l.length then aB else UG aB aS iJ l (UG aB aS mX l a)
theorem Ca {aB aS d:Addr}{a:Qt->Nat}{l:List Qt}(h:∀y∈l,a y=0):UG aB aS a l d=d:=by
 unfold UG;grind
theorem a7f {aB aS b:Addr}{l:List Qt}(h:oU l):C9 aB aS b l=b:=by
 unfold C9;rw[if_neg (by have:=h.1;omega),Ca λy a=>(jo.1 (h.2 y a)).1,Ca λy a=>(jo.1 (h.2 y a)).2]
def jU (s:Pm):Prop:=oU s.pts/\wH s.rule
theorem a2T {x y:Int}(d:0<=x)(e:x<=100)(f:0<=y)(g:y<=100):jQ (nu x y)=0/\PI (nu x y):=by
 have c:∀n:Int,0<=n->n<=100->fH (2*n+1) 2=0:=λn a b=>by
  rw[gI];refine⟨aC,?_,aa,aC⟩;unfold iZ;have:(2*n+1).natAbs=2*n.natAbs+1:=aa;rw[this];show Nat.gcd (2*n.natAbs+1) 2=1;rw[Nat.gcd_comm,Nat.gcd_rec];simp
 refine⟨jo.2 ⟨iQ.2 ⟨c x d e,c y f g⟩,?_⟩,⟨⟨?_,?_⟩,⟨by show(-9223372036854775808:Int)<=2;omega,by show(2:Int)<=9223372036854775807;omega⟩,⟨?_,?_⟩,⟨by show(-9223372036854775808:Int)<=2;omega,by show(2:Int)<=9223372036854775807;omega⟩⟩⟩
 .unfold mX Ya nu;grind
 all_goals(simp only[nu];omega)
theorem QF (aB aS aZ b:Addr)(l:List Qt)(o:Option Addr)(a:Nat)(p:Qt)(r:aM)(w:ah)(h:iw w o l)(hp:PI p)(hE:EP aB aS aZ b w)(f:oU l)(g:jQ p=0)(i:wH r):
    aJ 183 #[.agg #[aj o l.length a],qR p,ak r] w λe W=>e=ax (aF #[.bool (holdB l r p),aU])/\aD w W:=
  (Zf aB aS aZ b l o a p r w h hp hE).mono λe W ⟨j,v,k,c,d⟩=>by
    rcases k with⟨-, -, -,rfl,rfl⟩|⟨k, -⟩
    . exact⟨c,d⟩
    . grind
theorem MS (x y:Int)(w:ah)(a: -1000<=x)(b:x<=1000)(c: -1000<=y)(d:y<=1000):
  aJ 128 #[ag x,ag y] w λe W=>e=ax (qR (nu x y))/\aD w W:=
 (Ho x y w a b c d).mono λ_ _ ⟨a,b⟩=>⟨a,by rw[b];exact KI x y w⟩
theorem Hq.QG {aB aS aZ d:Addr}{b:Qt->Nat}{w:ah}{l:List Qt}{e:Ending}{W:ah}(h:vS aB aS aZ b w l e W)(hc:∀a,b a=0\/b a=2\/b a=3)(k:¬∀y∈l,b y=0):∃v,Hq (UG aB aS b l d) W v/\e=ax v:=by
 rcases h with⟨h, -⟩|⟨q,x,r,f,m,n,o, -,g,p,i⟩
 .grind
 .refine⟨_,.inr ⟨f,?_,rfl⟩,g⟩;have j:l.find? (λy=>b y !=0)=some x:=by grind
  rw[i];unfold UG;rw[j];rcases hc x with c|c|c
  .omega
  .simp only[c,if_true];rfl
  .simp only[c];rfl
theorem Hq.abh {aB aS aZ:Addr}(k:Addr){w:ah}{l:List Qt}{e:Ending}{W:ah}(h:a1p aB aS aZ w l e W):(oU l/\e=ax aU)\/(¬oU l/\∃v,Hq (C9 aB aS k l) W v/\e=ax v):=by
 have c:=h.plain;unfold C9;rcases h with⟨f,g⟩|⟨f,⟨y,b,d⟩,i⟩|⟨f,g,i⟩
 .rw[if_pos f];exact .inr ⟨λh=>by have:=h.1;omega,_,.inl rfl,g⟩
 .rw[if_neg aa];exact .inr ⟨λh=>d (jo.1 (h.2 y b)).1,Hq.QG i ug (λh=>d (h y b))⟩
 .rw[if_neg aa,Ca g];by_cases j:∀y∈l,mX y=0
  .rcases c with c|⟨c, -⟩
   .exact .inl c
   .exact absurd ⟨f,λy b=>jo.2 ⟨g y b,j y b⟩⟩ c
  .refine .inr ⟨λh=>j (λy b=>(jo.1 (h.2 y b)).2),Hq.QG i (λa=>by have:=qB a;omega) j⟩
theorem Hr (aB aS aZ g:Addr)(x:P5)(w:ah)(h:iw w x.o x.s.pts)(hE:EP aB aS aZ g w):
  aJ 121 #[p5V x] w λe W=>((jU x.s/\e=ax aU)\/(¬jU x.s/\∃v,Hq (C9 aB aS g x.s.pts) W v/\e=ax v))/\aD w W:=by
 have C:=UF.new w x 115;have r:=bZ w (ai (Al x) 115);go_enter func121,ntmps121;go_upto_region 1 with fail;obtain⟨U,L⟩:∃U,w.alloc (ai (Al x) 115)=U:=⟨_,rfl⟩;rw[L] at C r⊢;clear L;have m:=h.below r ay;have M:=hE.below r ay;have N:=zT aB aS aZ x.s.pts x.o x.cap U m M.e3;obtain⟨S,T,V,X,Y⟩:=id C;go_upto_region 2 with(go_at_call 182;refine N.mono ?_;rintro e a ⟨s,t⟩;have s:=Hq.abh g s;obtain⟨v,rfl,u⟩:∃v,e=ax v/\((oU x.s.pts/\v=aU)\/(¬oU x.s.pts/\Hq (C9 aB aS g x.s.pts) a v)):=(by rcases s with⟨D,E⟩|⟨D,v,E,Z⟩;exact⟨_,E,.inl ⟨D,rfl⟩⟩;exact⟨v,Z,.inr ⟨D,E⟩⟩));clear s N S T V X Y;have z:=C.below t ay;have B:=aN r t;have F:=m.below t ay;have n:=M.below t ay;rcases u with⟨k,rfl⟩|⟨H,u⟩
 .go_upto_region 4 with fail;obtain⟨ec,ip⟩:=a2T (x:=0) (y:=0) aC aC aC aC;have CE:∀d b,aJ 128 #[ag 0,ag 0] (Go.Sort.grow (redrawn a d) b) λe c=>e=ax (qR (nu 0 0))/\∃p:Regrown,c=Go.Sort.grow (redrawn a p.d) p.os:=λd b=>Calls.regrown_of (MS 0 0 _ aC aC aC aC);by_cases o:wH x.s.rule
  .have I:∀d b,aJ 183 #[.agg #[aj x.o x.s.pts.length x.cap],qR (nu 0 0),ak x.s.rule] (Go.Sort.grow (redrawn a d) b) λe c=>e=ax (aF #[.bool (holdB x.s.pts x.s.rule (nu 0 0)),aU])/\∃p:Regrown,c=Go.Sort.grow (redrawn a p.d) p.os:=λd b=>Calls.regrown_of (QF aB aS aZ g x.s.pts x.o x.cap (nu 0 0) x.s.rule _ (F.below (below_regrown a d b) ay) ip (n.below (below_regrown a d b) ay) k ec o);have r1:=cell_regrown z.c1;have r3:=cell_regrown z.c3;refine wp_region_quiet_below az az ?_
   repeat(quiet_step (first|(go_at_call 183;exact I _ _)|(go_at_call 128;exact CE _ _)))
   refine wpQuiet_nil ?_;intro _ l;obtain⟨i,f⟩:=l;subst f;have q:=below_regrown a i.d i.os;generalize Go.Sort.grow (redrawn a i.d) i.os=w2 at q⊢;go_wp2_with fail;go_ret;exact⟨.inl ⟨⟨k,o⟩,rfl⟩,aN B q⟩
  .have O:(x.s.rule.toList==[119,105,110,100])=false:=dL.2 (λh=>o (.inl h));have P:(x.s.rule.toList==[101,118,101,110])=false:=dL.2 (λh=>o (.inr h));have I:∀d b,aJ 183 #[.agg #[aj x.o x.s.pts.length x.cap],qR (nu 0 0),ak x.s.rule] (Go.Sort.grow (redrawn a d) b) λe c=>e=ax (aF #[.bool false,aP 453 (.pointer (some g))])/\∃p:Regrown,c=Go.Sort.grow (redrawn a p.d) p.os:=λd b=>Calls.regrown_of (Dt g x.s.pts x.o x.cap (nu 0 0) x.s.rule _ O P (n.below (below_regrown a d b) ay).v);have r1:=cell_regrown z.c1;have r3:=cell_regrown z.c3;clear O P;refine wp_region_quiet_below az az ?_
   repeat(quiet_step (first|(go_at_call 183;exact I _ _)|(go_at_call 128;exact CE _ _)))
   refine wpQuiet_nil ?_;intro _ l;obtain⟨i,f⟩:=l;subst f;have q:=below_regrown a i.d i.os;generalize Go.Sort.grow (redrawn a i.d) i.os=w2 at q⊢;go_wp2_with fail;go_ret;exact⟨.inr ⟨λh=>o h.2,aP 453 (.pointer (some g)),.inl (by rw[a7f k]),rfl⟩,aN B q⟩
 .have j:¬jU x.s:=λh=>H h.1;obtain⟨A,J⟩:∃A,C9 aB aS g x.s.pts=A:=⟨_,rfl⟩;rw[J] at u;have Q:=aA J;clear J;rcases u with rfl|⟨R,K,rfl⟩
  .go_wp2_with fail;go_ret;exact⟨.inr ⟨j,aP 453 (.pointer (some A)),by rw[Q.out];exact .inl rfl,rfl⟩,B⟩
  .go_wp2_with fail;go_ret;exact⟨.inr ⟨j,aP 67 (aI R),by rw[Q.out];exact .inr ⟨R,K,rfl⟩,rfl⟩,B⟩
theorem Cb (aB aS aZ k A:Addr)(v:au)(w:ah)(h:Hq A w v)(hE:EP aB aS aZ k w):
  aJ 122 #[v] w λe W=>e=ax (aP 453 (.pointer (some A)))/\aD w W:=by
 have g:=bZ w (ai #[.pointer none] 67);have c:=hE.below g ay;rcases h with rfl|⟨b,j,rfl⟩
 .have l:=MC A ⟨w.heap.size,0,none⟩ (w.alloc (ai #[.pointer none] 67)) c.et;go_enter func122,ntmps122;go_wp2_with(go_at_call 34;refine l.mono ?_;rintro e d ⟨rfl,f⟩);go_ret;exact⟨rfl,aN g f⟩
 .have m:=a2g ⟨b,0,none⟩ ⟨w.heap.size,0,none⟩ (.pointer none) (w.alloc (ai #[.pointer none] 67)) c.et aG aG;have i:=aR j;go_enter func122,ntmps122;go_wp2_with fail;refine m.mono ?_;rintro e n ⟨rfl,d,f,rfl⟩;have a:aD w (d.setCell ⟨w.heap.size,0,none⟩ (aI b)):=(aN g f).setCell ay _;have o:=(a.cell (p:=⟨b,1,none⟩) i).trans j;have q:(d.setCell ⟨w.heap.size,0,none⟩ (aI b)).cell? ⟨w.heap.size,0,none⟩=some (aI b):=by
   have r:d.cell? ⟨w.heap.size,0,none⟩=some (.pointer none):=by rw[f.cell (p:=⟨w.heap.size,0,none⟩) aG];simp
   exact iA _ _ _ (by rw[r];rfl)
  generalize (d.setCell ⟨w.heap.size,0,none⟩ (aI b))=s at a o q⊢;go_wp2;go_ret;exact⟨rfl,a⟩
def Jq (aB aS c:Addr)(l:List P5)(a b:Nat)(W:ah):Prop:=∃q x r,l=q++x::r/\(∀y∈q,jU y.s)/\¬jU x.s/\a<=b/\(∃n,W.cell? (aH b 0)=some (ag n))/\W.cell? (aH b 1)=some (aP 453 (.pointer (some (C9 aB aS c x.s.pts))))
theorem wI (aB aS aZ j:Addr)(l:List P5)(o:Option Addr)(B:Nat)(w:ah)(hl:l.length<=1000)(h:jY w o l)(hP:kT w l)(hE:EP aB aS aZ j w):
  aJ 74 #[aj o l.length B] w λe W=>(((∀x∈l,jU x.s)/\e=ax aU)\/(∃C,Jq aB aS j l w.heap.size C W/\e=ax (aP 67 (aI C))))/\aD w W:=by
 go_enter func74,ntmps74;go_wp2
 go_loopw [8] (λi wr=>∃k:Nat,k<=l.length/\i=ag k/\(∀x∈l.take k,jU x.s)/\aD w wr) (λi _=>l.length-(intOf i).toNat)
 case atStart=>exact⟨0,bf _,rfl,(λa Y=>by simp at Y),aQ _ _⟩
 case round=>
  obtain⟨k,hk,rfl,c,D⟩:=hrel;by_cases E:k<l.length
  .have Q:(k:Int)<(l.length:Int):=aa;obtain⟨x,t⟩:∃x,l[k]? =some x:=⟨_,eZ E⟩;have m:x∈l:=gN t;obtain⟨b,Z,rfl,hC⟩:=h.below D ay k x t;have C0:=UF.new wr x 115;have b1:=bZ wr (ai (Al x) 115);have F:=aN D b1;have R:=Hr aB aS aZ j x (wr.alloc (ai (Al x) 115)) ((hP x m).below F ay) (hE.below F ay);obtain⟨c0,c1,c2,c3,c4⟩:=hC;have S:=aA t;clear t;go_upto_region 5 with(go_at_call 121;refine R.mono ?_;rintro e T ⟨U,b2⟩;obtain⟨v,rfl,n⟩:∃v,e=ax v/\((jU x.s/\v=aU)\/(¬jU x.s/\Hq (C9 aB aS j x.s.pts) T v)):=(by rcases U with⟨H,I⟩|⟨H,v,I,k3⟩;exact⟨_,I,.inl ⟨H,rfl⟩⟩;exact⟨v,k3,.inr ⟨H,I⟩⟩));clear U R;have u:=aN F b2;rcases n with⟨J,rfl⟩|⟨p,n⟩
   .go_wp2_with fail
    go_roundw
    case rel=>exact⟨k+1,aa,by go_num,λy d=>by rw[dS,S.out] at d;rcases gT.1 d with d|d;exact c y d;simp at d;subst d;exact J,u⟩
    case measure=>simp[intOf];omega
   .have K:=Cb aB aS aZ j _ v T n (hE.below u ay);have f:∀z,z=v->((∃a,z=Value.iface 453 (.pointer (some a)))\/(∃a,z=Value.iface 67 (.pointer (some a)))):=λz e=>by
     subst e;rcases n with h|⟨C, -,h⟩
     .exact .inl ⟨_,h⟩
     .exact .inr ⟨_,h⟩
    have f:=f v rfl;clear n;have V:Hid (∃q r,l=q++x::r/\∀y∈q,jU y.s):=by
     obtain⟨s,L⟩:=kQ.1 S.out;exact⟨l.take k,l.drop (k+1),by rw[<- L,<- vz s,jJ],c⟩
    obtain⟨A,M⟩:∃A,C9 aB aS j x.s.pts=A:=⟨_,rfl⟩;rw[M] at K;have X:=aA M;clear M;rcases f with⟨a,rfl⟩|⟨a,rfl⟩
    .go_wp2_with(go_at_call 122;refine K.mono ?_;rintro e w2 ⟨rfl,N⟩);go_ret;have g:=aN u N;obtain⟨q,r,O,P⟩:=V.out;exact⟨.inr ⟨_,⟨q,x,r,O,P,p,g.size,⟨k,aG⟩,by rw[X.out];simp⟩,rfl⟩,g.alloc g.size _⟩
    .go_wp2_with(go_at_call 122;refine K.mono ?_;rintro e w2 ⟨rfl,N⟩);go_ret;have g:=aN u N;obtain⟨q,r,O,P⟩:=V.out;exact⟨.inr ⟨_,⟨q,x,r,O,P,p,g.size,⟨k,aG⟩,by rw[X.out];simp⟩,rfl⟩,g.alloc g.size _⟩
  .obtain rfl:k=l.length:=aa;go_wp2_with fail;go_ret;rw[gq] at c;exact⟨.inl ⟨c,rfl⟩,D⟩
theorem Zg (aB aS aZ c:Addr)(l:List P5)(o:Option Addr)(b:Nat)(w:ah)(d:l.length<=1000)(h:jY w o l)(hP:kT w l)(hE:EP aB aS aZ c w):
  aJ 74 #[aj o l.length b] w λe W=>(((∀x∈l,jU x.s)/\e=ax aU)\/((∃x∈l,¬jU x.s)/\∃a,e=ax (aP 67 (.pointer (some a)))))/\aD w W:=(wI aB aS aZ c l o b w d h hP hE).mono λe W ⟨f,g⟩=>⟨f.imp id λ⟨m,⟨q,x,r,i,_,j,_⟩,k⟩=>⟨⟨x,by rw[i];simp,j⟩,_,k⟩,g⟩
end
open Go.RowKit Go.Shelf
set_option maxRecDepth 100000
attribute [local go_sem] Oper.semAt_some
structure BkI (w0:ah) where
 ix:Nat
 x:P5
 hp:iw w0 x.o x.s.pts
 ok:jU x.s
abbrev bkV {w0:ah}(e:BkI w0):Array au:=#[ag e.ix,p5V e.x]
theorem a9v (w0:ah)(l:List P5)(hP:kT w0 l)(b:∀x∈l,jU x.s):∀n,n<=l.length->∃a:List (BkI w0),a.length=n/\a.map (·.x)=(l.take n).reverse/\∀k e,a[k]? =some e->e.ix=n-1-k
 |0,_=>⟨[],rfl,rfl,λk e h=>by simp at h⟩
 |n+1,g=>by
  obtain⟨a,d,f,i⟩:=a9v w0 l hP b n aa;have j:l[n]? =some l[n]:=by grind
  have c:l[n]∈l:=by grind
  refine⟨⟨n,l[n],hP _ c,b _ c⟩::a,by simp[d],?_,λk e h=>?_⟩
  .rw[nI,f];have e:l.take (n+1)=l.take n++[l[n]]:=Qy l n aa;grind
  .grind
def bkT (Bs:Nat)(o:Option Addr)(l:List P5)(k:Nat):Prop:=k=Bs\/(l≠[]/\∃a,o=some ⟨k,a,none⟩)
theorem jY.kept {w w':ah}{o:Option Addr}{l:List P5}{Bs:Nat}(h:jY w o l)(g:xu (bkT Bs o l) w w'):jY w' o l:=λi a e=>by
 obtain⟨b,c,f,j,k,m,n,q⟩:=h i a e;have d:=g b (.inr ⟨by rintro rfl;simp at e,c,f⟩);exact⟨b,c,f,(cell_of_heap (p:=⟨b,_,none⟩) d).trans j,(cell_of_heap (p:=⟨b,_,none⟩) d).trans k,(cell_of_heap (p:=⟨b,_,none⟩) d).trans m,(cell_of_heap (p:=⟨b,_,none⟩) d).trans n,(cell_of_heap (p:=⟨b,_,none⟩) d).trans q⟩
theorem a2U (l:List P5)(w0:ah)(a:List (BkI w0))(Q:a.length=l.length)(v:a.map (·.x)=l.reverse)(w:∀k e,a[k]? =some e->e.ix=l.length-1-k)(hl:l.length<=1000)(o:Option Addr)(c n Bs:Nat)(H:w0.heap[Bs]? =some (ai #[aj o l.length c] 84))(hP:jY w0 o l):
  SeqStopsK Fence.wide n prog 254 #[aI Bs] bkV (xu (bkT Bs o l)) (λR=>R=a) (λp=>p<+:a) a.length w0:=by
 intro L J Jx W I hJ S T U;have y:Bs<w0.heap.size:=(dZ.1 H).1;have z:W.heap[Bs]? =some (ai #[aj o l.length c] 84):=(I.block Bs y).trans H;have V:W.cell? (aH Bs 0)=some (aj o l.length c):=by simp[World.cell?,z]
 have A:=hP.below I ay;refine callsIn_of_wp func254 rfl trivial ?_ rfl;simp only[ntmps254,ji,eP,iO,Nat.reduceAdd,Nat.reduceSub,jM,jL,jO,jN,gF,fV]
 gi_wp2
 gi_loopw [3] (λi wr=>∃k:Nat,k<=l.length/\i=ag ((l.length:Int)-1-k)/\J (a.take k) wr/\xu (bkT Bs o l) W wr) (λi _=>(intOf i+1).toNat)
 case atStart=>exact⟨0,bf _,aG,U,xu.refl _⟩
 case round=>
  obtain⟨k,hk,rfl,g,d⟩:=hrel;by_cases B:k<l.length
  .have C:k<a.length:=aa;obtain⟨x,b⟩:∃x,a[k]? =some x:=⟨_,eZ C⟩;have D:=w k x b;have f:l[l.length-1-k]? =some x.x:=by
    have K:(a.map (·.x))[k]? =some x.x:=by rw[iN,b];rfl
    rw[v,List.getElem?_reverse B] at K;exact K
   have m:a.take (k+1)=a.take k++[x]:=by rw[dS,b];rfl
   have q:(a.take k).length<a.length:=by rw[iV];omega
   obtain⟨j,M⟩:∃j:Nat,l.length-1-k=j:=⟨_,rfl⟩;rw[M] at D f;have r:(l.length:Int)-1-k=(j:Int):=aa;have X:j<l.length:=aa;have Y:(j:Int)<(l.length:Int):=aa;obtain⟨bb,Z,ho,q0,q1,q2,q3,q4⟩:=A.kept d j x.x f;have cB:=(cell_of_heap (p:=⟨Bs,0,none⟩) (d Bs (.inl rfl))).trans V;subst ho;obtain⟨fn,N,u,O,P,hR⟩:=T (a.take k) x wr g q;have s:=aA m;have HJ:Hid (j+k+1=l.length):=(by omega:j+k+1=l.length);rw[r];unfold bkV at P;rw[D] at P;clear m q f D M b r
   gi_wp2
   refine⟨(λh=>by cases h),hR.mono ?_⟩;rintro e W3 (⟨rfl,E,F⟩|⟨rfl,t⟩)
   .gi_wp2
    go_roundw
    case rel=>exact⟨k+1,aa,by have:=HJ.out;congr 1;omega,by rw[s.out];exact E,d.trans F⟩
    case measure=>simp[intOf]
   .gi_wp2
    refine bodyPost_ret (results_none rfl _ _ _) rfl ?_;exact⟨⟨_,rfl⟩,.inr ⟨_,by rw[<- s.out];exact List.take_prefix _ _,t⟩⟩
  .obtain rfl:k=l.length:=aa;have hz:(l.length:Int)-1-(l.length:Nat)= -1:=aa;rw[hz]
   gi_wp2
   go_end0
   exact⟨⟨_,rfl⟩,.inl ⟨_,by rw[jg aa],g⟩⟩
theorem MU (o:Option Addr)(n c:Nat)(W:ah):aJ 187 #[aj o n c] W λe w'=>e=ax (.func (.func 254) #[] #[aI W.heap.size])/\w'=W.alloc (ai #[aj o n c] 84):=by
 go_enter func187,ntmps187;go_wp2;go_ret;exact⟨rfl,rfl⟩
structure ShI (p:Qt)(B1 B2 N:Nat)(W:ah):Prop where
 f:Four W B1 (ag p.xn) (ag p.xd) (ag p.yn) (ag p.yd)
 r:W.heap[B2]? =some (ai #[ak ⟨#[]⟩] 9)
 sz:N<=W.heap.size
theorem ShI.below {p:Qt}{b c N:Nat}{A B:ah}(h:ShI p b c N A)(a:aD A B):ShI p b c N B:=
 ⟨h.f.below a ay,(a.block _ (dZ.1 h.r).1).trans h.r,bu h.sz a.size⟩
theorem QH {A C:ah}{a:Option Nat}{U k:Nat}{o:Obj}(h:A.heap[k]? =some o)(d:k<U)(b:A.grownBy C a)(c:∀r,a=some r->U<=r/\∃o:Obj,A.heap[r]? =some o/\o.isCells=false):C.heap[k]? =some o:=
 (b.block k (dZ.1 h).1 (λe=>by have:=(c k e.symm).1;omega)).trans h
theorem QI {w:ah}{b:Nat}{v:au}{t:TypeId}(h:w.heap[b]? =some (ai #[v] t))(u:au):(w.setCell ⟨b,0,none⟩ u).heap[b]? =some (ai #[u] t):=by
 rw[heap_setCell_same w b 0 _ _ _ h];rfl
theorem xA {w:ah}{b:Nat}{v:au}{t:TypeId}(h:w.heap[b]? =some (ai #[v] t)):w.cell? (aH b 0)=some v:=by simp[World.cell?,h]
theorem KJ {w:ah}{b:Nat}{v:au}{t:TypeId}(h:w.heap[b]? =some (ai #[v] t)):w.frozen? ⟨b,0,none⟩=false:=by
 unfold World.frozen?;rw[h];simp
def Ht {w0:ah}(p:Qt)(pre:List (BkI w0)):Prop:=∀e∈pre,holdB e.x.s.pts e.x.s.rule p=false
theorem Ht.snoc {w0:ah}{p:Qt}{pre:List (BkI w0)}{e:BkI w0}(h:Ht p pre)(he:holdB e.x.s.pts e.x.s.rule p=false):Ht p (pre++[e]):=λx a=>by
 rcases gT.1 a with a|a
 .exact h x a
 .grind
theorem Ht.pm {w0:ah}{p:Qt}{pre:List (BkI w0)}(h:Ht p pre):∀s∈pre.map (·.x.s),holdB s.pts s.rule p=false:=λs a=>by
 obtain⟨e,b,rfl⟩:=gu.1 a;exact h e b
theorem UH (aB aS aZ aV:Addr)(l:List P5)(o:Option Addr)(n:Nat)(p:Qt)(w:ah)(hl:l.length<=1000)(h:jY w o l)(hP:kT w l)(m:∀x∈l,jU x.s)(hp:PI p)(a6:jQ p=0)(hE:EP aB aS aZ aV w):
  CallsIn Fence.wide 9 prog 127 #[aj o l.length n,qR p] w λe W=>e=ax (ak (jT (sP l) p))/\aD w W:=by
 refine callsIn_of_wp_marks func127 rfl trivial ?_ rfl;simp only[ntmps127,ji,eP,iO,Nat.reduceAdd,Nat.reduceSub,jM,jL,jO,jN,gF,fV]
 gi_wp2
 obtain⟨U,hU⟩:∃U,(w.alloc (ai #[ag p.xn,ag p.xd,ag p.yn,ag p.yd] 233)).alloc (ai #[ak ⟨#[]⟩] 9)=U:=⟨_,rfl⟩;have F0:=Four.new w (ag p.xn) (ag p.xd) (ag p.yn) (ag p.yd) 233;have b0:=bZ w (ai #[ag p.xn,ag p.xd,ag p.yn,ag p.yd] 233);have b1:=bZ (w.alloc (ai #[ag p.xn,ag p.xd,ag p.yn,ag p.yd] 233)) (ai #[ak ⟨#[]⟩] 9);have S:=eO (w.alloc (ai #[ag p.xn,ag p.xd,ag p.yn,ag p.yd] 233)) (ai #[ak ⟨#[]⟩] 9);have F1:=F0.below b1 ay;rw[show(w.alloc (ai #[ag p.xn,ag p.xd,ag p.yn,ag p.yd] 233)).heap.size=w.heap.size+1 from by simp] at S;have bU:=aN b0 b1;rw[hU] at F1 S bU;rw[hU];clear hU F0 b0 b1;refine⟨trivial,(callsIn_wide.2 (MU o l.length n U)).mono ?_⟩;rintro e y ⟨rfl,J⟩;have b3:=bZ U (ai #[aj o l.length n] 84);have hX:y.heap[U.heap.size]? =some (ai #[aj o l.length n] 84):=by rw[J];exact eO U _
 rw[<- J] at b3;clear J;have M:=aN bU b3;have T:U.heap.size<y.heap.size:=(dZ.1 hX).1;have a7:=hP.below M ay;have h3:=h.below M ay;have TQ:=hE.below M ay;obtain⟨xs,V,E,X⟩:=a9v y l a7 m l.length ay;rw[gq] at E;have b6:w.heap.size+1<U.heap.size:=(dZ.1 S).1;have Kv:∀k,bkT U.heap.size o l k->k<y.heap.size/\k≠w.heap.size+1:=λk m=>by
  rcases m with rfl|⟨a8,b7,ho⟩
  .exact⟨T,aa⟩
  .cases l with
   |nil=>exact absurd rfl a8
   |cons a l=>
    obtain⟨b,b5,e1,h2⟩:=h 0 a rfl;rw[ho] at e1;cases e1;have m:=aR h2.c0;simp at m;exact⟨by have:=M.size;omega,aa⟩
 have N:ShI p w.heap.size (w.heap.size+1) 0 y:=ShI.below ⟨F1,S,bf _⟩ b3;have I0:ShI p w.heap.size (w.heap.size+1) y.heap.size y:=⟨N.f,N.r,Nat.le_refl _⟩;have H:xs.map (·.x.s)=(sP l).reverse:=by
  have:(xs.map (·.x)).map (·.s)=(l.reverse).map (·.s):=by rw[E]
  rw[List.map_map] at this;rw[sP,<- List.map_reverse,<- this];rfl
 have HM:=aA H;have Y:=a2U l y xs V E X hl o n (9-1) U.heap.size hX h3;clear N V E X H F1 S
 gi_wp2
 refine wpIn_rangeFunc_ownH rfl aa (gf:=254) (lb:=#[aI U.heap.size]) rfl trivial (enters_of func254 az rfl)
  Y xu.trans (xu.put (λk m=>(Kv k m).1)) (aQ _ _) (λ_=>rfl)
  (λpre W=>ShI p w.heap.size (w.heap.size+1) y.heap.size W/\aD w W/\aD y W/\Ht p pre)
  (λc pre W=>c=.ret/\∃v e,pre=v++[e]/\Ht p v/\holdB e.x.s.pts e.x.s.rule p=true/\W.heap[w.heap.size+1]? =some (ai #[ak e.x.s.fill] 9)/\aD w W)
  ?own ?akj
  ⟨I0,M,aQ _ _,λe he=>by cases he⟩
  (λx a' W=>∃Z,UF W Z 0 x.x/\a'={tmps:=#[aj o l.length n,qR p,undef,aI w.heap.size,.pointer (some ⟨w.heap.size+1,0,none⟩),undef,aI Z,undef,undef,aj o l.length n,.func (.func 254) #[] #[aI U.heap.size],ag x.ix,p5V x.x,undef,undef,undef,undef,undef,undef,undef,undef,undef,undef,undef,undef],defers:=[]})
  ?ag5
  ?assign ?body ?done ?stop
 case own=>
  intro pre A B F hs f z;obtain⟨t,g,d,C⟩:=hs;have q:∀r,F=some r->∃o:Obj,A.heap[r]? =some o/\o.isCells=false:=λr e=>(z r e).2;refine⟨⟨t.f.kept' f q,QH t.r aa f z,bu t.sz f.size⟩,?_,?_,C⟩
  .exact⟨f.os.trans g.os,f.tape.trans g.tape,f.output.trans g.output,bu g.size f.size,λk m=>(f.block k (dP m g.size) (λe=>by have:=(z k e.symm).1;omega)).trans (g.block k m)⟩
  .exact⟨f.os.trans d.os,f.tape.trans d.tape,f.output.trans d.output,bu d.size f.size,λk m=>(f.block k (dP m d.size) (λe=>by have:=(z k e.symm).1;omega)).trans (d.block k m)⟩
 case akj=>
  intro c pre A B F hs f z;obtain⟨hc,v,e,h1,h2,a9,h4,g⟩:=hs;exact⟨hc,v,e,h1,h2,a9,QH h4 aa f z,⟨f.os.trans g.os,f.tape.trans g.tape,f.output.trans g.output,bu g.size f.size,λk m=>(f.block k (dP m g.size) (λe=>by have:=(z k e.symm).1;omega)).trans (g.block k m)⟩⟩
 case ag5=>
  intro x a' s A B F hs f z;obtain⟨Z,hC,ha⟩:=hs;have q:∀r,F=some r->∃o:Obj,A.heap[r]? =some o/\o.isCells=false:=λr e=>(z r e).2;exact⟨Z,⟨cell_kept hC.c0 f q,cell_kept hC.c1 f q,cell_kept hC.c2 f q,cell_kept hC.c3 f q,cell_kept hC.c4 f q⟩,ha⟩
 case assign=>
  rintro L pre x W K ⟨t,g,d,C⟩ R
  gi_wp2
  have k1:=bZ W (ai (Al x.x) 115);exact R _ _ ((KeepsOthers.alloc _ _).from _) (xu.of_below k1 (λj hj=>by have h1:=(Kv j hj).1;have h2:=t.sz;omega)) ⟨t.below k1,aN g k1,aN d k1,C⟩ ⟨W.heap.size,UF.new W x.x 115,rfl⟩
 case body=>
  rintro L pre x a' W b8 z ⟨t,g,d,C⟩ ⟨Z,⟨x0,x1,x2,x3,x4⟩,rfl⟩ b9;have HO:=QF aB aS aZ aV x.x.s.pts x.x.o x.x.cap p x.x.s.rule W (x.hp.below d ay) hp (TQ.below d ay) x.ok.1 a6 x.ok.2;obtain⟨⟨z0,z1,z2,z3⟩,i,c0⟩:=id t;have cr:=xA i;have fr:=KJ i;have HI:=aA t;clear t i;cases I:holdB x.x.s.pts x.x.s.rule p with
  |false=>
   rw[I] at HO;have HH:=aA I;clear I
   gi_wp2_with (refine⟨trivial,?_⟩;gi_at_call 183;refine(CallsIn.inRound L (callsIn_wide.2 HO)).mono ?_;rintro e w' ⟨rfl,u⟩)
   exact⟨(yS u).from _,xu.of_below u (λj hj=>by have h1:=(Kv j hj).1;omega),HI.out.below u,aN g u,aN d u,C.snoc HH.out⟩
  |true=>
   rw[I] at HO;have HH:=aA I;clear I
   gi_wp2_with (refine⟨trivial,?_⟩;gi_at_call 183;refine(CallsIn.inRound L (callsIn_wide.2 HO)).mono ?_;rintro e w' ⟨rfl,u⟩;have c1:=(u.cell (aR cr)).trans cr;have c2:=(u.frozen (aR cr)).trans fr;have c3:=(u.cell (aR x2)).trans x2)
   have b2:=HI.out.below u;exact⟨((yS u).trans (gH _ _ _)).from _,rfl,pre,x,rfl,C,HH.out,QI b2.r _,(aN g u).setCell aG _⟩
 case done=>
  rintro D ys W hD rfl ⟨t,g,d,C⟩ R;have i:=t.r;have cr:=xA i;have fr:=KJ i;have O:jT (sP l) p=a7e:=by
   unfold jT;rw[<- HM.out];exact QD _ _ C.pm
  gi_wp2
  have a4:=(gH W ⟨w.heap.size+1,0,none⟩ (ak ⟨#[46]⟩)).same D _ R rfl;refine⟨aG,.inl ⟨_,_,rfl,run_takeDeferred a4,?_⟩⟩;have b4:=QI i (ak ⟨#[46]⟩);have P:=(nH (w:=W.setCell ⟨w.heap.size+1,0,none⟩ (ak ⟨#[46]⟩)) (o:=.deferred none) (show w.heap.size+1≠D by omega)).trans b4;have oc:=xA P;refine⟨ak ⟨#[46]⟩,?_,by rw[O];rfl,(g.setCell aG _).trans (belowK_b (w:=w) ay _ D _ _ (by have:=M.size;omega) a4 rfl rfl)⟩;simp[results,results127,go_sem,oc]
 case stop=>
  rintro D c pre W hD a5 ⟨rfl,v,e,rfl,C,I,i,g⟩ R;have O:jT (sP l) p=e.x.s.fill:=by
   unfold jT;obtain⟨rest,Q⟩:=a5;rw[<- HM.out,<- Q,iG,iG,kV];exact UD _ _ _ _ C.pm I
  gi_wp2
  refine⟨aG,.inl ⟨_,_,rfl,run_takeDeferred R,?_⟩⟩;have P:=(nH (w:=W) (o:=.deferred none) (show w.heap.size+1≠D by omega)).trans i;have oc:=xA P;refine⟨ak e.x.s.fill,?_,by rw[O],g.trans (belowK_b (w:=w) ay W D _ _ (by have:=M.size;omega) R rfl rfl)⟩;simp[results,results127,go_sem,oc]
theorem QJ (aB aS aZ c:Addr)(l:List P5)(o:Option Addr)(a:Nat)(p:Qt)(w:ah)(d:l.length<=1000)(h:jY w o l)(hP:kT w l)(f:∀x∈l,jU x.s)(hp:PI p)(b:jQ p=0)(hE:EP aB aS aZ c w):
  aJ 127 #[aj o l.length a,qR p] w λe W=>e=ax (ak (jT (sP l) p))/\aD w W:=callsIn_wide.1 (UH aB aS aZ c l o a p w d h hP f hp b hE)

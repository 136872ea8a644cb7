import Derived.Test.YtbkjmamcnflncaaGreatDoorQs26
namespace Go.Proofs.YtbkjmamcnflncaaGreatDoor
open Go.Proofs.Tryz
set_option maxHeartbeats 4000000
open Go.RowKit
set_option maxRecDepth 20000
theorem Jw (aB aS aZ:Addr)(x:P5)(y:Int)(By:Nat)(w:ah)(c:x.s.pts.length<=1000)(h:iw w x.o x.s.pts)(hE:E3 aB aS aZ w)(b:w.cell? (aH By 0)=some (ag y)):
  aJ 213 #[p5V x,aI By] w λe W=>e=ax (.bool (!bA x.s.pts y))/\aD w W:=by
 have a:=bZ w (ai (Al x) 115);have d:=Dv aB aS aZ x y (w.alloc (ai (Al x) 115)) c (h.below a ay) (hE.below a ay);have f:=(a.cell (aR b)).trans b;go_enter func213,ntmps213;go_wp2_with(go_at_call 126;refine d.mono ?_;rintro e i ⟨rfl,g⟩);go_ret;exact⟨rfl,aN a g⟩
theorem Ar (aB aS aZ:Addr)(l:List P5)(o:Option Addr)(c:Nat)(y:Int)(w:ah)(F:l.length<=1000)(h:E9 w o c l)(hP:kT w l)(hp:∀x∈l,x.s.pts.length<=1000)(hE:E3 aB aS aZ w):
  aJ 147 #[aj o l.length c,ag y] w λe W=>∃d a,e=ax (aj d (l.filter λx=>bA x.s.pts y).length a)/\jY W d (l.filter λx=>bA x.s.pts y)/\aD w W:=by
 obtain⟨k,f⟩:∃k,(l.filter λx=>bA x.s.pts y)=k:=⟨_,rfl⟩;rw[f];have m:Hid ((l.filter λx=> !!bA x.s.pts y)=k):=(by simpa using f:(l.filter λx=> !!bA x.s.pts y)=k);clear f;have n:=bZ w (ai #[ag y] 3);have g:=(kN w (ag y) 3).1;go_enter func147,ntmps147;go_upto_region 1 with fail;obtain⟨U,H⟩:∃U,w.alloc (ai #[ag y] 3)=U:=⟨_,rfl⟩;rw[H] at n g⊢;clear H;have p:=hP.below n ay;have I:=hE.below n ay;have K:=QN U o c l (h.below n) F;have J:a7h U.heap.size 213 w.heap.size U l (λx=> !bA x.s.pts y):=λx q V z=>Jw aB aS aZ x y w.heap.size V (hp x q) ((p x q).below z ay) (I.below z ay) ((z.cell (aR g)).trans g);have L:∀u j,Own5 j U.heap.size u l->aD U j->aJ 123 #[u,rfV 213 w.heap.size] j λe r=>∃d a,e=ax (aj d k.length a)/\jY r d k/\aD U r:=λu j A v=>by
  rcases A.rw with⟨rfl,rfl⟩|⟨b,a,rfl,B,C,D,E⟩
  .refine(KQ 213 w.heap.size (rT _ _ func213 az az) j).mono ?_;rintro e r ⟨rfl,s⟩;exact⟨none,0,by rw[<- m.out];rfl,λi x q=>by rw[<- m.out] at q;simp at q,aN v s⟩
  .refine(KN U.heap.size 213 w.heap.size (rT _ _ func213 az az) (λx=> !bA x.s.pts y) l b a U j F E B C D v J).mono ?_;rintro e r ⟨rfl,t,s, -⟩;exact⟨some ⟨b,0,none⟩,a,by rw[<- m.out],by rw[<- m.out];exact t.at_,s⟩
 clear J p I hP hE m h hp;go_wp2_with(first|(go_at_call 123;refine(L _ _ A v).mono ?_;rintro e r ⟨d,a,rfl,M,s⟩)|(go_at_call 124;refine K.mono ?_;rintro e j ⟨u,rfl,A,v⟩));go_ret;exact⟨d,a,rfl,M,aN n s⟩
def QW {c:Type}(a b:c)(e:Ending):Prop:=(a=b/\e=ax (.bool true))\/(a≠b/\e=ax (.bool false))
def eqQ (a b:Qt):Bool:=((a.xn==b.xn && a.xd==b.xd) && (a.yn==b.yn && a.yd==b.yd))
theorem a7v (a:Qt):eqQ a a=true:=by simp[eqQ]
theorem abB {a b:Qt}(h:a≠b):eqQ a b=false:=by
 cases a;cases b;unfold eqQ;grind
theorem abC (a b:Qt)(w:ah):(binOp .neq 233 (qR a) (qR b)).run prog w=.ok (.bool (!eqQ a b)) w:=by
 simp[qR,eqQ,go_sem,underlying233,underlying163,underlying3]
 repeat' split
 all_goals simp_all
theorem abD (a b:List Qt)(t u:Option Addr)(A B:Nat)(w:ah)(C:a.length<=10000)(D:iw w t a)(E:iw w u b):
  aJ 214 #[aj t a.length A,aj u b.length B] w λe W=>QW a b e/\aD w W:=by
 by_cases c:a.length=b.length
 .have n:((a.length:Int) !=(b.length:Int))=false:=by rw[c];simp
  have o:=aA c;clear c;go_enter func214,ntmps214;go_wp2_with fail
  go_loopw [13] (λi wr=>∃k:Nat,k<=a.length/\i=ag k/\a.take k=b.take k/\aD w wr) (λi _=>a.length-(intOf i).toNat)
  case atStart=>exact⟨0,bf _,rfl,rfl,aQ _ _⟩
  case round=>
   obtain⟨k,J,rfl,d,j⟩:=hrel;by_cases p:k<a.length
   .have v:(k:Int)<(a.length:Int):=aa;have F:(k:Int)<(b.length:Int):=by have:=o.out;omega
    obtain⟨x,q⟩:∃x,a[k]? =some x:=⟨_,eZ p⟩;obtain⟨y,r⟩:∃y,b[k]? =some y:=⟨_,eZ (by have:=o.out;omega)⟩;obtain⟨K,L,rfl,H⟩:=D.below j ay k x q;obtain⟨M,N,rfl,I⟩:=E.below j ay k y r;have m:Hid (a[k]? =some x/\b[k]? =some y):=⟨q,r⟩;clear q r;obtain⟨O,P,Q,R, -⟩:=H;obtain⟨S,T,U,V, -⟩:=I;have z:∀w,(binOp .neq 233 (.agg #[ag x.xn,ag x.xd,ag x.yn,ag x.yd]) (.agg #[ag y.xn,ag y.xd,ag y.yn,ag y.yd])).run prog w=.ok (.bool (!eqQ x y)) w:=abC x y;by_cases f:x=y
    .subst f;rw[a7v] at z;go_upto_region 6 with fail;go_region
     all_goals
      go_wp2_with fail
      go_roundw
      case rel=>exact⟨k+1,aa,by go_num,by rw[dS,dS,d,m.out.1,m.out.2],j.drew⟩
      case measure=>simp[intOf];omega
    .rw[abB f] at z;have g:a≠b:=λh=>f (by
      have:=m.out.1;rw[h,m.out.2] at this;cases this;rfl)
     go_upto_region 6 with fail;go_region
     all_goals
      go_wp2_with fail;go_ret;exact⟨.inr ⟨g,rfl⟩,j.drew⟩
   .obtain rfl:k=a.length:=aa;have s:a=b:=by
     rw[gq] at d;rw[o.out,gq] at d;exact d
    go_wp2_with fail;go_ret;exact⟨.inl ⟨s,rfl⟩,j⟩
 .have g:a≠b:=λh=>c (by rw[h]);have l:((a.length:Int)==(b.length:Int))=false:=by rw[dL];omega
  have n:((a.length:Int) !=(b.length:Int))=true:=by rw[bne,l];rfl
  clear c;go_enter func214,ntmps214;go_wp2_with fail;go_ret;exact⟨.inr ⟨g,rfl⟩,aQ _ _⟩
theorem QX (x y:P5)(w:ah)(p:x.s.pts.length<=10000)(i:iw w x.o x.s.pts)(j:iw w y.o y.s.pts):
  aJ 148 #[p5V x,p5V y] w λe W=>QW x.s y.s e/\aD w W:=by
 have k:=bZ w (ai (Al x) 115);have g:=bZ (w.alloc (ai (Al x) 115)) (ai (Al y) 115);have d:=aN k g;have l:=abD x.s.pts y.s.pts x.o y.o x.cap y.cap ((w.alloc (ai (Al x) 115)).alloc (ai (Al y) 115)) p (i.below d ay) (j.below d ay);by_cases a:x.s.fill=y.s.fill
 .have q:(x.s.fill.toList==y.s.fill.toList)=true:=by rw[a];simp
  by_cases c:x.s.rule=y.s.rule
  .have r:(x.s.rule.toList==y.s.rule.toList)=true:=by rw[c];simp
   have m:aJ 214 #[aj x.o x.s.pts.length x.cap,aj y.o y.s.pts.length y.cap] ((w.alloc (ai (Al x) 115)).alloc (ai (Al y) 115)) λe W=>∃b,e=ax (.bool b)/\Hid (QW x.s y.s (ax (.bool b))/\aD w W):=l.mono λe W ⟨f,o⟩=>by
    rcases f with⟨f,rfl⟩|⟨f,rfl⟩
    .refine⟨true,rfl,.inl ⟨?_,rfl⟩,aN d o⟩;cases s:x.s with
     |mk u v z=>
     cases t:y.s with
     |mk g A B=>
     rw[s,t] at a c f;simp only at a c f;rw[a,c,f]
    .exact⟨false,rfl,.inr ⟨λe=>f (by rw[e]),rfl⟩,aN d o⟩
   clear l k g d a c i j;go_enter func148,ntmps148;go_wp2_with(go_at_call 214;refine m.mono ?_;rintro e C ⟨b,rfl,h⟩);go_ret;exact h.out
  .have r:(x.s.rule.toList==y.s.rule.toList)=false:=dL.2 (λh=>c (ba_eq h));have n:x.s≠y.s:=λh=>c (by rw[h]);clear l k g a c i j;go_enter func148,ntmps148;go_wp2_with fail;go_ret;exact⟨.inr ⟨n,rfl⟩,d⟩
 .have q:(x.s.fill.toList==y.s.fill.toList)=false:=dL.2 (λh=>a (ba_eq h));have n:x.s≠y.s:=λh=>a (by rw[h]);clear l k g a i j;go_enter func148,ntmps148;go_wp2_with fail;go_ret;exact⟨.inr ⟨n,rfl⟩,d⟩
theorem abE (a b:List P5)(E F:Option Addr)(L M:Nat)(w:ah)(N:a.length<=10000)(O:jY w E a)(P:jY w F b)(r:kT w a)(s:kT w b)(t:∀x∈a,x.s.pts.length<=10000):
  aJ 146 #[aj E a.length L,aj F b.length M,.func (.func 148) #[] #[]] w λe W=>QW (sP a) (sP b) e/\aD w W:=by
 by_cases d:a.length=b.length
 .have u:((a.length:Int) !=(b.length:Int))=false:=by rw[d];simp
  have v:=aA d;clear d;go_enter func146,ntmps146;go_wp2_with fail
  go_loopw [17] (λi wr=>∃k:Nat,k<=a.length/\i=ag k/\sP (a.take k)=sP (b.take k)/\aD w wr) (λi _=>a.length-(intOf i).toNat)
  case atStart=>exact⟨0,bf _,rfl,rfl,aQ _ _⟩
  case round=>
   obtain⟨k,hk,rfl,g,j⟩:=hrel;by_cases z:k<a.length
   .have H:(k:Int)<(a.length:Int):=aa;have Q:(k:Int)<(b.length:Int):=by have:=v.out;omega
    obtain⟨x,m⟩:∃x,a[k]? =some x:=⟨_,eZ z⟩;obtain⟨y,o⟩:∃y,b[k]? =some y:=⟨_,eZ (by have:=v.out;omega)⟩;obtain⟨b1,f1,rfl,p0,p1,p2,p3,p4⟩:=O.below j ay k x m;obtain⟨b2,f2,rfl,I⟩:=P.below j ay k y o;have J:∀V,aD wr V->aJ 148 #[p5V x,p5V y] V λe W=>QW x.s y.s e/\aD V W:=λV K=>QX x y V (t x (gN m)) ((r x (gN m)).below (aN j K) ay) ((s y (gN o)).below (aN j K) ay);have l:=J ((wr.alloc (ai (Al x) 115)).alloc (ai (Al y) 115)) (aN (bZ _ _) (bZ _ _));have p:Hid (a[k]? =some x/\b[k]? =some y):=⟨m,o⟩;obtain⟨q0,q1,q2,q3,q4⟩:=id I;obtain⟨R,S,T,U,X⟩:=I.below (bZ wr (ai (Al x) 115)) ay;clear m o J;have q:=aN (bZ wr (ai (Al x) 115)) (bZ _ (ai (Al y) 115));by_cases f:x.s=y.s
    .have l:=l.mono (R':=λe W=>e=ax (.bool true)/\Hid (aD w W)) λe W ⟨c,A⟩=>by
      rcases c with⟨-,c⟩|⟨c, -⟩
      .exact⟨c,aN j (aN q A)⟩
      .exact absurd f c
     have B:=aA f;clear q f;go_wp2_with(go_at_call 148;refine l.mono ?_;rintro e Y ⟨rfl,c⟩)
     go_roundw
     case rel=>exact⟨k+1,aa,by go_num,by rw[dS,dS,p.out.1,p.out.2,sP,sP,iG,iG,show List.map (·.s) (a.take k)=_ from g];simp[B.out],c.out⟩
     case measure=>simp[intOf];omega
    .have l:=l.mono (R':=λe W=>e=ax (.bool false)/\Hid (aD w W)) λe W ⟨c,A⟩=>by
      rcases c with⟨c, -⟩|⟨-,c⟩
      .exact absurd c f
      .exact⟨c,aN j (aN q A)⟩
     have Z:Hid (sP a≠sP b):=(λh=>f (by
      have c:(sP a)[k]? =some x.s:=by rw[sP,iN,p.out.1];rfl
      rw[h,sP,iN,p.out.2] at c;exact(fF c).symm):sP a≠sP b)
     clear q;go_wp2_with(go_at_call 148;refine l.mono ?_;rintro e Y ⟨rfl,c⟩);go_ret;exact⟨.inr ⟨Z.out,rfl⟩,c.out⟩
   .obtain rfl:k=a.length:=aa;rw[gq] at g;have C:sP a=sP b:=by
     rw[g,v.out,gq]
    clear g;go_wp2_with fail;go_ret;exact⟨.inl ⟨C,rfl⟩,j⟩
 .have D:sP a≠sP b:=λh=>d (by have:=congrArg List.length h;simpa[sP] using this);have n:((a.length:Int)==(b.length:Int))=false:=by rw[dL];omega
  have u:((a.length:Int) !=(b.length:Int))=true:=by rw[bne,n];rfl
  clear d;go_enter func146,ntmps146;go_wp2_with fail;go_ret;exact⟨.inr ⟨D,rfl⟩,aQ _ _⟩
abbrev qX (a:Nat->Bool)(k:Nat):List Int:=((List.range k).filter a).map λ(y:Nat)=>(y:Int)
theorem Zq {a:Nat->Bool}{k:Nat}(h:a k=true):qX a (k+1)=qX a k++[(k:Int)]:=by
 simp[qX,List.range_succ,h]
theorem a3i {a:Nat->Bool}{k:Nat}(h:a k=false):qX a (k+1)=qX a k:=by
 simp[qX,List.range_succ,h]
theorem Zr (a:Nat->Bool)(k:Nat):(qX a k).length<=k:=by grind
theorem I8 {w:ah}{l:List P5}(h:kT w l)(p:P5->Bool):kT w (l.filter p):=λx a=>h x (lU.1 a).1
theorem Ef (aB aS aZ:Addr)(a b:List P5)(O P:Option Addr)(Q R h:Nat)(d:Nat->Bool)(w:ah)(S:a.length<=1000)(T:b.length<=1000)(ha:E9 w O Q a)(hb:E9 w P R b)(C:kT w a)(D:kT w b)(E:∀x∈a,x.s.pts.length<=1000)(U:∀x∈b,x.s.pts.length<=1000)(hE:E3 aB aS aZ w)(hh:h<=100)
  (F:∀y:Nat,d y=false↔sP (a.filter λx=>bA x.s.pts y)=sP (b.filter λx=>bA x.s.pts y)):
  aJ 86 #[aj O a.length Q,aj P b.length R,ag h] w λe W=>∃v,e=ax v/\W.ownsRow w.heap.size 3 1 v (qX d h).length (bO (qX d h))/\aD w W:=by
 obtain⟨i0,hi,X,Y,Z⟩:=info_parts zY;go_enter func86,ntmps86;go_wp2_with fail
 go_loopw [7,10] (λu i wr=>∃(k:Nat) (o:Option Addr) (n M:Nat),k<=h/\u=aj o n M/\i=ag k/\n=(qX d k).length/\wr.ownsRow w.heap.size 3 1 (aj o n M) n (bO (qX d k))/\aD w wr) (λ_ i _=>h-(intOf i).toNat)
 case atStart=>exact⟨0,none,0,0,bf _,rfl,rfl,rfl,gp _ _ _ _,aQ _ _⟩
 case round=>
  obtain⟨k,o,n,M,hk,rfl,rfl,hn,c,f⟩:=hrel;have HN:=aA hn;have a5:n<=k:=by rw[hn];exact Zr d k
  clear hn;by_cases a6:k<h
  .have a4:(k:Int)<(h:Int):=aa;have RA:=Ar aB aS aZ a O Q (k:Int) wr S (ha.below f) (C.below f ay) E (hE.below f ay);have RB:∀V,aD wr V->_:=λV r=>Ar aB aS aZ b P R (k:Int) V T (hb.below (aN f r)) (D.below (aN f r) ay) U (hE.below (aN f r) ay);have s:∀(V:ah) t H z I,aD wr V->jY V t (a.filter λx=>bA x.s.pts (k:Int))->jY V z (b.filter λx=>bA x.s.pts (k:Int))->aJ 146 #[aj t (a.filter λx=>bA x.s.pts (k:Int)).length H,aj z (b.filter λx=>bA x.s.pts (k:Int)).length I,.func (.func 148) #[] #[]] V λe W=>e=ax (.bool (!d k))/\aD V W:=λV t H z I r l J=>(abE _ _ t z H I V (bu (List.length_filter_le _ _) aa) l J (I8 (C.below (aN f r) ay) _) (I8 (D.below (aN f r) ay) _) (λx hx=>by have:=E x (lU.1 hx).1;omega)).mono λe W ⟨K,h4⟩=>by
     refine⟨?_,h4⟩;rcases K with⟨K,h5⟩|⟨K,h5⟩
     .rw[(F k).2 K];exact h5
     .have:d k=true:=by
       cases A:d k with
       |true=>rfl
       |false=>exact absurd ((F k).1 A) K
      rw[this];exact h5
   generalize (a.filter λx=>bA x.s.pts (k:Int))=fa at RA s;generalize (b.filter λx=>bA x.s.pts (k:Int))=fb at RB s;cases A:d k with
   |false=>
    rw[A] at s;have HR:=a3i A;have g:=aA HR;clear HR;go_wp2_with(first|(go_at_call 146;refine(s _ _ _ _ _ (aN m p) q J).mono ?_;rintro e w3 ⟨rfl,b3⟩)|(have N:=l;go_at_call 147;refine(RB _ m).mono ?_;rintro e w2 ⟨z,I,rfl,J,p⟩;have q:=l.below p ay)|(go_at_call 147;refine RA.mono ?_;rintro e w1 ⟨t,H,rfl,l,m⟩))
    go_roundw
    case rel=>
     have B:=aN m (aN p b3);exact⟨k+1,o,n,M,aa,rfl,by go_num,by rw[g.out];exact HN.out,by rw[g.out];exact bD c B,aN f B⟩
    case measure=>simp[intOf];omega
   |true=>
    rw[A] at s;have g:Hid (qX d (k+1)=qX d k++[(k:Int)]):=Zq A;go_upto_region 6 with(first|(go_at_call 146;refine(s _ _ _ _ _ (aN m p) q J).mono ?_;rintro e w3 ⟨rfl,b3⟩)|(have N:=l;go_at_call 147;refine(RB _ m).mono ?_;rintro e w2 ⟨z,I,rfl,J,p⟩;have q:=l.below p ay)|(go_at_call 147;refine RA.mono ?_;rintro e w1 ⟨t,H,rfl,l,m⟩));have B:=aN m (aN p b3);have wY:=ig (bD c B) (ai #[ag k] 3);have H0:=eO w3 (ai #[ag (k:Int)] 3);have a7:=B.size;have a8:=f.size;go_wp2_with(at_builtin;refine wpList_append_own _ rfl _ _ 35 rfl w.heap.size 3 i0 (ag 0) 1 8 underlying35 hi X Y Z rfl aC _ _ _ rfl wY ⟨w3.heap.size,0,none⟩ 1 1 [ag (k:Int)] rfl rfl (World.news_of_block H0) (λu N=>by simp at N;subst N;rfl) (by simp only[maxLen];omega) aa aX ?_;intro v7 w7 kz l9 _;obtain⟨o7,c7,rfl⟩:=bg kz)
    go_roundw
    case rel=>
     have L:(qX d (k+1)).length=n+1:=by rw[g.out,dJ,HN.out];rfl
     refine⟨k+1,o7,_,c7,aa,rfl,by go_num,by rw[L],?_,?_⟩
     .rw[g.out,bO,iG];exact kz
     .exact((aN f B).alloc aa _).grown l9 aX (λj hj=>(c.lt j hj).1)
    case measure=>simp[intOf];omega
  .obtain rfl:k=h:=aa;go_wp2_with fail;go_ret;exact⟨_,rfl,by rw[<- HN.out];exact c,f⟩

import Derived.Test.YtbkjmamcnflncaaGreatDoorQt26
namespace Go.Proofs.YtbkjmamcnflncaaGreatDoor
open Go.Proofs.Tryz
set_option maxHeartbeats 4000000
open Go.RowKit
set_option maxRecDepth 20000
theorem Kj (aB aS aZ:Addr)(x:P5)(y:Int)(By:Nat)(w:ai)(c:x.s.pts.length<=1000)(h:iH w x.o x.s.pts)(hE:E3 aB aS aZ w)(b:w.cell? (aJ By 0)=some (ag y)):
  aL 213 #[p5V x,aK By] w λe W=>e=ay (.bool (!bT x.s.pts y))/\aD w W:=by
 have a:=dz w (ak (Bq x) 115);have d:=Eu aB aS aZ x y (w.alloc (ak (Bq x) 115)) c (h.below a az) (hE.below a az);have f:=(a.cell (aX b)).trans b;go_enter func213,ntmps213;go_wp2_with(go_at_call 126;refine d.mono ?_;rintro e i ⟨rfl,g⟩);go_ret;exact⟨rfl,aP a g⟩
theorem BA (aB aS aZ:Addr)(l:List P5)(o:Option Addr)(c:Nat)(y:Int)(w:ai)(F:l.length<=1000)(h:EW w o c l)(hP:lq w l)(hp:∀x∈l,x.s.pts.length<=1000)(hE:E3 aB aS aZ w):
  aL 147 #[aj o l.length c,ag y] w λe W=>∃d a,e=ay (aj d (l.filter λx=>bT x.s.pts y).length a)/\kI W d (l.filter λx=>bT x.s.pts y)/\aD w W:=by
 obtain⟨k,f⟩:∃k,(l.filter λx=>bT x.s.pts y)=k:=⟨_,rfl⟩;rw[f];have m:Hid ((l.filter λx=> !!bT x.s.pts y)=k):=(by simpa using f:(l.filter λx=> !!bT x.s.pts y)=k);clear f;have n:=dz w (ak #[ag y] 3);have g:=(lg w (ag y) 3).1;go_enter func147,ntmps147;go_upto_region 1 with fail;obtain⟨U,H⟩:∃U,w.alloc (ak #[ag y] 3)=U:=⟨_,rfl⟩;rw[H] at n g⊢;clear H;have p:=hP.below n az;have I:=hE.below n az;have K:=RI U o c l (h.below n) F;have J:a81 U.heap.size 213 w.heap.size U l (λx=> !bT x.s.pts y):=λx q V z=>Kj aB aS aZ x y w.heap.size V (hp x q) ((p x q).below z az) (I.below z az) ((z.cell (aX g)).trans g);have L:∀u j,Own5 j U.heap.size u l->aD U j->aL 123 #[u,rfV 213 w.heap.size] j λe r=>∃d a,e=ay (aj d k.length a)/\kI r d k/\aD U r:=λu j A v=>by
  rcases A.rw with⟨rfl,rfl⟩|⟨b,a,rfl,B,C,D,E⟩
  .refine(LW 213 w.heap.size (tH _ _ func213 aA aA) j).mono ?_;rintro e r ⟨rfl,s⟩;exact⟨none,0,by rw[<- m.out];rfl,λi x q=>by rw[<- m.out] at q;simp at q,aP v s⟩
  .refine(LV U.heap.size 213 w.heap.size (tH _ _ func213 aA aA) (λx=> !bT x.s.pts y) l b a U j F E B C D v J).mono ?_;rintro e r ⟨rfl,t,s, -⟩;exact⟨some ⟨b,0,none⟩,a,by rw[<- m.out],by rw[<- m.out];exact t.at_,s⟩
 clear J p I hP hE m h hp;go_wp2_with(first|(go_at_call 123;refine(L _ _ A v).mono ?_;rintro e r ⟨d,a,rfl,M,s⟩)|(go_at_call 124;refine K.mono ?_;rintro e j ⟨u,rfl,A,v⟩));go_ret;exact⟨d,a,rfl,M,aP n s⟩
def Sa {α:Type}(a b:α)(e:Ending):Prop:=(a=b/\e=ay (.bool true))\/(a≠b/\e=ay (.bool false))
def eqQ (a b:Qt):Bool:=((a.xn==b.xn && a.xd==b.xd) && (a.yn==b.yn && a.yd==b.yd))
theorem a8m (a:Qt):eqQ a a=true:=by simp[eqQ]
theorem acC {a b:Qt}(h:a≠b):eqQ a b=false:=by
 cases a;cases b;unfold eqQ;grind
theorem acD (a b:Qt)(w:ai):(binOp .neq 233 (rT a) (rT b)).run prog w=.ok (.bool (!eqQ a b)) w:=by
 simp[rT,eqQ,go_sem,underlying233,underlying163,underlying3]
 repeat' split
 all_goals simp_all
theorem acE (a b:List Qt)(t u:Option Addr)(A B:Nat)(w:ai)(C:a.length<=10000)(D:iH w t a)(E:iH w u b):
  aL 214 #[aj t a.length A,aj u b.length B] w λe W=>Sa a b e/\aD w W:=by
 by_cases c:a.length=b.length
 .have n:((a.length:Int) !=(b.length:Int))=false:=by rw[c];simp
  have o:=aF c;clear c;go_enter func214,ntmps214;go_wp2_with fail
  go_loopw [13] (λi wr=>∃k:Nat,k<=a.length/\i=ag k/\a.take k=b.take k/\aD w wr) (λi _=>a.length-(intOf i).toNat)
  case atStart=>exact⟨0,bA _,rfl,rfl,aW _ _⟩
  case round=>
   obtain⟨k,J,rfl,d,j⟩:=hrel;by_cases p:k<a.length
   .have v:(k:Int)<(a.length:Int):=aa;have F:(k:Int)<(b.length:Int):=by have:=o.out;omega
    obtain⟨x,q⟩:∃x,a[k]? =some x:=⟨_,fD p⟩;obtain⟨y,r⟩:∃y,b[k]? =some y:=⟨_,fD (by have:=o.out;omega)⟩;obtain⟨K,L,rfl,H⟩:=D.below j az k x q;obtain⟨M,N,rfl,I⟩:=E.below j az k y r;have m:Hid (a[k]? =some x/\b[k]? =some y):=⟨q,r⟩;clear q r;obtain⟨O,P,Q,R, -⟩:=H;obtain⟨S,T,U,V, -⟩:=I;have z:∀w,(binOp .neq 233 (.agg #[ag x.xn,ag x.xd,ag x.yn,ag x.yd]) (.agg #[ag y.xn,ag y.xd,ag y.yn,ag y.yd])).run prog w=.ok (.bool (!eqQ x y)) w:=acD x y;by_cases f:x=y
    .subst f;rw[a8m] at z;go_upto_region 6 with fail;go_region
     all_goals
      go_wp2_with fail
      go_roundw
      case rel=>exact⟨k+1,aa,by go_num,by rw[eX,eX,d,m.out.1,m.out.2],j.drew⟩
      case measure=>simp[intOf];omega
    .rw[acC f] at z;have g:a≠b:=λh=>f (by
      have:=m.out.1;rw[h,m.out.2] at this;cases this;rfl)
     go_upto_region 6 with fail;go_region
     all_goals
      go_wp2_with fail;go_ret;exact⟨.inr ⟨g,rfl⟩,j.drew⟩
   .obtain rfl:k=a.length:=aa;have s:a=b:=by
     rw[gJ] at d;rw[o.out,gJ] at d;exact d
    go_wp2_with fail;go_ret;exact⟨.inl ⟨s,rfl⟩,j⟩
 .have g:a≠b:=λh=>c (by rw[h]);have l:((a.length:Int)==(b.length:Int))=false:=by rw[dW];omega
  have n:((a.length:Int) !=(b.length:Int))=true:=by rw[bne,l];rfl
  clear c;go_enter func214,ntmps214;go_wp2_with fail;go_ret;exact⟨.inr ⟨g,rfl⟩,aW _ _⟩
theorem Sb (x y:P5)(w:ai)(p:x.s.pts.length<=10000)(i:iH w x.o x.s.pts)(j:iH w y.o y.s.pts):
  aL 148 #[p5V x,p5V y] w λe W=>Sa x.s y.s e/\aD w W:=by
 have k:=dz w (ak (Bq x) 115);have g:=dz (w.alloc (ak (Bq x) 115)) (ak (Bq y) 115);have d:=aP k g;have l:=acE x.s.pts y.s.pts x.o y.o x.cap y.cap ((w.alloc (ak (Bq x) 115)).alloc (ak (Bq y) 115)) p (i.below d az) (j.below d az);by_cases a:x.s.fill=y.s.fill
 .have q:(x.s.fill.toList==y.s.fill.toList)=true:=by rw[a];simp
  by_cases c:x.s.rule=y.s.rule
  .have r:(x.s.rule.toList==y.s.rule.toList)=true:=by rw[c];simp
   have m:aL 214 #[aj x.o x.s.pts.length x.cap,aj y.o y.s.pts.length y.cap] ((w.alloc (ak (Bq x) 115)).alloc (ak (Bq y) 115)) λe W=>∃b,e=ay (.bool b)/\Hid (Sa x.s y.s (ay (.bool b))/\aD w W):=l.mono λe W ⟨f,o⟩=>by
    rcases f with⟨f,rfl⟩|⟨f,rfl⟩
    .refine⟨true,rfl,.inl ⟨?_,rfl⟩,aP d o⟩;cases s:x.s with
     |mk u v z=>
     cases t:y.s with
     |mk g A B=>
     rw[s,t] at a c f;simp only at a c f;rw[a,c,f]
    .exact⟨false,rfl,.inr ⟨λe=>f (by rw[e]),rfl⟩,aP d o⟩
   clear l k g d a c i j;go_enter func148,ntmps148;go_wp2_with(go_at_call 214;refine m.mono ?_;rintro e C ⟨b,rfl,h⟩);go_ret;exact h.out
  .have r:(x.s.rule.toList==y.s.rule.toList)=false:=dW.2 (λh=>c (ba_eq h));have n:x.s≠y.s:=λh=>c (by rw[h]);clear l k g a c i j;go_enter func148,ntmps148;go_wp2_with fail;go_ret;exact⟨.inr ⟨n,rfl⟩,d⟩
 .have q:(x.s.fill.toList==y.s.fill.toList)=false:=dW.2 (λh=>a (ba_eq h));have n:x.s≠y.s:=λh=>a (by rw[h]);clear l k g a i j;go_enter func148,ntmps148;go_wp2_with fail;go_ret;exact⟨.inr ⟨n,rfl⟩,d⟩
theorem acF (a b:List P5)(E F:Option Addr)(L M:Nat)(w:ai)(N:a.length<=10000)(O:kI w E a)(P:kI w F b)(r:lq w a)(s:lq w b)(t:∀x∈a,x.s.pts.length<=10000):
  aL 146 #[aj E a.length L,aj F b.length M,.func (.func 148) #[] #[]] w λe W=>Sa (sP a) (sP b) e/\aD w W:=by
 by_cases d:a.length=b.length
 .have u:((a.length:Int) !=(b.length:Int))=false:=by rw[d];simp
  have v:=aF d;clear d;go_enter func146,ntmps146;go_wp2_with fail
  go_loopw [17] (λi wr=>∃k:Nat,k<=a.length/\i=ag k/\sP (a.take k)=sP (b.take k)/\aD w wr) (λi _=>a.length-(intOf i).toNat)
  case atStart=>exact⟨0,bA _,rfl,rfl,aW _ _⟩
  case round=>
   obtain⟨k,hk,rfl,g,j⟩:=hrel;by_cases z:k<a.length
   .have H:(k:Int)<(a.length:Int):=aa;have Q:(k:Int)<(b.length:Int):=by have:=v.out;omega
    obtain⟨x,m⟩:∃x,a[k]? =some x:=⟨_,fD z⟩;obtain⟨y,o⟩:∃y,b[k]? =some y:=⟨_,fD (by have:=v.out;omega)⟩;obtain⟨b1,f1,rfl,p0,p1,p2,p3,p4⟩:=O.below j az k x m;obtain⟨b2,f2,rfl,I⟩:=P.below j az k y o;have J:∀V,aD wr V->aL 148 #[p5V x,p5V y] V λe W=>Sa x.s y.s e/\aD V W:=λV K=>Sb x y V (t x (ic m)) ((r x (ic m)).below (aP j K) az) ((s y (ic o)).below (aP j K) az);have l:=J ((wr.alloc (ak (Bq x) 115)).alloc (ak (Bq y) 115)) (aP (dz _ _) (dz _ _));have p:Hid (a[k]? =some x/\b[k]? =some y):=⟨m,o⟩;obtain⟨q0,q1,q2,q3,q4⟩:=id I;obtain⟨R,S,T,U,X⟩:=I.below (dz wr (ak (Bq x) 115)) az;clear m o J;have q:=aP (dz wr (ak (Bq x) 115)) (dz _ (ak (Bq y) 115));by_cases f:x.s=y.s
    .have l:=l.mono (R':=λe W=>e=ay (.bool true)/\Hid (aD w W)) λe W ⟨c,A⟩=>by
      rcases c with⟨-,c⟩|⟨c, -⟩
      .exact⟨c,aP j (aP q A)⟩
      .exact absurd f c
     have B:=aF f;clear q f;go_wp2_with(go_at_call 148;refine l.mono ?_;rintro e Y ⟨rfl,c⟩)
     go_roundw
     case rel=>exact⟨k+1,aa,by go_num,by rw[eX,eX,p.out.1,p.out.2,sP,sP,iK,iK,show List.map (·.s) (a.take k)=_ from g];simp[B.out],c.out⟩
     case measure=>simp[intOf];omega
    .have l:=l.mono (R':=λe W=>e=ay (.bool false)/\Hid (aD w W)) λe W ⟨c,A⟩=>by
      rcases c with⟨c, -⟩|⟨-,c⟩
      .exact absurd c f
      .exact⟨c,aP j (aP q A)⟩
     have Z:Hid (sP a≠sP b):=(λh=>f (by
      have c:(sP a)[k]? =some x.s:=by rw[sP,jv,p.out.1];rfl
      rw[h,sP,jv,p.out.2] at c;exact(fT c).symm):sP a≠sP b)
     clear q;go_wp2_with(go_at_call 148;refine l.mono ?_;rintro e Y ⟨rfl,c⟩);go_ret;exact⟨.inr ⟨Z.out,rfl⟩,c.out⟩
   .obtain rfl:k=a.length:=aa;rw[gJ] at g;have C:sP a=sP b:=by
     rw[g,v.out,gJ]
    clear g;go_wp2_with fail;go_ret;exact⟨.inl ⟨C,rfl⟩,j⟩
 .have D:sP a≠sP b:=λh=>d (by have:=congrArg List.length h;simpa[sP] using this);have n:((a.length:Int)==(b.length:Int))=false:=by rw[dW];omega
  have u:((a.length:Int) !=(b.length:Int))=true:=by rw[bne,n];rfl
  clear d;go_enter func146,ntmps146;go_wp2_with fail;go_ret;exact⟨.inr ⟨D,rfl⟩,aW _ _⟩
abbrev rY (a:Nat->Bool)(k:Nat):List Int:=((List.range k).filter a).map λ(y:Nat)=>(y:Int)
theorem a05 {a:Nat->Bool}{k:Nat}(h:a k=true):rY a (k+1)=rY a k++[(k:Int)]:=by
 simp[rY,List.range_succ,h]
theorem a3W {a:Nat->Bool}{k:Nat}(h:a k=false):rY a (k+1)=rY a k:=by
 simp[rY,List.range_succ,h]
theorem a06 (a:Nat->Bool)(k:Nat):(rY a k).length<=k:=by grind
theorem J2 {w:ai}{l:List P5}(h:lq w l)(p:P5->Bool):lq w (l.filter p):=λx a=>h x (mD.1 a).1
theorem F6 (aB aS aZ:Addr)(a b:List P5)(O P:Option Addr)(Q R h:Nat)(d:Nat->Bool)(w:ai)(S:a.length<=1000)(T:b.length<=1000)(ha:EW w O Q a)(hb:EW w P R b)(C:lq w a)(D:lq w b)(E:∀x∈a,x.s.pts.length<=1000)(U:∀x∈b,x.s.pts.length<=1000)(hE:E3 aB aS aZ w)(hh:h<=100)
  (F:∀y:Nat,d y=false↔sP (a.filter λx=>bT x.s.pts y)=sP (b.filter λx=>bT x.s.pts y)):
  aL 86 #[aj O a.length Q,aj P b.length R,ag h] w λe W=>∃v,e=ay v/\W.ownsRow w.heap.size 3 1 v (rY d h).length (di (rY d h))/\aD w W:=by
 obtain⟨i0,hi,X,Y,Z⟩:=info_parts AB;go_enter func86,ntmps86;go_wp2_with fail
 go_loopw [7,10] (λu i wr=>∃(k:Nat) (o:Option Addr) (n M:Nat),k<=h/\u=aj o n M/\i=ag k/\n=(rY d k).length/\wr.ownsRow w.heap.size 3 1 (aj o n M) n (di (rY d k))/\aD w wr) (λ_ i _=>h-(intOf i).toNat)
 case atStart=>exact⟨0,none,0,0,bA _,rfl,rfl,rfl,gp _ _ _ _,aW _ _⟩
 case round=>
  obtain⟨k,o,n,M,hk,rfl,rfl,hn,c,f⟩:=hrel;have HN:=aF hn;have a5:n<=k:=by rw[hn];exact a06 d k
  clear hn;by_cases a6:k<h
  .have a4:(k:Int)<(h:Int):=aa;have RA:=BA aB aS aZ a O Q (k:Int) wr S (ha.below f) (C.below f az) E (hE.below f az);have RB:∀V,aD wr V->_:=λV r=>BA aB aS aZ b P R (k:Int) V T (hb.below (aP f r)) (D.below (aP f r) az) U (hE.below (aP f r) az);have s:∀(V:ai) t H z I,aD wr V->kI V t (a.filter λx=>bT x.s.pts (k:Int))->kI V z (b.filter λx=>bT x.s.pts (k:Int))->aL 146 #[aj t (a.filter λx=>bT x.s.pts (k:Int)).length H,aj z (b.filter λx=>bT x.s.pts (k:Int)).length I,.func (.func 148) #[] #[]] V λe W=>e=ay (.bool (!d k))/\aD V W:=λV t H z I r l J=>(acF _ _ t z H I V (bO (List.length_filter_le _ _) aa) l J (J2 (C.below (aP f r) az) _) (J2 (D.below (aP f r) az) _) (λx hx=>by have:=E x (mD.1 hx).1;omega)).mono λe W ⟨K,h4⟩=>by
     refine⟨?_,h4⟩;rcases K with⟨K,h5⟩|⟨K,h5⟩
     .rw[(F k).2 K];exact h5
     .have:d k=true:=by
       cases A:d k with
       |true=>rfl
       |false=>exact absurd ((F k).1 A) K
      rw[this];exact h5
   generalize (a.filter λx=>bT x.s.pts (k:Int))=fa at RA s;generalize (b.filter λx=>bT x.s.pts (k:Int))=fb at RB s;cases A:d k with
   |false=>
    rw[A] at s;have HR:=a3W A;have g:=aF HR;clear HR;go_wp2_with(first|(go_at_call 146;refine(s _ _ _ _ _ (aP m p) q J).mono ?_;rintro e w3 ⟨rfl,b3⟩)|(have N:=l;go_at_call 147;refine(RB _ m).mono ?_;rintro e w2 ⟨z,I,rfl,J,p⟩;have q:=l.below p az)|(go_at_call 147;refine RA.mono ?_;rintro e w1 ⟨t,H,rfl,l,m⟩))
    go_roundw
    case rel=>
     have B:=aP m (aP p b3);exact⟨k+1,o,n,M,aa,rfl,by go_num,by rw[g.out];exact HN.out,by rw[g.out];exact bY c B,aP f B⟩
    case measure=>simp[intOf];omega
   |true=>
    rw[A] at s;have g:Hid (rY d (k+1)=rY d k++[(k:Int)]):=a05 A;go_upto_region 6 with(first|(go_at_call 146;refine(s _ _ _ _ _ (aP m p) q J).mono ?_;rintro e w3 ⟨rfl,b3⟩)|(have N:=l;go_at_call 147;refine(RB _ m).mono ?_;rintro e w2 ⟨z,I,rfl,J,p⟩;have q:=l.below p az)|(go_at_call 147;refine RA.mono ?_;rintro e w1 ⟨t,H,rfl,l,m⟩));have B:=aP m (aP p b3);have yP:=iF (bY c B) (ak #[ag k] 3);have H0:=fE w3 (ak #[ag (k:Int)] 3);have a7:=B.size;have a8:=f.size;go_wp2_with(at_builtin;refine wpList_append_own _ rfl _ _ 35 rfl w.heap.size 3 i0 (ag 0) 1 8 underlying35 hi X Y Z rfl aC _ _ _ rfl yP ⟨w3.heap.size,0,none⟩ 1 1 [ag (k:Int)] rfl rfl (World.news_of_block H0) (λu N=>by simp at N;subst N;rfl) (by simp only[maxLen];omega) aa bq ?_;intro v7 w7 kN lJ _;obtain⟨o7,c7,rfl⟩:=bD kN)
    go_roundw
    case rel=>
     have L:(rY d (k+1)).length=n+1:=by rw[g.out,dO,HN.out];rfl
     refine⟨k+1,o7,_,c7,aa,rfl,by go_num,by rw[L],?_,?_⟩
     .rw[g.out,di,iK];exact kN
     .exact((aP f B).alloc aa _).grown lJ bq (λj hj=>(c.lt j hj).1)
    case measure=>simp[intOf];omega
  .obtain rfl:k=h:=aa;go_wp2_with fail;go_ret;exact⟨_,rfl,by rw[<- HN.out];exact c,f⟩

import Derived.Test.YtbkjmamcnflncaaGreatDoorQs41
namespace Go.Proofs.YtbkjmamcnflncaaGreatDoor
open Go.Proofs.Tryz
set_option maxHeartbeats 8000000
section
open Go.RowKit Go.Shelf
set_option maxRecDepth 20000
abbrev afV (a b:Nat):au:=.func (.func 102) #[] #[aI a,aI b]
def acJ (a b c:Nat)(w:ah)(l:List Int)(q:Int->Bool):Prop:=∀x∈l,∀V,Below a w V->aJ 102 #[ag x,aI b,aI c] V λe W=>e=.returned (.bool (q x))/\aD V W
def zz (w:ah)(a b c n:Nat)(l:List Int):Prop:=w.ownsRow a 3 1 (.slice (some ⟨b,0,none⟩) n c) n (bO l)
theorem zz.cell {w:ah}{a b c n:Nat}{l:List Int}(h:zz w a b c n l){i:Nat}{x:Int}(d:l[i]? =some x):w.cell? (aH b i)=some (ag x):=by
 obtain⟨g,e,f⟩:=dO h i _ (pQ d);cases e;exact f
theorem zz.len {w:ah}{a b c n:Nat}{l:List Int}(h:zz w a b c n l):l.length=n:=by
 have:=h.1;rw[pO,Nat.mul_one] at this;exact this
theorem zz.lt {w:ah}{a b c n:Nat}{l:List Int}(h:zz w a b c n l):a<=b/\b<w.heap.size:=World.ownsRow.lt h b rfl
theorem zz.below {w w':ah}{a b c n:Nat}{l:List Int}(h:zz w a b c n l)(d:aD w w'):zz w' a b c n l:=bD h d
theorem zz.set {w:ah}{a b c n:Nat}{l:List Int}(h:zz w a b c n l)(i:Nat)(x:Int):zz (w.setCell ⟨b,i,none⟩ (ag x)) a b c n (l.set i x):=by
 unfold zz;have e:bO (l.set i x)=(bO l).set i (ag x):=by unfold bO;rw[List.map_set]
 rw[e];exact(World.ownsRow.stored h i _).1
theorem zz.zero {w:ah}{a b c n:Nat}{l:List Int}(h:zz w a b c n l):∀(m o:Nat),∃d:List Int,zz (w.setCells b o (List.replicate m (ag 0))) a b c n d/\d.take o=l.take o
 |0,o=>⟨l,h,rfl⟩
 |m+1,o=>by
  have f:=h.set o 0;obtain⟨d,g,i⟩:=zz.zero f m (o+1);refine⟨d,g,?_⟩;have e:=congrArg (List.take o) i;rw[List.take_take,List.take_take,Nat.min_eq_left aa,List.take_set_of_le ay] at e;exact e
theorem zz.cut {w:ah}{a b d n:Nat}{l:List Int}(h:zz w a b d n l){k:Nat}(q:k<=n):zz w a b d k (l.take k):=by
 have r:=h.len;rcases h.2 with⟨f, -⟩|⟨g,c,i,f,j,m,s,o,p,t⟩
 .cases f
 .cases f;refine⟨by rw[pO,iV];omega,.inr ⟨b,d,i,rfl,j,m,aa,o,p,?_⟩⟩;have e:bO (l.take k)=(bO l).take k:=by unfold bO;rw[List.map_take]
  grind
theorem uR {B b:Nat}{a:ah}(c:B<=b):∀(vs:List au) (o:Nat) (w:ah),Below B a w->Below B a (w.setCells b o vs)
 |[],_,_,h=>h
 |_::vs,_,_,h=>uR c vs _ _ (h.setCell c _)
def alS (q:Int->Bool)(l:List Int)(n:Int):Prop:=((∀x∈l,q x=false)/\n= -1)\/∃(k:Nat) (x:Int),l[k]? =some x/\(∀y∈l.take k,q y=false)/\q x=true/\n=k
theorem acK (c B C:Nat)(q:Int->Bool)(l:List Int)(F b j:Nat)(w0 w:ah)(h:zz w F b j l.length l)(u:Below c w0 w)(d:c<=w.heap.size)(M:l.length<=1000000)(H:acJ c B C w0 l q):
  aJ 163 #[.slice (some ⟨b,0,none⟩) l.length j,afV B C] w λe W=>(∃n:Int,e=.returned (ag n)/\alS q l n)/\aD w W:=by
 go_enter func163,ntmps163;go_wp2
 go_loopw [8] (λi wr=>∃k:Nat,k<=l.length/\i=ag k/\(∀x∈l.take k,q x=false)/\aD w wr) (λi _=>l.length-(intOf i).toNat)
 case atStart=>exact⟨0,bf _,rfl,(λa I=>by simp at I),aQ _ _⟩
 case round=>
  obtain⟨k,N,rfl,m,o⟩:=hrel;have f:=aA m;clear m;by_cases v:k<l.length
  .have D:(k:Int)<(l.length:Int):=aa;obtain⟨x,r⟩:∃x,l[k]? =some x:=⟨_,eZ v⟩;have p:x∈l:=gN r;have O:=(h.below o).cell r;have s:=H x p wr (u.trans (o.mono d));have E:=aA r;clear r;cases t:q x with
   |false=>
    rw[t] at s;go_wp2_with(go_at_call 102;refine s.mono ?_;rintro e J ⟨rfl,z⟩)
    go_roundw
    case rel=>exact⟨k+1,aa,by go_num,λy g=>by rw[dS,E.out] at g;rcases gT.1 g with g|g;exact f.out y g;simp at g;subst g;exact t,aW o z⟩
    case measure=>simp[intOf];omega
   |true=>
    rw[t] at s;go_wp2_with(go_at_call 102;refine s.mono ?_;rintro e J ⟨rfl,z⟩);go_ret;exact⟨⟨k,rfl,.inr ⟨k,x,E.out,f.out,t,rfl⟩⟩,aW o z⟩
  .have K:¬(k:Int)<(l.length:Int):=aa;have A:=f.out;rw[jg aa] at A;have L:=aA A;clear A;go_wp2_with fail;go_ret;exact⟨⟨-1,rfl,.inl ⟨L.out,rfl⟩⟩,o⟩
theorem IU (w:ah)(g:TypeId)(b o n c:Nat)(i:0<n)(hc:∀j,j<n->(w.cell? (aH b (o+j))).isSome=true)(h:∀j,j<n->w.frozen? ⟨b,o+j,none⟩=false):
  (Builtin.clear_ #[35] g #[.slice (some ⟨b,o,none⟩) n c]).run prog w=.ok (.tuple #[]) (w.setCells b o (List.replicate n (ag 0))):=by
 have d:∀w,(zeroValue 3).run prog w=.ok (ag 0) w:=λw=>az;have e:(Builtin.zeroCells (Value.int .i64 0).cells n).toList=List.replicate n (ag 0):=by
  apply List.ext_getElem?;intro j;by_cases f:j<n
  .simp[Builtin.zeroCells,Value.cells,f,Nat.mod_one]
  .simp[Builtin.zeroCells,Value.cells,f]
 have a:=run_storeCells_cells (P:=prog) b o (List.replicate n (ag 0)) 0 w (by rw[List.length_replicate];simpa using hc) (by rw[List.length_replicate];simpa using h) (λv d=>by rw[List.eq_of_mem_replicate d];rfl);simp only[Nat.add_zero] at a;rw[<- e] at a;obtain⟨m,rfl⟩:∃m,n=m+1:=⟨n-1,aa⟩;rw[<- e];simp[Builtin.clear_,run_underlying underlying35,d,a]
structure JG (q:Int->Bool)(l:List Int)(bb b cap base:Nat)(w0:ah)(i j:Nat)(l':List Int)(w:ah):Prop where
 lt:i<j
 le:j<=l.length
 kept:l'.take i=(l.take j).filter λx=> !q x
 rest:l'.drop j=l.drop j
 row:zz w bb b cap l.length l'
 Eb:Below base w0 w
theorem IW {q:Int->Bool}{l:List Int}(h:∀x∈l,q x=false):(l.filter λx=> !q x)=l:=List.filter_eq_self.2 (λx a=>by rw[h x a];rfl)
theorem JG.skip {q:Int->Bool}{l:List Int}{e b d a:Nat}{w0:ah}{i j:Nat}{f:List Int}{w w':ah}{x:Int}(h:JG q l e b d a w0 i j f w)(k:l[j]? =some x)(m:q x=true)(g:aD w w')(c:a<=w.heap.size):JG q l e b d a w0 i (j+1) f w':=by
 have n:j<l.length:=by grind
 refine⟨by have:=h.lt;omega,n,?_,?_,h.row.below g,h.Eb.trans (g.mono c)⟩
 .rw[h.kept,dS,k,List.filter_append];simp[m]
 .rw[<- mP,h.rest,mP]
theorem JG.keep {q:Int->Bool}{l:List Int}{k b d a:Nat}{w0:ah}{i j:Nat}{e:List Int}{w w':ah}{x:Int}(h:JG q l k b d a w0 i j e w)(n:l[j]? =some x)(o:q x=false)(m:aD w w')(c:a<=w.heap.size)(f:a<=b):JG q l k b d a w0 (i+1) (j+1) (e.set i x) (w'.setCell ⟨b,i,none⟩ (ag x)):=by
 have r:j<l.length:=by grind
 have t:=h.row.len;have s:i<e.length:=by have:=h.lt;have:=h.le;omega
 have g:=h.Eb.trans (m.mono c);refine⟨by have:=h.lt;omega,r,?_,?_,(h.row.below m).set i x,g.setCell (p:=⟨b,i,none⟩) f _⟩
 .rw[dS,List.take_set_of_le ay,h.kept,List.getElem?_set_self s,dS,n,List.filter_append];simp[o]
 .rw[List.drop_set_of_lt (by have:=h.lt;omega),<- mP,h.rest,mP]
theorem JG.start {q:Int->Bool}{l:List Int}{e b c a:Nat}{w0 w:ah}{k:Nat}{x:Int}(f:zz w e b c l.length l)(g:Below a w0 w)(h:l[k]? =some x)(d:∀y∈l.take k,q y=false)(i:q x=true):JG q l e b c a w0 k (k+1) l w:=by
 have j:k<l.length:=by grind
 refine⟨aa,j,?_,rfl,f,g⟩;rw[dS,h,List.filter_append,IW d];simp[i]
theorem a8B (a T U:Nat)(q:Int->Bool)(l:List Int)(E b d:Nat)(w0 w:ah)(hl:l.length<=1000000)(F:zz w E b d l.length l)(H:a<=b)(I:Below a w0 w)(hq:acJ a T U w0 l q):
  aJ 100 #[.slice (some ⟨b,0,none⟩) l.length d,afV T U] w λe W=>e=.returned (.slice (some ⟨b,0,none⟩) (l.filter λx=> !q x).length d)/\zz W E b d (l.filter λx=> !q x).length (l.filter λx=> !q x)/\Below a w0 W:=by
 have a5:=F.lt.2;have r:a<=w.heap.size:=aa;have a4:l.length<=d:=by
  rcases F.2 with⟨p, -⟩|⟨g,c,a6,p,h2,h3,h4, -⟩
  .cases p
  .cases p;exact h4
 have IX:=acK a T U q l E b d w0 w F I r hl hq;go_enter func100,ntmps100;go_upto_region 2 with(go_at_call 163;refine IX.mono ?_;rintro e w1 ⟨⟨n,rfl,hn⟩,b1⟩);clear IX;have A:=F.below b1;have B:=I.trans (b1.mono r);rcases hn with⟨f,rfl⟩|⟨k,x,s,f,C,rfl⟩
 .have HA:Hid ((l.filter λx=> !q x)=l):=IW f;clear f;go_wp2_with fail;go_ret;rw[HA.out];exact⟨rfl,A,B⟩
 .have D0:=JG.start A B s f C;have hk:k<l.length:=(kQ.1 s).1;have a7:((k:Int)== -1)=false:=dL.2 aa;clear s f C A B F;go_wp2_with fail
  go_loopw [5,6] (λu v wr=>∃(i j:Nat) (t:List Int),u=ag i/\v=ag j/\JG q l E b d a w0 i j t wr) (λ_ v _=>l.length-(intOf v).toNat)
  case atStart=>exact⟨k,k+1,l,rfl,by go_num,D0⟩
  case round=>
   obtain⟨i,j,t,rfl,rfl,h⟩:=hrel;have a8:=h.lt;have a9:=h.le;have b0:=h.row.len;have J:a<=wr.heap.size:=by have:=h.row.lt;omega
   by_cases V:j<l.length
   .have L:(j:Int)<(l.length:Int):=aa;have b2:(i:Int)<(l.length:Int):=aa;obtain⟨x,s⟩:∃x,l[j]? =some x:=⟨_,eZ V⟩;have M:x∈l:=gN s;have N:t[j]? =some x:=by
     have p:(t.drop j)[0]? =some x:=by rw[h.rest,List.getElem?_drop];exact s
     rw[List.getElem?_drop] at p;exact p
    have c0:=h.row.cell N;have S:=hq x M wr h.Eb;have HX:=aA s;clear s N;cases C:q x with
    |true=>
     rw[C] at S;go_wp2_with(go_at_call 102;refine S.mono ?_;rintro e w2 ⟨rfl,O⟩)
     go_roundw
     case rel=>exact⟨i,j+1,t,rfl,by go_num,h.skip HX.out C O J⟩
     case measure=>simp[intOf];omega
    |false=>
     rw[C] at S;obtain⟨P,z⟩:∃P,t[i]? =some P:=⟨_,eZ aa⟩;have ci:=h.row.cell z;go_upto_region 9 with(go_at_call 102;refine S.mono ?_;rintro e w2 ⟨rfl,O⟩);have b4:=(O.cell (aK ci)).trans ci;have b5:=World.ownsRow.frozenAt (h.row.below O) i;have K:=h.keep HX.out C O J H;clear z;go_wp2_with fail
     go_roundw
     case rel=>exact⟨i+1,j+1,_,by go_num,by go_num,K⟩
     case measure=>simp[intOf];omega
   .have Q:j=l.length:=aa;have L:¬(j:Int)<(l.length:Int):=aa;have X:0<l.length-i:=aa;have b6:∀Y,(Builtin.clear_ #[35] Y #[.slice (some ⟨b,i,none⟩) (l.length-i) (d-i)]).run prog wr=.ok (.tuple #[]) (wr.setCells b i (List.replicate (l.length-i) (ag 0))):=λY=>IU wr Y b i (l.length-i) (d-i) X (λm hm=>by
     obtain⟨y,hy⟩:∃y,t[i+m]? =some y:=⟨_,eZ aa⟩;rw[h.row.cell hy];rfl) (λm _=>World.ownsRow.frozenAt h.row _)
    have b7:(i:Int)<(d:Int):=aa;have b8:(i:Int)<(l.length:Int):=aa;have b9:¬d-i=0:=aa;have o:t.take i=l.filter λx=> !q x:=by
     have p:=h.kept;rw[Q,gq] at p;exact p
    have D:(l.filter λx=> !q x).length=i:=by
     rw[<- o,iV];omega
    obtain⟨l2,hz,R⟩:=h.row.zero (l.length-i) i;have K:zz (wr.setCells b i (List.replicate (l.length-i) (ag 0))) E b d (l.filter λx=> !q x).length (l.filter λx=> !q x):=by
     have p:=hz.cut (k:=i) aa;rw[R,o] at p;rw[D];exact p
    have HF:=aA D;have Z:=uR H (List.replicate (l.length-i) (ag 0)) i wr h.Eb;clear D o hz R Q;go_wp2_with fail;go_ret;exact⟨by rw[HF.out];rfl,K,Z⟩
end
open Go.RowKit Go.Maps Go.Shelf
set_option maxRecDepth 20000
def agQ (W:ah)(a:Nat)(v:au)(L:List Int):Prop:=∃b k,v=aj (some ⟨b,0,none⟩) L.length k/\zz W a b k L.length L
section
variable {B:Nat}{A:dm}{W:ah}{DB D:Nat}{p:Int->Option Nat}{M:Dm}{nx c:Nat}{r:Int->Nat}
theorem a8C (h:j5 B A W DB D p M nx c r)(hF:E8 M)(s:Bs)(hs:s.length<=1000000)(z:s≠[]):
  aJ 55 #[aI DB,.agg #[bV s]] W λe w'=>(∃v,e=ax v/\agQ w' W.heap.size v ((dM M 11 0).filter (o6 M s)))/\aD W w':=by
 have J:=eO W (ai #[aI DB] 74);have C:=eO (W.alloc (ai #[aI DB] 74)) (ai #[bV s] 105);rw[dK] at C;have n:((W.alloc (ai #[aI DB] 74)).alloc (ai #[bV s] 105)).heap[W.heap.size]? =some (ai #[aI DB] 74):=(Below.heap_alloc _ _ _ (by rw[dK];omega)).trans J;have j:aD W ((W.alloc (ai #[aI DB] 74)).alloc (ai #[bV s] 105)):=((aQ _ W).alloc ay _).alloc (by rw[dK];omega) _;obtain⟨E,F⟩:=h.QC;obtain⟨L0,b, -,q⟩:=h.all;have d:∀y∈dM M 11 0,∃e,M y=some e:=λy u=>by
  rw[b] at u;rcases gD.1 u with rfl|u
  .obtain⟨e,H, -⟩:=h.d.root;exact⟨e,H⟩
  .exact(q y u).2
 have t:0<(dM M 11 0).length:=by rw[b];simp
 have w:=λU (Y:aD W U)=>Wy (h.below Y).w 11 aa E aa;obtain⟨L,K⟩:∃L,dM M 11 0=L:=⟨_,rfl⟩;simp only[K] at w d F t⊢;clear J K b q;go_enter func55,ntmps55;go_upto_region 1 with fail;obtain⟨U,N⟩:∃U,(W.alloc (ai #[aI DB] 74)).alloc (ai #[bV s] 105)=U:=⟨_,rfl⟩;rw[N] at n C j⊢;clear N;have Z:=h.below j;have w:=w U j;have O:=dB n;have P:=dB C;have Q:acJ U.heap.size (W.heap.size+1) W.heap.size U L (λx=> !o6 M s x):=λm hm V f=>by
  obtain⟨e,H⟩:=d m hm;have i:=Z.below f;exact a4x i.w i.d hF s hs z m (i.w.i64 H) (W.heap.size+1) W.heap.size ((f.cell (aK P)).trans P) ((f.cell (aK O)).trans O)
 have a:(L.filter λx=> !(λx=> !o6 M s x) x)=L.filter (o6 M s):=by
  congr 1;funext x;simp
 have DF:∀V o k,aD U V->V.ownsRow (U.heap.size+1) 3 1 (aj o L.length k) L.length (bO L)->aJ 100 #[aj o L.length k,.func (.func 102) #[] #[.pointer (some ⟨W.heap.size+1,0,none⟩),aI W.heap.size]] V λe w'=>(∃v,e=ax v/\agQ w' W.heap.size v (L.filter (o6 M s)))/\aD U w':=λV o k hv R=>by
  obtain⟨g,hg⟩:∃g,o=some ⟨g,0,none⟩:=by
   rcases R.2 with⟨l,S⟩|⟨g,c,a4,l, -⟩
   .omega
   .injection l with l;exact⟨g,l⟩
  subst hg;have T:zz V (U.heap.size+1) g k L.length L:=R;have a5:=T.lt;have X:=a8B U.heap.size (W.heap.size+1) W.heap.size (λx=> !o6 M s x) L (U.heap.size+1) g k U V aa T aa hv Q;rw[a] at X;refine X.mono ?_;rintro e w' ⟨rfl,l,S⟩;have a6:=j.size;refine⟨⟨_,rfl,g,k,rfl,fO l aa⟩,S⟩
 clear Q d a;go_wp2_with(first|(go_at_call 101;refine w.mono ?_;rintro e w1 ⟨o1,k1,rfl,b1,E5⟩)|(go_at_call 100;refine(DF _ _ _ b1 E5).mono ?_;rintro e w2 ⟨⟨v2,rfl,I⟩,b2⟩));go_ret;exact⟨⟨_,rfl,I⟩,j.trans (b2.mono j.size)⟩
end
section
variable {E:Nat->Addr}{T:Nat->Bs}{P:Ps}{s:Stp}
theorem a8D:∃t,CmF E T 7 P 0 t s s:=by
 obtain⟨x,y,b⟩:∃x:aM,x.size<=2000/\(⟨(Nl (ng bA (s.l.map gX) 8 6) 8 6).toArray⟩:aM)=x:=⟨_,by
  have:=Iq (ng bA (s.l.map gX) 8 6) 8 6;simp[ByteArray.size];omega,rfl⟩
 refine⟨Lib.replaceAll x.data.toList [10] [59],uH λV PB B X W z A h o a C l=>?_⟩;have f:=dI W (ai (j6 o P.ns.length a P.nm P.tx) 62);have c:=h.below f;have D:=aO c.box 0 _ rfl;have m:=c.lv.e.choose_spec.Xc aC aC aC aC;have i:=λV g a (B:Nat) (n:V.ownsRow B 9 1 (aj (some ⟨g,0,none⟩) (8*6) a) (8*6) ((ng bA (s.l.map gX) 8 6).map ak))=>Rv _ 8 6 g a B V aC aC aC n;simp only[b] at i;have p:=λV (q:Below (W.alloc (ai (j6 o P.ns.length a P.nm P.tx) 62)).heap.size (W.alloc (ai (j6 o P.ns.length a P.nm P.tx) 62)) V)=>wQ (c.pe.mx.below q) x ⟨#[10]⟩ 59 aC aa;clear h c l b;go_enter func26,ntmps26;go_wp2_with(first|(go_at_call 49;refine m.mono ?_;rintro e r ⟨g,d,rfl,u,j⟩)|(go_at_call 50;refine(i r g d _ u).mono ?_;rintro e v ⟨rfl,k⟩)|(go_at_call 48;refine(p v (aW j k)).mono ?_;rintro e F ⟨rfl,w⟩))
 go_ret2
 exact⟨aW f (aW j (aW k w)),_,_,rfl,.inl ⟨trivial,rfl,rfl⟩⟩
theorem a4y {M:Dm}{r:Int->Nat}{c:Nat}(a:Wd M r)(k:Cd M c)(hc:c<=100)(h:eG M):(iT (J7 M 11 0) 1 0).1=0:=by
 obtain⟨j,b, -⟩:=a.root;have e:=a.dp 11 0 j b (by have:=a.r0;omega);have i:∀d,(pre M 11 0 d).length=c:=λd=>by rw[<- dF (f:=Prod.fst)];exact a.count k e
 have g:=a9x a h 11 0 j 0 b e (by unfold szM;rw[i];omega);rw[a.r0] at g;rw[g]
theorem a8E:∃k t,k<=10/\CmF E T 8 P k t s s:=by
 obtain⟨n,x⟩:∃n,J7 s.M 11 0=n:=⟨_,rfl⟩;obtain⟨k,t,D,b⟩:∃k t,k<=10/\((k=2/\10000<(txt n).length)\/(k=0/\t=txt n/\(txt n).length<=10000)):=by
  by_cases h:10000<(txt n).length
  .exact⟨2,[],aC,.inl ⟨rfl,h⟩⟩
  .exact⟨0,_,aC,.inr ⟨rfl,rfl,aa⟩⟩
 refine⟨k,t,D,uH λV PB B X W Q R h o m S F=>?_⟩;have y:=dI W (ai (j6 o P.ns.length m P.nm P.tx) 62);have f:=h.below y;have U:=aO f.box 0 _ rfl;obtain⟨r,q⟩:=f.lv.e;have z:=q.node;rw[x] at z;have A:(iT n 1 0).1=0:=by
  obtain⟨Y,Z,p,rv,qs,pv,cv,g, -⟩:=q;rw[<- x];exact a4y g.ds.d g.ds.n g.ds.le g.ok
 have H:∀a i j l,Below (W.alloc (ai (j6 o P.ns.length m P.nm P.tx) 62)).heap.size (W.alloc (ai (j6 o P.ns.length m P.nm P.tx) 62)) a->rJ a i j l n->aJ 51 #[.agg #[i,j,l]] a λe u=>aD a u/\∃c v,e=ax (aF #[bV c,v])/\((k=0/\c=t/\v=aU)\/(1<=k/\Ei E k v u)):=λa i j l I J=>(a6d E n i j l a (f.pe.below I).le.me J).mono λe u ⟨K,d⟩=>by
  refine⟨K,?_⟩;rcases d with⟨d, -⟩|⟨-,d,w⟩|⟨-,d,w⟩
  .exact absurd A d
  .rcases b with⟨rfl, -⟩|⟨-, -,L⟩
   .exact⟨[],_,w,.inr ⟨aC,.inl rfl⟩⟩
   .omega
  .rcases b with⟨-,L⟩|⟨rfl,rfl, -⟩
   .omega
   .exact⟨_,_,w,.inl ⟨rfl,rfl,rfl⟩⟩
 clear h f F q A b;go_enter func27,ntmps27;go_wp2_with(first|(go_at_call 52;refine z.mono ?_;rintro e a ⟨⟨sa,o1,n1,k1,o2,n2,k2,rfl,M⟩,C⟩)|(go_at_call 51;refine(H a _ _ _ C (sQ.nd n M)).mono ?_;rintro e w2 ⟨N,c,v,rfl,O⟩));exact bodyPost_ret (v:=aF #[bV c,v]) (by simp[results,results27,go_sem]) rfl ⟨aW y (aW C N),c,v,rfl,O⟩
theorem a8F (hM:eG s.M)(I:P.tx.length<=1000000):∃k t,k<=10/\CmF E T 9 P k t s s:=by
 cases j:r9 P.tx with
 |false=>
  refine⟨1,[],aC,uH λV PB B X W J K h o l BN L=>?_⟩;have f:=dI W (ai (j6 o P.ns.length l P.nm P.tx) 62);have RD:=Gw P.tx I _ (E 1) (h.below f).pe.ne.c1;rw[j] at RD;simp only[Bool.false_eq_true,if_false] at RD;clear h L;go_enter func28,ntmps28;go_wp2_with(go_at_call 53;refine RD.mono ?_;rintro e m ⟨rfl,q⟩);exact bodyPost_ret (v:=aF #[bV [],eV (E 1)]) (by simp[results,results28,go_sem]) rfl ⟨aW f (aW q (dI _ _)),[],_,rfl,.inr ⟨aC,.inl rfl⟩⟩
 |true=>
  refine⟨0,bS (qP (((dM s.M 11 0).filter (o6 s.M P.tx)).map zb)),aC,uH λV PB B X W J K h o l BN L=>?_⟩;have f:=dI W (ai (j6 o P.ns.length l P.nm P.tx) 62);have d:=h.below f;have D:=aO d.box 0 _ rfl;have RD:=Gw P.tx I _ (E 1) d.pe.ne.c1;rw[j] at RD;simp only[if_true] at RD;have u:P.tx≠[]:=λe=>by rw[e] at j;exact absurd j aC
  obtain⟨U,M⟩:∃U,W.alloc (ai (j6 o P.ns.length l P.nm P.tx) 62)=U:=⟨_,rfl⟩;rw[M] at f d D RD;have DC:∀V,aD U V->aJ 46 #[aI J] V λe a=>e=ax (aI K)/\a=V:=λV w=>((d.lv.below w).e.choose_spec.doc).mono λe a ⟨O,Q⟩=>⟨O,Q.symm⟩;have AL:∀V,aD U V->aJ 55 #[aI K,.agg #[bV P.tx]] V λe a=>∃g n k,e=ax (aj (some ⟨g,0,none⟩) n k)/\Hid (n=((dM s.M 11 0).filter (o6 s.M P.tx)).length/\zz a V.heap.size g k n ((dM s.M 11 0).filter (o6 s.M P.tx)))/\aD V a:=λV w=>by
   obtain⟨r,tg,MB,p,rv,qs,pv,cv,i,h2, -⟩:=d.lv.below w;exact(a8C i.ds hM.fit.1 P.tx I u).mono λe a ⟨⟨v,O,b,k,Q,g3⟩,g4⟩=>⟨b,_,k,by rw[O,Q],⟨rfl,g3⟩,g4⟩
  have NT:∀V g n k N,aD U V->Hid (n=((dM s.M 11 0).filter (o6 s.M P.tx)).length/\zz V N g k n ((dM s.M 11 0).filter (o6 s.M P.tx)))->aJ 54 #[aj (some ⟨g,0,none⟩) n k] V λe a=>e=ax (ak (qP (((dM s.M 11 0).filter (o6 s.M P.tx)).map zb)))/\aD V a:=λV g n k N w y=>by
   obtain⟨r,tg,MB,p,rv,qs,pv,cv,i,h2, -⟩:=d.lv;have hl:=i.ds.ajY;have hf:=List.length_filter_le (o6 s.M P.tx) (dM s.M 11 0);exact uQ (d.pe.below w).ne _ _ y.out.1.symm y.out.2 (λx hx=>by
    obtain⟨e,he⟩:=((i.ds.d.mem i.ds.d.dp0).1 (lU.1 hx).1).in_;have h5:=i.ds.w.dom x e he;have h6:=i.ds.w.few;exact⟨aa,aa⟩) (by rw[y.out.1];omega)
  obtain⟨t,z⟩:∃t,qP (((dM s.M 11 0).filter (o6 s.M P.tx)).map zb)=t:=⟨_,rfl⟩;rw[z] at NT⊢;have HB:=aA f;have x2:U.cell? ⟨W.heap.size,2,none⟩=some (bV P.tx):=by rw[<- M];exact aO (dN W (j6 o P.ns.length l P.nm P.tx) 62) 2 _ rfl
  clear h d L j u z f;go_enter func28,ntmps28;go_upto_region 1 with fail
  try rw[M]
  go_upto_region 4 with(go_at_call 53;refine RD.mono ?_;rintro e m ⟨rfl,q⟩);have R:=dI m (ai #[bV P.tx] 105);have F:=aO (dN m #[bV P.tx] 105) 0 _ rfl;have S:=(q.cell (aK D)).trans D;have Y:=(R.cell (aK S)).trans S;obtain⟨U2,A⟩:∃U,m.alloc (ai #[bV P.tx] 105)=U:=⟨_,rfl⟩;obtain⟨C,hC⟩:∃C,m.heap.size=C:=⟨_,rfl⟩;have b2:=aW q R;rw[A] at F Y b2⊢;rw[hC] at F⊢;clear A hC D S R q;have c:aD U U2.drew:=b2.drew
  go_region_held3 (λa=>a.cell? (aH PB 0)=some (aI J)/\a.cell? (aH C 0)=some (bV P.tx)) (refine⟨?_,?_⟩<;>assumption) (first|(go_at_call 46;refine(DC _ c).mono ?_;rintro e w3 ⟨rfl,rfl⟩)|(go_at_call 55;refine(AL _ c).mono ?_;rintro e w4 ⟨g,n,k,rfl,y,H⟩;have p4:=(H.cell (aK Y)).trans Y;have s4:=(H.cell (aK F)).trans F)|(go_at_call 54;refine(NT _ g n k _ (aW c H) y).mono ?_;rintro e w5 ⟨rfl,Z⟩;have p5:=(Z.cell (aK p4)).trans p4;have s5:=(Z.cell (aK s4)).trans s4))
  all_goals
   go_wp2_with fail;exact bodyPost_ret (v:=aF #[ak t,aU]) (by simp[results,results28,go_sem]) rfl ⟨aW HB.out (aW c (aW H Z)),bS t,_,rfl,.inl ⟨trivial,rfl,rfl⟩⟩
theorem a4z (hM:eG s.M)(i:Ej s.sh s.rl){a:Int}(hP:P.ns=[a])(ha:kS a):∃t,CmF E T 10 P 0 t s s:=by
 obtain⟨v,hv⟩:∃v,ofM s.M s.rl P.nm a=v:=⟨_,rfl⟩;have l:P.ns.length=1:=by rw[hP];rfl
 obtain⟨t,ht⟩:∃t,(if v=[] then[110,111,116,104,105,110,103] else v)=t:=⟨_,rfl⟩;obtain⟨q,J⟩:∃q:aM,⟨v.toArray⟩=q:=⟨_,rfl⟩;refine⟨t,uH λV PB B X W LB DB h o c BN K=>?_⟩;rw[l] at K⊢;rw[hP] at K;obtain⟨g,rfl,hg,hc⟩:=tu K aC;have n:=dI W (ai (j6 (some ⟨g,0,none⟩) 1 c P.nm P.tx) 62);have j:=h.below n;have p1:=aO j.box 1 _ rfl;have u:=dN W (j6 (some ⟨g,0,none⟩) 1 c P.nm P.tx) 62;have L:=(n.cell (p:=⟨g,0,none⟩) hg).trans (hc 0 a rfl);obtain⟨U,M⟩:∃U,W.alloc (ai (j6 (some ⟨g,0,none⟩) 1 c P.nm P.tx) 62)=U:=⟨_,rfl⟩;obtain⟨C,O⟩:∃C,W.heap.size=C:=⟨_,rfl⟩;have HB:Hid (aD W U):=by rw[<- M];exact n
 rw[M] at n j p1 u L;rw[O] at u;have RS:∀V,aD U V->aJ 38 #[bV s.sh] V λe f=>∃o c,e=ax (aF #[aj o s.rl.length c,aU])/\Hid (f.ownsRow V.heap.size 150 3 (aj o s.rl.length c) s.rl.length (fE s.rl))/\aD V f:=λV w=>(IM i V (j.pe.below w)).mono λe f ⟨⟨o,c,N,h2⟩,h3⟩=>⟨o,c,N,h2,h3⟩;have DC:∀V,aD U V->aJ 46 #[aI LB] V λe f=>e=ax (aI DB)/\V=f:=λV w=>(j.lv.below w).doc;have OF:∀V o m c Q,aD U V->Hid (V.ownsRow Q 150 3 (aj o m c) s.rl.length (fE s.rl))->aJ 56 #[aI DB,aj o m c,ag a,bV P.nm] V λe f=>e=ax (ak q)/\aD V f:=λV o m c Q w R=>by
  obtain⟨r,tg,MB,p,rv,qs,pv,cv,N,h2, -⟩:=j.lv.below w;rw[<- J,<- hv];exact a2E N.ds.w N.ds.d hM.fit.1 s.rl i.g Q _ R.out a (WalkArith.wf_i64 ha) P.nm
 have S:=aO j.box 0 _ rfl;have Y:=aO u 0 _ rfl;have Z:=aO u 1 _ rfl;clear h j K hc hv hM i u hg n;have HT:Hid (bV t=(if v=[] then bV [110,111,116,104,105,110,103] else ak q)):=by
  rw[<- ht,<- J];show _=_;split<;>rfl
 have HQ:Hid ((q.toList==[])=decide (v=[])/\q.toList.isEmpty=decide (v=[])):=by
  rw[gz,<- J];cases v<;>exact⟨rfl,rfl⟩
 clear hP l J ht;go_enter func29,ntmps29;go_upto_region 1 with fail
 try rw[M]
 try rw[O]
 go_upto_region 4 with(go_at_call 38;refine(RS _ (aQ _ _)).mono ?_;rintro e w1 ⟨o1,c1,rfl,a5,y⟩);have z:=(y.cell (aK S)).trans S;have A:=(y.cell (aK Y)).trans Y;have D:=(y.cell (aK Z)).trans Z;have F:=(y.cell (aK L)).trans L;have k:aD U w1.drew:=y.drew;have a6:=aA a5;clear S p1 Y Z L M O
 go_region_held3 (λf=>f.cell? (aH PB 0)=some (aI LB)/\f.cell? (aH C 0)=some (aj (some ⟨g,0,none⟩) 1 c)/\f.cell? (aH C 1)=some (bV P.nm)/\f.cell? (aH g 0)=some (ag a)) (refine⟨?_,?_,?_,?_⟩<;>assumption) (first|(go_at_call 46;refine(DC _ k).mono ?_;rintro e w3 ⟨rfl,rfl⟩)|(go_at_call 56;refine(OF _ _ _ _ _ k a6).mono ?_;rintro e w4 ⟨rfl,H⟩;have p4:=(H.cell (aK z)).trans z;have k4:=(H.cell (aK A)).trans A;have k5:=(H.cell (aK D)).trans D;have a4:=(H.cell (aK F)).trans F))
 all_goals
  have I:=aW HB.out (aW k H);obtain⟨e1,e2⟩:=HQ.out;have b:=HT.out;by_cases d:v=[]
  .rw[decide_eq_true d] at e1 e2;rw[if_pos d] at b;have b:=aA b;clear d;go_wp2_with fail
   go_ret2
   exact⟨I,t,aU,(congrArg (λx=>Ending.returned (aF #[x,aU])) b.out).symm,.inl ⟨trivial,rfl,rfl⟩⟩
  .rw[iH d] at e1 e2;rw[if_neg d] at b;have b:=aA b;clear d;go_wp2_with fail
   go_ret2
   exact⟨I,t,aU,(congrArg (λx=>Ending.returned (aF #[x,aU])) b.out).symm,.inl ⟨trivial,rfl,rfl⟩⟩
end
def wrd (a b:aM):aM:=a++⟨#[58]⟩++b
abbrev pcW (x:Pc):aM:=wrd (zb x.nd) ⟨x.fill.toArray⟩
theorem a4B {a b:aM}(c:a.size<=300)(d:b.size<=300):(wrd a b).size<=1000:=by
 unfold wrd;have e:(⟨#[58]⟩:aM).size=1:=rfl;grind
variable {E:Nat->Addr}{T:Nat->Bs}{P:Ps}{s:Stp}
theorem Lj (hM:eG s.M)(J:Ej s.sh s.rl)(a4:s.l.length<=1000)(L:∀x∈s.l,x.fill.length<=300/\∃e,s.M x.nd=some e):CmF E T 11 P 0 (bS (qP (s.l.map pcW))) s s:=by
 refine uH λV PB B X W LB DB h o a BN ho=>?_;have b0:=dI W (ai (j6 o P.ns.length a P.nm P.tx) 62);have c:=h.below b0;have a5:∀x∈s.l,x.fill.length<=300/\kS x.nd:=λx Y=>⟨(L x Y).1,by
  obtain⟨e,he⟩:=(L x Y).2;obtain⟨r,tg,MB,p,rv,H,pv,cv,d, -⟩:=c.lv;have h2:=d.ds.w.dom _ e he;have h3:=d.ds.w.few;exact⟨aa,aa⟩⟩
 obtain⟨U,hU⟩:∃U,W.alloc (ai (j6 o P.ns.length a P.nm P.tx) 62)=U:=⟨_,rfl⟩;rw[hU] at b0 c;have p0:=aO c.box 0 _ rfl;have p1:=aO c.box 1 _ rfl;have b9:=aY c.box;have RS:∀V,aD U V->aJ 38 #[bV s.sh] V λe A=>∃o a,e=ax (aF #[aj o s.rl.length a,aU])/\Hid (A.ownsRow V.heap.size 150 3 (aj o s.rl.length a) s.rl.length (fE s.rl))/\aD V A/\A.cell? (aH PB 0)=some (aI LB):=λV g=>(IM J V (c.pe.below g)).mono λe A ⟨⟨o,a,d,h2⟩,h3⟩=>⟨o,a,d,h2,h3,aO ((aW g h3).block _ b9|>.trans c.box) 0 _ rfl⟩;have DC:∀V,aD U V->aJ 46 #[aI LB] V λe A=>e=ax (aI DB)/\V=A:=λV g=>(c.lv.below g).doc;have PI:∀V o m a B0,aD U V->V.ownsRow B0 150 3 (aj o m a) s.rl.length (fE s.rl)->aJ 40 #[aI DB,aj o m a] V λe A=>∃H o a,e=ax (aF #[aj o H.length a,aU])/\Hid (H.map fq.pc=s.l/\xM A V.heap.size (aj o H.length a) H)/\aD V A:=λV o m a B0 g c0=>by
  obtain⟨r,tg,MB,p,rv,H,pv,cv,d,h2, -⟩:=c.lv.below g;refine(zf (l:=s.rl) (B0:=B0) ⟨d.ds,(c.pe.below g).ne,hM.fit.1,hM.fit.2,J.g,c0⟩).mono λe A ⟨g1,g2⟩=>?_;rw[d.pm,h2] at g1;obtain⟨c2,v,g3,g4,g5,g6,g7⟩:=g1;obtain⟨o,a,rfl⟩:=bg g5;exact⟨c2,o,a,g4,⟨g3,g5,g6,g7⟩,g2⟩
 have c4:Hid (∀V,aD U V->NE E V):=λV g=>(c.pe.below g).ne;obtain⟨i0,hi,c5,c6,c8⟩:=info_parts I4;have HF:=aA a5;have a6:=aA a4;clear h c ho a5 J hM a4 L;go_enter func30,ntmps30;go_upto_region 1 with fail
 try rw[hU]
 go_wp2_with(first|(go_at_call 38;refine(RS _ (aQ _ _)).mono ?_;rintro e w1 ⟨o1,c1,rfl,a7,b1,q0⟩)|(go_at_call 46;refine(DC _ b1).mono ?_;rintro e w2 ⟨rfl,rfl⟩)|(go_at_call 40;refine(PI _ _ _ _ _ b1 a7.out).mono ?_;rintro e w3 ⟨H,o3,c3,rfl,q,b3⟩));have a8:=aW b1 b3;obtain⟨n,hn⟩:∃n,H.length=n:=⟨_,rfl⟩;have d8:n<=1000:=by rw[<- hn,<- dF (f:=fq.pc),q.out.1];exact a6.out
 simp only[hn];have HN:=aA hn;have a9:=aA a8;clear hn PI DC RS b1 a7 a8
 go_loopw [9,38] (λu i wr=>∃(k:Nat) (o:Option Addr) (m a:Nat),k<=n/\u=aj o m a/\i=ag k/\m=k/\wr.ownsRow w3.heap.size 9 1 (aj o m a) m (((s.l.take k).map pcW).map ak)/\aD w3 wr) (λ_ i _=>n-(intOf i).toNat)
 case atStart=>exact⟨0,none,0,0,bf _,rfl,rfl,rfl,gp _ _ _ _,aQ _ _⟩
 case round=>
  obtain⟨k,o',m,b2,hk,rfl,rfl,hm,w,hB⟩:=hrel;have HM:=aA hm;have d9:m<=k:=aa;clear hm;by_cases c9:k<n
  .have d7:(k:Int)<(n:Int):=aa;obtain⟨x,Y⟩:∃x,H[k]? =some x:=⟨_,eZ (by rw[HN.out];exact c9)⟩;have M:s.l[k]? =some x.pc:=by rw[<- q.out.1,iN,Y];rfl
   obtain⟨b6,N⟩:=HF.out x.pc (gN M);obtain⟨oR,cR,b7,b8, -⟩:=(q.out.2.below hB).row;obtain⟨b,e0,d1,hC⟩:=b8.at_ k x.p5 (by rw[iN,Y];rfl);obtain rfl:o3=oR:=by injection b7
   subst d1;obtain⟨f0,f1,f2,f3,f4⟩:=hC;have C0:=UF.new wr x.p5 115;have O:=bZ wr (ai (Al x.p5) 115);have HT:Hid (((s.l.take (k+1)).map pcW).map Value.string=((s.l.take k).map pcW).map Value.string++[ak (pcW x.pc)]):=by
    show _=_;rw[dS,M];simp
   obtain⟨D,Ov⟩:∃D:aM,⟨x.pc.fill.toArray⟩=D:=⟨_,rfl⟩;have Q:(⟨x.fill.toArray⟩:aM)=D:=Ov;have e1:D.size<=300:=by rw[<- Ov];simpa[ByteArray.size] using b6
   have R:=λV (g:aD wr V)=>EA x.nd (zb x.nd) V N rfl (c4.out _ (aW a9.out (aN hB g))).tab;have d3:=I5 (n:=x.nd) N;obtain⟨I,S⟩:∃I,zb x.nd=I:=⟨_,rfl⟩;have d4:Hid (pcW x.pc=I++⟨#[58]⟩++D):=by
    show wrd _ _=_;unfold wrd;rw[Ov,show x.pc.nd=x.nd from rfl,S]
   rw[S] at R d3;have hA:¬9223372036854775807<I.size+1:=aa;have e2:¬9223372036854775807<I.size+1+D.size:=aa;simp only[fq.p5,Q] at f0 f1 f2 f3 f4 C0 O;obtain⟨d0, -,d2, -, -⟩:=C0;have TC:=ig w (ai (Al x.p5) 115);simp only[fq.p5,Q] at TC;clear Y M Ov Q S b6 N q b7 b8;go_upto_region 11 with fail;obtain⟨Z,hZ⟩:∃Z,wr.alloc (ai #[ag x.nd,aj x.o x.pts.length x.cap,ak D,ak ⟨x.rule.toArray⟩,ag x.lv] 115)=Z:=⟨_,rfl⟩;obtain⟨C,hC⟩:∃C,wr.heap.size=C:=⟨_,rfl⟩;rw[hZ] at d0 d2 O TC;rw[hC] at d0 d2
   try rw[hZ]
   try rw[hC]
   have IT:=R Z.drew O.drew;have sZ:=O.size;have sB:=hB.size;clear hZ R
   go_region_law (first|(refine step_append_lies _ rfl (.tmp 42) (.tmp 50) 22 rfl w3.heap.size 9 i0 (ak ⟨#[]⟩) 1 16 underlying22 hi c5 c6 c8 rfl aC (aj o' m b2) m (((s.l.take k).map pcW).map ak) rfl vv ⟨w5.heap.size,0,none⟩ 1 1 [ak (I++⟨#[58]⟩++D)] rfl rfl (World.news_of_block H0) (λu hu=>by simp at hu;subst hu;rfl) aC (by simp only[maxLen];omega) aa aX _ rfl ?_;intro g7 c7 w7 kz l9 e3 e4)|(go_simp;go_wp2_with(go_at_call 45;refine IT.mono ?_;rintro e w5 ⟨rfl,F⟩;have F:aD Z w5:=⟨F.os,F.tape,F.output,F.size,F.block⟩;have d5:=(F.cell (aK d2)).trans d2;have s5:=F.size;have vv:=ig (bD TC F) (ai #[ak (I++⟨#[58]⟩++D)] 9);have H0:=eO w5 (ai #[ak (I++⟨#[58]⟩++D)] 9))))
   all_goals
    go_wp2_with fail
    go_roundw
    case rel=>exact⟨k+1,some ⟨g7,0,none⟩,_,c7,aa,rfl,by go_num,by rw[HM.out],by rw[HT.out,d4.out];exact kz,((aN (aN hB O) F).alloc aa _).grown l9 aX (λj hj=>(w.lt j hj).1)⟩
    case measure=>simp[intOf];omega
  .obtain rfl:k=n:=aa;have HL:Hid (s.l.length=k):=by
    have d:=q.out.1;rw[<- d,dF];exact HN.out
   have LT:=uA (W:=wr) (B:=w3.heap.size) (K:=1000) (s.l.map pcW) (aj o' m b2) (by have d:=w;rw[jg (Nat.le_of_eq HL.out)] at d;rw[dF,HL.out,<- HM.out];exact d) (λy hy=>by
    obtain⟨z,hz,rfl⟩:=gu.1 hy;obtain⟨z1,z2⟩:=HF.out z hz;have:=I5 z2;exact a4B aa (by simpa[ByteArray.size] using z1)) (by rw[dF,HL.out];omega)
   obtain⟨t,ht⟩:∃t,qP (s.l.map pcW)=t:=⟨_,rfl⟩;rw[ht] at LT;have d6:Hid (bS (qP (s.l.map pcW))=bS t):=by rw[ht];exact rfl
   have HW:=aW b0 (aN a9.out hB);clear ht;go_wp2_with(go_at_call 57;refine LT.mono ?_;rintro e w4 ⟨rfl,O⟩)
   go_ret2
   exact⟨aW HW O,bS t,_,rfl,.inl ⟨trivial,d6.out.symm,rfl⟩⟩

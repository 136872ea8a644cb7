import Derived.Test.YtbkjmamcnflncaaGreatDoorQt41
namespace Go.Proofs.YtbkjmamcnflncaaGreatDoor
open Go.Proofs.Tryz
set_option maxHeartbeats 8000000
section
open Go.RowKit Go.Shelf
set_option maxRecDepth 20000
abbrev afV (a b:Nat):ax:=.func (.func 102) #[] #[aK a,aK b]
def adw (a b c:Nat)(w:ai)(l:List Int)(q:Int->Bool):Prop:=∀x∈l,∀V,Below a w V->aL 102 #[ag x,aK b,aK c] V λe W=>e=.returned (.bool (q x))/\aD V W
def Ac (w:ai)(a b c n:Nat)(l:List Int):Prop:=w.ownsRow a 3 1 (.slice (some ⟨b,0,none⟩) n c) n (di l)
theorem Ac.cell {w:ai}{a b c n:Nat}{l:List Int}(h:Ac w a b c n l){i:Nat}{x:Int}(d:l[i]? =some x):w.cell? (aJ b i)=some (ag x):=by
 obtain⟨g,e,f⟩:=eF h i _ (qH d);cases e;exact f
theorem Ac.len {w:ai}{a b c n:Nat}{l:List Int}(h:Ac w a b c n l):l.length=n:=by
 have:=h.1;rw[qG,Nat.mul_one] at this;exact this
theorem Ac.lt {w:ai}{a b c n:Nat}{l:List Int}(h:Ac w a b c n l):a<=b/\b<w.heap.size:=World.ownsRow.lt h b rfl
theorem Ac.below {w w':ai}{a b c n:Nat}{l:List Int}(h:Ac w a b c n l)(d:aD w w'):Ac w' a b c n l:=bY h d
theorem Ac.set {w:ai}{a b c n:Nat}{l:List Int}(h:Ac w a b c n l)(i:Nat)(x:Int):Ac (w.setCell ⟨b,i,none⟩ (ag x)) a b c n (l.set i x):=by
 unfold Ac;have e:di (l.set i x)=(di l).set i (ag x):=by unfold di;rw[List.map_set]
 rw[e];exact(World.ownsRow.stored h i _).1
theorem Ac.zero {w:ai}{a b c n:Nat}{l:List Int}(h:Ac w a b c n l):∀(m o:Nat),∃d:List Int,Ac (w.setCells b o (List.replicate m (ag 0))) a b c n d/\d.take o=l.take o
 |0,o=>⟨l,h,rfl⟩
 |m+1,o=>by
  have f:=h.set o 0;obtain⟨d,g,i⟩:=Ac.zero f m (o+1);refine⟨d,g,?_⟩;have e:=congrArg (List.take o) i;rw[List.take_take,List.take_take,Nat.min_eq_left aa,List.take_set_of_le az] at e;exact e
theorem Ac.cut {w:ai}{a b d n:Nat}{l:List Int}(h:Ac w a b d n l){k:Nat}(q:k<=n):Ac w a b d k (l.take k):=by
 have r:=h.len;rcases h.2 with⟨f, -⟩|⟨g,c,i,f,j,m,s,o,p,t⟩
 .cases f
 .cases f;refine⟨by rw[qG,iR];omega,.inr ⟨b,d,i,rfl,j,m,aa,o,p,?_⟩⟩;have e:di (l.take k)=(di l).take k:=by unfold di;rw[List.map_take]
  grind
theorem vP {B b:Nat}{a:ai}(c:B<=b):∀(vs:List ax) (o:Nat) (w:ai),Below B a w->Below B a (w.setCells b o vs)
 |[],_,_,h=>h
 |_::vs,_,_,h=>vP c vs _ _ (h.setCell c _)
def amB (q:Int->Bool)(l:List Int)(n:Int):Prop:=((∀x∈l,q x=false)/\n= -1)\/∃(k:Nat) (x:Int),l[k]? =some x/\(∀y∈l.take k,q y=false)/\q x=true/\n=k
theorem adx (c B C:Nat)(q:Int->Bool)(l:List Int)(F b j:Nat)(w0 w:ai)(h:Ac w F b j l.length l)(u:Below c w0 w)(d:c<=w.heap.size)(M:l.length<=1000000)(H:adw c B C w0 l q):
  aL 163 #[.slice (some ⟨b,0,none⟩) l.length j,afV B C] w λe W=>(∃n:Int,e=.returned (ag n)/\amB q l n)/\aD w W:=by
 go_enter func163,ntmps163;go_wp2
 go_loopw [8] (λi wr=>∃k:Nat,k<=l.length/\i=ag k/\(∀x∈l.take k,q x=false)/\aD w wr) (λi _=>l.length-(intOf i).toNat)
 case atStart=>exact⟨0,bA _,rfl,(λa I=>by simp at I),aW _ _⟩
 case round=>
  obtain⟨k,N,rfl,m,o⟩:=hrel;have f:=aF m;clear m;by_cases v:k<l.length
  .have D:(k:Int)<(l.length:Int):=aa;obtain⟨x,r⟩:∃x,l[k]? =some x:=⟨_,fD v⟩;have p:x∈l:=ic r;have O:=(h.below o).cell r;have s:=H x p wr (u.trans (o.mono d));have E:=aF r;clear r;cases t:q x with
   |false=>
    rw[t] at s;go_wp2_with(go_at_call 102;refine s.mono ?_;rintro e J ⟨rfl,z⟩)
    go_roundw
    case rel=>exact⟨k+1,aa,by go_num,λy g=>by rw[eX,E.out] at g;rcases iw.1 g with g|g;exact f.out y g;simp at g;subst g;exact t,bf o z⟩
    case measure=>simp[intOf];omega
   |true=>
    rw[t] at s;go_wp2_with(go_at_call 102;refine s.mono ?_;rintro e J ⟨rfl,z⟩);go_ret;exact⟨⟨k,rfl,.inr ⟨k,x,E.out,f.out,t,rfl⟩⟩,bf o z⟩
  .have K:¬(k:Int)<(l.length:Int):=aa;have A:=f.out;rw[jH aa] at A;have L:=aF A;clear A;go_wp2_with fail;go_ret;exact⟨⟨-1,rfl,.inl ⟨L.out,rfl⟩⟩,o⟩
theorem Jt (w:ai)(g:TypeId)(b o n c:Nat)(i:0<n)(hc:∀j,j<n->(w.cell? (aJ b (o+j))).isSome=true)(h:∀j,j<n->w.frozen? ⟨b,o+j,none⟩=false):
  (Builtin.clear_ #[35] g #[.slice (some ⟨b,o,none⟩) n c]).run prog w=.ok (.tuple #[]) (w.setCells b o (List.replicate n (ag 0))):=by
 have d:∀w,(zeroValue 3).run prog w=.ok (ag 0) w:=λw=>aA;have e:(Builtin.zeroCells (Value.int .i64 0).cells n).toList=List.replicate n (ag 0):=by
  apply List.ext_getElem?;intro j;by_cases f:j<n
  .simp[Builtin.zeroCells,Value.cells,f,Nat.mod_one]
  .simp[Builtin.zeroCells,Value.cells,f]
 have a:=run_storeCells_cells (P:=prog) b o (List.replicate n (ag 0)) 0 w (by rw[List.length_replicate];simpa using hc) (by rw[List.length_replicate];simpa using h) (λv d=>by rw[List.eq_of_mem_replicate d];rfl);simp only[Nat.add_zero] at a;rw[<- e] at a;obtain⟨m,rfl⟩:∃m,n=m+1:=⟨n-1,aa⟩;rw[<- e];simp[Builtin.clear_,run_underlying underlying35,d,a]
structure Ku (q:Int->Bool)(l:List Int)(bb b cap base:Nat)(w0:ai)(i j:Nat)(l':List Int)(w:ai):Prop where
 lt:i<j
 le:j<=l.length
 kept:l'.take i=(l.take j).filter λx=> !q x
 rest:l'.drop j=l.drop j
 row:Ac w bb b cap l.length l'
 EY:Below base w0 w
theorem Ju {q:Int->Bool}{l:List Int}(h:∀x∈l,q x=false):(l.filter λx=> !q x)=l:=List.filter_eq_self.2 (λx a=>by rw[h x a];rfl)
theorem Ku.skip {q:Int->Bool}{l:List Int}{e b d a:Nat}{w0:ai}{i j:Nat}{f:List Int}{w w':ai}{x:Int}(h:Ku q l e b d a w0 i j f w)(k:l[j]? =some x)(m:q x=true)(g:aD w w')(c:a<=w.heap.size):Ku q l e b d a w0 i (j+1) f w':=by
 have n:j<l.length:=by grind
 refine⟨by have:=h.lt;omega,n,?_,?_,h.row.below g,h.EY.trans (g.mono c)⟩
 .rw[h.kept,eX,k,List.filter_append];simp[m]
 .rw[<- nC,h.rest,nC]
theorem Ku.keep {q:Int->Bool}{l:List Int}{k b d a:Nat}{w0:ai}{i j:Nat}{e:List Int}{w w':ai}{x:Int}(h:Ku q l k b d a w0 i j e w)(n:l[j]? =some x)(o:q x=false)(m:aD w w')(c:a<=w.heap.size)(f:a<=b):Ku q l k b d a w0 (i+1) (j+1) (e.set i x) (w'.setCell ⟨b,i,none⟩ (ag x)):=by
 have r:j<l.length:=by grind
 have t:=h.row.len;have s:i<e.length:=by have:=h.lt;have:=h.le;omega
 have g:=h.EY.trans (m.mono c);refine⟨by have:=h.lt;omega,r,?_,?_,(h.row.below m).set i x,g.setCell (p:=⟨b,i,none⟩) f _⟩
 .rw[eX,List.take_set_of_le az,h.kept,List.getElem?_set_self s,eX,n,List.filter_append];simp[o]
 .rw[List.drop_set_of_lt (by have:=h.lt;omega),<- nC,h.rest,nC]
theorem Ku.start {q:Int->Bool}{l:List Int}{e b c a:Nat}{w0 w:ai}{k:Nat}{x:Int}(f:Ac w e b c l.length l)(g:Below a w0 w)(h:l[k]? =some x)(d:∀y∈l.take k,q y=false)(i:q x=true):Ku q l e b c a w0 k (k+1) l w:=by
 have j:k<l.length:=by grind
 refine⟨aa,j,?_,rfl,f,g⟩;rw[eX,h,List.filter_append,Ju d];simp[i]
theorem a9m (a T U:Nat)(q:Int->Bool)(l:List Int)(E b d:Nat)(w0 w:ai)(hl:l.length<=1000000)(F:Ac w E b d l.length l)(H:a<=b)(I:Below a w0 w)(hq:adw a T U w0 l q):
  aL 100 #[.slice (some ⟨b,0,none⟩) l.length d,afV T U] w λe W=>e=.returned (.slice (some ⟨b,0,none⟩) (l.filter λx=> !q x).length d)/\Ac W E b d (l.filter λx=> !q x).length (l.filter λx=> !q x)/\Below a w0 W:=by
 have a5:=F.lt.2;have r:a<=w.heap.size:=aa;have a4:l.length<=d:=by
  rcases F.2 with⟨p, -⟩|⟨g,c,a6,p,h2,h3,h4, -⟩
  .cases p
  .cases p;exact h4
 have IX:=adx a T U q l E b d w0 w F I r hl hq;go_enter func100,ntmps100;go_upto_region 2 with(go_at_call 163;refine IX.mono ?_;rintro e w1 ⟨⟨n,rfl,hn⟩,b1⟩);clear IX;have A:=F.below b1;have B:=I.trans (b1.mono r);rcases hn with⟨f,rfl⟩|⟨k,x,s,f,C,rfl⟩
 .have HA:Hid ((l.filter λx=> !q x)=l):=Ju f;clear f;go_wp2_with fail;go_ret;rw[HA.out];exact⟨rfl,A,B⟩
 .have D0:=Ku.start A B s f C;have hk:k<l.length:=(lK.1 s).1;have a7:((k:Int)== -1)=false:=dW.2 aa;clear s f C A B F;go_wp2_with fail
  go_loopw [5,6] (λu v wr=>∃(i j:Nat) (t:List Int),u=ag i/\v=ag j/\Ku q l E b d a w0 i j t wr) (λ_ v _=>l.length-(intOf v).toNat)
  case atStart=>exact⟨k,k+1,l,rfl,by go_num,D0⟩
  case round=>
   obtain⟨i,j,t,rfl,rfl,h⟩:=hrel;have a8:=h.lt;have a9:=h.le;have b0:=h.row.len;have J:a<=wr.heap.size:=by have:=h.row.lt;omega
   by_cases V:j<l.length
   .have L:(j:Int)<(l.length:Int):=aa;have b2:(i:Int)<(l.length:Int):=aa;obtain⟨x,s⟩:∃x,l[j]? =some x:=⟨_,fD V⟩;have M:x∈l:=ic s;have N:t[j]? =some x:=by
     have p:(t.drop j)[0]? =some x:=by rw[h.rest,List.getElem?_drop];exact s
     rw[List.getElem?_drop] at p;exact p
    have c0:=h.row.cell N;have S:=hq x M wr h.EY;have HX:=aF s;clear s N;cases C:q x with
    |true=>
     rw[C] at S;go_wp2_with(go_at_call 102;refine S.mono ?_;rintro e w2 ⟨rfl,O⟩)
     go_roundw
     case rel=>exact⟨i,j+1,t,rfl,by go_num,h.skip HX.out C O J⟩
     case measure=>simp[intOf];omega
    |false=>
     rw[C] at S;obtain⟨P,z⟩:∃P,t[i]? =some P:=⟨_,fD aa⟩;have ci:=h.row.cell z;go_upto_region 9 with(go_at_call 102;refine S.mono ?_;rintro e w2 ⟨rfl,O⟩);have b4:=(O.cell (aM ci)).trans ci;have b5:=World.ownsRow.frozenAt (h.row.below O) i;have K:=h.keep HX.out C O J H;clear z;go_wp2_with fail
     go_roundw
     case rel=>exact⟨i+1,j+1,_,by go_num,by go_num,K⟩
     case measure=>simp[intOf];omega
   .have Q:j=l.length:=aa;have L:¬(j:Int)<(l.length:Int):=aa;have X:0<l.length-i:=aa;have b6:∀Y,(Builtin.clear_ #[35] Y #[.slice (some ⟨b,i,none⟩) (l.length-i) (d-i)]).run prog wr=.ok (.tuple #[]) (wr.setCells b i (List.replicate (l.length-i) (ag 0))):=λY=>Jt wr Y b i (l.length-i) (d-i) X (λm hm=>by
     obtain⟨y,hy⟩:∃y,t[i+m]? =some y:=⟨_,fD aa⟩;rw[h.row.cell hy];rfl) (λm _=>World.ownsRow.frozenAt h.row _)
    have b7:(i:Int)<(d:Int):=aa;have b8:(i:Int)<(l.length:Int):=aa;have b9:¬d-i=0:=aa;have o:t.take i=l.filter λx=> !q x:=by
     have p:=h.kept;rw[Q,gJ] at p;exact p
    have D:(l.filter λx=> !q x).length=i:=by
     rw[<- o,iR];omega
    obtain⟨l2,hz,R⟩:=h.row.zero (l.length-i) i;have K:Ac (wr.setCells b i (List.replicate (l.length-i) (ag 0))) E b d (l.filter λx=> !q x).length (l.filter λx=> !q x):=by
     have p:=hz.cut (k:=i) aa;rw[R,o] at p;rw[D];exact p
    have HF:=aF D;have Z:=vP H (List.replicate (l.length-i) (ag 0)) i wr h.EY;clear D o hz R Q;go_wp2_with fail;go_ret;exact⟨by rw[HF.out];rfl,K,Z⟩
end
open Go.RowKit Go.Maps Go.Shelf
set_option maxRecDepth 20000
def ahx (W:ai)(a:Nat)(v:ax)(L:List Int):Prop:=∃b k,v=aj (some ⟨b,0,none⟩) L.length k/\Ac W a b k L.length L
section
variable {B:Nat}{A:dG}{W:ai}{DB D:Nat}{p:Int->Option Nat}{M:Dm}{nx c:Nat}{r:Int->Nat}
theorem a9n (h:jk B A W DB D p M nx c r)(hF:EU M)(s:Bs)(hs:s.length<=1000000)(z:s≠[]):
  aL 55 #[aK DB,.agg #[bV s]] W λe w'=>(∃v,e=ay v/\ahx w' W.heap.size v ((dZ M 11 0).filter (oQ M s)))/\aD W w':=by
 have J:=fE W (ak #[aK DB] 74);have C:=fE (W.alloc (ak #[aK DB] 74)) (ak #[bV s] 105);rw[dV] at C;have n:((W.alloc (ak #[aK DB] 74)).alloc (ak #[bV s] 105)).heap[W.heap.size]? =some (ak #[aK DB] 74):=(Below.heap_alloc _ _ _ (by rw[dV];omega)).trans J;have j:aD W ((W.alloc (ak #[aK DB] 74)).alloc (ak #[bV s] 105)):=((aW _ W).alloc az _).alloc (by rw[dV];omega) _;obtain⟨E,F⟩:=h.Rp;obtain⟨L0,b, -,q⟩:=h.all;have d:∀y∈dZ M 11 0,∃e,M y=some e:=λy u=>by
  rw[b] at u;rcases gP.1 u with rfl|u
  .obtain⟨e,H, -⟩:=h.d.root;exact⟨e,H⟩
  .exact(q y u).2
 have t:0<(dZ M 11 0).length:=by rw[b];simp
 have w:=λU (Y:aD W U)=>Xt (h.below Y).w 11 aa E aa;obtain⟨L,K⟩:∃L,dZ M 11 0=L:=⟨_,rfl⟩;simp only[K] at w d F t⊢;clear J K b q;go_enter func55,ntmps55;go_upto_region 1 with fail;obtain⟨U,N⟩:∃U,(W.alloc (ak #[aK DB] 74)).alloc (ak #[bV s] 105)=U:=⟨_,rfl⟩;rw[N] at n C j⊢;clear N;have Z:=h.below j;have w:=w U j;have O:=dK n;have P:=dK C;have Q:adw U.heap.size (W.heap.size+1) W.heap.size U L (λx=> !oQ M s x):=λm hm V f=>by
  obtain⟨e,H⟩:=d m hm;have i:=Z.below f;exact a5l i.w i.d hF s hs z m (i.w.i64 H) (W.heap.size+1) W.heap.size ((f.cell (aM P)).trans P) ((f.cell (aM O)).trans O)
 have a:(L.filter λx=> !(λx=> !oQ M s x) x)=L.filter (oQ M s):=by
  congr 1;funext x;simp
 have DF:∀V o k,aD U V->V.ownsRow (U.heap.size+1) 3 1 (aj o L.length k) L.length (di L)->aL 100 #[aj o L.length k,.func (.func 102) #[] #[.pointer (some ⟨W.heap.size+1,0,none⟩),aK W.heap.size]] V λe w'=>(∃v,e=ay v/\ahx w' W.heap.size v (L.filter (oQ M s)))/\aD U w':=λV o k hv R=>by
  obtain⟨g,hg⟩:∃g,o=some ⟨g,0,none⟩:=by
   rcases R.2 with⟨l,S⟩|⟨g,c,a4,l, -⟩
   .omega
   .injection l with l;exact⟨g,l⟩
  subst hg;have T:Ac V (U.heap.size+1) g k L.length L:=R;have a5:=T.lt;have X:=a9m U.heap.size (W.heap.size+1) W.heap.size (λx=> !oQ M s x) L (U.heap.size+1) g k U V aa T aa hv Q;rw[a] at X;refine X.mono ?_;rintro e w' ⟨rfl,l,S⟩;have a6:=j.size;refine⟨⟨_,rfl,g,k,rfl,gz l aa⟩,S⟩
 clear Q d a;go_wp2_with(first|(go_at_call 101;refine w.mono ?_;rintro e w1 ⟨o1,k1,rfl,b1,ES⟩)|(go_at_call 100;refine(DF _ _ _ b1 ES).mono ?_;rintro e w2 ⟨⟨v2,rfl,I⟩,b2⟩));go_ret;exact⟨⟨_,rfl,I⟩,j.trans (b2.mono j.size)⟩
end
section
variable {E:Nat->Addr}{T:Nat->Bs}{P:Ps}{s:Stp}
theorem a9o:∃t,CmF E T 7 P 0 t s s:=by
 obtain⟨x,y,b⟩:∃x:aO,x.size<=2000/\(⟨(O9 (nM bT (s.l.map iB) 8 6) 8 6).toArray⟩:aO)=x:=⟨_,by
  have:=Jh (nM bT (s.l.map iB) 8 6) 8 6;simp[ByteArray.size];omega,rfl⟩
 refine⟨Lib.replaceAll x.data.toList [10] [59],vB λV PB B X W z A h o a C l=>?_⟩;have f:=dR W (ak (jl o P.ns.length a P.nm P.tx) 62);have c:=h.below f;have D:=aQ c.box 0 _ rfl;have m:=c.lv.e.choose_spec.XU aC aC aC aC;have i:=λV g a (B:Nat) (n:V.ownsRow B 9 1 (aj (some ⟨g,0,none⟩) (8*6) a) (8*6) ((nM bT (s.l.map iB) 8 6).map au))=>SX _ 8 6 g a B V aC aC aC n;simp only[b] at i;have p:=λV (q:Below (W.alloc (ak (jl o P.ns.length a P.nm P.tx) 62)).heap.size (W.alloc (ak (jl o P.ns.length a P.nm P.tx) 62)) V)=>xH (c.pe.mx.below q) x ⟨#[10]⟩ 59 aC aa;clear h c l b;go_enter func26,ntmps26;go_wp2_with(first|(go_at_call 49;refine m.mono ?_;rintro e r ⟨g,d,rfl,u,j⟩)|(go_at_call 50;refine(i r g d _ u).mono ?_;rintro e v ⟨rfl,k⟩)|(go_at_call 48;refine(p v (bf j k)).mono ?_;rintro e F ⟨rfl,w⟩))
 go_ret2
 exact⟨bf f (bf j (bf k w)),_,_,rfl,.inl ⟨trivial,rfl,rfl⟩⟩
theorem a5m {M:Dm}{r:Int->Nat}{c:Nat}(a:Wd M r)(k:Cd M c)(hc:c<=100)(h:fq M):(je (JG M 11 0) 1 0).1=0:=by
 obtain⟨j,b, -⟩:=a.root;have e:=a.dp 11 0 j b (by have:=a.r0;omega);have i:∀d,(pre M 11 0 d).length=c:=λd=>by rw[<- dP (f:=Prod.fst)];exact a.count k e
 have g:=aag a h 11 0 j 0 b e (by unfold szM;rw[i];omega);rw[a.r0] at g;rw[g]
theorem a9p:∃k t,k<=10/\CmF E T 8 P k t s s:=by
 obtain⟨n,x⟩:∃n,JG s.M 11 0=n:=⟨_,rfl⟩;obtain⟨k,t,D,b⟩:∃k t,k<=10/\((k=2/\10000<(txt n).length)\/(k=0/\t=txt n/\(txt n).length<=10000)):=by
  by_cases h:10000<(txt n).length
  .exact⟨2,[],aC,.inl ⟨rfl,h⟩⟩
  .exact⟨0,_,aC,.inr ⟨rfl,rfl,aa⟩⟩
 refine⟨k,t,D,vB λV PB B X W Q R h o m S F=>?_⟩;have y:=dR W (ak (jl o P.ns.length m P.nm P.tx) 62);have f:=h.below y;have U:=aQ f.box 0 _ rfl;obtain⟨r,q⟩:=f.lv.e;have z:=q.node;rw[x] at z;have A:(je n 1 0).1=0:=by
  obtain⟨Y,Z,p,rv,qs,pv,cv,g, -⟩:=q;rw[<- x];exact a5m g.ds.d g.ds.n g.ds.le g.ok
 have H:∀a i j l,Below (W.alloc (ak (jl o P.ns.length m P.nm P.tx) 62)).heap.size (W.alloc (ak (jl o P.ns.length m P.nm P.tx) 62)) a->sS a i j l n->aL 51 #[.agg #[i,j,l]] a λe u=>aD a u/\∃c v,e=ay (aH #[bV c,v])/\((k=0/\c=t/\v=aY)\/(1<=k/\F8 E k v u)):=λa i j l I J=>(a6V E n i j l a (f.pe.below I).le.me J).mono λe u ⟨K,d⟩=>by
  refine⟨K,?_⟩;rcases d with⟨d, -⟩|⟨-,d,w⟩|⟨-,d,w⟩
  .exact absurd A d
  .rcases b with⟨rfl, -⟩|⟨-, -,L⟩
   .exact⟨[],_,w,.inr ⟨aC,.inl rfl⟩⟩
   .omega
  .rcases b with⟨-,L⟩|⟨rfl,rfl, -⟩
   .omega
   .exact⟨_,_,w,.inl ⟨rfl,rfl,rfl⟩⟩
 clear h f F q A b;go_enter func27,ntmps27;go_wp2_with(first|(go_at_call 52;refine z.mono ?_;rintro e a ⟨⟨sa,o1,n1,k1,o2,n2,k2,rfl,M⟩,C⟩)|(go_at_call 51;refine(H a _ _ _ C (uy.nd n M)).mono ?_;rintro e w2 ⟨N,c,v,rfl,O⟩));exact bg (v:=aH #[bV c,v]) (by simp[results,results27,go_sem]) rfl ⟨bf y (bf C N),c,v,rfl,O⟩
theorem a9q (hM:fq s.M)(I:P.tx.length<=1000000):∃k t,k<=10/\CmF E T 9 P k t s s:=by
 cases j:su P.tx with
 |false=>
  refine⟨1,[],aC,vB λV PB B X W J K h o l BN L=>?_⟩;have f:=dR W (ak (jl o P.ns.length l P.nm P.tx) 62);have RD:=I5 P.tx I _ (E 1) (h.below f).pe.ne.c1;rw[j] at RD;simp only[Bool.false_eq_true,if_false] at RD;clear h L;go_enter func28,ntmps28;go_wp2_with(go_at_call 53;refine RD.mono ?_;rintro e m ⟨rfl,q⟩);exact bg (v:=aH #[bV [],eV (E 1)]) (by simp[results,results28,go_sem]) rfl ⟨bf f (bf q (dR _ _)),[],_,rfl,.inr ⟨aC,.inl rfl⟩⟩
 |true=>
  refine⟨0,bS (rQ (((dZ s.M 11 0).filter (oQ s.M P.tx)).map yY)),aC,vB λV PB B X W J K h o l BN L=>?_⟩;have f:=dR W (ak (jl o P.ns.length l P.nm P.tx) 62);have d:=h.below f;have D:=aQ d.box 0 _ rfl;have RD:=I5 P.tx I _ (E 1) d.pe.ne.c1;rw[j] at RD;simp only[if_true] at RD;have u:P.tx≠[]:=λe=>by rw[e] at j;exact absurd j aC
  obtain⟨U,M⟩:∃U,W.alloc (ak (jl o P.ns.length l P.nm P.tx) 62)=U:=⟨_,rfl⟩;rw[M] at f d D RD;have DC:∀V,aD U V->aL 46 #[aK J] V λe a=>e=ay (aK K)/\a=V:=λV w=>((d.lv.below w).e.choose_spec.doc).mono λe a ⟨O,Q⟩=>⟨O,Q.symm⟩;have AL:∀V,aD U V->aL 55 #[aK K,.agg #[bV P.tx]] V λe a=>∃g n k,e=ay (aj (some ⟨g,0,none⟩) n k)/\Hid (n=((dZ s.M 11 0).filter (oQ s.M P.tx)).length/\Ac a V.heap.size g k n ((dZ s.M 11 0).filter (oQ s.M P.tx)))/\aD V a:=λV w=>by
   obtain⟨r,tg,MB,p,rv,qs,pv,cv,i,h2, -⟩:=d.lv.below w;exact(a9n i.ds hM.fit.1 P.tx I u).mono λe a ⟨⟨v,O,b,k,Q,g3⟩,g4⟩=>⟨b,_,k,by rw[O,Q],⟨rfl,g3⟩,g4⟩
  have NT:∀V g n k N,aD U V->Hid (n=((dZ s.M 11 0).filter (oQ s.M P.tx)).length/\Ac V N g k n ((dZ s.M 11 0).filter (oQ s.M P.tx)))->aL 54 #[aj (some ⟨g,0,none⟩) n k] V λe a=>e=ay (au (rQ (((dZ s.M 11 0).filter (oQ s.M P.tx)).map yY)))/\aD V a:=λV g n k N w y=>by
   obtain⟨r,tg,MB,p,rv,qs,pv,cv,i,h2, -⟩:=d.lv;have hl:=i.ds.akF;have hf:=List.length_filter_le (oQ s.M P.tx) (dZ s.M 11 0);exact vO (d.pe.below w).ne _ _ y.out.1.symm y.out.2 (λx hx=>by
    obtain⟨e,he⟩:=((i.ds.d.mem i.ds.d.dp0).1 (mD.1 hx).1).in_;have h5:=i.ds.w.dom x e he;have h6:=i.ds.w.few;exact⟨aa,aa⟩) (by rw[y.out.1];omega)
  obtain⟨t,z⟩:∃t,rQ (((dZ s.M 11 0).filter (oQ s.M P.tx)).map yY)=t:=⟨_,rfl⟩;rw[z] at NT⊢;have HB:=aF f;have x2:U.cell? ⟨W.heap.size,2,none⟩=some (bV P.tx):=by rw[<- M];exact aQ (dY W (jl o P.ns.length l P.nm P.tx) 62) 2 _ rfl
  clear h d L j u z f;go_enter func28,ntmps28;go_upto_region 1 with fail
  try rw[M]
  go_upto_region 4 with(go_at_call 53;refine RD.mono ?_;rintro e m ⟨rfl,q⟩);have R:=dR m (ak #[bV P.tx] 105);have F:=aQ (dY m #[bV P.tx] 105) 0 _ rfl;have S:=(q.cell (aM D)).trans D;have Y:=(R.cell (aM S)).trans S;obtain⟨U2,A⟩:∃U,m.alloc (ak #[bV P.tx] 105)=U:=⟨_,rfl⟩;obtain⟨C,hC⟩:∃C,m.heap.size=C:=⟨_,rfl⟩;have b2:=bf q R;rw[A] at F Y b2⊢;rw[hC] at F⊢;clear A hC D S R q;have c:aD U U2.drew:=b2.drew
  go_region_held3 (λa=>a.cell? (aJ PB 0)=some (aK J)/\a.cell? (aJ C 0)=some (bV P.tx)) (refine⟨?_,?_⟩<;>assumption) (first|(go_at_call 46;refine(DC _ c).mono ?_;rintro e w3 ⟨rfl,rfl⟩)|(go_at_call 55;refine(AL _ c).mono ?_;rintro e w4 ⟨g,n,k,rfl,y,H⟩;have p4:=(H.cell (aM Y)).trans Y;have s4:=(H.cell (aM F)).trans F)|(go_at_call 54;refine(NT _ g n k _ (bf c H) y).mono ?_;rintro e w5 ⟨rfl,Z⟩;have p5:=(Z.cell (aM p4)).trans p4;have s5:=(Z.cell (aM s4)).trans s4))
  all_goals
   go_wp2_with fail;exact bg (v:=aH #[au t,aY]) (by simp[results,results28,go_sem]) rfl ⟨bf HB.out (bf c (bf H Z)),bS t,_,rfl,.inl ⟨trivial,rfl,rfl⟩⟩
theorem a5n (hM:fq s.M)(i:F9 s.sh s.rl){a:Int}(hP:P.ns=[a])(ha:kU a):∃t,CmF E T 10 P 0 t s s:=by
 obtain⟨v,hv⟩:∃v,ofM s.M s.rl P.nm a=v:=⟨_,rfl⟩;have l:P.ns.length=1:=by rw[hP];rfl
 obtain⟨t,ht⟩:∃t,(if v=[] then[110,111,116,104,105,110,103] else v)=t:=⟨_,rfl⟩;obtain⟨q,J⟩:∃q:aO,⟨v.toArray⟩=q:=⟨_,rfl⟩;refine⟨t,vB λV PB B X W LB DB h o c BN K=>?_⟩;rw[l] at K⊢;rw[hP] at K;obtain⟨g,rfl,hg,hc⟩:=uB K aC;have n:=dR W (ak (jl (some ⟨g,0,none⟩) 1 c P.nm P.tx) 62);have j:=h.below n;have p1:=aQ j.box 1 _ rfl;have u:=dY W (jl (some ⟨g,0,none⟩) 1 c P.nm P.tx) 62;have L:=(n.cell (p:=⟨g,0,none⟩) hg).trans (hc 0 a rfl);obtain⟨U,M⟩:∃U,W.alloc (ak (jl (some ⟨g,0,none⟩) 1 c P.nm P.tx) 62)=U:=⟨_,rfl⟩;obtain⟨C,O⟩:∃C,W.heap.size=C:=⟨_,rfl⟩;have HB:Hid (aD W U):=by rw[<- M];exact n
 rw[M] at n j p1 u L;rw[O] at u;have RS:∀V,aD U V->aL 38 #[bV s.sh] V λe f=>∃o c,e=ay (aH #[aj o s.rl.length c,aY])/\Hid (f.ownsRow V.heap.size 150 3 (aj o s.rl.length c) s.rl.length (fP s.rl))/\aD V f:=λV w=>(Jr i V (j.pe.below w)).mono λe f ⟨⟨o,c,N,h2⟩,h3⟩=>⟨o,c,N,h2,h3⟩;have DC:∀V,aD U V->aL 46 #[aK LB] V λe f=>e=ay (aK DB)/\V=f:=λV w=>(j.lv.below w).doc;have OF:∀V o m c Q,aD U V->Hid (V.ownsRow Q 150 3 (aj o m c) s.rl.length (fP s.rl))->aL 56 #[aK DB,aj o m c,ag a,bV P.nm] V λe f=>e=ay (au q)/\aD V f:=λV o m c Q w R=>by
  obtain⟨r,tg,MB,p,rv,qs,pv,cv,N,h2, -⟩:=j.lv.below w;rw[<- J,<- hv];exact a3s N.ds.w N.ds.d hM.fit.1 s.rl i.g Q _ R.out a (WalkArith.wf_i64 ha) P.nm
 have S:=aQ j.box 0 _ rfl;have Y:=aQ u 0 _ rfl;have Z:=aQ u 1 _ rfl;clear h j K hc hv hM i u hg n;have HT:Hid (bV t=(if v=[] then bV [110,111,116,104,105,110,103] else au q)):=by
  rw[<- ht,<- J];show _=_;split<;>rfl
 have HQ:Hid ((q.toList==[])=decide (v=[])/\q.toList.isEmpty=decide (v=[])):=by
  rw[gN,<- J];cases v<;>exact⟨rfl,rfl⟩
 clear hP l J ht;go_enter func29,ntmps29;go_upto_region 1 with fail
 try rw[M]
 try rw[O]
 go_upto_region 4 with(go_at_call 38;refine(RS _ (aW _ _)).mono ?_;rintro e w1 ⟨o1,c1,rfl,a5,y⟩);have z:=(y.cell (aM S)).trans S;have A:=(y.cell (aM Y)).trans Y;have D:=(y.cell (aM Z)).trans Z;have F:=(y.cell (aM L)).trans L;have k:aD U w1.drew:=y.drew;have a6:=aF a5;clear S p1 Y Z L M O
 go_region_held3 (λf=>f.cell? (aJ PB 0)=some (aK LB)/\f.cell? (aJ C 0)=some (aj (some ⟨g,0,none⟩) 1 c)/\f.cell? (aJ C 1)=some (bV P.nm)/\f.cell? (aJ g 0)=some (ag a)) (refine⟨?_,?_,?_,?_⟩<;>assumption) (first|(go_at_call 46;refine(DC _ k).mono ?_;rintro e w3 ⟨rfl,rfl⟩)|(go_at_call 56;refine(OF _ _ _ _ _ k a6).mono ?_;rintro e w4 ⟨rfl,H⟩;have p4:=(H.cell (aM z)).trans z;have k4:=(H.cell (aM A)).trans A;have k5:=(H.cell (aM D)).trans D;have a4:=(H.cell (aM F)).trans F))
 all_goals
  have I:=bf HB.out (bf k H);obtain⟨e1,e2⟩:=HQ.out;have b:=HT.out;by_cases d:v=[]
  .rw[decide_eq_true d] at e1 e2;rw[aR d] at b;have b:=aF b;clear d;go_wp2_with fail
   go_ret2
   exact⟨I,t,aY,(congrArg (λx=>Ending.returned (aH #[x,aY])) b.out).symm,.inl ⟨trivial,rfl,rfl⟩⟩
  .rw[iU d] at e1 e2;rw[aG d] at b;have b:=aF b;clear d;go_wp2_with fail
   go_ret2
   exact⟨I,t,aY,(congrArg (λx=>Ending.returned (aH #[x,aY])) b.out).symm,.inl ⟨trivial,rfl,rfl⟩⟩
end
def wrd (a b:aO):aO:=a++⟨#[58]⟩++b
abbrev pcW (x:Pc):aO:=wrd (yY x.nd) ⟨x.fill.toArray⟩
theorem a5p {a b:aO}(c:a.size<=300)(d:b.size<=300):(wrd a b).size<=1000:=by
 unfold wrd;have e:(⟨#[58]⟩:aO).size=1:=rfl;grind
variable {E:Nat->Addr}{T:Nat->Bs}{P:Ps}{s:Stp}
theorem Mh (hM:fq s.M)(J:F9 s.sh s.rl)(a4:s.l.length<=1000)(L:∀x∈s.l,x.fill.length<=300/\∃e,s.M x.nd=some e):CmF E T 11 P 0 (bS (rQ (s.l.map pcW))) s s:=by
 refine vB λV PB B X W LB DB h o a BN ho=>?_;have b0:=dR W (ak (jl o P.ns.length a P.nm P.tx) 62);have c:=h.below b0;have a5:∀x∈s.l,x.fill.length<=300/\kU x.nd:=λx Y=>⟨(L x Y).1,by
  obtain⟨e,he⟩:=(L x Y).2;obtain⟨r,tg,MB,p,rv,H,pv,cv,d, -⟩:=c.lv;have h2:=d.ds.w.dom _ e he;have h3:=d.ds.w.few;exact⟨aa,aa⟩⟩
 obtain⟨U,hU⟩:∃U,W.alloc (ak (jl o P.ns.length a P.nm P.tx) 62)=U:=⟨_,rfl⟩;rw[hU] at b0 c;have p0:=aQ c.box 0 _ rfl;have p1:=aQ c.box 1 _ rfl;have b9:=bu c.box;have RS:∀V,aD U V->aL 38 #[bV s.sh] V λe A=>∃o a,e=ay (aH #[aj o s.rl.length a,aY])/\Hid (A.ownsRow V.heap.size 150 3 (aj o s.rl.length a) s.rl.length (fP s.rl))/\aD V A/\A.cell? (aJ PB 0)=some (aK LB):=λV g=>(Jr J V (c.pe.below g)).mono λe A ⟨⟨o,a,d,h2⟩,h3⟩=>⟨o,a,d,h2,h3,aQ ((bf g h3).block _ b9|>.trans c.box) 0 _ rfl⟩;have DC:∀V,aD U V->aL 46 #[aK LB] V λe A=>e=ay (aK DB)/\V=A:=λV g=>(c.lv.below g).doc;have PI:∀V o m a B0,aD U V->V.ownsRow B0 150 3 (aj o m a) s.rl.length (fP s.rl)->aL 40 #[aK DB,aj o m a] V λe A=>∃H o a,e=ay (aH #[aj o H.length a,aY])/\Hid (H.map fM.pc=s.l/\yx A V.heap.size (aj o H.length a) H)/\aD V A:=λV o m a B0 g c0=>by
  obtain⟨r,tg,MB,p,rv,H,pv,cv,d,h2, -⟩:=c.lv.below g;refine(zQ (l:=s.rl) (B0:=B0) ⟨d.ds,(c.pe.below g).ne,hM.fit.1,hM.fit.2,J.g,c0⟩).mono λe A ⟨g1,g2⟩=>?_;rw[d.pm,h2] at g1;obtain⟨c2,v,g3,g4,g5,g6,g7⟩:=g1;obtain⟨o,a,rfl⟩:=bD g5;exact⟨c2,o,a,g4,⟨g3,g5,g6,g7⟩,g2⟩
 have c4:Hid (∀V,aD U V->NE E V):=λV g=>(c.pe.below g).ne;obtain⟨i0,hi,c5,c6,c8⟩:=info_parts CZ;have HF:=aF a5;have a6:=aF a4;clear h c ho a5 J hM a4 L;go_enter func30,ntmps30;go_upto_region 1 with fail
 try rw[hU]
 go_wp2_with(first|(go_at_call 38;refine(RS _ (aW _ _)).mono ?_;rintro e w1 ⟨o1,c1,rfl,a7,b1,q0⟩)|(go_at_call 46;refine(DC _ b1).mono ?_;rintro e w2 ⟨rfl,rfl⟩)|(go_at_call 40;refine(PI _ _ _ _ _ b1 a7.out).mono ?_;rintro e w3 ⟨H,o3,c3,rfl,q,b3⟩));have a8:=bf b1 b3;obtain⟨n,hn⟩:∃n,H.length=n:=⟨_,rfl⟩;have d8:n<=1000:=by rw[<- hn,<- dP (f:=fM.pc),q.out.1];exact a6.out
 simp only[hn];have HN:=aF hn;have a9:=aF a8;clear hn PI DC RS b1 a7 a8
 go_loopw [9,38] (λu i wr=>∃(k:Nat) (o:Option Addr) (m a:Nat),k<=n/\u=aj o m a/\i=ag k/\m=k/\wr.ownsRow w3.heap.size 9 1 (aj o m a) m (((s.l.take k).map pcW).map au)/\aD w3 wr) (λ_ i _=>n-(intOf i).toNat)
 case atStart=>exact⟨0,none,0,0,bA _,rfl,rfl,rfl,gp _ _ _ _,aW _ _⟩
 case round=>
  obtain⟨k,o',m,b2,hk,rfl,rfl,hm,w,hB⟩:=hrel;have HM:=aF hm;have d9:m<=k:=aa;clear hm;by_cases c9:k<n
  .have d7:(k:Int)<(n:Int):=aa;obtain⟨x,Y⟩:∃x,H[k]? =some x:=⟨_,fD (by rw[HN.out];exact c9)⟩;have M:s.l[k]? =some x.pc:=by rw[<- q.out.1,jv,Y];rfl
   obtain⟨b6,N⟩:=HF.out x.pc (ic M);obtain⟨oR,cR,b7,b8, -⟩:=(q.out.2.below hB).row;obtain⟨b,e0,d1,hC⟩:=b8.at_ k x.p5 (by rw[jv,Y];rfl);obtain rfl:o3=oR:=by injection b7
   subst d1;obtain⟨f0,f1,f2,f3,f4⟩:=hC;have C0:=Vn.new wr x.p5 115;have O:=dz wr (ak (Bq x.p5) 115);have HT:Hid (((s.l.take (k+1)).map pcW).map Value.string=((s.l.take k).map pcW).map Value.string++[au (pcW x.pc)]):=by
    show _=_;rw[eX,M];simp
   obtain⟨D,Pn⟩:∃D:aO,⟨x.pc.fill.toArray⟩=D:=⟨_,rfl⟩;have Q:(⟨x.fill.toArray⟩:aO)=D:=Pn;have e1:D.size<=300:=by rw[<- Pn];simpa[ByteArray.size] using b6
   have R:=λV (g:aD wr V)=>Fx x.nd (yY x.nd) V N rfl (c4.out _ (bf a9.out (aP hB g))).tab;have d3:=D9 (n:=x.nd) N;obtain⟨I,S⟩:∃I,yY x.nd=I:=⟨_,rfl⟩;have d4:Hid (pcW x.pc=I++⟨#[58]⟩++D):=by
    show wrd _ _=_;unfold wrd;rw[Pn,show x.pc.nd=x.nd from rfl,S]
   rw[S] at R d3;have hA:¬9223372036854775807<I.size+1:=aa;have e2:¬9223372036854775807<I.size+1+D.size:=aa;simp only[fM.p5,Q] at f0 f1 f2 f3 f4 C0 O;obtain⟨d0, -,d2, -, -⟩:=C0;have Qw:=iF w (ak (Bq x.p5) 115);simp only[fM.p5,Q] at Qw;clear Y M Pn Q S b6 N q b7 b8;go_upto_region 11 with fail;obtain⟨Z,hZ⟩:∃Z,wr.alloc (ak #[ag x.nd,aj x.o x.pts.length x.cap,au D,au ⟨x.rule.toArray⟩,ag x.lv] 115)=Z:=⟨_,rfl⟩;obtain⟨C,hC⟩:∃C,wr.heap.size=C:=⟨_,rfl⟩;rw[hZ] at d0 d2 O Qw;rw[hC] at d0 d2
   try rw[hZ]
   try rw[hC]
   have IT:=R Z.drew O.drew;have sZ:=O.size;have sB:=hB.size;clear hZ R
   go_region_law (first|(refine step_append_lies _ rfl (.tmp 42) (.tmp 50) 22 rfl w3.heap.size 9 i0 (au ⟨#[]⟩) 1 16 underlying22 hi c5 c6 c8 rfl aC (aj o' m b2) m (((s.l.take k).map pcW).map au) rfl vN ⟨w5.heap.size,0,none⟩ 1 1 [au (I++⟨#[58]⟩++D)] rfl rfl (World.news_of_block H0) (λu hu=>by simp at hu;subst hu;rfl) aC (by simp only[maxLen];omega) aa bq _ rfl ?_;intro g7 c7 w7 kN lJ e3 e4)|(go_simp;go_wp2_with(go_at_call 45;refine IT.mono ?_;rintro e w5 ⟨rfl,F⟩;have F:aD Z w5:=⟨F.os,F.tape,F.output,F.size,F.block⟩;have d5:=(F.cell (aM d2)).trans d2;have s5:=F.size;have vN:=iF (bY Qw F) (ak #[au (I++⟨#[58]⟩++D)] 9);have H0:=fE w5 (ak #[au (I++⟨#[58]⟩++D)] 9))))
   all_goals
    go_wp2_with fail
    go_roundw
    case rel=>exact⟨k+1,some ⟨g7,0,none⟩,_,c7,aa,rfl,by go_num,by rw[HM.out],by rw[HT.out,d4.out];exact kN,((aP (aP hB O) F).alloc aa _).grown lJ bq (λj hj=>(w.lt j hj).1)⟩
    case measure=>simp[intOf];omega
  .obtain rfl:k=n:=aa;have HL:Hid (s.l.length=k):=by
    have d:=q.out.1;rw[<- d,dP];exact HN.out
   have LT:=ve (W:=wr) (B:=w3.heap.size) (K:=1000) (s.l.map pcW) (aj o' m b2) (by have d:=w;rw[jH (Nat.le_of_eq HL.out)] at d;rw[dP,HL.out,<- HM.out];exact d) (λy hy=>by
    obtain⟨z,hz,rfl⟩:=gL.1 hy;obtain⟨z1,z2⟩:=HF.out z hz;have:=D9 z2;exact a5p aa (by simpa[ByteArray.size] using z1)) (by rw[dP,HL.out];omega)
   obtain⟨t,ht⟩:∃t,rQ (s.l.map pcW)=t:=⟨_,rfl⟩;rw[ht] at LT;have d6:Hid (bS (rQ (s.l.map pcW))=bS t):=by rw[ht];exact rfl
   have HW:=bf b0 (aP a9.out hB);clear ht;go_wp2_with(go_at_call 57;refine LT.mono ?_;rintro e w4 ⟨rfl,O⟩)
   go_ret2
   exact⟨bf HW O,bS t,_,rfl,.inl ⟨trivial,d6.out.symm,rfl⟩⟩

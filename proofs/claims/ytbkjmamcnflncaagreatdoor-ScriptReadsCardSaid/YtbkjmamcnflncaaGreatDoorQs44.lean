import Derived.Test.YtbkjmamcnflncaaGreatDoorQs43
namespace Go.Proofs.YtbkjmamcnflncaaGreatDoor
open Go.Proofs.Tryz
set_option maxHeartbeats 8000000
section
open Go.RowKit
theorem Cs (s:Bs):(firstM s).length<=200:=by
 unfold firstM;grind
theorem a9Q {p:Rl->Bool}:∀(l:List Rl) (a:Bs×Bool×Nat),(∀r∈l,r.vl.length<=200)->a.1.length<=200->(l.foldl (l8 p) a).1.length<=200
 |[],_,_,h=>h
 |r::l,a,b,h=>by
  rw[List.foldl_cons];refine a9Q l _ (λx c=>b x (by simp[c])) ?_;unfold l8;grind
theorem a4F {M:Dm}{l:List Rl}(b:eG M)(c:∀x∈l,DT x)(nm:Bs):∀(f:Nat) (n:Int),(Lx M l nm f n).length<=200
 |0,_=>Cs nm
 |f+1,n=>by
  unfold Lx;split
  .exact Cs nm
  split
  .next v a=>
   unfold xS at a;split at a
   .next u d=>cases a;exact EC b.fit.2 d
   .split at a
    .cases a;exact a9Q l _ (λr e=>by
      have:=(c r e).2.2.1;unfold yC at this;grind) (bf _)
    .cases a
  .split
   .exact a4F b c nm f _
   .exact Cs nm
theorem acO {M:Dm}{l:List Rl}(a:eG M)(b:∀x∈l,DT x)(nm:Bs)(n:Int):(ofM M l nm n).length<=200:=by
 unfold ofM;split
 .exact a4F a b nm 12 n
 .grind
theorem Lm {M:Dm}{rl:List Rl}{l:List Pc}(b:eG M)(c:∀x∈rl,DT x)(hp:eH M rl=.ok l):∀x∈l,x.fill.length<=200/\∃e,M x.nd=some e:=
 Gg hp λn q a _=>⟨acO b c _ _,by
  unfold vX J4 at a;cases d:M n with
  |none=>rw[d] at a;exact absurd a (by simp[rC,Jg,yg,rA,PK])
  |some e=>exact⟨e,rfl⟩⟩
def wR (f:Bs):Nat:=(f.filter λk=> !(k==84) && !(k==87)).length
theorem a4G {k:UInt8}{p q:Ps}{L:Nat}(h:Aq k p=some q)(d:∀x∈p.ns,0<=x/\kS x)(e:p.rest.length<=L)(f:p.nm.length<=L)(g:p.tx.length<=L):
  q.ns.length=p.ns.length+wR [k]/\(∀x∈q.ns,0<=x/\kS x)/\q.rest.length<=L/\q.nm.length<=L/\q.tx.length<=L:=by
 have j:=I6 p.rest;have l:(Lib.cut p.rest [32]).1.length<=p.rest.length:=by
  unfold Lib.cut;grind
 unfold Aq at h;split at h
 .cases h
 .split at h
  .next a=>cases h;exact⟨by simp[wR,a],d,e,f,e⟩
  .next b=>
   split at h
   .next a=>cases h;exact⟨by simp[wR,a],d,fJ,fJ,g⟩
   .next c=>
    split at h
    .cases h
    .next x i=>
     cases h;obtain⟨m,n⟩:=a7k i;refine⟨by simp[wR,b,c],λy o=>?_,fJ,f,g⟩;grind
theorem Sb {L:Nat}:∀(f:Bs) (p q:Ps),iP f p=some q->(∀x∈p.ns,0<=x/\kS x)->p.rest.length<=L->p.nm.length<=L->p.tx.length<=L->
  q.ns.length=p.ns.length+wR f/\(∀x∈q.ns,0<=x/\kS x)/\q.nm.length<=L/\q.tx.length<=L
 |[],p,q,h,a,_,b,c=>by
  unfold iP at h;split at h
  .cases h
  .cases h;exact⟨rfl,a,b,c⟩
 |k::f,p,q,h,a,e,b,c=>by
  unfold iP at h;cases d:Aq k p with
  |none=>rw[d] at h;cases h
  |some t=>
   rw[d] at h;obtain⟨g,i,j,l,m⟩:=a4G d a e b c;obtain⟨n,o,r,s⟩:=Sb f t q h i j l m;refine⟨?_,o,r,s⟩;rw[n,g];have:wR (k::f)=wR [k]+wR f:=by
    unfold wR;grind
   omega
theorem a8J {s:Bs}{i:Nat}{P:Ps}(h:jH s=some (i,P)):i<13/\P.ns.length=wR (Ec i)/\(∀x∈P.ns,0<=x/\kS x)/\P.nm.length<=s.length+1/\P.tx.length<=s.length+1:=by
 unfold jH at h;split at h
 .cases h
 .next j b=>
  cases a:iP (Ec j) ⟨(Lib.cut (Sw s) [32]).2.1,(Lib.cut (Sw s) [32]).2.2,[],[],[]⟩ with
  |none=>rw[a] at h;cases h
  |some q=>
   rw[a] at h;cases h;have c:(Sw s).length<=s.length+1:=by
    unfold Sw;split
    .next e=>rw[e];decide
    .omega
   obtain⟨d,f,g,k⟩:=Sb (L:=s.length+1) _ _ _ a (λx l=>by cases l) (bu (I6 _) c) (bf _) (bf _);exact⟨N9 b,by rw[d];simp,f,g,k⟩
end
open Go.RowKit Go.Maps Go.Shelf
section
variable {E:Nat->Addr}{T:Nat->Bs}{P:Ps}{s:Stp}{n:Nat}
theorem stay {i k:Nat}{t:Bs}(hs:NK n s)(a:k<=10)(h:CmF E T i P k t s s):CmX E T i P n s:=⟨k,t,s,a,hs.up,h⟩
theorem IY {l:List Int}(h:l.length=1):∃a,l=[a]:=List.length_eq_one_iff.1 h
theorem a4H {l:List Int}(h:l.length=2):∃a b,l=[a,b]:=by
 obtain _|⟨a,l⟩:=l
 .cases h
 .obtain⟨b,rfl⟩:=IY (l:=l) (by simpa using h);grind
theorem a4I {l:List Int}(h:l.length=3):∃a b c,l=[a,b,c]:=by
 obtain _|⟨a,l⟩:=l
 .cases h
 .obtain⟨b,c,rfl⟩:=a4H (l:=l) (by simpa using h);grind
theorem acP (hs:NK n s)(m:n<=1000){i:Nat}(hi:i<13)(d:P.ns.length=wR (Ec i))(o:∀x∈P.ns,0<=x/\kS x)(p:P.nm.length<=2000)(q:P.tx.length<=2000):CmX E T i P n s:=by
 have f:∀x∈s.l,x.fill.length<=300/\∃e,s.M x.nd=some e:=λx j=>by
  obtain⟨v,r⟩:=Lm hs.M (λy u=>(hs.sh.g y u).1) hs.pc x j;exact⟨aa,r⟩
 have g:=uF hs.pc;have G:∀x,x∈P.ns->kS x:=by grind
 rcases i with _|_|_|_|_|_|_|_|_|_|_|_|_|i
 .exact a8A hs aa
 .exact a4q hs aa
 .obtain⟨a,b,h⟩:=a4H (d.trans (show _=2 by decide));exact acG hs m h (G a (by rw[h];simp)) aa
 .obtain⟨a,h⟩:=IY (d.trans (show _=1 by decide));exact a02 hs h (G a (by rw[h];simp))
 .obtain⟨a,b,c,h⟩:=a4I (d.trans (show _=3 by decide));exact a8z hs h (G a (by rw[h];simp)) (G b (by rw[h];simp))
 .obtain⟨a,h⟩:=IY (d.trans (show _=1 by decide));exact acF hs h (G a (by rw[h];simp)) aa aa
 .obtain⟨a,h⟩:=IY (d.trans (show _=1 by decide));exact a4p hs h (G a (by rw[h];simp)) aa
 .obtain⟨t,h⟩:=a8D (E:=E) (T:=T) (P:=P) (s:=s);exact stay hs aC h
 .obtain⟨k,t,l,h⟩:=a8E (E:=E) (T:=T) (P:=P) (s:=s);exact stay hs l h
 .obtain⟨k,t,l,h⟩:=a8F (E:=E) (T:=T) (P:=P) (s:=s) hs.M aa;exact stay hs l h
 .obtain⟨a,h⟩:=IY (d.trans (show _=1 by decide));obtain⟨t,h⟩:=a4z (E:=E) (T:=T) (P:=P) (s:=s) hs.M hs.sh h (G a (by rw[h];simp));exact stay hs aC h
 .exact stay hs aC (Lj hs.M hs.sh g f)
 .exact stay hs aC (a4E λx j=>(f x j).1)
 .omega
def AnS (E:Nat->Addr)(T:Nat->Bs)(x u:Bs)(s t:Stp):Prop:=∀V PB B X W c d a n,tC E T V PB B X s W c d->pF W PB a wL n->aJ 15 #[.map (some a),bV x] W λe b=>e=ax (bV u)/\(∃f g,tC E T V PB B X t b f g)/\KM W b
theorem agV {x:Bs}(h:jH x=none)(k:x.length<=1000):AnS E T x (T 1) s s:=λV PB B X W d f l n b g=>
  (IL b.pe b.te g x aa (λ_ _=>False) (λi P a=>by rw[h] at a;cases a)).mono λe m j=>by
    rcases j with⟨-,a,c⟩|⟨t, -,a⟩
    . exact⟨a,⟨d,f,b.below c⟩,KM.of_below c⟩
    . exact a.elim
theorem Xz {x:Bs}{i k:Nat}{t:Bs}{b:Stp}(p:jH x=some (i,P))(J:x.length<=1000)(q:k<=10)(hF:CmF E T i P k t s b):AnS E T x (if k=0 then t else T k) s b:=λV PB B X W r y K m c z=>by
 refine(IL c.pe c.te z x aa (λu a=>u=(if k=0 then t else T k)/\(∃d f,tC E T V PB B X b a d f)/\KM W a) (λL M j o A w l C=>?_)).mono λe a N=>?_
 .rw[p] at j;cases j;refine(hF V PB B X w r y (c.below l) o A _ C).mono λe a ⟨⟨d,f,g⟩,D,F,v,H,h⟩=>⟨F,v,H,?_⟩;have gk:=(KM.of_below l).trans D;rcases h with⟨O,rfl,rfl⟩|⟨I,h⟩
  .grind
  .exact .inr ⟨k,I,q,h,g.pe.le,g.te,λQ n=>⟨by rw[if_neg aa],⟨d,f,g.below n⟩,gk.trans (KM.of_below n)⟩⟩
 .grind
theorem am1 (hs:NK n s)(d:n<=1000){x:Bs}(c:x.length<=1000):∃u t,NK (n+1) t/\AnS E T x u s t/\(jH x=none->u=T 1):=by
 cases a:jH x with
 |none=>exact⟨T 1,s,hs.up,agV a c,λ_=>rfl⟩
 |some z=>
  obtain⟨i,P⟩:=z;obtain⟨e,f,g,m,o⟩:=a8J a;obtain⟨k,t,j,l,b,hF⟩:=acP (E:=E) (T:=T) hs d e f g aa aa;exact⟨_,j,b,Xz a c l hF,λh=>by cases h⟩
theorem XA:∀(b:List Bs) (n:Nat) (s:Stp),NK n s->n+b.length<=1000->(∀x∈b,x.length<=1000)->∃(c:Nat->Stp) (us:List Bs),c 0=s/\us.length=b.length/\∀i x u,b[i]? =some x->us[i]? =some u->AnS E T x u (c i) (c (i+1))/\(jH x=none->u=T 1)
 |[],n,s,_,_,_=>⟨λ_=>s,[],rfl,rfl,λi v a h _=>by simp at h⟩
 |x::b,n,s,e,f,d=>by
  rw[eP] at f;obtain⟨u,t,g,l,m⟩:=am1 (E:=E) (T:=T) e aa (d x aG);obtain⟨c,us,o,j,p⟩:=XA b (n+1) t g aa (λy k=>d y (by simp[k]));refine⟨λi=>match i with|0=>s|i+1=>c i,u::us,rfl,by simp[j],λi q r w z=>?_⟩;grind
end
set_option maxRecDepth 20000
def pG:Nd:=.mk [103,114,111,117,112] [] []
abbrev s00:Stp:=acH pG [] [] []
theorem IZ:(iT pG 1 0).1=0:=az
theorem Vo:eH (kM pG) []=.ok []:=az
theorem Vp:Ej [] []:=⟨bf _,az,bf _⟩
theorem am2:NK 0 s00:=⟨nR IZ,Vp,Vo,by have:=Vl IZ;show je pG<=_;omega⟩
theorem acR (W:ah):rJ W (ak ⟨#[103,114,111,117,112]⟩) (aj none 0 0) (aj none 0 0) pG:=by
 unfold pG rJ;refine⟨rfl,by rw[dh];decide,⟨none,0,rfl,Nat.le_refl _,bf _,λ_=>rfl,λi x h=>by simp at h⟩,none,0,rfl,Nat.le_refl _,bf _,λ_=>rfl,?_⟩;unfold mY;trivial
section
variable {E:Nat->Addr}{T:Nat->Bs}{V:ah}{PB B:Nat}{s:Stp}{W w':ah}{LB DB:Nat}
theorem tC.grow {X:Option Nat}(h:tC E T V PB B X s W LB DB)(c:W.grownBy w' X){g:Nat}(i:X=some g\/g=W.heap.size)(m:∃cs f,w'.heap[g]? =some (ai cs 9 f))(j:∀b,X=some b->V.heap.size<=b):tC E T V PB B (some g) s w' LB DB:=by
 have k:=aY h.box;have nX:X≠some PB:=λe=>by
  obtain⟨cs,f,d⟩:=h.xx PB e;rw[h.box] at d;cases d
 refine⟨h.env,h.tx,h.pv,h.pB,h.Eb.grown c h.Eb.size j,h.lv.turn (λb _ a l=>c.block b a λe=>l e.symm) (λb a=>?_) c.size (λb a=>?_),(c.block PB k λe=>nX e.symm).trans h.box,λb a=>?_⟩
 .obtain⟨cs,f,d⟩:=h.xx b a;grind
 .grind
 .grind
theorem pF.km {a n:Nat}{p:Bs->Option Nat}(h:pF W PB a p n)(c:KM W w'):pF w' PB a p n:=by
 obtain⟨d,g,b⟩:=h.at;exact h.same (c.2 a (aY b) λi t f e=>by rw[b] at e;cases e)
theorem acS {b k:Nat}{v:au}{a:List au}(h:W.ownsRow b 9 1 v k a)(d:KM W w'):w'.ownsRow b 9 1 v k a:=di h λg c=>by
 obtain⟨l,f,i, -⟩:=fM h g c;exact d.2 g (h.lt g c).2 λj m n e=>by rw[i] at e;cases e;decide
theorem a4J {o:Option Addr}{n cp:Nat}(hE:PE E W)(f:100<n):aJ 6 #[aj o n cp] W λe w'=>e=ax (aF #[aj none 0 0,eV (E 2)])/\aD W w':=by
 have a:(100:Int)<(n:Int):=aa;have b:=hE.ne.c2;have c:W.drew.cell? (aH 0 0)=some (eV (E 2)):=b;have d:aD W W.drew:=(aQ _ _).drew;clear hE;go_enter func6,ntmps6;go_upto_region 2 with fail;go_region;go_wp2_with fail
 go_ret2
 exact⟨rfl,d⟩
theorem XC (hE:PE E W)(hT:Sz E T W)(h:Nat->Stp)(H us:List Bs)(n:Nat)(I:H.length=n)(J:us.length=n)(hn:n<=100)(h0:h 0=s00)(hS:∀i x u,H[i]? =some x->us[i]? =some u->AnS E T x u (h i) (h (i+1)))(o:Option Addr)(cp:Nat)(hX:qJ W o (H.map λx=>⟨x.toArray⟩))(b4:n<=cp):
  aJ 6 #[aj o n cp] W λe w'=>∃v,e=ax (aF #[v,aU])/\w'.ownsRow W.heap.size 9 1 v n (us.map bV)/\aD W w':=by
 have b5:¬(100:Int)<(n:Int):=aa;have b6:(n:Int)<=(cp:Int):=aa;have bP:=dI W (ai #[.pointer none,ak ⟨#[]⟩] 45);have kP:=dN W #[.pointer none,ak ⟨#[]⟩] 45;obtain⟨i0,hi,K,L,M⟩:=info_parts I4;have BG:=Xw (p0:=.pointer none) (sh:=[]) (hE.below bP) Vp IZ (acR _) kP;have N:aJ 13 #[aI W.heap.size,.agg (ndA ⟨#[103,114,111,117,112]⟩ none 0 0 none 0 0)] (W.alloc (ai #[.pointer none,ak ⟨#[]⟩] 45)) λe w'=>e=ax aU/\∃LB DB,tC E T W W.heap.size (W.heap.size+1) none (h 0) w' LB DB:=BG.mono λe w' ⟨x,g1,j⟩=>by
  rcases j with⟨t,y,rfl,j, -⟩|⟨rfl,LB,DB,l,w1,j,g3,g4,g5,rfl⟩
  .exact absurd ⟨[],Vo,λx C=>by cases C⟩ j.no
  .refine⟨g1,LB,DB,?_⟩;rw[Vo] at j;cases j;rw[h0];have a4:(W.alloc (ai #[.pointer none,ak ⟨#[]⟩] 45)).heap.size=W.heap.size+1:=dK _ _;rw[a4] at g4;exact tC.put hE hT ay (Nat.lt_succ_self _) (aW bP g5) g4 ay (λb p=>by cases p) ((g5.block _ (aY kP)).trans kP) rfl
 have HS:=aA hS;have HX:=aA hX;have O:=aA I;have A:=aA J;have HB:Hid (∀w LB DB,tC E T W W.heap.size (W.heap.size+1) none (h 0) w LB DB->∀d g,pF g W.heap.size d wL 13->aD w g->∃w',(Instr.makeSlice 22 (ag 0) (ag n)).run prog g=.ok (aj (some ⟨g.heap.size,0,none⟩) 0 n) w'/\w'.ownsRow W.heap.size 9 1 (aj (some ⟨g.heap.size,0,none⟩) 0 n) 0 []/\tC E T W W.heap.size (W.heap.size+1) (some g.heap.size) (h 0) w' LB DB/\pF w' W.heap.size d wL 13):=λw LB DB hw d g Q p=>by
  have R:=hw.below p;have a5:=R.Eb.size;obtain⟨w',h1,h2,h3⟩:=run_make_own (w:=g) (P:=prog) W.heap.size 22 9 i0 (ak ⟨#[]⟩) 1 underlying22 hi K L .i64 .i64 n (by rw[M];omega) (by simp only[maxLen];omega) a5;obtain⟨cs,f,D, -⟩:=fM h2 _ rfl;refine⟨w',h1,h2,R.grow h3 (.inr rfl) ⟨cs,f,D⟩ (λb p=>by cases p),?_⟩;obtain⟨es,cl,h5⟩:=Q.at;exact Q.same (h3.block d (aY h5) λe=>by cases e)
 clear hS hX I J BG hE hT h0;go_enter func6,ntmps6;go_upto_region 7 with(go_at_call 13;refine N.mono ?_;rintro e w1 ⟨rfl,LB,DB,S⟩);have CM:=N8 W.heap.size w1;go_upto_region 8 with(go_at_call 14;refine CM.mono ?_;rintro e g ⟨d,rfl,Q,b2⟩);obtain⟨w3,R3,wY,U,V⟩:=HB.out w1 LB DB S d g Q b2;have X:Hid (∃LB DB,tC E T W W.heap.size (W.heap.size+1) (some g.heap.size) (h 0) w3 LB DB):=⟨LB,DB,U⟩;have a6:=aA V;obtain⟨Y,hY⟩:∃Y,g.heap.size=Y:=⟨_,rfl⟩;rw[hY] at R3 wY X;clear HB S Q b2 U V hY N CM kP bP;go_upto_region 9 with fail;go_wp2_with fail
 go_loopw [7,29] (λu i wr=>∃(k:Nat) (F:Option Addr) (m a:Nat),k<=n/\u=aj F m a/\i=ag k/\m=k/\wr.ownsRow W.heap.size 9 1 (aj F m a) m ((us.take k).map bV)/\Hid (∃LB DB,tC E T W W.heap.size (W.heap.size+1) (Value.slice F m a).ownBlock (h k) wr LB DB)/\Hid (pF wr W.heap.size d wL 13)) (λ_ i _=>n-(intOf i).toNat)
 case atStart=>exact⟨0,some ⟨Y,0,none⟩,0,n,bf _,rfl,rfl,rfl,wY,X,a6⟩
 case round=>
  obtain⟨k,F,m,a,hk,rfl,rfl,hm,z,q,r⟩:=hrel;by_cases s:k<n
  .have b3:(k:Int)<(n:Int):=aa;have C:=eZ (l:=H) (i:=k) (by rw[O.out];exact s);have B:=eZ (l:=us) (i:=k) (by rw[A.out];exact s);generalize H[k]'(by rw[O.out];exact s)=x at C;generalize us[k]'(by rw[A.out];exact s)=u at B;have ST:=HS.out k x u C B;have HT:Hid ((us.take (k+1)).map bV=(us.take k).map bV++[bV u]):=by
    show _=_;rw[dS,B];simp
   obtain⟨LB,DB,c⟩:=q.out;obtain⟨b0,a7,rfl,cx⟩:=HX.out k ⟨x.toArray⟩ (by rw[iN,C];rfl);have cx:wr.cell? (aH b0 (a7+k))=some (bV x):=(c.Eb.cell (aR cx)).trans cx;have a8:aJ 15 #[.map (some d),bV x] wr λe w'=>e=ax (bV u)/\W.heap.size<=w'.heap.size/\(w'.alloc (ai #[bV u] 9)).ownsRow W.heap.size 9 1 (aj F m a) m ((us.take k).map bV)/\Hid (∃LB DB,tC E T W W.heap.size (W.heap.size+1) (Value.slice F m a).ownBlock (h (k+1)) (w'.alloc (ai #[bV u] 9)) LB DB)/\Hid (pF (w'.alloc (ai #[bV u] 9)) W.heap.size d wL 13):=(ST W _ _ _ wr LB DB d 13 c r.out).mono λe w' ⟨g1,⟨xP,vw,j⟩,g3⟩=>⟨g1,j.Eb.size,bD (acS z g3) (dI _ _),⟨xP,vw,j.below (dI _ _)⟩,(r.out.km g3).km (KM.of_below (dI _ _))⟩;clear ST C B q r c;subst hm;go_upto_region 12 with fail;go_wp2_with(first|(go_at_call 15;refine a8.mono ?_;rintro e w4 ⟨rfl,b7,ZH,a9,Z⟩;have H0:=eO w4 (ai #[bV u] 9))|(at_builtin;refine wpList_append_lies _ rfl _ _ 22 rfl W.heap.size 9 i0 (ak ⟨#[]⟩) 1 16 underlying22 hi K L M rfl aC _ _ _ rfl ZH ⟨w4.heap.size,0,none⟩ 1 1 [bV u] rfl rfl (World.news_of_block H0) (λu B=>by simp at B;subst B;rfl) aC (by simp only[maxLen];omega) aa aX _ rfl ?_;intro g7 c7 w7 kz l9 b1 b8))
   go_roundw
   case rel=>
    obtain⟨xP,vw,hq⟩:=a9.out;have hg:=hq.grow l9 b1 (by obtain⟨cs,f,D, -⟩:=fM kz _ rfl;exact⟨cs,f,D⟩) (λb p=>(ZH.lt b p).1);exact⟨m+1,_,_,c7,aa,rfl,by go_num,rfl,by rw[HT.out];exact kz,⟨xP,vw,hg⟩,by
     obtain⟨es,cl,h5⟩:=Z.out.at;refine Z.out.same (l9.block d (aY h5) λe=>?_);obtain⟨cs,f,D, -⟩:=fM ZH d e.symm;rw[h5] at D;cases D⟩
   case measure=>simp[intOf];omega
  .obtain rfl:k=n:=aa;obtain⟨LB,DB,c⟩:=q.out;have p:=c.Eb;clear q c r;go_wp2_with fail
   go_ret2
   exact⟨_,rfl,by rw[<- jg (Nat.le_of_eq A.out),<- hm];exact hm▸z,p⟩
end
def xG:List Bs:=[[97,100,100,32,48,32,48,32,98,111,120],[115,101,116,32,49,32,119,32,50],[115,101,116,32,49,32,104,32,49],[115,101,116,32,49,32,102,105,108,108,32,97],[112,105,101,99,101,115]]
def SN:List Bs:=[[49],[110,111,116,104,105,110,103],[110,111,116,104,105,110,103],[48],[49,58,97]]
def JH (x:Bs):Ps:=match jH x with|some z=>z.2|none=>⟨[],false,[],[],[]⟩
def okP (M:Dm):List Pc:=match eH M [] with| .ok l=>l| .error _=>[]
def heQ:gP:=match kM pG 0 with|some e=>e|none=>⟨[],[],0,[]⟩
def acT:Dm:=dY (dY (kM pG) (je pG) ⟨(JH xG[0]).nm,[],0,[]⟩) 0 ⟨heQ.name,heQ.ats,heQ.parent,iE heQ.kids 0 (je pG)⟩
def acU:Dm:=okD acT (wN acT 1 (JH xG[1]).nm (JH xG[1]).tx)
def acV:Dm:=okD acU (wN acU 1 (JH xG[2]).nm (JH xG[2]).tx)
def am4:Dm:=okD acV (wN acV 1 (JH xG[3]).nm (JH xG[3]).tx)
def Sd (i:Nat):Dm:=match i with
 |0=>kM pG|1=>acT|2=>acU|3=>acV|_=>am4
def heS (i:Nat):Stp:=match i with
 |0=>s00
 |i+1=>⟨Sd (i+1),je pG+1,je pG+1,[],okP (Sd (i+1)),[]⟩
theorem acW:kM pG 0=some heQ:=az
theorem agW:kM pG heQ.parent=none:=az
theorem acX:¬∃d,10<=d/\Up (kM pG) 0 d:=λ⟨d,c,a⟩=>by
 have b:Up (kM pG) 0 1:=⟨heQ,acW,agW⟩;have:=Up.same a b;omega
theorem Sg:∀i,i<5->eH (Sd i) []=.ok (okP (Sd i)):=by
 intro i a;rcases i with _|_|_|_|_|i
 all_goals first|omega|kernel_rfl
theorem acY:∀i,i<5->((okP (Sd i)).all λx=>decide (x.pts.length<=30) && (x.pts.all λa=>jQ a==0) && decide (wH (gX x).rule))=true:=by
 intro i b;rcases i with _|_|_|_|_|i
 all_goals first|omega|kernel_rfl
theorem a9T {i:Nat}(hi:i<5):JA (Sd i) []:=⟨okP (Sd i),Sg i hi,λx a=>by
 have h:=List.all_eq_true.1 (acY i hi) x a;simp only[iW,kZ,List.all_eq_true,beq_iff_eq] at h;obtain⟨⟨b,c⟩,d⟩:=h;exact⟨⟨b,c⟩,d⟩⟩
theorem a4K:∀i,i<5->jH (xG.getD i [])=some (match i with|0=>2|4=>11|_=>5,JH (xG.getD i [])):=by
 intro i a;rcases i with _|_|_|_|_|i
 all_goals first|omega|kernel_rfl
theorem agX:∀i,i<3->erN (wN (Sd (i+1)) 1 (JH (xG.getD (i+1) [])).nm (JH (xG.getD (i+1) [])).tx)=0:=by
 intro i a;rcases i with _|_|_|i
 all_goals first|omega|kernel_rfl
theorem agY:∀i,i<3->bS (qP (((sM (okP (Sd (i+1))) (okP (Sd (i+2))) 6).map λ(y:Nat)=>(y:Int)).map zb))=SN.getD (i+1) []:=by
 intro i a;rcases i with _|_|_|i
 all_goals first|omega|kernel_rfl
theorem agZ (i:Nat)(hi:i<3):Sd (i+2)=okD (Sd (i+1)) (wN (Sd (i+1)) 1 (JH (xG.getD (i+1) [])).nm (JH (xG.getD (i+1) [])).tx):=by
 rcases i with _|_|_|i
 all_goals first|omega|rfl
theorem acZ {M:Dm}(a:eG M){n:Int}{nm v:Bs}:eG (okD M (wN M n nm v)):=by
 cases b:wN M n nm v with
 |error j=>exact a
 |ok c=>exact(Vb a c b).1
theorem a9U:iF (JH xG[0]).nm=true:=az
theorem Lp:∀i,i<5->eG (Sd i)
 |0,_=>nR IZ
 |1,_=>Ve (nR IZ) a9U acW 0
 |i+2,h=>by
  rw[agZ i aa];exact acZ (Lp (i+1) aa)
theorem ah0:∀i,i<3->(JH (xG.getD (i+1) [])).ns=[1]:=by
 intro i a;rcases i with _|_|_|i
 all_goals first|omega|kernel_rfl
theorem Vq:∀x∈xG,x.length<=1000/\(JH x).nm.length<=1000000/\(JH x).tx.length<=1000000:=by decide+kernel
variable {E:Nat->Addr}{T:Nat->Bs}{W:ah}
theorem ad1:AnS E T (xG.getD 0 []) (SN.getD 0 []) (heS 0) (heS 1):=by
 have b:je pG<1000000:=by decide+kernel
 have e:¬100<=je pG:=by decide+kernel
 have f:=Vi (l:=[]) (w:=8) (h:=6) (rl:=[]) (Lp 1 aC) (Ip (E:=E) (M:=kM pG) (nx:=je pG) (c:=je pG) (n:=0) (m:=0) (v:=[]) b 0 a9U acW (bf _) acX e) (Az (E:=E) (rl:=[]) (x:=⟨Cm,0,0,0,(JH xG[0]).nm,[]⟩) (show Cm≠gU by decide) (λy g=>by cases g)) (Sg 1 aC) (a9T aC) aC aC aC aC;have i:=Li (E:=E) (T:=T) (P:=JH xG[0]) (s:=s00) (a:=0) (j:=0) (q:=heQ) az ⟨aC,aC⟩ b (bf _) f;have d:=Xz (a4K 0 aC) (Vq _ aC).1 (bf _) i;have k:(if 0=0 then bS (zb s00.nx) else T 0)=SN.getD 0 []:=by
  rw[if_pos rfl];kernel_rfl
 rw[k] at d;exact d
theorem Vr (i:Nat)(hi:i<3):AnS E T (xG.getD (i+1) []) (SN.getD (i+1) []) (heS (i+1)) (heS (i+2)):=by
 have d:xG.getD (i+1) []∈xG:=by
  rcases i with _|_|_|i
  all_goals first|omega|decide
 obtain⟨e,f,g⟩:=Vq _ d;have b:=Xf (E:=E) (M:=Sd (i+1)) (nx:=je pG+1) (c:=je pG+1) (n:=1) (m:=0) (ea:=0) (Lp (i+1) aa) aC f g;rw[agX i hi,<- agZ i hi] at b;have j:=Vi (l:=okP (Sd (i+1))) (w:=8) (h:=6) (rl:=[]) (Lp (i+2) aa) b (Az (E:=E) (rl:=[]) (show Rs≠gU by decide) (λy k=>by cases k)) (Sg (i+2) aa) (a9T aa) aC aC aC aC;have o:=Nv (E:=E) (T:=T) (s:=heS (i+1)) (i:=5) (P:=JH (xG.getD (i+1) [])) j (Xv (ah0 i hi));have p:jH (xG.getD (i+1) [])=some (5,JH (xG.getD (i+1) [])):=by
  rw[a4K (i+1) aa];grind
 have a:=Xz p e (bf _) o;rw[if_pos rfl] at a;have q:=agY i hi;have r:(heS (i+1)).l=okP (Sd (i+1)):=rfl;rw[r,q] at a;exact a
theorem ad2:AnS E T (xG.getD 4 []) (SN.getD 4 []) (heS 4) (heS 4):=by
 have a:=Lj (E:=E) (T:=T) (P:=JH (xG.getD 4 [])) (s:=heS 4) (Lp 4 aC) Vp (uF (Sg 4 aC)) (λx b=>by
  obtain⟨d,a⟩:=Lm (Lp 4 aC) (λy c=>by cases c) (Sg 4 aC) x b;exact⟨aa,a⟩)
 have e:=Xz (a4K 4 aC) (Vq _ aC).1 (bf _) a;have f:(if 0=0 then bS (qP ((heS 4).l.map pcW)) else T 0)=SN.getD 4 []:=by
  rw[if_pos rfl];kernel_rfl
 grind
def heT (i:Nat):Stp:=if i<=4 then heS i else heS 4
theorem am5:heT 0=s00:=by
 unfold heT;rw[if_pos (bf _)];rfl
theorem ad3:∀i x u,xG[i]? =some x->SN[i]? =some u->AnS E T x u (heT i) (heT (i+1)):=λi x u a d=>by
 have e:i<5:=(kQ.1 a).1;have b:x=xG.getD i []:=by grind
 have c:u=SN.getD i []:=by grind
 rw[b,c];rcases i with _|_|_|_|_|i
 .exact ad1
 .exact Vr 0 aC
 .exact Vr 1 aC
 .exact Vr 2 aC
 .exact ad2
 .omega
abbrev heA (l:List Bs):Array au:=(l.map bV).toArray
theorem ad4 {V:ah}{B n:Nat}{v:au}{us:List Bs}(h:V.ownsRow B 9 1 v n (us.map bV)):∃o cp,v=aj o n cp/\qJ V o (us.map λx=>⟨x.toArray⟩):=by
 have a:V.ownsRow B 9 1 v n ((us.map λx=>(⟨x.toArray⟩:aM)).map ak):=by
  rw[List.map_map];exact h
 obtain⟨o,cp,b,c, -,d⟩:=qJ.own a;grind
theorem a8L {V:ah}{n:Nat}{us vs:List Bs}(i:us.length=n)(f:vs=us)(j:n<=10000){a b:Option Addr}{c d:Nat}(g:qJ V a (us.map λx=>⟨x.toArray⟩))(h:qJ V b (vs.map λx=>⟨x.toArray⟩)):aJ 12 #[aj a n c,aj b n d] V λe W=>e=ax (.bool true)/\aD V W:=by
 subst f;have:=Hy _ _ a b c d V (by rw[dF];omega) g h rfl;grind
theorem a08 (hE:PE E W)(m:Sz E T W):aJ 5 #[] W λe w'=>e=ax (.bool true)/\aD W w':=by
 have f:∀(V:ah) (l:List Bs) (g:Nat),V.heap[g]? =some (ai (heA l) 9)->qJ V (some ⟨g,0,none⟩) (l.map λx=>⟨x.toArray⟩):=λV l g r i s n=>by
  rw[iN,mM] at n;obtain⟨x,t,rfl⟩:=n;exact⟨g,0,rfl,by rw[fZ];exact aO r i (bV x) (by simp[heA,t])⟩
 have d:=dI W (ai (heA xG) 9);have h:=XC (T:=T) (hE.below d) (m.below d) heT xG SN 5 rfl rfl aC am5 ad3 (some ⟨W.heap.size,0,none⟩) 5 (f _ xG _ (dN W _ _)) ay;have p:∀(V:ah) (v:au),V.ownsRow (W.heap.size+1) 9 1 v 5 (SN.map bV)->∃o b,v=aj o 5 b/\aJ 12 #[aj o 5 b,aj (some ⟨V.heap.size,0,none⟩) 5 5] (V.alloc (ai (heA SN) 9)) λe W=>e=ax (.bool true)/\Below (V.alloc (ai (heA SN) 9)).heap.size (V.alloc (ai (heA SN) 9)) W:=λV v a=>by
  obtain⟨o,b,u,w⟩:=ad4 a;exact⟨o,b,u,a8L (us:=SN) rfl rfl aC (w.below (dI _ _)) (f _ SN _ (dN V _ _))⟩
 have c:(W.alloc (ai (heA xG) 9)).heap.size=W.heap.size+1:=dK _ _;rw[c] at h;simp only[heA,xG,SN,bV,nI,List.map_nil] at h p d;clear hE m f c;go_enter func5,ntmps5;go_upto_region 2 with(go_at_call 6;refine h.mono ?_;rintro e q ⟨v,rfl,a,y⟩);obtain⟨o,b,rfl,j⟩:=p q v a;have z:=dI q (ai #[ak ⟨#[49]⟩,ak ⟨#[110,111,116,104,105,110,103]⟩,ak ⟨#[110,111,116,104,105,110,103]⟩,ak ⟨#[48]⟩,ak ⟨#[49,58,97]⟩] 9);have k:=aW (d.trans (y.mono d.size)) z;go_wp2_with(go_at_call 12;refine j.mono ?_;rintro e B ⟨rfl,A⟩);go_ret;exact⟨rfl,aW k A⟩

import Derived.Test.YtbkjmamcnflncaaGreatDoorQt43
namespace Go.Proofs.YtbkjmamcnflncaaGreatDoor
open Go.Proofs.Tryz
set_option maxHeartbeats 8000000
variable{M:Dm}
section
open Go.RowKit
theorem Dq (s:Bs):(firstM s).length<=200:=by
 unfold firstM;grind
theorem aaA {p:Rl->Bool}:∀(l:List Rl) (a:Bs×Bool×Nat),(∀r∈l,r.vl.length<=200)->a.1.length<=200->(l.foldl (lI p) a).1.length<=200
 |[],_,_,h=>h
 |r::l,a,b,h=>by
  rw[List.foldl_cons];refine aaA l _ (λx c=>b x (by simp[c])) ?_;unfold lI;grind
theorem a5t {l:List Rl}(b:fq M)(c:∀x∈l,EH x)(nm:Bs):∀(f:Nat) (n:Int),(Mw M l nm f n).length<=200
 |0,_=>Dq nm
 |f+1,n=>by
  unfold Mw;split
  .exact Dq nm
  split
  .next v a=>
   unfold yH at a;split at a
   .next u d=>cases a;exact Fy b.fit.2 d
   .split at a
    .cases a;exact aaA l _ (λr e=>by
      have:=(c r e).2.2.1;unfold zh at this;grind) (bA _)
    .cases a
  .split
   .exact a5t b c nm f _
   .exact Dq nm
theorem adB {l:List Rl}(a:fq M)(b:∀x∈l,EH x)(nm:Bs)(n:Int):(ofM M l nm n).length<=200:=by
 unfold ofM;split
 .exact a5t a b nm 12 n
 .grind
theorem Mj {rl:List Rl}{l:List Pc}(b:fq M)(c:∀x∈rl,EH x)(hp:fC M rl=.ok l):∀x∈l,x.fill.length<=200/\∃e,M x.nd=some e:=
 GZ hp λn q a _=>⟨adB b c _ _,by
  unfold wV JD at a;cases d:M n with
  |none=>rw[d] at a;exact absurd a (by simp[sI,JQ,yR,sH,Qy])
  |some e=>exact⟨e,rfl⟩⟩
def xI (f:Bs):Nat:=(f.filter λk=> !(k==84) && !(k==87)).length
theorem a5u {k:UInt8}{p q:Ps}{L:Nat}(h:Bz k p=some q)(d:∀x∈p.ns,0<=x/\kU x)(e:p.rest.length<=L)(f:p.nm.length<=L)(g:p.tx.length<=L):
  q.ns.length=p.ns.length+xI [k]/\(∀x∈q.ns,0<=x/\kU x)/\q.rest.length<=L/\q.nm.length<=L/\q.tx.length<=L:=by
 have j:=IW p.rest;have l:(Lib.cut p.rest [32]).1.length<=p.rest.length:=by
  unfold Lib.cut;grind
 unfold Bz at h;split at h
 .cases h
 .split at h
  .next a=>cases h;exact⟨by simp[xI,a],d,e,f,e⟩
  .next b=>
   split at h
   .next a=>cases h;exact⟨by simp[xI,a],d,fZ,fZ,g⟩
   .next c=>
    split at h
    .cases h
    .next x i=>
     cases h;obtain⟨m,n⟩:=a8b i;refine⟨by simp[xI,b,c],λy o=>?_,fZ,f,g⟩;grind
theorem Tt {L:Nat}:∀(f:Bs) (p q:Ps),jE f p=some q->(∀x∈p.ns,0<=x/\kU x)->p.rest.length<=L->p.nm.length<=L->p.tx.length<=L->
  q.ns.length=p.ns.length+xI f/\(∀x∈q.ns,0<=x/\kU x)/\q.nm.length<=L/\q.tx.length<=L
 |[],p,q,h,a,_,b,c=>by
  unfold jE at h;split at h
  .cases h
  .cases h;exact⟨rfl,a,b,c⟩
 |k::f,p,q,h,a,e,b,c=>by
  unfold jE at h;cases d:Bz k p with
  |none=>rw[d] at h;cases h
  |some t=>
   rw[d] at h;obtain⟨g,i,j,l,m⟩:=a5u d a e b c;obtain⟨n,o,r,s⟩:=Tt f t q h i j l m;refine⟨?_,o,r,s⟩;rw[n,g];have:xI (k::f)=xI [k]+xI f:=by
    unfold xI;grind
   omega
theorem a9u {s:Bs}{i:Nat}{P:Ps}(h:nN s=some (i,P)):i<13/\P.ns.length=xI (IY i)/\(∀x∈P.ns,0<=x/\kU x)/\P.nm.length<=s.length+1/\P.tx.length<=s.length+1:=by
 unfold nN at h;split at h
 .cases h
 .next j b=>
  cases a:jE (IY j) ⟨(Lib.cut (shT s) [32]).2.1,(Lib.cut (shT s) [32]).2.2,[],[],[]⟩ with
  |none=>rw[a] at h;cases h
  |some q=>
   rw[a] at h;cases h;have c:(shT s).length<=s.length+1:=by
    unfold shT;split
    .next e=>rw[e];decide
    .omega
   obtain⟨d,f,g,k⟩:=Tt (L:=s.length+1) _ _ _ a (λx l=>by cases l) (bO (IW _) c) (bA _) (bA _);exact⟨Vw b,by rw[d];simp,f,g,k⟩
end
open Go.RowKit Go.Maps Go.Shelf
section
variable {E:Nat->Addr}{T:Nat->Bs}{P:Ps}{s:Stp}{n:Nat}
theorem stay {i k:Nat}{t:Bs}(hs:Oy n s)(a:k<=10)(h:CmF E T i P k t s s):CmX E T i P n s:=⟨k,t,s,a,hs.up,h⟩
theorem Jv {l:List Int}(h:l.length=1):∃a,l=[a]:=List.length_eq_one_iff.1 h
theorem a5v {l:List Int}(h:l.length=2):∃a b,l=[a,b]:=by
 obtain _|⟨a,l⟩:=l
 .cases h
 .obtain⟨b,rfl⟩:=Jv (l:=l) (by simpa using h);grind
theorem a5w {l:List Int}(h:l.length=3):∃a b c,l=[a,b,c]:=by
 obtain _|⟨a,l⟩:=l
 .cases h
 .obtain⟨b,c,rfl⟩:=a5v (l:=l) (by simpa using h);grind
theorem adC (hs:Oy n s)(m:n<=1000){i:Nat}(hi:i<13)(d:P.ns.length=xI (IY i))(o:∀x∈P.ns,0<=x/\kU x)(p:P.nm.length<=2000)(q:P.tx.length<=2000):CmX E T i P n s:=by
 have f:∀x∈s.l,x.fill.length<=300/\∃e,s.M x.nd=some e:=λx j=>by
  obtain⟨v,r⟩:=Mj hs.M (λy u=>(hs.sh.g y u).1) hs.pc x j;exact⟨aa,r⟩
 have g:=vw hs.pc;have G:∀x,x∈P.ns->kU x:=by grind
 rcases i with _|_|_|_|_|_|_|_|_|_|_|_|_|i
 .exact a9l hs aa
 .exact a5e hs aa
 .obtain⟨a,b,h⟩:=a5v (d.trans (show _=2 by decide));exact adt hs m h (G a (by rw[h];simp)) aa
 .obtain⟨a,h⟩:=Jv (d.trans (show _=1 by decide));exact a0E hs h (G a (by rw[h];simp))
 .obtain⟨a,b,c,h⟩:=a5w (d.trans (show _=3 by decide));exact a9k hs h (G a (by rw[h];simp)) (G b (by rw[h];simp))
 .obtain⟨a,h⟩:=Jv (d.trans (show _=1 by decide));exact ads hs h (G a (by rw[h];simp)) aa aa
 .obtain⟨a,h⟩:=Jv (d.trans (show _=1 by decide));exact a5d hs h (G a (by rw[h];simp)) aa
 .obtain⟨t,h⟩:=a9o (E:=E) (T:=T) (P:=P) (s:=s);exact stay hs aC h
 .obtain⟨k,t,l,h⟩:=a9p (E:=E) (T:=T) (P:=P) (s:=s);exact stay hs l h
 .obtain⟨k,t,l,h⟩:=a9q (E:=E) (T:=T) (P:=P) (s:=s) hs.M aa;exact stay hs l h
 .obtain⟨a,h⟩:=Jv (d.trans (show _=1 by decide));obtain⟨t,h⟩:=a5n (E:=E) (T:=T) (P:=P) (s:=s) hs.M hs.sh h (G a (by rw[h];simp));exact stay hs aC h
 .exact stay hs aC (Mh hs.M hs.sh g f)
 .exact stay hs aC (a5s λx j=>(f x j).1)
 .omega
def AnS (E:Nat->Addr)(T:Nat->Bs)(x u:Bs)(s t:Stp):Prop:=∀V PB B X W c d a n,uC E T V PB B X s W c d->qm W PB a Aa n->aL 15 #[.map (some a),bV x] W λe b=>e=ay (bV u)/\(∃f g,uC E T V PB B X t b f g)/\KM W b
theorem ahC {x:Bs}(h:nN x=none)(k:x.length<=1000):AnS E T x (T 1) s s:=λV PB B X W d f l n b g=>
  (Jq b.pe b.te g x aa (λ_ _=>False) (λi P a=>by rw[h] at a;cases a)).mono λe m j=>by
    rcases j with⟨-,a,c⟩|⟨t, -,a⟩
    . exact⟨a,⟨d,f,b.below c⟩,KM.of_below c⟩
    . exact a.elim
theorem Yi {x:Bs}{i k:Nat}{t:Bs}{b:Stp}(p:nN x=some (i,P))(J:x.length<=1000)(q:k<=10)(hF:CmF E T i P k t s b):AnS E T x (if k=0 then t else T k) s b:=λV PB B X W r y K m c z=>by
 refine(Jq c.pe c.te z x aa (λu a=>u=(if k=0 then t else T k)/\(∃d f,uC E T V PB B X b a d f)/\KM W a) (λL M j o A w l C=>?_)).mono λe a N=>?_
 .rw[p] at j;cases j;refine(hF V PB B X w r y (c.below l) o A _ C).mono λe a ⟨⟨d,f,g⟩,D,F,v,H,h⟩=>⟨F,v,H,?_⟩;have gk:=(KM.of_below l).trans D;rcases h with⟨O,rfl,rfl⟩|⟨I,h⟩
  .grind
  .exact .inr ⟨k,I,q,h,g.pe.le,g.te,λQ n=>⟨by rw[aG aa],⟨d,f,g.below n⟩,gk.trans (KM.of_below n)⟩⟩
 .grind
theorem amK (hs:Oy n s)(d:n<=1000){x:Bs}(c:x.length<=1000):∃u t,Oy (n+1) t/\AnS E T x u s t/\(nN x=none->u=T 1):=by
 cases a:nN x with
 |none=>exact⟨T 1,s,hs.up,ahC a c,λ_=>rfl⟩
 |some z=>
  obtain⟨i,P⟩:=z;obtain⟨e,f,g,m,o⟩:=a9u a;obtain⟨k,t,j,l,b,hF⟩:=adC (E:=E) (T:=T) hs d e f g aa aa;exact⟨_,j,b,Yi a c l hF,λh=>by cases h⟩
theorem Yj:∀(b:List Bs) (n:Nat) (s:Stp),Oy n s->n+b.length<=1000->(∀x∈b,x.length<=1000)->∃(c:Nat->Stp) (us:List Bs),c 0=s/\us.length=b.length/\∀i x u,b[i]? =some x->us[i]? =some u->AnS E T x u (c i) (c (i+1))/\(nN x=none->u=T 1)
 |[],n,s,_,_,_=>⟨λ_=>s,[],rfl,rfl,λi v a h _=>by simp at h⟩
 |x::b,n,s,e,f,d=>by
  rw[eZ] at f;obtain⟨u,t,g,l,m⟩:=amK (E:=E) (T:=T) e aa (d x aI);obtain⟨c,us,o,j,p⟩:=Yj b (n+1) t g aa (λy k=>d y (by simp[k]));refine⟨λi=>match i with|0=>s|i+1=>c i,u::us,rfl,by simp[j],λi q r w z=>?_⟩;grind
end
set_option maxRecDepth 20000
def qo:Nd:=.mk [103,114,111,117,112] [] []
abbrev s00:Stp:=adu qo [] [] []
theorem Jw:(je qo 1 0).1=0:=aA
theorem W9:fC (l9 qo) []=.ok []:=aA
theorem We:F9 [] []:=⟨bA _,aA,bA _⟩
theorem amL:Oy 0 s00:=⟨oI Jw,We,W9,by have:=VX Jw;show jq qo<=_;omega⟩
theorem adE (W:ai):sS W (au ⟨#[103,114,111,117,112]⟩) (aj none 0 0) (aj none 0 0) qo:=by
 unfold qo sS;refine⟨rfl,by rw[dD];decide,⟨none,0,rfl,bJ _,bA _,λ_=>rfl,λi x h=>by simp at h⟩,none,0,rfl,bJ _,bA _,λ_=>rfl,?_⟩;unfold nJ;trivial
section
variable {E:Nat->Addr}{T:Nat->Bs}{V:ai}{PB B:Nat}{s:Stp}{W w':ai}{LB DB:Nat}
theorem uC.grow {X:Option Nat}(h:uC E T V PB B X s W LB DB)(c:W.grownBy w' X){g:Nat}(i:X=some g\/g=W.heap.size)(m:∃cs f,w'.heap[g]? =some (ak cs 9 f))(j:∀b,X=some b->V.heap.size<=b):uC E T V PB B (some g) s w' LB DB:=by
 have k:=bu h.box;have nX:X≠some PB:=λe=>by
  obtain⟨cs,f,d⟩:=h.xx PB e;rw[h.box] at d;cases d
 refine⟨h.env,h.tx,h.pv,h.pB,h.EY.grown c h.EY.size j,h.lv.turn (λb _ a l=>c.block b a λe=>l e.symm) (λb a=>?_) c.size (λb a=>?_),(c.block PB k λe=>nX e.symm).trans h.box,λb a=>?_⟩
 .obtain⟨cs,f,d⟩:=h.xx b a;grind
 .grind
 .grind
theorem qm.km {a n:Nat}{p:Bs->Option Nat}(h:qm W PB a p n)(c:KM W w'):qm w' PB a p n:=by
 obtain⟨d,g,b⟩:=h.at;exact h.same (c.2 a (bu b) λi t f e=>by rw[b] at e;cases e)
theorem adF {b k:Nat}{v:ax}{a:List ax}(h:W.ownsRow b 9 1 v k a)(d:KM W w'):w'.ownsRow b 9 1 v k a:=dF h λg c=>by
 obtain⟨l,f,i, -⟩:=gy h g c;exact d.2 g (h.lt g c).2 λj m n e=>by rw[i] at e;cases e;decide
theorem Ol (hE:PE E W)(hT:Tj E T W)(h:Nat->Stp)(I us:List Bs)(n:Nat)(J:I.length=n)(K:us.length=n)(hn:n<=100)(h0:h 0=s00)(hS:∀i x u,I[i]? =some x->us[i]? =some u->AnS E T x u (h i) (h (i+1)))(o:Option Addr)(cp:Nat)(hX:oH W o (I.map λx=>⟨x.toArray⟩))(b5:n<=cp):
  aL 6 #[aj o n cp] W λe w'=>∃v,e=ay (aH #[v,aY])/\w'.ownsRow W.heap.size 9 1 v n (us.map bV)/\aD W w':=by
 have b6:¬(100:Int)<(n:Int):=aa;have b7:(n:Int)<=(cp:Int):=aa;have bP:=dR W (ak #[.pointer none,au ⟨#[]⟩] 45);have kP:=dY W #[.pointer none,au ⟨#[]⟩] 45;obtain⟨i0,hi,L,M,N⟩:=info_parts CZ;have BG:=Yf (p0:=.pointer none) (sh:=[]) (hE.below bP) We Jw (adE _) kP;have O:aL 13 #[aK W.heap.size,.agg (ndA ⟨#[103,114,111,117,112]⟩ none 0 0 none 0 0)] (W.alloc (ak #[.pointer none,au ⟨#[]⟩] 45)) λe w'=>e=ay aY/\∃LB DB,uC E T W W.heap.size (W.heap.size+1) none (h 0) w' LB DB:=BG.mono λe w' ⟨x,g1,j⟩=>by
  rcases j with⟨t,y,rfl,j, -⟩|⟨rfl,LB,DB,l,w1,j,g3,g4,g5,rfl⟩
  .exact absurd ⟨[],W9,λx D=>by cases D⟩ j.no
  .refine⟨g1,LB,DB,?_⟩;rw[W9] at j;cases j;rw[h0];have a5:(W.alloc (ak #[.pointer none,au ⟨#[]⟩] 45)).heap.size=W.heap.size+1:=dV _ _;rw[a5] at g4;exact uC.put hE hT az (Nat.lt_succ_self _) (bf bP g5) g4 az (λb p=>by cases p) ((g5.block _ (bu kP)).trans kP) rfl
 have HS:=aF hS;have HX:=aF hX;have Q:=aF J;have A:=aF K;have HB:Hid (∀w LB DB,uC E T W W.heap.size (W.heap.size+1) none (h 0) w LB DB->∀d g,qm g W.heap.size d Aa 13->aD w g->∃w',(Instr.makeSlice 22 (ag 0) (ag n)).run prog g=.ok (aj (some ⟨g.heap.size,0,none⟩) 0 n) w'/\w'.ownsRow W.heap.size 9 1 (aj (some ⟨g.heap.size,0,none⟩) 0 n) 0 []/\uC E T W W.heap.size (W.heap.size+1) (some g.heap.size) (h 0) w' LB DB/\qm w' W.heap.size d Aa 13):=λw LB DB hw d g R p=>by
  have S:=hw.below p;have a6:=S.EY.size;obtain⟨w',h1,h2,h3⟩:=run_make_own (w:=g) (P:=prog) W.heap.size 22 9 i0 (au ⟨#[]⟩) 1 underlying22 hi L M .i64 .i64 n (by rw[N];omega) (by simp only[maxLen];omega) a6;obtain⟨cs,f,F, -⟩:=gy h2 _ rfl;refine⟨w',h1,h2,S.grow h3 (.inr rfl) ⟨cs,f,F⟩ (λb p=>by cases p),?_⟩;obtain⟨es,cl,h5⟩:=R.at;exact R.same (h3.block d (bu h5) λe=>by cases e)
 clear hS hX J K BG hE hT h0;go_enter func6,ntmps6;go_upto_region 7 with(go_at_call 13;refine O.mono ?_;rintro e w1 ⟨rfl,LB,DB,U⟩);have CM:=NV W.heap.size w1;go_upto_region 8 with(go_at_call 14;refine CM.mono ?_;rintro e g ⟨d,rfl,R,b2⟩);obtain⟨w3,R3,yP,V,X⟩:=HB.out w1 LB DB U d g R b2;have Z:Hid (∃LB DB,uC E T W W.heap.size (W.heap.size+1) (some g.heap.size) (h 0) w3 LB DB):=⟨LB,DB,V⟩;have a7:=aF X;obtain⟨Y,hY⟩:∃Y,g.heap.size=Y:=⟨_,rfl⟩;rw[hY] at R3 yP Z;clear HB U R b2 V X hY O CM kP bP;go_upto_region 9 with fail;go_wp2_with fail
 go_loopw [7,29] (λu i wr=>∃(k:Nat) (H:Option Addr) (m a:Nat),k<=n/\u=aj H m a/\i=ag k/\m=k/\wr.ownsRow W.heap.size 9 1 (aj H m a) m ((us.take k).map bV)/\Hid (∃LB DB,uC E T W W.heap.size (W.heap.size+1) (Value.slice H m a).ownBlock (h k) wr LB DB)/\Hid (qm wr W.heap.size d Aa 13)) (λ_ i _=>n-(intOf i).toNat)
 case atStart=>exact⟨0,some ⟨Y,0,none⟩,0,n,bA _,rfl,rfl,rfl,yP,Z,a7⟩
 case round=>
  obtain⟨k,H,m,a,hk,rfl,rfl,hm,z,q,r⟩:=hrel;by_cases s:k<n
  .have b4:(k:Int)<(n:Int):=aa;have D:=fD (l:=I) (i:=k) (by rw[Q.out];exact s);have B:=fD (l:=us) (i:=k) (by rw[A.out];exact s);generalize I[k]'(by rw[Q.out];exact s)=x at D;generalize us[k]'(by rw[A.out];exact s)=u at B;have ST:=HS.out k x u D B;have HT:Hid ((us.take (k+1)).map bV=(us.take k).map bV++[bV u]):=by
    show _=_;rw[eX,B];simp
   obtain⟨LB,DB,c⟩:=q.out;obtain⟨b0,a8,rfl,cx⟩:=HX.out k ⟨x.toArray⟩ (by rw[jv,D];rfl);have cx:wr.cell? (aJ b0 (a8+k))=some (bV x):=(c.EY.cell (aX cx)).trans cx;have a9:aL 15 #[.map (some d),bV x] wr λe w'=>e=ay (bV u)/\W.heap.size<=w'.heap.size/\(w'.alloc (ak #[bV u] 9)).ownsRow W.heap.size 9 1 (aj H m a) m ((us.take k).map bV)/\Hid (∃LB DB,uC E T W W.heap.size (W.heap.size+1) (Value.slice H m a).ownBlock (h (k+1)) (w'.alloc (ak #[bV u] 9)) LB DB)/\Hid (qm (w'.alloc (ak #[bV u] 9)) W.heap.size d Aa 13):=(ST W _ _ _ wr LB DB d 13 c r.out).mono λe w' ⟨g1,⟨yD,wo,j⟩,g3⟩=>⟨g1,j.EY.size,bY (adF z g3) (dR _ _),⟨yD,wo,j.below (dR _ _)⟩,(r.out.km g3).km (KM.of_below (dR _ _))⟩;clear ST D B q r c;subst hm;go_upto_region 12 with fail;go_wp2_with(first|(go_at_call 15;refine a9.mono ?_;rintro e w4 ⟨rfl,b8,C,b1,a4⟩;have H0:=fE w4 (ak #[bV u] 9))|(at_builtin;refine wpList_append_lies _ rfl _ _ 22 rfl W.heap.size 9 i0 (au ⟨#[]⟩) 1 16 underlying22 hi L M N rfl aC _ _ _ rfl C ⟨w4.heap.size,0,none⟩ 1 1 [bV u] rfl rfl (World.news_of_block H0) (λu B=>by simp at B;subst B;rfl) aC (by simp only[maxLen];omega) aa bq _ rfl ?_;intro g7 c7 w7 kN lJ b3 b9))
   go_roundw
   case rel=>
    obtain⟨yD,wo,hq⟩:=b1.out;have hg:=hq.grow lJ b3 (by obtain⟨cs,f,F, -⟩:=gy kN _ rfl;exact⟨cs,f,F⟩) (λb p=>(C.lt b p).1);exact⟨m+1,_,_,c7,aa,rfl,by go_num,rfl,by rw[HT.out];exact kN,⟨yD,wo,hg⟩,by
     obtain⟨es,cl,h5⟩:=a4.out.at;refine a4.out.same (lJ.block d (bu h5) λe=>?_);obtain⟨cs,f,F, -⟩:=gy C d e.symm;rw[h5] at F;cases F⟩
   case measure=>simp[intOf];omega
  .obtain rfl:k=n:=aa;obtain⟨LB,DB,c⟩:=q.out;have p:=c.EY;clear q c r;go_wp2_with fail
   go_ret2
   exact⟨_,rfl,by rw[<- jH (Nat.le_of_eq A.out),<- hm];exact hm▸z,p⟩
end
def yl:List Bs:=[[97,100,100,32,48,32,48,32,98,111,120],[115,101,116,32,49,32,119,32,50],[115,101,116,32,49,32,104,32,49],[115,101,116,32,49,32,102,105,108,108,32,97],[112,105,101,99,101,115]]
def TT:List Bs:=[[49],[110,111,116,104,105,110,103],[110,111,116,104,105,110,103],[48],[49,58,97]]
def Kv (x:Bs):Ps:=match nN x with|some z=>z.2|none=>⟨[],false,[],[],[]⟩
def okP (M:Dm):List Pc:=match fC M [] with| .ok l=>l| .error _=>[]
def heQ:ig:=match l9 qo 0 with|some e=>e|none=>⟨[],[],0,[]⟩
def adG:Dm:=eP (eP (l9 qo) (jq qo) ⟨(Kv yl[0]).nm,[],0,[]⟩) 0 ⟨heQ.name,heQ.ats,heQ.parent,iO heQ.kids 0 (jq qo)⟩
def adH:Dm:=okD adG (xD adG 1 (Kv yl[1]).nm (Kv yl[1]).tx)
def adI:Dm:=okD adH (xD adH 1 (Kv yl[2]).nm (Kv yl[2]).tx)
def amN:Dm:=okD adI (xD adI 1 (Kv yl[3]).nm (Kv yl[3]).tx)
def Tu (i:Nat):Dm:=match i with
 |0=>l9 qo|1=>adG|2=>adH|3=>adI|_=>amN
def heS (i:Nat):Stp:=match i with
 |0=>s00
 |i+1=>⟨Tu (i+1),jq qo+1,jq qo+1,[],okP (Tu (i+1)),[]⟩
theorem adJ:l9 qo 0=some heQ:=aA
theorem ahD:l9 qo heQ.parent=none:=aA
theorem adK:¬∃d,10<=d/\Up (l9 qo) 0 d:=λ⟨d,c,a⟩=>by
 have b:Up (l9 qo) 0 1:=⟨heQ,adJ,ahD⟩;have:=Up.same a b;omega
theorem Tv:∀i,i<5->fC (Tu i) []=.ok (okP (Tu i)):=by
 intro i a;rcases i with _|_|_|_|_|i
 all_goals first|omega|kernel_rfl
theorem adL:∀i,i<5->((okP (Tu i)).all λx=>decide (x.pts.length<=30) && (x.pts.all λa=>jZ a==0) && decide (xy (iB x).rule))=true:=by
 intro i b;rcases i with _|_|_|_|_|i
 all_goals first|omega|kernel_rfl
theorem aaD {i:Nat}(hi:i<5):Km (Tu i) []:=⟨okP (Tu i),Tv i hi,λx a=>by
 have h:=List.all_eq_true.1 (adL i hi) x a;simp only[jg,lG,List.all_eq_true,beq_iff_eq] at h;obtain⟨⟨b,c⟩,d⟩:=h;exact⟨⟨b,c⟩,d⟩⟩
theorem a5x:∀i,i<5->nN (yl.getD i [])=some (match i with|0=>2|4=>11|_=>5,Kv (yl.getD i [])):=by
 intro i a;rcases i with _|_|_|_|_|i
 all_goals first|omega|kernel_rfl
theorem ahE:∀i,i<3->erN (xD (Tu (i+1)) 1 (Kv (yl.getD (i+1) [])).nm (Kv (yl.getD (i+1) [])).tx)=0:=by
 intro i a;rcases i with _|_|_|i
 all_goals first|omega|kernel_rfl
theorem ahF:∀i,i<3->bS (rQ (((uq (okP (Tu (i+1))) (okP (Tu (i+2))) 6).map λ(y:Nat)=>(y:Int)).map yY))=TT.getD (i+1) []:=by
 intro i a;rcases i with _|_|_|i
 all_goals first|omega|kernel_rfl
theorem ahG (i:Nat)(hi:i<3):Tu (i+2)=okD (Tu (i+1)) (xD (Tu (i+1)) 1 (Kv (yl.getD (i+1) [])).nm (Kv (yl.getD (i+1) [])).tx):=by
 rcases i with _|_|_|i
 all_goals first|omega|rfl
theorem adM (a:fq M){n:Int}{nm v:Bs}:fq (okD M (xD M n nm v)):=by
 cases b:xD M n nm v with
 |error j=>exact a
 |ok c=>exact(VN a c b).1
theorem aaE:iQ (Kv yl[0]).nm=true:=aA
theorem Mk:∀i,i<5->fq (Tu i)
 |0,_=>oI Jw
 |1,_=>VP (oI Jw) aaE adJ 0
 |i+2,h=>by
  rw[ahG i aa];exact adM (Mk (i+1) aa)
theorem ahH:∀i,i<3->(Kv (yl.getD (i+1) [])).ns=[1]:=by
 intro i a;rcases i with _|_|_|i
 all_goals first|omega|kernel_rfl
theorem Wh:∀x∈yl,x.length<=1000/\(Kv x).nm.length<=1000000/\(Kv x).tx.length<=1000000:=by decide+kernel
variable {E:Nat->Addr}{T:Nat->Bs}{W:ai}
theorem adN:AnS E T (yl.getD 0 []) (TT.getD 0 []) (heS 0) (heS 1):=by
 have b:jq qo<1000000:=by decide+kernel
 have e:¬100<=jq qo:=by decide+kernel
 have f:=VU (l:=[]) (w:=8) (h:=6) (rl:=[]) (Mk 1 aC) (Jg (E:=E) (M:=l9 qo) (nx:=jq qo) (c:=jq qo) (n:=0) (m:=0) (v:=[]) b 0 aaE adJ (bA _) adK e) (BI (E:=E) (rl:=[]) (x:=⟨Di,0,0,0,(Kv yl[0]).nm,[]⟩) (show Di≠iy by decide) (λy g=>by cases g)) (Tv 1 aC) (aaD aC) aC aC aC aC;have i:=Mg (E:=E) (T:=T) (P:=Kv yl[0]) (s:=s00) (a:=0) (j:=0) (q:=heQ) aA ⟨aC,aC⟩ b (bA _) f;have d:=Yi (a5x 0 aC) (Wh _ aC).1 (bA _) i;have k:(if 0=0 then bS (yY s00.nx) else T 0)=TT.getD 0 []:=by
  rw[aR rfl];kernel_rfl
 rw[k] at d;exact d
theorem Wi (i:Nat)(hi:i<3):AnS E T (yl.getD (i+1) []) (TT.getD (i+1) []) (heS (i+1)) (heS (i+2)):=by
 have d:yl.getD (i+1) []∈yl:=by
  rcases i with _|_|_|i
  all_goals first|omega|decide
 obtain⟨e,f,g⟩:=Wh _ d;have b:=XW (E:=E) (M:=Tu (i+1)) (nx:=jq qo+1) (c:=jq qo+1) (n:=1) (m:=0) (ea:=0) (Mk (i+1) aa) aC f g;rw[ahE i hi,<- ahG i hi] at b;have j:=VU (l:=okP (Tu (i+1))) (w:=8) (h:=6) (rl:=[]) (Mk (i+2) aa) b (BI (E:=E) (rl:=[]) (show SI≠iy by decide) (λy k=>by cases k)) (Tv (i+2) aa) (aaD aa) aC aC aC aC;have o:=Oi (E:=E) (T:=T) (s:=heS (i+1)) (i:=5) (P:=Kv (yl.getD (i+1) [])) j (Ye (ahH i hi));have p:nN (yl.getD (i+1) [])=some (5,Kv (yl.getD (i+1) [])):=by
  rw[a5x (i+1) aa];grind
 have a:=Yi p e (bA _) o;rw[aR rfl] at a;have q:=ahF i hi;have r:(heS (i+1)).l=okP (Tu (i+1)):=rfl;rw[r,q] at a;exact a
theorem adO:AnS E T (yl.getD 4 []) (TT.getD 4 []) (heS 4) (heS 4):=by
 have a:=Mh (E:=E) (T:=T) (P:=Kv (yl.getD 4 [])) (s:=heS 4) (Mk 4 aC) We (vw (Tv 4 aC)) (λx b=>by
  obtain⟨d,a⟩:=Mj (Mk 4 aC) (λy c=>by cases c) (Tv 4 aC) x b;exact⟨aa,a⟩)
 have e:=Yi (a5x 4 aC) (Wh _ aC).1 (bA _) a;have f:(if 0=0 then bS (rQ ((heS 4).l.map pcW)) else T 0)=TT.getD 4 []:=by
  rw[aR rfl];kernel_rfl
 grind
def heT (i:Nat):Stp:=if i<=4 then heS i else heS 4
theorem amO:heT 0=s00:=by
 unfold heT;rw[aR (bA _)];rfl
theorem adP:∀i x u,yl[i]? =some x->TT[i]? =some u->AnS E T x u (heT i) (heT (i+1)):=λi x u a d=>by
 have e:i<5:=(lK.1 a).1;have b:x=yl.getD i []:=by grind
 have c:u=TT.getD i []:=by grind
 rw[b,c];rcases i with _|_|_|_|_|i
 .exact adN
 .exact Wi 0 aC
 .exact Wi 1 aC
 .exact Wi 2 aC
 .exact adO
 .omega
abbrev heA (l:List Bs):Array ax:=(l.map bV).toArray
theorem Jy {V:ai}{B n:Nat}{v:ax}{us:List Bs}(h:V.ownsRow B 9 1 v n (us.map bV)):∃o cp,v=aj o n cp/\oH V o (us.map λx=>⟨x.toArray⟩):=by
 have a:V.ownsRow B 9 1 v n ((us.map λx=>(⟨x.toArray⟩:aO)).map au):=by
  rw[List.map_map];exact h
 obtain⟨o,cp,b,c, -,d⟩:=oH.own a;grind
theorem Yk {V:ai}{n:Nat}{us vs:List Bs}(i:us.length=n)(f:vs=us)(j:n<=10000){a b:Option Addr}{c d:Nat}(g:oH V a (us.map λx=>⟨x.toArray⟩))(h:oH V b (vs.map λx=>⟨x.toArray⟩)):aL 12 #[aj a n c,aj b n d] V λe W=>e=ay (.bool true)/\aD V W:=by
 subst f;have:=IQ _ _ a b c d V (by rw[dP];omega) g h rfl;grind
theorem a0K (hE:PE E W)(m:Tj E T W):aL 5 #[] W λe w'=>e=ay (.bool true)/\aD W w':=by
 have f:∀(V:ai) (l:List Bs) (g:Nat),V.heap[g]? =some (ak (heA l) 9)->oH V (some ⟨g,0,none⟩) (l.map λx=>⟨x.toArray⟩):=λV l g r i s n=>by
  rw[jv,ni] at n;obtain⟨x,t,rfl⟩:=n;exact⟨g,0,rfl,by rw[gq];exact aQ r i (bV x) (by simp[heA,t])⟩
 have d:=dR W (ak (heA yl) 9);have h:=Ol (T:=T) (hE.below d) (m.below d) heT yl TT 5 rfl rfl aC amO adP (some ⟨W.heap.size,0,none⟩) 5 (f _ yl _ (dY W _ _)) az;have p:∀(V:ai) (v:ax),V.ownsRow (W.heap.size+1) 9 1 v 5 (TT.map bV)->∃o b,v=aj o 5 b/\aL 12 #[aj o 5 b,aj (some ⟨V.heap.size,0,none⟩) 5 5] (V.alloc (ak (heA TT) 9)) λe W=>e=ay (.bool true)/\Below (V.alloc (ak (heA TT) 9)).heap.size (V.alloc (ak (heA TT) 9)) W:=λV v a=>by
  obtain⟨o,b,u,w⟩:=Jy a;exact⟨o,b,u,Yk (us:=TT) rfl rfl aC (w.below (dR _ _)) (f _ TT _ (dY V _ _))⟩
 have c:(W.alloc (ak (heA yl) 9)).heap.size=W.heap.size+1:=dV _ _;rw[c] at h;simp only[heA,yl,TT,bV,ny,List.map_nil] at h p d;clear hE m f c;go_enter func5,ntmps5;go_upto_region 2 with(go_at_call 6;refine h.mono ?_;rintro e q ⟨v,rfl,a,y⟩);obtain⟨o,b,rfl,j⟩:=p q v a;have z:=dR q (ak #[au ⟨#[49]⟩,au ⟨#[110,111,116,104,105,110,103]⟩,au ⟨#[110,111,116,104,105,110,103]⟩,au ⟨#[48]⟩,au ⟨#[49,58,97]⟩] 9);have k:=bf (d.trans (y.mono d.size)) z;go_wp2_with(go_at_call 12;refine j.mono ?_;rintro e B ⟨rfl,A⟩);go_ret;exact⟨rfl,bf k A⟩

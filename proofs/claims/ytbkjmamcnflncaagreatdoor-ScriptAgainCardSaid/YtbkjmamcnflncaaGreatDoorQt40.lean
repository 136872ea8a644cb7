import Derived.Test.YtbkjmamcnflncaaGreatDoorQt39
namespace Go.Proofs.YtbkjmamcnflncaaGreatDoor
open Go.Proofs.Tryz
set_option maxHeartbeats 4000000
section
open Go.RowKit
set_option maxRecDepth 20000
def F9 (s:Bs)(rl:List Rl):Prop:=s.length<=10000/\Mt s=.ok rl/\rl.length<=40
theorem F9.g {s:Bs}{rl:List Rl}(h:F9 s rl):∀y∈rl,RlG y:=λy a=>rlG (a1l _ _ _ _ (by have:=h.1;omega) (λ_ h=>by cases h) h.2.1 y a)
def RbS (E:Nat->Addr)(x:Ed)(rl:List Rl)(a:Nat)(b:List Rl):Prop:=(∀y∈b,RlG y)/\∀V B d,PE E V->V.ownsRow B 150 3 d rl.length (fP rl)->B<=V.heap.size->aL 85 #[d,.agg (tq x)] V λe c=>aD V c/\((∃u t y,(1<=a/\F8 E a (aU t y) c)/\e=ay (aH #[u,aU t y]))\/(a=0/\∃o n f,e=ay (aH #[aj o n f,aY])/\c.ownsRow B 150 3 (aj o n f) b.length (fP b)))
def DoS (E:Nat->Addr)(x:Ed)(M:Dm)(nx c:Nat)(rl:List Rl)(l:List Pc)(w h k:Nat)(i:Dm)(j m:Nat)(n:List Rl)(g:List Pc):Prop:=∀W a B f X,(∀b,X=some b->b<W.heap.size)->PE E W->yC W a B f M nx c rl l w h X->aL 44 #[aK a,.agg (tq x)] W λe d=>K2 a f W d/\yC d a B f i j m n g w h X/\∃v u,e=ay (aH #[v,u])/\((k=0/\u=aY/\ahq W.heap.size d v l g h)\/(1<=k/\F8 E k u d))
section
variable {E:Nat->Addr}{x:Ed}{M J:Dm}{nx c F O I K:Nat}{rl A:List Rl}{l:List Pc}{w h:Nat}
theorem a4X (a4:fq J)(AF:ApF E x M nx c F J O I)(R:RbS E x rl K A)(q:1<=w)(hw:w<=40)(Ba:1<=h)(hh:h<=40):∀W LB B DB X,(∀b,X=some b->b<W.heap.size)->PE E W->yC W LB B DB M nx c rl l w h X->aL 44 #[aK LB,.agg (tq x)] W λe w'=>(∃t u,e=ay (aH #[aj none 0 0,aU t u])/\K2 LB DB W w'/\yC w' LB B DB M nx c rl l w h X/\((F≠0/\aU t u=eV (E F))\/(1<=K/\F8 E K (aU t u) w')\/(F=0/\K=0/\Df E J A (aU t u) w')))\/(F=0/\K=0/\∃s v,fC J A=.ok s/\Km J A/\K2 LB DB W w'/\e=ay (aH #[v,aY])/\ahq W.heap.size w' v l s h/\yC w' LB B DB J O I A s w h X):=λW LB B DB X j hE i=>by
 obtain⟨r,tg,MB,p,rv,qs,pv,cv,i,S,T⟩:=i;refine(a8F hE.le i q hw Ba hh x (λv=>F≠0/\v=eV (E F)) (λv w=>1<=K/\F8 E K v w) (K=0) (λa b d _=>F=0/\a=J/\b=O/\d=I) A R.1 (λN V xO Jb Ov p1 U m g=>(AF N xO V Jb Ov p1 r (hE.le.below m) g).mono λe w' ⟨g1,g2⟩=>⟨g1,?_⟩) (λV z=>R.2 V B rv (hE.below z) (bY i.row z) (bO i.ds.low z.size))).mono λe w' hr=>?_
 .grind
 .rcases hr with⟨⟨t,u,U,m⟩,g,C⟩|⟨kr,Fq,D,p2,M2,pK,c2,r2,H,Y,L,P,o,n,cp,⟨k0,rfl,rfl,rfl⟩,m,g,C,h5,Z,h7,h8⟩
  .refine .inl ⟨t,u,U,⟨g.os,g.tape,g.output,g.size,λb k _ _=>g.block b k⟩,⟨r,tg,MB,p,_,qs,pv,cv,C,S,T⟩,?_⟩;grind
  .exact .inr ⟨k0,kr,Y.map fM.pc,_,Z.pm,m,g,C,⟨o,n,cp,rfl,by rw[<- S,<- dP (f:=λ(y:Nat)=>(y:Int))];exact h5⟩,r2,Fq,D,p2,H,Y,L,P,Z,rfl,λb k=>⟨h7 b (j b k) λQ=>(by have:=i.ds.w.mY;rw[<- Q,(T b k).1] at this;cases this),λQ=>(by have:=h8 b Q;have:=j b k;omega)⟩⟩
theorem VU (b:fq J)(i:ApF E x M nx c 0 J O I)(j:RbS E x rl 0 A){g:List Pc}(k:fC J A=.ok g)(hp:Km J A)(d:1<=w)(m:w<=40)(n:1<=h)(o:h<=40):DoS E x M nx c rl l w h 0 J O I A g:=λW p B q X f hE r=>(a4X b i j d m n o W p B q X f hE r).mono λe y s=>by
 rcases s with⟨t,u, -, -, -,⟨a, -⟩|⟨a, -⟩|⟨-, -,a⟩⟩|⟨-, -,z,v,a, -,C,D,F,H⟩
 .omega
 .omega
 .exact absurd hp a.no
 .grind
theorem a4Y (b:fq J)(o:F<=10)(s:ApF E x M nx c F J O I)(p:K<=10)(v:RbS E x rl K A)(N:F=0\/K=0)(d:1<=w)(y:w<=40)(z:1<=h)(C:h<=40):(∃k,1<=k/\k<=10/\DoS E x M nx c rl l w h k M nx c rl l)\/(F=0/\K=0/\∃n,fC J A=.ok n/\DoS E x M nx c rl l w h 0 J O I A n):=by
 have q:=a4X (l:=l) b s v d y z C;by_cases P:F=0
 .by_cases f:K=0
  .by_cases D:Km J A
   .obtain⟨n,g,Q⟩:=id D;subst P;subst f;exact .inr ⟨rfl,rfl,n,g,VU b s v g D d y z C⟩
   .obtain⟨k,R,S,V⟩:=Df.num J A;refine .inl ⟨k,R,S,λW i B j X a hE m=>(q W i B j X a hE m).mono λe H f=>?_⟩;grind
  .refine .inl ⟨K,aa,p,λW i B j X a hE m=>(q W i B j X a hE m).mono λe H f=>?_⟩;grind
 .refine .inl ⟨F,aa,o,λW i B j X a hE m=>(q W i B j X a hE m).mono λe H f=>?_⟩;rcases f with⟨t,u,L,T,U,⟨-,r⟩|⟨r, -⟩|⟨r, -⟩⟩|⟨L, -⟩
  .exact⟨T,U,_,_,L,.inr ⟨aa,.inl r⟩⟩
  .omega
  .omega
  .omega
theorem BI (d:x.kd≠iy)(a:∀y∈rl,RlG y):RbS E x rl 0 rl:=⟨a,λV B g _ b _=>by
 obtain⟨o,h,rfl⟩:=bD b;exact(VK x d _ _ _ V).mono λe i ⟨f,c⟩=>⟨c,.inr ⟨rfl,_,_,_,f,bY b c⟩⟩⟩
theorem a9i (s:Bs)(hs:s.length<=10000):(∃k,1<=k/\k<=10/\∀V,PE E V->aL 38 #[bV s] V λe w'=>(∃u t y,e=ay (aH #[u,aU t y])/\F8 E k (aU t y) w')/\aD V w')\/∃rl,F9 s rl/\∀V,PE E V->aL 38 #[bV s] V λe w'=>(∃o cp,e=ay (aH #[aj o rl.length cp,aY])/\w'.ownsRow V.heap.size 150 3 (aj o rl.length cp) rl.length (fP rl))/\aD V w':=by
 have RD:=λV (a:PE E V)=>Lv s hs V (E 1) (E 7) a.ne.c1 a.ne.c7 a.mx;cases f:Mt s with
 |error k=>
  refine .inl ⟨1,aC,aC,λV a=>(RD V a).mono λe w' ⟨b,d⟩=>⟨?_,d⟩⟩;rw[f] at b;obtain⟨h,c,g⟩:=b;exact⟨_,_,_,c,.inr ⟨h,k,rfl,aQ g 0 _ rfl,aQ g 1 _ rfl⟩⟩
 |ok rl=>
  by_cases i:40<rl.length
  .refine .inl ⟨7,aC,aC,λV a=>(RD V a).mono λe w' ⟨b,d⟩=>⟨?_,d⟩⟩;rw[f] at b;rcases b with⟨-,c⟩|⟨c, -⟩
   .exact⟨_,_,_,c,.inl rfl⟩
   .omega
  .refine .inr ⟨rl,⟨hs,f,aa⟩,λV a=>(RD V a).mono λe w' ⟨b,d⟩=>⟨?_,d⟩⟩;rw[f] at b;rcases b with⟨c, -⟩|⟨-,v,c,g⟩
   .omega
   .obtain⟨o,cp,rfl⟩:=bD g;grind
theorem Jr {s:Bs}(h:F9 s rl)(V:ai)(a:PE E V):aL 38 #[bV s] V λe w'=>(∃o cp,e=ay (aH #[aj o rl.length cp,aY])/\w'.ownsRow V.heap.size 150 3 (aj o rl.length cp) rl.length (fP rl))/\aD V w':=by
 obtain⟨c,d,j⟩:=h;refine(Lv s c V (E 1) (E 7) a.ne.c1 a.ne.c7 a.mx).mono λe w' ⟨b,f⟩=>⟨?_,f⟩;rw[d] at b;rcases b with⟨g, -⟩|⟨-,v,g,i⟩
 .omega
 .obtain⟨o,cp,rfl⟩:=bD i;grind
theorem aat (n m ea:Int)(nm a:Bs)(b:ax)(V:ai)(Q:ax->ax->ai->Prop)(h:aL 38 #[bV a] (V.alloc (ak (tq ⟨iy,n,m,ea,nm,a⟩) 94)) λe w'=>∃v u,e=ay (aH #[v,u])/\Q v u w'):
  aL 85 #[b,.agg (tq ⟨iy,n,m,ea,nm,a⟩)] V λe w'=>∃v u,e=ay (aH #[v,u])/\Q v u w':=by
 obtain⟨d,I,f,g,i,j⟩:=EdC.of (dY V (tq ⟨iy,n,m,ea,nm,a⟩) 94);unfold iy at*;go_enter func85,ntmps85;go_wp2_with(go_at_call 38;refine h.mono ?_;rintro e k ⟨v,u,rfl,c⟩)
 go_ret2
 exact⟨v,u,rfl,c⟩
theorem a0B (n m ea:Int)(nm b:Bs)(hs:b.length<=10000):(∃k,1<=k/\k<=10/\∀rl,RbS E ⟨iy,n,m,ea,nm,b⟩ rl k [])\/∃A,F9 b A/\∀rl,RbS E ⟨iy,n,m,ea,nm,b⟩ rl 0 A:=by
 have g:=λV:ai=>dR V (ak (tq ⟨iy,n,m,ea,nm,b⟩) 94);rcases a9i (E:=E) b hs with⟨k,F,r,RD⟩|⟨A,l,RD⟩
 .refine .inl ⟨k,F,r,λrl=>⟨λy s=>(by cases s),λV B i j _ p=>(aat n m ea nm b i V (λv u a=>aD V a/\∃t y,u=aU t y/\F8 E k u a) ((RD _ (j.below (g V))).mono λe a ⟨⟨u,t,y,c,d⟩,f⟩=>⟨_,_,c,bf (g V) f,t,y,rfl,d⟩)).mono λe a ⟨v,u,c,d,t,y,f,q⟩=>?_⟩⟩;grind
 .exact .inr ⟨A,l,λrl=>⟨l.g,λV B i j _ p=>(aat n m ea nm b i V (λv u a=>aD V a/\u=aY/\∃o n h,v=aj o n h/\a.ownsRow B 150 3 (aj o n h) A.length (fP A)) ((RD _ (j.below (g V))).mono λe a ⟨⟨o,h,c,d⟩,f⟩=>⟨_,_,c,bf (g V) f,rfl,_,_,_,rfl,gz d (bO p (g V).size)⟩)).mono λe a ⟨v,u,c,d,f,o,n,h,q,w⟩=>⟨d,.inr ⟨rfl,o,n,h,by rw[c,f,q],w⟩⟩⟩⟩
theorem a0C (n m ea:Int)(nm v:Bs):ApF E ⟨iy,n,m,ea,nm,v⟩ M nx c 0 M nx c:=λN d V f g p r hE a=>by
 have b:=dR V (ak (tq ⟨iy,n,m,ea,nm,v⟩) 94);obtain⟨h,I,i,j,k,l⟩:=EdC.of (dY V (tq ⟨iy,n,m,ea,nm,v⟩) 94);have e:Hid (Below N V (V.alloc (ak (tq ⟨iy,n,m,ea,nm,v⟩) 94))/\jk N d (V.alloc (ak (tq ⟨iy,n,m,ea,nm,v⟩) 94)) f g p M nx c r):=⟨b.mono a.low,a.below b⟩;clear a hE b;unfold iy at*;go_enter func84,ntmps84;go_wp2_with fail;go_ret;exact⟨e.out.1,rfl,d,p,r,e.out.2⟩
end
section
variable {E:Nat->Addr}{V:ai}{F:Nat}{v:ax}{A:List fM}{w h:Nat}
theorem Js (hE:LE E V)(n:yx V F v A)(p:A.length<=1000)(b:1<=w)(q:w<=40)(k:1<=h)(a:h<=40):
  aL 39 #[v,.int .i64 w,.int .i64 h] V λe W=>(((∀x∈A,kE (iB x.pc))/\∃g cp,e=.returned (.tuple #[.agg #[.int .i64 w,.int .i64 h,.slice (some ⟨g,0,none⟩) (w*h) cp],.nilIface])/\W.ownsRow V.heap.size 9 1 (.slice (some ⟨g,0,none⟩) (w*h) cp) (w*h) ((nM bT ((A.map fM.pc).map iB) w h).map .string))\/((¬∀x∈A,kE (iB x.pc))/\∃c,e=.returned (.tuple #[.agg #[.int .i64 0,.int .i64 0,.slice none 0 0],.iface 67 (aK c)])/\Hid (Kb (E 2) (E 3) (E 10) (A.map fM.p5) V.heap.size c W)))/\aD V W:=by
 obtain⟨o,f,rfl,r,s⟩:=n.row;refine(ZY _ _ _ _ (A.map fM.p5) o f w h V b q k a (by rw[dP];exact p) r s hE.ep).mono λe W ⟨t,u⟩=>⟨?_,u⟩;have i:nS (A.map fM.p5)↔∀x∈A,kE (iB x.pc):=by
  unfold nS;constructor
  .intro a x j;exact a _ (List.mem_map_of_mem j)
  .intro a x j;obtain⟨y,z,rfl⟩:=gL.1 j;exact a y z
 rcases t with⟨l,v,m,d⟩|⟨l,c,m,d⟩
 .obtain⟨g,cp,rfl, -, -⟩:=d.form (Nat.mul_pos b k);rw[aaf] at d;grind
 .exact .inr ⟨λa=>l (i.2 a),c,d,m⟩
theorem Kb.pc {M:Dm}{rl:List Rl}{W d:ai}{a:Nat}(h:Kb (E 2) (E 3) (E 10) (A.map fM.p5) F a W)(hp:fC M rl=.ok (A.map fM.pc))(e:aD W d):Df E M rl (.iface 67 (aK a)) d:=by
 obtain⟨q,y,t,i,j,k, -,⟨l,f⟩,g⟩:=h;obtain⟨m,w,b,n,o⟩:=List.map_eq_append_iff.1 i;obtain⟨p,r,rfl,s,u⟩:=List.map_eq_cons_iff.1 o;subst n s u b;refine⟨a,l,rfl,(e.cell (aM f)).trans f,.inr ⟨m.map fM.pc,p.pc,r.map fM.pc,?_,λz v=>?_,k,(e.cell (aM g)).trans g⟩⟩
 .rw[hp];simp
 .obtain⟨x,c,rfl⟩:=gL.1 v;exact j _ (List.mem_map_of_mem c)
end
theorem Ya {V:ai}{c d e:ax}{n:Nd}(f:sS V c d e n):∃(h:aO) (i:Option Addr) (j k:Nat) (l:Option Addr) (a b:Nat),c=.string h/\d=.slice i j k/\e=.slice l a b:=by
 obtain⟨s,ats,t⟩:=n;unfold sS at f;obtain⟨m, -,⟨o,p,q, -⟩,u,g,r, -⟩:=f;exact⟨_,_,_,_,_,_,_,m,q,r⟩
theorem ahu (E:Nat->Addr)(n:Nd)(c0 c1 c2:ax)(W:ai)(w h:Nat)(sh:Bs)(rl:List Rl)(O:F9 sh rl)(hc:(je n 1 0).1=0)(hE:PE E W)(hn:sS W c0 c1 c2 n)(hs:jq n<=1000000)(a4:1<=w)(hw:w<=40)(Ba:1<=h)(hh:h<=40):
  aL 18 #[.agg #[c0,c1,c2],bV sh,.int .i64 w,.int .i64 h] W λe w'=>aD W w'/\((∃t y,e=.returned (.tuple #[.pointer none,.iface t y])/\Df E (l9 n) rl (.iface t y) w')\/∃LB DB l,fC (l9 n) rl=.ok l/\Km (l9 n) rl/\e=.returned (.tuple #[aK LB,.nilIface])/\yC w' LB W.heap.size DB (l9 n) (jq n) (jq n) rl l w h none):=by
 obtain⟨sa,oa,na,ka,Z7,a5,a6,rfl,rfl,rfl⟩:=Ya hn;have N:=dR W (.cells #[.string sa,.slice oa na ka,.slice Z7 a5 a6] 50);have P:=hE.below N;have D:=P.le;have a7:=hn.below N;have kb:=dY W #[.string sa,.slice oa na ka,.slice Z7 a5 a6] 50;go_enter func18,ntmps18;go_upto_region 1 with fail;obtain⟨U,hU⟩:∃U,W.alloc (.cells #[.string sa,.slice oa na ka,.slice Z7 a5 a6] 50)=U:=⟨_,rfl⟩;rw[hU] at N P D a7 kb⊢;have k0:=aQ kb 0 _ rfl;have k1:=aQ kb 1 _ rfl;have k2:=aQ kb 2 _ rfl;clear hU kb;have DN:=agf E n _ _ _ U D.ce a7 hs hc;have RS:∀V,aD U V->aL 38 #[bV sh] V λe w'=>∃o a,e=.returned (.tuple #[.slice o rl.length a,.nilIface])/\Hid (w'.ownsRow V.heap.size 150 3 (.slice o rl.length a) rl.length (fP rl))/\aD V w':=λV F=>(Jr O V (P.below F)).mono λe w' ⟨⟨o,a,c,z⟩,s⟩=>⟨o,a,c,z,s⟩;have P0:∀V,aD U V->aL 39 #[.slice none 0 0,.int .i64 w,.int .i64 h] V λe W=>∃g a,e=.returned (.tuple #[.agg #[.int .i64 w,.int .i64 h,.slice (some ⟨g,0,none⟩) (w*h) a],.nilIface])/\aD V W:=λV F=>(Js (D.below F) (ad1 V 0) aI a4 hw Ba hh).mono λe W ⟨c,z⟩=>by
  rcases c with⟨-,g,a,s, -⟩|⟨c, -⟩
  .exact⟨g,a,s,z⟩
  .exact absurd (λx Y=>(by cases Y)) c
 have PI:∀V B A DB C p o m a B0,aD U V->jk B A V DB C p (l9 n) (jq n) (jq n) (rkD n)->V.ownsRow B0 150 3 (.slice o m a) rl.length (fP rl)->aL 40 #[aK DB,.slice o m a] V λe w'=>a8A E V (fC (l9 n) rl) e w'/\aD V w':=λV B A DB C p o m a B0 F K L=>zQ (l:=rl) (B0:=B0) ⟨K,(D.below F).ne,(oI hc).fit.1,(oI hc).fit.2,O.g,L⟩;obtain⟨pm,a8⟩:∃x,fC (l9 n) rl=x:=⟨_,rfl⟩;rw[a8] at PI;have H:=aF a8;have HC:Hid ((je n 1 0).1=0/\F9 sh rl):=⟨hc,O⟩;clear a8 hc O hn a7 hE P;cases pm with
 |error ft=>
  have Q:∀V B A DB C p o m a B0,aD U V->jk B A V DB C p (l9 n) (jq n) (jq n) (rkD n)->V.ownsRow B0 150 3 (.slice o m a) rl.length (fP rl)->aL 40 #[aK DB,.slice o m a] V λe w'=>∃I,e=.returned (.tuple #[.slice none 0 0,.iface 67 (aK I)])/\Hid (w'.cell? (aJ I 0)=some (.int .i64 ft.pl)/\w'.cell? (aJ I 1)=some (eV (E ft.code)))/\aD V w':=λV B A DB C p o m a B0 F K L=>(PI V B A DB C p o m a B0 F K L).mono λe w' ⟨⟨u,c,I,_,z,s⟩,M⟩=>⟨I,by rw[c,z],⟨aQ s 0 _ rfl,aQ s 1 _ rfl⟩,M⟩;clear PI;go_wp2_with(first|(go_at_call 40;refine(Q _ _ _ _ _ _ _ _ _ _ (bf (bf d j) (bf f (dR k _))) (K.below (bf j (bf f (dR k _)))) (bY J.out (bf f (dR k _)))).mono ?_;rintro e w4 ⟨I,rfl,b6,Z⟩)|(go_at_call 39;refine(P0 _ (bf d j)).mono ?_;rintro e k ⟨g,a,rfl,f⟩)|(go_at_call 38;refine(RS _ d).mono ?_;rintro e w2 ⟨o2,R,rfl,J,j⟩)|(go_at_call 37;refine DN.mono ?_;rintro e w1 ⟨d,DB,C,A,p,rfl,K⟩))
  go_ret2
  exact⟨bf (bf N d) (bf j (bf f (bf (dR k _) Z))),.inl ⟨_,_,rfl,I,ft.pl,rfl,b6.out.1,.inl ⟨ft,H.out,b6.out.2⟩⟩⟩
 |ok l=>
  have b7:=vw H.out;have Q:∀V B A DB C p o m a B0,aD U V->jk B A V DB C p (l9 n) (jq n) (jq n) (rkD n)->V.ownsRow B0 150 3 (.slice o m a) rl.length (fP rl)->aL 40 #[aK DB,.slice o m a] V λe w'=>∃i o m a,e=.returned (.tuple #[.slice o m a,.nilIface])/\Hid (i.map fM.pc=l)/\yx w' V.heap.size (.slice o m a) i/\aD V w':=λV B A DB C p o m a B0 F K L=>(PI V B A DB C p o m a B0 F K L).mono λe w' ⟨⟨i,v,c,z,s,M,h5⟩,h6⟩=>by
   obtain⟨o,a,rfl⟩:=bD s;exact⟨i,o,_,a,z,c,⟨s,M,h5⟩,h6⟩
  have Vf:=aF b7;clear PI b7;by_cases hk:∀x∈l,kE (iB x)
  .have PP:∀V r v i,aD U V->Hid (i.map fM.pc=l)->yx V r v i->aL 39 #[v,.int .i64 w,.int .i64 h] V λe W=>∃g a,e=.returned (.tuple #[.agg #[.int .i64 w,.int .i64 h,.slice (some ⟨g,0,none⟩) (w*h) a],.nilIface])/\Hid (W.ownsRow V.heap.size 9 1 (.slice (some ⟨g,0,none⟩) (w*h) a) (w*h) ((nM bT ((i.map fM.pc).map iB) w h).map .string))/\aD V W:=λV r v i F hq hp=>(Js (D.below F) hp (by have c:=Vf.out;rw[<- hq.out,dP] at c;exact c) a4 hw Ba hh).mono λe W ⟨c,z⟩=>by
    rcases c with⟨-,g,a,s,M⟩|⟨c, -⟩
    .exact⟨g,a,s,M,z⟩
    .exact absurd (λ(x:fM) Y=>hk x.pc (by rw[<- hq.out];exact List.mem_map_of_mem Y)) c
   have HK:=aF hk;clear hk;go_wp2_with(first|(have hu:=S;go_at_call 39;refine(PP _ _ _ i (bf (bf d j) (bf f (bf (dR k _) Z))) S p4).mono ?_;rintro e w5 ⟨g5,a9,rfl,p5,b5⟩)|(go_at_call 40;refine(Q _ _ _ _ _ _ _ _ _ _ (bf (bf d j) (bf f (dR k _))) (K.below (bf j (bf f (dR k _)))) (bY J.out (bf f (dR k _)))).mono ?_;rintro e w4 ⟨i,o4,n4,c4,rfl,S,p4,Z⟩)|(go_at_call 39;refine(P0 _ (bf d j)).mono ?_;rintro e k ⟨g,a,rfl,f⟩)|(go_at_call 38;refine(RS _ d).mono ?_;rintro e w2 ⟨o2,R,rfl,J,j⟩)|(go_at_call 37;refine DN.mono ?_;rintro e w1 ⟨d,DB,C,A,p,rfl,K⟩))
   go_ret2
   have c3:=bY J.out (bf f (bf (dR k (.cells #[.int .i64 w,.int .i64 h,.slice (some ⟨g,0,none⟩) (w*h) a] 81)) (bf Z b5)));obtain⟨X,hX⟩:∃X,w5.alloc (.cells #[.int .i64 w,.int .i64 h,.slice (some ⟨g5,0,none⟩) (w*h) a9] 81)=X:=⟨_,rfl⟩;have c5:X.heap.size=w5.heap.size+1:=by rw[<- hX,dV]
   have bX:aD w5 X:=by rw[<- hX];exact dR _ _
   have bL:=dR X (.cells #[aK DB,.slice o2 rl.length R,.slice o4 n4 c4,.int .i64 w,.int .i64 h,.slice (some ⟨g5,0,none⟩) (w*h) a9] 88);have XO:=bf (dR k (.cells #[.int .i64 w,.int .i64 h,.slice (some ⟨g,0,none⟩) (w*h) a] 81)) Z;have b8:=bf b5 (bf bX bL);have b9:=bf j (bf f (bf XO b8));have bW:=bf N (bf d b9);have z1:=N.size;have z2:=(bf N (bf d (bf j f))).size;have z3:=(bf N (bf d (bf j (bf f XO)))).size;have z4:=(bf N (bf d (bf j (bf f (bf XO (bf b5 bX)))))).size;have z5:=(dR k (.cells #[.int .i64 w,.int .i64 h,.slice (some ⟨g,0,none⟩) (w*h) a] 81)).size;have c6:∀x∈i,kE (iB x.pc):=λx Y=>HK.out x.pc (by rw[<- S.out];exact List.mem_map_of_mem Y);have c7:i.length<=1000:=by have c:=Vf.out;rw[<- S.out,dP] at c;exact c
   have T:=K.below b9;have zr:=d.size;refine⟨by rw[hX];exact bW,.inr ⟨w5.heap.size+1,DB,l,H.out,⟨l,H.out,HK.out⟩,rfl,rkD n,A,C,p,.slice o2 rl.length R,i,.slice o4 n4 c4,.slice (some ⟨g5,0,none⟩) (w*h) a9,by rw[hX];exact⟨by rw[<- c5];exact dY _ _ _,aa,⟨T.w.a4q z1,T.d,T.n,T.le,bW.size⟩,oI HC.out.1,HC.out.2.g,gz (bY c3 (bf bX bL)) aa,(p4.below b8).low aa,by rw[S.out];exact H.out,c6,c7,gz (bY p5.out (bf bX bL)) z3⟩,S.out,λb hb=>by cases hb⟩⟩
  .have PP:∀V r v i,aD U V->Hid (i.map fM.pc=l)->yx V r v i->aL 39 #[v,.int .i64 w,.int .i64 h] V λe W=>∃I,e=.returned (.tuple #[.agg #[.int .i64 0,.int .i64 0,.slice none 0 0],.iface 67 (aK I)])/\Hid (Df E (l9 n) rl (.iface 67 (aK I)) W)/\aD V W:=λV r v i F hq hp=>(Js (D.below F) hp (by have c:=Vf.out;rw[<- hq.out,dP] at c;exact c) a4 hw Ba hh).mono λe W ⟨c,z⟩=>by
    rcases c with⟨c, -⟩|⟨-,I,s,M⟩
    .refine absurd (λx Y=>?_) hk;rw[<- hq.out] at Y;obtain⟨y,hy,rfl⟩:=gL.1 Y;exact c y hy
    .exact⟨I,s,M.out.pc (by rw[hq.out];exact H.out) (aW _ _),z⟩
   clear hk;go_wp2_with(first|(have hu:=S;go_at_call 39;refine(PP _ _ _ i (bf (bf d j) (bf f (bf (dR k _) Z))) S p4).mono ?_;rintro e w5 ⟨I,rfl,c8,b5⟩)|(go_at_call 40;refine(Q _ _ _ _ _ _ _ _ _ _ (bf (bf d j) (bf f (dR k _))) (K.below (bf j (bf f (dR k _)))) (bY J.out (bf f (dR k _)))).mono ?_;rintro e w4 ⟨i,o4,n4,c4,rfl,S,p4,Z⟩)|(go_at_call 39;refine(P0 _ (bf d j)).mono ?_;rintro e k ⟨g,a,rfl,f⟩)|(go_at_call 38;refine(RS _ d).mono ?_;rintro e w2 ⟨o2,R,rfl,J,j⟩)|(go_at_call 37;refine DN.mono ?_;rintro e w1 ⟨d,DB,C,A,p,rfl,K⟩))
   go_ret2
   obtain⟨c9,n',c,z,s⟩:=c8.out;have bm:=dR w5 (.cells #[.int .i64 0,.int .i64 0,.slice none 0 0] 81);refine⟨bf (bf N d) (bf j (bf f (bf (bf (dR k _) Z) (bf b5 bm)))),.inl ⟨_,_,rfl,c9,n',c,(bm.cell (aM z)).trans z,?_⟩⟩;rcases s with⟨ft,M,h5⟩|⟨q,x,t,M,h5,h6,h7⟩
   .exact .inl ⟨ft,M,(bm.cell (aM h5)).trans h5⟩
   .exact .inr ⟨q,x,t,M,h5,h6,(bm.cell (aM h7)).trans h7⟩
end
section
open Go.RowKit Go.Maps Go.Shelf
def Oth (o:Option Obj):Prop:=∀a t f,o=some (ak a t f)->t≠88/\t≠140/\t≠45
def KM (W w':ai):Prop:=W.heap.size<=w'.heap.size/\∀b,b<W.heap.size->Oth W.heap[b]? ->w'.heap[b]? =W.heap[b]?
section
variable {W w' A:ai}{LB B DB:Nat}{M:Dm}{nx c:Nat}{rl:List Rl}{l:List Pc}{w h:Nat}{X:Option Nat}
theorem Oth.ne {b g:Nat}{cs:Array ax}{t:TypeId}{f:Nat×Nat}(a:Oth W.heap[b]?)(h:W.heap[g]? =some (ak cs t f))(c:t=88\/t=140\/t=45):b≠g:=λe=>by
 subst e;have d:=a _ _ _ h;grind
theorem KM.of_below (h:aD W w'):KM W w':=⟨h.size,λb a _=>h.block b a⟩
theorem KM.trans (h:KM W w')(d:KM w' A):KM W A:=⟨bO h.1 d.1,λb a c=>(d.2 b (fK a h.1) (by rw[h.2 b a c];exact c)).trans (h.2 b a c)⟩
theorem KM.set {b i:Nat}{cs:Array ax}{v:ax}(h:W.heap[b]? =some (ak cs 45)):KM W (W.setCell ⟨b,i,none⟩ v):=⟨by rw[nu];exact bJ _,λg _ a=>dw _ _ _ g (a.ne h (.inr (.inr rfl)))⟩
theorem yC.at2 (b:yC W LB B DB M nx c rl l w h X):(∃cs f,W.heap[LB]? =some (ak cs 88 f))/\∃cs f,W.heap[DB]? =some (ak cs 140 f):=by
 obtain⟨r,d,e,p,g,i,pv,j,a,k, -⟩:=b;exact⟨⟨_,_,a.lb⟩,_,_,a.ds.w.doc⟩
theorem yC.km (e:yC W LB B DB M nx c rl l w h X)(a:K2 LB DB W w'):KM W w':=by
 obtain⟨⟨j,k,f⟩,m,n,g⟩:=e.at2;exact⟨a.size,λb i d=>a.block b i (d.ne f (.inl rfl)) (d.ne g (.inr (.inl rfl)))⟩
theorem yC.aau (a:yC W LB B DB M nx c rl l w h X):B<=LB/\B<=DB/\B<=W.heap.size:=a.e.choose_spec.base
theorem yC.ahv {B':Nat}(d:yC W LB B DB M nx c rl l w h X)(b:B'<=B):yC W LB B' DB M nx c rl l w h X:=by
 obtain⟨r,e,f,p,g,i,pv,j,a,k,m⟩:=d;exact⟨r,e,f,p,g,i,pv,j,⟨a.lb,bO b a.base,⟨a.ds.w.a4q b,a.ds.d,a.ds.n,a.ds.le,bO b a.ds.low⟩,a.ok,a.rok,gz a.row b,a.pc.low b,a.pm,a.pk,a.ql,gz a.XU b⟩,k,m⟩
theorem yC.old (i:yC W LB B DB M nx c rl l w h none)(d:∀b,X=some b->b<B):yC W LB B DB M nx c rl l w h X:=by
 obtain⟨r,f,j,p,k,m,pv,n,a,o, -⟩:=i;refine⟨r,f,j,p,k,m,pv,n,a,o,λb g=>⟨?_,λe=>?_⟩⟩
 .have q:=d b g;cases s:f b with
  |none=>rfl
  |some t=>have:=(a.ds.w.low b t s).1;omega
 .have q:=d b g;have:=(a.XU.lt b e).1;omega
end
structure Stp where
 M:Dm
 nx:Nat
 c:Nat
 rl:List Rl
 l:List Pc
 sh:Bs
structure uC (E:Nat->Addr)(T:Nat->Bs)(V:ai)(PB B:Nat)(X:Option Nat)(s:Stp)(W:ai)(LB DB:Nat):Prop where
 env:PE E V
 tx:Tj E T V
 pv:V.heap.size<=PB
 pB:PB<B
 EY:aD V W
 lv:yC W LB B DB s.M s.nx s.c s.rl s.l 8 6 X
 box:W.heap[PB]? =some (ak #[aK LB,bV s.sh] 45)
 xx:∀b,X=some b->∃cs f,W.heap[b]? =some (ak cs 9 f)
section
variable {E:Nat->Addr}{T:Nat->Bs}{V:ai}{PB B:Nat}{X:Option Nat}{s:Stp}{W w':ai}{LB DB:Nat}
theorem uC.pe (h:uC E T V PB B X s W LB DB):PE E W:=h.env.below h.EY
theorem uC.te (h:uC E T V PB B X s W LB DB):Tj E T W:=h.tx.below h.EY
theorem uC.xl (h:uC E T V PB B X s W LB DB):∀b,X=some b->b<W.heap.size:=λb a=>by
 obtain⟨c,f,d⟩:=h.xx b a;grind
theorem uC.below (h:uC E T V PB B X s W LB DB)(a:aD W w'):uC E T V PB B X s w' LB DB:=
 ⟨h.env,h.tx,h.pv,h.pB,bf h.EY a,h.lv.below a,(a.block _ (bu h.box)).trans h.box,λb d=>by
  obtain⟨e,f,c⟩:=h.xx b d;exact⟨e,f,(a.block _ (bu c)).trans c⟩⟩
theorem uC.k2 {d:Dm}{g i:Nat}{j:List Rl}{k:List Pc}(h:uC E T V PB B X s W LB DB)(a:K2 LB DB W w')(l:yC w' LB B DB d g i j k 8 6 X):uC E T V PB B X ⟨d,g,i,j,k,s.sh⟩ w' LB DB:=by
 obtain⟨p,q,r⟩:=h.lv.aau;have t:=h.pB;have u:=h.pv;exact⟨h.env,h.tx,h.pv,h.pB,h.EY.trans (a.below aa aa h.EY.size),l,(a.block PB aa aa aa).trans h.box,λb m=>by
  obtain⟨n,f,c⟩:=h.xx b m;exact⟨n,f,((h.lv.km a).2 b (bu c) (λo v w e=>by rw[c] at e;cases e;decide)).trans c⟩⟩
theorem uC.put {a c e:Nat}{h:Dm}{j k:Nat}{l:List Rl}{m:List Pc}{sh2:Bs}{cs:Array ax}{i:Nat}{v:ax}(hE:PE E V)(n:Tj E T V)(pv:V.heap.size<=PB)(o:PB<B)(p:aD V W)(q:yC W a e c h j k l m 8 6 X)(r:B<=e)(s:∀b,X=some b->∃cs f,W.heap[b]? =some (ak cs 9 f))
  (t:W.heap[PB]? =some (ak cs 45)) (hc:cs.setIfInBounds i v=#[aK a,bV sh2]):uC E T V PB B X ⟨h,j,k,l,m,sh2⟩ (W.setCell ⟨PB,i,none⟩ v) a c:=by
 have nX:∀b,X=some b->b≠PB:=by grind
 refine⟨hE,n,pv,o,p.setCell pv v,(q.turn (λg y _ _=>dw _ _ _ g (show g≠PB by omega)) (λb d=>?_) (by rw[nu];exact bJ _) (λb d=>.inl d)).ahv r,?_,λb d=>?_⟩
 .grind
 .rw[heap_setCell_same W PB i _ _ v t,hc]
 .obtain⟨u,w,x⟩:=s b d;exact⟨u,w,(dw _ _ _ b (nX b d)).trans x⟩
end
def CmF (E:Nat->Addr)(T:Nat->Bs)(i:Nat)(P:Ps)(k:Nat)(t:Bs)(s d:Stp):Prop:=∀V PB B X W f g,uC E T V PB B X s W f g->∀o b h,W.ownsRow h 3 1 (aj o P.ns.length b) P.ns.length (di P.ns)->aL (A9 i) #[aK PB,.agg (jl o P.ns.length b P.nm P.tx)] W λe a=>(∃j l,uC E T V PB B X d a j l)/\KM W a/\∃c v,e=ay (aH #[bV c,v])/\((k=0/\c=t/\v=aY)\/(1<=k/\F8 E k v a))
section
variable {E:Nat->Addr}{T:Nat->Bs}{i:Nat}{P:Ps}{k:Nat}{t:Bs}{s A:Stp}
theorem vB (H:∀V PB B X W LB DB,uC E T V PB B X s W LB DB->∀o cp a,W.ownsRow a 3 1 (aj o P.ns.length cp) P.ns.length (di P.ns)->aL (A9 i) #[aK PB,.agg (jl o P.ns.length cp P.nm P.tx)] W λe w'=>aD W w'/\∃b v,e=ay (aH #[bV b,v])/\((k=0/\b=t/\v=aY)\/(1<=k/\F8 E k v w'))):CmF E T i P k t s s:=λV PB B X W LB DB h o cp a d=>(H V PB B X W LB DB h o cp a d).mono λ_ _ ⟨c,f⟩=>⟨⟨LB,DB,h.below c⟩,KM.of_below c,f⟩
def bS (x:aO):Bs:=x.data.toList
theorem aav (x:aO):bV (bS x)=au x:=rfl
theorem a4Z {x:Ed}{i:Dm}{j l:Nat}{m:List Rl}{c:List Pc}{V:ai}{PB B:Nat}{X:Option Nat}{W:ai}{LB DB:Nat}(C:DoS E x s.M s.nx s.c s.rl s.l 8 6 k i j l m c)(h:uC E T V PB B X s W LB DB):
  aL 43 #[aK PB,.agg (tq x)] W λe w'=>(∃n o,uC E T V PB B X ⟨i,j,l,m,c,s.sh⟩ w' n o)/\KM W w'/\∃p v,e=ay (aH #[bV p,v])/\((k=0/\p=bS (rQ (((uq s.l c 6).map λ(y:Nat)=>(y:Int)).map yY))/\v=aY)\/(1<=k/\p=[]/\F8 E k v w')):=by
 obtain⟨F,q⟩:=Vy s.l c 6;have r:(uq s.l c 6).length<=6:=bO (List.length_filter_le _ _) (by rw[List.length_range];exact bJ _);refine(a9h (E:=E) (LB:=LB) (aQ h.box 0 _ rfl) x k ((uq s.l c 6).map λ(y:Nat)=>(y:Int)) (λy H=>?_) (by rw[dP];omega) (λw'=>(∃n o,uC E T V PB B X ⟨i,j,l,m,c,s.sh⟩ w' n o)/\KM W w') (λM N ⟨⟨L,D,d⟩,f⟩ b=>⟨⟨L,D,d.below b⟩,f.trans (KM.of_below b)⟩) λI t=>?_).mono λe w' ⟨⟨d,f⟩,b⟩=>⟨d,f,?_⟩
 .obtain⟨z,J,rfl⟩:=gL.1 H;have:=q z J;exact⟨aa,aa⟩
 .have a:=h.below t;refine(C I LB B DB X a.xl a.pe a.lv).mono λe w' ⟨d,f,v,u,b,g⟩=>?_;have w:=a.k2 d f;refine⟨⟨⟨LB,DB,w⟩,(KM.of_below t).trans (a.lv.km d)⟩,w.pe.ne,v,u,b,?_⟩;rcases g with⟨A,O,P,Q,K,R,S⟩|g
  .grind
  .exact .inr g
 .rcases b with⟨A,b⟩|⟨U,u,b,g⟩
  .exact⟨bS _,_,b,.inl ⟨A,rfl,rfl⟩⟩
  .grind
theorem Oi {x:Ed}{c:Dm}{d f:Nat}{b:List Pc}(q:DoS E x s.M s.nx s.c s.rl s.l 8 6 k c d f s.rl b)
  (j:∀(W:ai) (PB l cp:Nat) (o:Option Addr) (Q:ax->ax->ai->Prop),W.ownsRow l 3 1 (aj o P.ns.length cp) P.ns.length (di P.ns)->(∀m,aD W m->aL 43 #[aK PB,.agg (tq x)] m λe w'=>KM m w'/\∃u v,e=ay (aH #[u,v])/\Q u v w')->aL (A9 i) #[aK PB,.agg (jl o P.ns.length cp P.nm P.tx)] W λe w'=>∃u v,e=ay (aH #[u,v])/\Q u v w'):
  CmF E T i P k (bS (rQ (((uq s.l b 6).map λ(y:Nat)=>(y:Int)).map yY))) s ⟨c,d,f,s.rl,b,s.sh⟩:=λV PB B X W K L h o cp l r=>
 (j W PB l cp o (λu v w'=>(∃t w,uC E T V PB B X ⟨c,d,f,s.rl,b,s.sh⟩ w' t w)/\KM W w'/\∃a,u=bV a/\((k=0/\a=bS (rQ (((uq s.l b 6).map λ(y:Nat)=>(y:Int)).map yY))/\v=aY)\/(1<=k/\F8 E k v w'))) r λM n=>(a4Z q (h.below n)).mono λ_ _ ⟨z,p,a,v,A,C⟩=>⟨p,_,v,A,z,(KM.of_below n).trans p,a,rfl,C.imp id λg=>⟨g.1,g.2.2⟩⟩).mono λe w' ⟨u,v,D,F,H,a,I,J⟩=>⟨F,H,a,v,by rw[D,I],J⟩
end
set_option maxRecDepth 20000
section
variable {W:ai}{PB:Nat}{sh:Bs}{Q:ax->ai->Prop}
abbrev ndA (a:aO)(b:Option Addr)(c d:Nat)(e:Option Addr)(f g:Nat):Array ax:=#[au a,aj b c d,aj e f g]
theorem a5a {p0:ax}(a:aO)(b:Option Addr)(c d:Nat)(f:Option Addr)(g h:Nat)(n:W.heap[PB]? =some (ak #[p0,bV sh] 45))
  (q:∀r,aD W r->aL 18 #[.agg (ndA a b c d f g h),bV sh,ag 8,ag 6] r λe w'=>aD W w'/\∃u v,e=ay (aH #[u,v])/\((∃t y,v=aU t y/\Q (aU t y) w')\/∃LB,u=aK LB/\v=aY/\Q aY (w'.setCell ⟨PB,0,none⟩ (aK LB)))):
  aL 13 #[aK PB,.agg (ndA a b c d f g h)] W λe w'=>∃x,e=ay x/\Q x w':=by
 have o:=dR W (ak (ndA a b c d f g h) 50);have i:=dY W (ndA a b c d f g h) 50;have j:=bu n;have z:=aF n;have s:=q (W.alloc (ak (ndA a b c d f g h) 50)).drew (below_drewN o 1);have k:=(o.block _ j).trans n;clear q n;go_enter func13,ntmps13;go_upto_region 1 with fail;obtain⟨U,w⟩:∃U,W.alloc (ak (ndA a b c d f g h) 50)=U:=⟨_,rfl⟩;rw[w] at i s k⊢;have C:=aQ k 1 _ rfl;have D:=aQ i 0 _ rfl;have E:=aQ i 1 _ rfl;have F:=aQ i 2 _ rfl;clear w i o
 go_region_with (go_at_call 18;refine s.mono ?_;rintro e H ⟨A,u,v,rfl,B⟩)
 all_goals
  have l:=(A.block _ j).trans z.out;have I:=aQ l 0 _ rfl;have J:=bG l 0;rcases B with⟨t,y,rfl,m⟩|⟨LB,rfl,rfl,m⟩
  .have p:=aF m;clear m;go_wp2_with fail;go_ret;exact⟨_,rfl,p.out⟩
  .have p:=aF m;clear m;go_wp2_with fail;go_ret;exact⟨_,rfl,p.out⟩
theorem Yb {o:Option Addr}{n cp:Nat}{nm tx:Bs}
  (m:∀p,aD W p->aL 41 #[bV tx] p λe w'=>∃c d f g h i j v,e=ay (aH #[.agg (ndA c d f g h i j),v])/\((∃t y,v=aU t y/\∀q,aD w' q->Q (aH #[bV [],aU t y]) q)\/(v=aY/\∀r,aD w' r->aL 13 #[aK PB,.agg (ndA c d f g h i j)] r λe l=>∃x,e=ay x/\((∃t y,x=aU t y/\Q (aH #[bV [],aU t y]) l)\/(x=aY/\Q (aH #[bV [111,107],aY]) l))))):
  aL 19 #[aK PB,.agg (jl o n cp nm tx)] W λe w'=>∃x,e=ay x/\Q x w':=by
 have RD:=m (W.alloc (ak (jl o n cp nm tx) 62)) (dR _ _);clear m;go_enter func19,ntmps19;go_upto_region 2 with(go_at_call 41;refine RD.mono ?_;rintro e s ⟨c,d,f,g,h,i,j,v,rfl,a⟩);have u:=dR s (ak (ndA c d f g h i j) 50);rcases a with⟨t,y,rfl,a⟩|⟨rfl,a⟩
 .have k:Hid (Q (aH #[bV [],aU t y]) (s.alloc (ak (ndA c d f g h i j) 50))):=a _ u;clear a;go_wp2_with fail
  go_ret2
  exact⟨_,rfl,k.out⟩
 .have w:=a _ u;clear a;go_upto_region 5 with(go_at_call 13;refine w.mono ?_;rintro e l ⟨x,rfl,b⟩);rcases b with⟨t,y,rfl,b⟩|⟨rfl,b⟩
  .have k:=aF b;clear b;go_wp2_with fail
   go_ret2
   exact⟨_,rfl,k.out⟩
  .have k:=aF b;clear b;go_wp2_with fail
   go_ret2
   exact⟨_,rfl,k.out⟩
theorem a5b {o:Option Addr}{n cp:Nat}{nm tx sh2:Bs}(hS:∀b,aD W b->aL 42 #[bV tx] b λe w'=>e=ay (bV sh2)/\aD b w')
  (hE:∀b,aD W b->aL 43 #[aK PB,.agg (tq ⟨iy,0,0,0,[],sh2⟩)] b λe w'=>∃u v,e=ay (aH #[u,v])/\((∃t y,v=aU t y/\Q (aH #[bV [],aU t y]) w')\/(v=aY/\(∃cs,w'.heap[PB]? =some (ak cs 45)/\cs.size=2)/\Q (aH #[u,aY]) (w'.setCell ⟨PB,1,none⟩ (bV sh2))))):
  aL 20 #[aK PB,.agg (jl o n cp nm tx)] W λe w'=>∃x,e=ay x/\Q x w':=by
 have d:=dR W (ak (jl o n cp nm tx) 62);have h:=hS _ d;have f:=λV (i:Below (W.alloc (ak (jl o n cp nm tx) 62)).heap.size (W.alloc (ak (jl o n cp nm tx) 62)) V)=>hE V (bf d i);unfold iy at f;clear hS hE;go_enter func20,ntmps20;go_upto_region 3 with(first|(go_at_call 42;refine h.mono ?_;rintro e l ⟨rfl,j⟩)|(go_at_call 43;refine(f _ j).mono ?_;rintro e m ⟨u,v,rfl,a⟩));rcases a with⟨t,y,rfl,a⟩|⟨rfl,⟨cs,g,p⟩,a⟩
 .have c:=aF a;clear a;go_wp2_with fail
  go_ret2
  exact⟨_,rfl,c.out⟩
 .have k:=aQ g 1 cs[1] aI;have q:=bG g 1;generalize cs[1]=r at k;have c:=aF a;clear a;go_wp2_with fail
  go_ret2
  exact⟨_,rfl,c.out⟩
end
section
variable {W:ai}{B PB LB cp:Nat}{o:Option Addr}{nm tx:Bs}
theorem a9j {Q:ax->ax->ai->Prop}(a m ea:Int)(h:W.ownsRow B 3 1 (aj o 3 cp) 3 (di [a,m,ea]))(z:∀r,aD W r->aL 43 #[aK PB,.agg (tq ⟨rV,a,m,ea,[],[]⟩)] r λe w'=>KM r w'/\∃u v,e=ay (aH #[u,v])/\Q u v w'):
  aL 23 #[aK PB,.agg (jl o 3 cp nm tx)] W λe w'=>∃u v,e=ay (aH #[u,v])/\Q u v w':=by
 obtain⟨g,rfl,d,l⟩:=uB h aC;have c:=dR W (ak (jl (some ⟨g,0,none⟩) 3 cp nm tx) 62);have s:=(c.cell (p:=⟨g,0,none⟩) d).trans (l 0 a rfl);have t:=(c.cell (p:=⟨g,1,none⟩) d).trans (l 1 m rfl);have w:=(c.cell (p:=⟨g,2,none⟩) d).trans (l 2 ea rfl);have n:=aQ (dY W (jl (some ⟨g,0,none⟩) 3 cp nm tx) 62) 0 _ rfl;have A:=z (W.alloc (ak (jl (some ⟨g,0,none⟩) 3 cp nm tx) 62)).drew (below_drewN c 1);obtain⟨O,f,i, -⟩:=gy h g rfl;have b:=(c.block g d).trans i;have k:=dY W (jl (some ⟨g,0,none⟩) 3 cp nm tx) 62;clear z h l i;go_enter func23,ntmps23;go_upto_region 1 with fail;obtain⟨U,D⟩:∃U,W.alloc (ak (jl (some ⟨g,0,none⟩) 3 cp nm tx) 62)=U:=⟨_,rfl⟩;rw[D] at s t w n k b A⊢;obtain⟨C,E⟩:∃C,W.heap.size=C:=⟨_,rfl⟩;rw[E] at n k⊢;clear D E c d;have F:∀w',KM U.drew w'->(∀j,w'.cell? (aJ C j)=U.cell? (aJ C j))/\∀j,w'.cell? (aJ g j)=U.cell? (aJ g j):=λw' q=>by
  have H:w'.heap[C]? =U.heap[C]? :=q.2 C (bu k) (λx I J e=>by rw[show U.drew.heap[C]? =_ from k] at e;cases e;decide);have K:w'.heap[g]? =U.heap[g]? :=q.2 g (bu b) (λx I J e=>by rw[show U.drew.heap[g]? =_ from b] at e;cases e;decide);exact⟨λj=>by unfold World.cell?;rw[H],λj=>by unfold World.cell?;rw[K]⟩
 clear k b
 go_region_held3 (λw'=>w'.cell? (aJ C 0)=some (aj (some ⟨g,0,none⟩) 3 cp)/\w'.cell? (aJ g 0)=some (ag a)/\w'.cell? (aJ g 1)=some (ag m)/\w'.cell? (aJ g 2)=some (ag ea)) (refine⟨?_,?_,?_,?_⟩<;>assumption) ((go_at_call 43;refine A.mono ?_;rintro e L ⟨q,u,v,rfl,M⟩;obtain⟨N,y⟩:=F L q;have s:=(y 0).trans s;have t:=(y 1).trans t;have w:=(y 2).trans w;have n:=(N 0).trans n))
 all_goals
  go_wp2_with fail;exact bg (v:=aH #[u,v]) (by simp[results,results23,go_sem]) rfl ⟨u,v,rfl,M⟩
theorem a5c {Q:ax->ai->Prop}(a ea:Int)(h:W.ownsRow B 3 1 (aj o 2 cp) 2 (di [a,ea]))(hp:W.cell? (aJ PB 0)=some (aK LB))
  (q:∀r,aD W r->aL 44 #[aK LB,.agg (tq ⟨Di,a,0,ea,nm,[]⟩)] r λe w'=>∃v u,e=ay (aH #[v,u])/\((∃t y,u=aU t y/\Q (aH #[bV [],aU t y]) w')\/(u=aY/\w'.cell? (aJ PB 0)=some (aK LB)/\∃DB,(aL 46 #[aK LB] w' λe H=>e=ay (aK DB)/\w'=H)/\aL 47 #[aK DB,ag a] w' λe f=>∃(g n k:Nat) (z:Int) (j:Nat),e=ay (aj (some ⟨g,0,none⟩) n k)/\ea=j/\j<n/\f.cell? (aJ g j)=some (ag z)/\aL 45 #[ag z] f λe s=>∃t,e=ay (au t)/\Q (aH #[au t,aY]) s))):
  aL 21 #[aK PB,.agg (jl o 2 cp nm tx)] W λe w'=>∃x,e=ay x/\Q x w':=by
 obtain⟨g,rfl,i,l⟩:=uB h aC;have b:=dR W (ak (jl (some ⟨g,0,none⟩) 2 cp nm tx) 62);have I:=(b.cell (p:=⟨g,0,none⟩) i).trans (l 0 a rfl);have J:=(b.cell (p:=⟨g,1,none⟩) i).trans (l 1 ea rfl);have m:=dY W (jl (some ⟨g,0,none⟩) 2 cp nm tx) 62;have w:=aQ m 0 _ rfl;have A:=aQ m 1 _ rfl;have c:=aX hp;have K:=(b.cell (p:=⟨PB,0,none⟩) c).trans hp;have D:=q (W.alloc (ak (jl (some ⟨g,0,none⟩) 2 cp nm tx) 62)).drew.drew (below_drewN b 2);clear q h l m hp c;go_enter func21,ntmps21;go_upto_region 1 with fail;obtain⟨U,E⟩:∃U,W.alloc (ak (jl (some ⟨g,0,none⟩) 2 cp nm tx) 62)=U:=⟨_,rfl⟩;rw[E] at I J w A K D⊢;obtain⟨C,F⟩:∃C,W.heap.size=C:=⟨_,rfl⟩;rw[F] at w A⊢;clear E F b i;go_region;go_upto_region 2 with fail
 go_region_with (go_at_call 44;refine D.mono ?_;rintro e f ⟨v,u,rfl,d⟩)
 all_goals
  rcases d with⟨t,y,rfl,d⟩|⟨rfl,S,DB,L,M⟩
  .have N:=aF d;clear d;go_wp2_with fail
   go_ret2
   exact⟨_,rfl,N.out⟩
  .go_wp2_with(first|(go_at_call 46;refine L.mono ?_;rintro e s ⟨rfl,rfl⟩)|(go_at_call 47;refine M.mono ?_;rintro e T ⟨gk,n,k,z,j,rfl,rfl,V,X,O⟩;have P:(j:Int)<(n:Int):=aa)|(go_at_call 45;refine O.mono ?_;rintro e Y ⟨t,rfl,R⟩))
   go_ret2
   exact⟨_,rfl,R⟩
end
end
open Go.RowKit Go.Maps Go.Shelf
structure Oy (n:Nat)(s:Stp):Prop where
 M:fq s.M
 sh:F9 s.sh s.rl
 pc:fC s.M s.rl=.ok s.l
 nx:s.nx<=1000+n
def CmX (E:Nat->Addr)(T:Nat->Bs)(i:Nat)(P:Ps)(n:Nat)(s:Stp):Prop:=∃k t a,k<=10/\Oy (n+1) a/\CmF E T i P k t s a
section
variable {E:Nat->Addr}{T:Nat->Bs}{P:Ps}{s:Stp}{n i:Nat}{a m ea:Int}
theorem Oy.up (h:Oy n s):Oy (n+1) s:=⟨h.M,h.sh,h.pc,by have:=h.nx;omega⟩
theorem Yc {x:Ed}(hs:Oy n s)(j:ApX E x s.M s.nx s.c)(m:x.kd≠iy)
  (a:∀(W:ai) (PB p cp:Nat) (o:Option Addr) (Q:ax->ax->ai->Prop),W.ownsRow p 3 1 (aj o P.ns.length cp) P.ns.length (di P.ns)->(∀d,aD W d->aL 43 #[aK PB,.agg (tq x)] d λe w'=>KM d w'/\∃u v,e=ay (aH #[u,v])/\Q u v w')->aL (A9 i) #[aK PB,.agg (jl o P.ns.length cp P.nm P.tx)] W λe w'=>∃u v,e=ay (aH #[u,v])/\Q u v w'):CmX E T i P n s:=by
 obtain⟨C,q,b,r,f,t,c,y⟩:=j;rcases a4Y (l:=s.l) (w:=8) (h:=6) c f y (bA 10) (BI m hs.sh.g) (.inr rfl) aC aC aC aC with⟨k, -,z,g⟩|⟨-, -,A,B,g⟩
 .exact⟨k,_,s,z,hs.up,Oi g a⟩
 .exact⟨0,_,⟨q,b,r,s.rl,A,s.sh⟩,aC,⟨c,hs.sh,B,by have:=hs.nx;show b<=_;omega⟩,Oi g a⟩
theorem a0E (hs:Oy n s)(hP:P.ns=[a])(d:kU a):CmX E T 3 P n s:=Yc hs (VO (m:=0) (ea:=0) (nm:=[]) (v:=[]) hs.M (WalkArith.wf_i64 d)) (show yj≠iy by decide) λW PB g i o Q c e=>by
 rw[hP] at c⊢;exact a0A a c λf b=>(e f b).mono λ_ _ h=>h.2
theorem a5d (hs:Oy n s)(hP:P.ns=[a])(e:kU a)(b:P.nm.length<=1000000):CmX E T 6 P n s:=Yc hs (XX (m:=0) (ea:=0) (nm:=P.nm) (v:=[]) hs.M (WalkArith.wf_i64 e) b (bA _)).2 (show Dh≠iy by decide) λW PB i j o Q d f=>by
 rw[hP] at d⊢;exact a4W a d λg c=>(f g c).mono λ_ _ h=>h.2
theorem Ye (hP:P.ns=[a])(W:ai)(PB f cp:Nat)(o:Option Addr)(Q:ax->ax->ai->Prop)(d:W.ownsRow f 3 1 (aj o P.ns.length cp) P.ns.length (di P.ns))(g:∀b,aD W b->aL 43 #[aK PB,.agg (tq ⟨SI,a,0,0,P.nm,P.tx⟩)] b λe w'=>KM b w'/\∃u v,e=ay (aH #[u,v])/\Q u v w'):aL (A9 5) #[aK PB,.agg (jl o P.ns.length cp P.nm P.tx)] W λe w'=>∃u v,e=ay (aH #[u,v])/\Q u v w':=by
 rw[hP] at d⊢;exact adq a d λb c=>(g b c).mono λ_ _ h=>h.2
theorem ads (hs:Oy n s)(hP:P.ns=[a])(d:kU a)(b:P.nm.length<=1000000)(c:P.tx.length<=1000000):CmX E T 5 P n s:=Yc hs (XX (m:=0) (ea:=0) (nm:=P.nm) (v:=P.tx) hs.M (WalkArith.wf_i64 d) b c).1 (show SI≠iy by decide) (Ye hP)
theorem a9k (hs:Oy n s)(hP:P.ns=[a,m,ea])(c:kU a)(d:kU m):CmX E T 4 P n s:=Yc hs (a4t (ea:=ea) (nm:=[]) (v:=[]) hs.M (WalkArith.wf_i64 c) (WalkArith.wf_i64 d)) (show rV≠iy by decide) λW PB f g o Q b e=>by
 rw[hP] at b⊢;exact a9j a m ea b e
end
def Kr (t:Bs):Bs:=if t=[] then[] else Lib.replaceAll t [59,32] [10]++[10]
theorem Mf (a:Bs)(c:UInt8):∀(k:Nat) (s:Bs),(Lib.replaceK a [c] k s).length<=s.length+k
 |0,s=>by simp[Lib.replaceK]
 |k+1,s=>by
  rw[Lib.replaceK];split
  .omega
  .have:=Mf a c k (s.drop ((Lib.index s a).toNat+a.length));grind
theorem Tn (s a:Bs)(c:UInt8):(Lib.replaceAll s a [c]).length<=2*s.length+1:=by
 have b:=Mf a c (Lib.count s a) s;have d:=Lib.count_le s a;unfold Lib.replaceAll Lib.replace Lib.replaceNum;grind
theorem xH {W:ai}(b:TF W)(x a:aO)(c:UInt8)(d:1<=a.size)(h:x.size<=1000000):aL 48 #[au x,au a,au ⟨#[c]⟩] W λe w'=>e=ay (au ⟨(Lib.replaceAll x.data.toList a.data.toList [c]).toArray⟩)/\aD W w':=by
 obtain⟨m,b⟩:=b;have g:=Lib.countB_le a d _ x az;have f:(⟨#[c]⟩:aO).size=1:=rfl;exact Tryz.strings_ReplaceAll x a ⟨#[c]⟩ m W aa b d (by rw[f];omega)
variable {E:Nat->Addr}{T:Nat->Bs}{P:Ps}{s:Stp}{n i:Nat}{a m ea:Int}
theorem Kt {W:ai}(d:TF W)(t:Bs)(h:t.length<=1000000):aL 42 #[bV t] W λe w'=>e=ay (bV (Kr t))/\aD W w':=by
 cases t with
 |nil=>
  clear d;go_enter func42,ntmps42;go_wp2_with fail;go_ret;exact⟨rfl,aW _ _⟩
 |cons x r=>
  obtain⟨b,c⟩:∃b:aO,⟨(x::r).toArray⟩=b:=⟨_,rfl⟩;have o:(b.toList==[])=false:=by rw[gN,<- c];rfl
  have p:b.toList.isEmpty=false:=by rw[gN,<- c];rfl
  have i:b.size<=1000000:=by rw[<- c];simpa[ByteArray.size] using h
  have f:=xH d b ⟨#[59,32]⟩ 10 aC i;have j:=Tn b.data.toList [59,32] 10;have k:b.data.toList.length=b.size:=rfl;have g:bV (Kr (x::r))=au (⟨(Lib.replaceAll b.data.toList [59,32] [10]).toArray⟩++⟨#[10]⟩):=by
   rw[<- c];show Value.string _=_;congr 1
  obtain⟨q,a⟩:∃q:aO,⟨(Lib.replaceAll b.data.toList [59,32] [10]).toArray⟩=q:=⟨_,rfl⟩;have l:¬9223372036854775807<q.size+1:=by
   rw[<- a];simp only[ByteArray.size,jw];omega
  have f:aL 48 #[au b,au ⟨#[59,32]⟩,au ⟨#[10]⟩] W λe w'=>e=ay (au q)/\aD W w':=by rw[<- a];exact f
  rw[g,a];have m:Hid (bV (x::r)=au b):=by rw[<- c];rfl
  rw[m.out];clear g a c d j k;go_enter func42,ntmps42;go_wp2_with(go_at_call 48;refine f.mono ?_;rintro e s ⟨rfl,n⟩);go_ret;exact⟨rfl,n⟩
theorem VV {k:Nat}{g:List Rl}{c:List Pc}(hE:P.tx.length<=1000000)(r:DoS E ⟨iy,0,0,0,[],Kr P.tx⟩ s.M s.nx s.c s.rl s.l 8 6 k s.M s.nx s.c g c)(u:k≠0->g=s.rl/\c=s.l):CmF E T 1 P k (bS (rQ (((uq s.l c 6).map λ(y:Nat)=>(y:Int)).map yY))) s ⟨s.M,s.nx,s.c,g,c,if k=0 then Kr P.tx else s.sh⟩:=λV PB B X W K L h o M N O=>
  (a5b (Q:=λx f=>(∃i j,uC E T V PB B X ⟨s.M,s.nx,s.c,g,c,if k=0 then Kr P.tx else s.sh⟩ f i j)/\KM W f/\∃b v,x=aH #[bV b,v]/\((k=0/\b=bS (rQ (((uq s.l c 6).map λ(y:Nat)=>(y:Int)).map yY))/\v=aY)\/(1<=k/\F8 E k v f))) (sh2:=Kr P.tx) (λw a=>Kt (h.pe.mx.below a) P.tx hE) λw a=>(a4Z r (h.below a)).mono λe f ⟨⟨i,j,d⟩,m,b,v,z,A⟩=>⟨bV b,v,z,by
    rcases A with⟨p,q,l⟩|⟨C,q,l⟩
    . refine .inr ⟨l,⟨_,d.box,rfl⟩,⟨i,j,?_⟩,((KM.of_below a).trans m).trans (KM.set d.box),b,_,rfl,.inl ⟨p,q,rfl⟩⟩
      rw[aR p];exact uC.put h.env h.tx h.pv h.pB d.EY d.lv az d.xx d.box rfl
    . obtain⟨rfl,rfl⟩:=u aa
      obtain⟨t,y,rfl⟩:∃t y,v=aU t y:=by
        rcases l with rfl|⟨R,n,rfl, -, -⟩
        . grind
        . grind
      refine .inl ⟨t,y,rfl,⟨i,j,?_⟩,(KM.of_below a).trans m,[],_,rfl,.inr ⟨C,l⟩⟩;grind⟩).mono λe f ⟨x,D,F,H,b,v,I,J⟩=>⟨F,H,b,v,by rw[D,I],J⟩
theorem a5e (hs:Oy n s)(hE:P.tx.length<=4000):CmX E T 1 P n s:=by
 have g:(Kr P.tx).length<=10000:=by
  unfold Kr;split
  .grind
  .have:=Tn P.tx [59,32] 10;grind
 have f:=a0C (E:=E) (M:=s.M) (nx:=s.nx) (c:=s.c) 0 0 0 [] (Kr P.tx);rcases a0B (E:=E) 0 0 0 [] (Kr P.tx) g with⟨k,o,i,d⟩|⟨p,j,d⟩
 .rcases a4Y (l:=s.l) (w:=8) (h:=6) hs.M (bA 10) f i (d s.rl) (.inl rfl) aC aC aC aC with⟨k,e,a,b⟩|⟨-,q, -⟩
  .exact⟨k,_,_,a,by rw[aG (show k≠0 by omega)];exact hs.up,VV aa b λ_=>⟨rfl,rfl⟩⟩
  .omega
 .rcases a4Y (l:=s.l) (w:=8) (h:=6) hs.M (bA 10) f (bA 10) (d s.rl) (.inl rfl) aC aC aC aC with⟨k,e,a,b⟩|⟨-, -,r,m,b⟩
  .exact⟨k,_,_,a,by rw[aG (show k≠0 by omega)];exact hs.up,VV aa b λ_=>⟨rfl,rfl⟩⟩
  .exact⟨0,_,_,aC,by rw[aR rfl];exact⟨hs.M,j,m,by have:=hs.nx;show s.nx<=_;omega⟩,VV aa b λh=>absurd rfl h⟩

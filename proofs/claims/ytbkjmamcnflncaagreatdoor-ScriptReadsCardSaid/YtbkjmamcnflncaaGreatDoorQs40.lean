import Derived.Test.YtbkjmamcnflncaaGreatDoorQs39
namespace Go.Proofs.YtbkjmamcnflncaaGreatDoor
open Go.Proofs.Tryz
set_option maxHeartbeats 4000000
section
open Go.RowKit
set_option maxRecDepth 20000
def Ej (s:Bs)(rl:List Rl):Prop:=s.length<=10000/\Lv s=.ok rl/\rl.length<=40
theorem Ej.g {s:Bs}{rl:List Rl}(h:Ej s rl):∀y∈rl,RlG y:=λy a=>rlG (a0C _ _ _ _ (by have:=h.1;omega) (λ_ h=>by cases h) h.2.1 y a)
def RbS (E:Nat->Addr)(x:Ed)(rl:List Rl)(a:Nat)(b:List Rl):Prop:=(∀y∈b,RlG y)/\∀V B d,PE E V->V.ownsRow B 150 3 d rl.length (fE rl)->B<=V.heap.size->aJ 85 #[d,.agg (rO x)] V λe c=>aD V c/\((∃u t y,(1<=a/\Ei E a (aP t y) c)/\e=ax (aF #[u,aP t y]))\/(a=0/\∃o n f,e=ax (aF #[aj o n f,aU])/\c.ownsRow B 150 3 (aj o n f) b.length (fE b)))
def DoS (E:Nat->Addr)(x:Ed)(M:Dm)(nx c:Nat)(rl:List Rl)(l:List Pc)(w h k:Nat)(i:Dm)(j m:Nat)(n:List Rl)(g:List Pc):Prop:=∀W a B f X,(∀b,X=some b->b<W.heap.size)->PE E W->xO W a B f M nx c rl l w h X->aJ 44 #[aI a,.agg (rO x)] W λe d=>K2 a f W d/\xO d a B f i j m n g w h X/\∃v u,e=ax (aF #[v,u])/\((k=0/\u=aU/\agI W.heap.size d v l g h)\/(1<=k/\Ei E k u d))
section
variable {E:Nat->Addr}{x:Ed}{M J:Dm}{nx c F O I K:Nat}{rl A:List Rl}{l:List Pc}{w h:Nat}
theorem a4j (a4:eG J)(AF:ApF E x M nx c F J O I)(R:RbS E x rl K A)(q:1<=w)(hw:w<=40)(Aa:1<=h)(hh:h<=40):∀W LB B DB X,(∀b,X=some b->b<W.heap.size)->PE E W->xO W LB B DB M nx c rl l w h X->aJ 44 #[aI LB,.agg (rO x)] W λe w'=>(∃t u,e=ax (aF #[aj none 0 0,aP t u])/\K2 LB DB W w'/\xO w' LB B DB M nx c rl l w h X/\((F≠0/\aP t u=eV (E F))\/(1<=K/\Ei E K (aP t u) w')\/(F=0/\K=0/\Ci E J A (aP t u) w')))\/(F=0/\K=0/\∃s v,eH J A=.ok s/\JA J A/\K2 LB DB W w'/\e=ax (aF #[v,aU])/\agI W.heap.size w' v l s h/\xO w' LB B DB J O I A s w h X):=λW LB B DB X j hE i=>by
 obtain⟨r,tg,MB,p,rv,qs,pv,cv,i,S,T⟩:=i;refine(a7O hE.le i q hw Aa hh x (λv=>F≠0/\v=eV (E F)) (λv w=>1<=K/\Ei E K v w) (K=0) (λa b d _=>F=0/\a=J/\b=O/\d=I) A R.1 (λN V wX Ij NH p1 U m g=>(AF N wX V Ij NH p1 r (hE.le.below m) g).mono λe w' ⟨g1,g2⟩=>⟨g1,?_⟩) (λV z=>R.2 V B rv (hE.below z) (bD i.row z) (bu i.ds.low z.size))).mono λe w' hr=>?_
 .grind
 .rcases hr with⟨⟨t,u,U,m⟩,g,C⟩|⟨kr,Ev,D,p2,M2,oH,c2,r2,H,Y,L,P,o,n,cp,⟨k0,rfl,rfl,rfl⟩,m,g,C,h5,Z,h7,h8⟩
  .refine .inl ⟨t,u,U,⟨g.os,g.tape,g.output,g.size,λb k _ _=>g.block b k⟩,⟨r,tg,MB,p,_,qs,pv,cv,C,S,T⟩,?_⟩;grind
  .exact .inr ⟨k0,kr,Y.map fq.pc,_,Z.pm,m,g,C,⟨o,n,cp,rfl,by rw[<- S,<- dF (f:=λ(y:Nat)=>(y:Int))];exact h5⟩,r2,Ev,D,p2,H,Y,L,P,Z,rfl,λb k=>⟨h7 b (j b k) λQ=>(by have:=i.ds.w.mH;rw[<- Q,(T b k).1] at this;cases this),λQ=>(by have:=h8 b Q;have:=j b k;omega)⟩⟩
theorem Vi (b:eG J)(i:ApF E x M nx c 0 J O I)(j:RbS E x rl 0 A){g:List Pc}(k:eH J A=.ok g)(hp:JA J A)(d:1<=w)(m:w<=40)(n:1<=h)(o:h<=40):DoS E x M nx c rl l w h 0 J O I A g:=λW p B q X f hE r=>(a4j b i j d m n o W p B q X f hE r).mono λe y s=>by
 rcases s with⟨t,u, -, -, -,⟨a, -⟩|⟨a, -⟩|⟨-, -,a⟩⟩|⟨-, -,z,v,a, -,C,D,F,H⟩
 .omega
 .omega
 .exact absurd hp a.no
 .grind
theorem a4k (b:eG J)(o:F<=10)(s:ApF E x M nx c F J O I)(p:K<=10)(v:RbS E x rl K A)(N:F=0\/K=0)(d:1<=w)(y:w<=40)(z:1<=h)(C:h<=40):(∃k,1<=k/\k<=10/\DoS E x M nx c rl l w h k M nx c rl l)\/(F=0/\K=0/\∃n,eH J A=.ok n/\DoS E x M nx c rl l w h 0 J O I A n):=by
 have q:=a4j (l:=l) b s v d y z C;by_cases P:F=0
 .by_cases f:K=0
  .by_cases D:JA J A
   .obtain⟨n,g,Q⟩:=id D;subst P;subst f;exact .inr ⟨rfl,rfl,n,g,Vi b s v g D d y z C⟩
   .obtain⟨k,R,S,V⟩:=Ci.num J A;refine .inl ⟨k,R,S,λW i B j X a hE m=>(q W i B j X a hE m).mono λe H f=>?_⟩;grind
  .refine .inl ⟨K,aa,p,λW i B j X a hE m=>(q W i B j X a hE m).mono λe H f=>?_⟩;grind
 .refine .inl ⟨F,aa,o,λW i B j X a hE m=>(q W i B j X a hE m).mono λe H f=>?_⟩;rcases f with⟨t,u,L,T,U,⟨-,r⟩|⟨r, -⟩|⟨r, -⟩⟩|⟨L, -⟩
  .exact⟨T,U,_,_,L,.inr ⟨aa,.inl r⟩⟩
  .omega
  .omega
  .omega
theorem Az (d:x.kd≠gU)(a:∀y∈rl,RlG y):RbS E x rl 0 rl:=⟨a,λV B g _ b _=>by
 obtain⟨o,h,rfl⟩:=bg b;exact(V9 x d _ _ _ V).mono λe i ⟨f,c⟩=>⟨c,.inr ⟨rfl,_,_,_,f,bD b c⟩⟩⟩
theorem a8x (s:Bs)(hs:s.length<=10000):(∃k,1<=k/\k<=10/\∀V,PE E V->aJ 38 #[bV s] V λe w'=>(∃u t y,e=ax (aF #[u,aP t y])/\Ei E k (aP t y) w')/\aD V w')\/∃rl,Ej s rl/\∀V,PE E V->aJ 38 #[bV s] V λe w'=>(∃o cp,e=ax (aF #[aj o rl.length cp,aU])/\w'.ownsRow V.heap.size 150 3 (aj o rl.length cp) rl.length (fE rl))/\aD V w':=by
 have RD:=λV (a:PE E V)=>Kt s hs V (E 1) (E 7) a.ne.c1 a.ne.c7 a.mx;cases f:Lv s with
 |error k=>
  refine .inl ⟨1,aC,aC,λV a=>(RD V a).mono λe w' ⟨b,d⟩=>⟨?_,d⟩⟩;rw[f] at b;obtain⟨h,c,g⟩:=b;exact⟨_,_,_,c,.inr ⟨h,k,rfl,aO g 0 _ rfl,aO g 1 _ rfl⟩⟩
 |ok rl=>
  by_cases i:40<rl.length
  .refine .inl ⟨7,aC,aC,λV a=>(RD V a).mono λe w' ⟨b,d⟩=>⟨?_,d⟩⟩;rw[f] at b;rcases b with⟨-,c⟩|⟨c, -⟩
   .exact⟨_,_,_,c,.inl rfl⟩
   .omega
  .refine .inr ⟨rl,⟨hs,f,aa⟩,λV a=>(RD V a).mono λe w' ⟨b,d⟩=>⟨?_,d⟩⟩;rw[f] at b;rcases b with⟨c, -⟩|⟨-,v,c,g⟩
   .omega
   .obtain⟨o,cp,rfl⟩:=bg g;grind
theorem IM {s:Bs}(h:Ej s rl)(V:ah)(a:PE E V):aJ 38 #[bV s] V λe w'=>(∃o cp,e=ax (aF #[aj o rl.length cp,aU])/\w'.ownsRow V.heap.size 150 3 (aj o rl.length cp) rl.length (fE rl))/\aD V w':=by
 obtain⟨c,d,j⟩:=h;refine(Kt s c V (E 1) (E 7) a.ne.c1 a.ne.c7 a.mx).mono λe w' ⟨b,f⟩=>⟨?_,f⟩;rw[d] at b;rcases b with⟨g, -⟩|⟨-,v,g,i⟩
 .omega
 .obtain⟨o,cp,rfl⟩:=bg i;grind
theorem a9K (n m ea:Int)(nm a:Bs)(b:au)(V:ah)(Q:au->au->ah->Prop)(h:aJ 38 #[bV a] (V.alloc (ai (rO ⟨gU,n,m,ea,nm,a⟩) 94)) λe w'=>∃v u,e=ax (aF #[v,u])/\Q v u w'):
  aJ 85 #[b,.agg (rO ⟨gU,n,m,ea,nm,a⟩)] V λe w'=>∃v u,e=ax (aF #[v,u])/\Q v u w':=by
 obtain⟨d,I,f,g,i,j⟩:=EdC.of (dN V (rO ⟨gU,n,m,ea,nm,a⟩) 94);unfold gU at*;go_enter func85,ntmps85;go_wp2_with(go_at_call 38;refine h.mono ?_;rintro e k ⟨v,u,rfl,c⟩)
 go_ret2
 exact⟨v,u,rfl,c⟩
theorem ZZ (n m ea:Int)(nm b:Bs)(hs:b.length<=10000):(∃k,1<=k/\k<=10/\∀rl,RbS E ⟨gU,n,m,ea,nm,b⟩ rl k [])\/∃A,Ej b A/\∀rl,RbS E ⟨gU,n,m,ea,nm,b⟩ rl 0 A:=by
 have g:=λV:ah=>dI V (ai (rO ⟨gU,n,m,ea,nm,b⟩) 94);rcases a8x (E:=E) b hs with⟨k,F,r,RD⟩|⟨A,l,RD⟩
 .refine .inl ⟨k,F,r,λrl=>⟨λy s=>(by cases s),λV B i j _ p=>(a9K n m ea nm b i V (λv u a=>aD V a/\∃t y,u=aP t y/\Ei E k u a) ((RD _ (j.below (g V))).mono λe a ⟨⟨u,t,y,c,d⟩,f⟩=>⟨_,_,c,aW (g V) f,t,y,rfl,d⟩)).mono λe a ⟨v,u,c,d,t,y,f,q⟩=>?_⟩⟩;grind
 .exact .inr ⟨A,l,λrl=>⟨l.g,λV B i j _ p=>(a9K n m ea nm b i V (λv u a=>aD V a/\u=aU/\∃o n h,v=aj o n h/\a.ownsRow B 150 3 (aj o n h) A.length (fE A)) ((RD _ (j.below (g V))).mono λe a ⟨⟨o,h,c,d⟩,f⟩=>⟨_,_,c,aW (g V) f,rfl,_,_,_,rfl,fO d (bu p (g V).size)⟩)).mono λe a ⟨v,u,c,d,f,o,n,h,q,w⟩=>⟨d,.inr ⟨rfl,o,n,h,by rw[c,f,q],w⟩⟩⟩⟩
theorem a00 (n m ea:Int)(nm v:Bs):ApF E ⟨gU,n,m,ea,nm,v⟩ M nx c 0 M nx c:=λN d V f g p r hE a=>by
 have b:=dI V (ai (rO ⟨gU,n,m,ea,nm,v⟩) 94);obtain⟨h,I,i,j,k,l⟩:=EdC.of (dN V (rO ⟨gU,n,m,ea,nm,v⟩) 94);have e:Hid (Below N V (V.alloc (ai (rO ⟨gU,n,m,ea,nm,v⟩) 94))/\j5 N d (V.alloc (ai (rO ⟨gU,n,m,ea,nm,v⟩) 94)) f g p M nx c r):=⟨b.mono a.low,a.below b⟩;clear a hE b;unfold gU at*;go_enter func84,ntmps84;go_wp2_with fail;go_ret;exact⟨e.out.1,rfl,d,p,r,e.out.2⟩
end
section
variable {E:Nat->Addr}{V:ah}{F:Nat}{v:au}{A:List fq}{w h:Nat}
theorem IQ (hE:LE E V)(n:xM V F v A)(p:A.length<=1000)(b:1<=w)(q:w<=40)(k:1<=h)(a:h<=40):
  aJ 39 #[v,.int .i64 w,.int .i64 h] V λe W=>(((∀x∈A,jU (gX x.pc))/\∃g cp,e=.returned (.tuple #[.agg #[.int .i64 w,.int .i64 h,.slice (some ⟨g,0,none⟩) (w*h) cp],.nilIface])/\W.ownsRow V.heap.size 9 1 (.slice (some ⟨g,0,none⟩) (w*h) cp) (w*h) ((ng bA ((A.map fq.pc).map gX) w h).map .string))\/((¬∀x∈A,jU (gX x.pc))/\∃c,e=.returned (.tuple #[.agg #[.int .i64 0,.int .i64 0,.slice none 0 0],.iface 67 (aI c)])/\Hid (Jq (E 2) (E 3) (E 10) (A.map fq.p5) V.heap.size c W)))/\aD V W:=by
 obtain⟨o,f,rfl,r,s⟩:=n.row;refine(Zk _ _ _ _ (A.map fq.p5) o f w h V b q k a (by rw[dF];exact p) r s hE.ep).mono λe W ⟨t,u⟩=>⟨?_,u⟩;have i:nD (A.map fq.p5)↔∀x∈A,jU (gX x.pc):=by
  unfold nD;constructor
  .intro a x j;exact a _ (List.mem_map_of_mem j)
  .intro a x j;obtain⟨y,z,rfl⟩:=gu.1 j;exact a y z
 rcases t with⟨l,v,m,d⟩|⟨l,c,m,d⟩
 .obtain⟨g,cp,rfl, -, -⟩:=d.form (Nat.mul_pos b k);rw[a9w] at d;grind
 .exact .inr ⟨λa=>l (i.2 a),c,d,m⟩
theorem Jq.pc {M:Dm}{rl:List Rl}{W d:ah}{a:Nat}(h:Jq (E 2) (E 3) (E 10) (A.map fq.p5) F a W)(hp:eH M rl=.ok (A.map fq.pc))(e:aD W d):Ci E M rl (.iface 67 (aI a)) d:=by
 obtain⟨q,y,t,i,j,k, -,⟨l,f⟩,g⟩:=h;obtain⟨m,w,b,n,o⟩:=List.map_eq_append_iff.1 i;obtain⟨p,r,rfl,s,u⟩:=List.map_eq_cons_iff.1 o;subst n s u b;refine⟨a,l,rfl,(e.cell (aK f)).trans f,.inr ⟨m.map fq.pc,p.pc,r.map fq.pc,?_,λz v=>?_,k,(e.cell (aK g)).trans g⟩⟩
 .rw[hp];simp
 .obtain⟨x,c,rfl⟩:=gu.1 v;exact j _ (List.mem_map_of_mem c)
end
theorem Xr {V:ah}{c d e:au}{n:Nd}(f:rJ V c d e n):∃(h:aM) (i:Option Addr) (j k:Nat) (l:Option Addr) (a b:Nat),c=.string h/\d=.slice i j k/\e=.slice l a b:=by
 obtain⟨s,ats,t⟩:=n;unfold rJ at f;obtain⟨m, -,⟨o,p,q, -⟩,u,g,r, -⟩:=f;exact⟨_,_,_,_,_,_,_,m,q,r⟩
theorem agM (E:Nat->Addr)(n:Nd)(c0 c1 c2:au)(W:ah)(w h:Nat)(sh:Bs)(rl:List Rl)(N:Ej sh rl)(hc:(iT n 1 0).1=0)(hE:PE E W)(hn:rJ W c0 c1 c2 n)(hs:je n<=1000000)(Z:1<=w)(hw:w<=40)(Aa:1<=h)(hh:h<=40):
  aJ 18 #[.agg #[c0,c1,c2],bV sh,.int .i64 w,.int .i64 h] W λe w'=>aD W w'/\((∃t y,e=.returned (.tuple #[.pointer none,.iface t y])/\Ci E (kM n) rl (.iface t y) w')\/∃LB DB l,eH (kM n) rl=.ok l/\JA (kM n) rl/\e=.returned (.tuple #[aI LB,.nilIface])/\xO w' LB W.heap.size DB (kM n) (je n) (je n) rl l w h none):=by
 obtain⟨sa,oa,na,ka,Yt,a4,a5,rfl,rfl,rfl⟩:=Xr hn;have M:=dI W (.cells #[.string sa,.slice oa na ka,.slice Yt a4 a5] 50);have O:=hE.below M;have D:=O.le;have a6:=hn.below M;have kb:=dN W #[.string sa,.slice oa na ka,.slice Yt a4 a5] 50;go_enter func18,ntmps18;go_upto_region 1 with fail;obtain⟨U,hU⟩:∃U,W.alloc (.cells #[.string sa,.slice oa na ka,.slice Yt a4 a5] 50)=U:=⟨_,rfl⟩;rw[hU] at M O D a6 kb⊢;have k0:=aO kb 0 _ rfl;have k1:=aO kb 1 _ rfl;have k2:=aO kb 2 _ rfl;clear hU kb;have DN:=afv E n _ _ _ U D.ce a6 hs hc;have RS:∀V,aD U V->aJ 38 #[bV sh] V λe w'=>∃o a,e=.returned (.tuple #[.slice o rl.length a,.nilIface])/\Hid (w'.ownsRow V.heap.size 150 3 (.slice o rl.length a) rl.length (fE rl))/\aD V w':=λV F=>(IM N V (O.below F)).mono λe w' ⟨⟨o,a,c,z⟩,s⟩=>⟨o,a,c,z,s⟩;have P0:∀V,aD U V->aJ 39 #[.slice none 0 0,.int .i64 w,.int .i64 h] V λe W=>∃g a,e=.returned (.tuple #[.agg #[.int .i64 w,.int .i64 h,.slice (some ⟨g,0,none⟩) (w*h) a],.nilIface])/\aD V W:=λV F=>(IQ (D.below F) (abZ V 0) aG Z hw Aa hh).mono λe W ⟨c,z⟩=>by
  rcases c with⟨-,g,a,s, -⟩|⟨c, -⟩
  .exact⟨g,a,s,z⟩
  .exact absurd (λx T=>(by cases T)) c
 have PI:∀V B A DB C p o m a B0,aD U V->j5 B A V DB C p (kM n) (je n) (je n) (rkD n)->V.ownsRow B0 150 3 (.slice o m a) rl.length (fE rl)->aJ 40 #[aI DB,.slice o m a] V λe w'=>a7J E V (eH (kM n) rl) e w'/\aD V w':=λV B A DB C p o m a B0 F J K=>zf (l:=rl) (B0:=B0) ⟨J,(D.below F).ne,(nR hc).fit.1,(nR hc).fit.2,N.g,K⟩;obtain⟨pm,a7⟩:∃x,eH (kM n) rl=x:=⟨_,rfl⟩;rw[a7] at PI;have ZG:=aA a7;have HC:Hid ((iT n 1 0).1=0/\Ej sh rl):=⟨hc,N⟩;clear a7 hc N hn a6 hE O;cases pm with
 |error ft=>
  have P:∀V B A DB C p o m a B0,aD U V->j5 B A V DB C p (kM n) (je n) (je n) (rkD n)->V.ownsRow B0 150 3 (.slice o m a) rl.length (fE rl)->aJ 40 #[aI DB,.slice o m a] V λe w'=>∃H,e=.returned (.tuple #[.slice none 0 0,.iface 67 (aI H)])/\Hid (w'.cell? (aH H 0)=some (.int .i64 ft.pl)/\w'.cell? (aH H 1)=some (eV (E ft.code)))/\aD V w':=λV B A DB C p o m a B0 F J K=>(PI V B A DB C p o m a B0 F J K).mono λe w' ⟨⟨u,c,H,_,z,s⟩,L⟩=>⟨H,by rw[c,z],⟨aO s 0 _ rfl,aO s 1 _ rfl⟩,L⟩;clear PI;go_wp2_with(first|(go_at_call 40;refine(P _ _ _ _ _ _ _ _ _ _ (aW (aW d j) (aW f (dI k _))) (J.below (aW j (aW f (dI k _)))) (bD I.out (aW f (dI k _)))).mono ?_;rintro e w4 ⟨H,rfl,a9,Y⟩)|(go_at_call 39;refine(P0 _ (aW d j)).mono ?_;rintro e k ⟨g,a,rfl,f⟩)|(go_at_call 38;refine(RS _ d).mono ?_;rintro e w2 ⟨o2,Q,rfl,I,j⟩)|(go_at_call 37;refine DN.mono ?_;rintro e w1 ⟨d,DB,C,A,p,rfl,J⟩))
  go_ret2
  exact⟨aW (aW M d) (aW j (aW f (aW (dI k _) Y))),.inl ⟨_,_,rfl,H,ft.pl,rfl,a9.out.1,.inl ⟨ft,ZG.out,a9.out.2⟩⟩⟩
 |ok l=>
  have b6:=uF ZG.out;have P:∀V B A DB C p o m a B0,aD U V->j5 B A V DB C p (kM n) (je n) (je n) (rkD n)->V.ownsRow B0 150 3 (.slice o m a) rl.length (fE rl)->aJ 40 #[aI DB,.slice o m a] V λe w'=>∃i o m a,e=.returned (.tuple #[.slice o m a,.nilIface])/\Hid (i.map fq.pc=l)/\xM w' V.heap.size (.slice o m a) i/\aD V w':=λV B A DB C p o m a B0 F J K=>(PI V B A DB C p o m a B0 F J K).mono λe w' ⟨⟨i,v,c,z,s,L,h5⟩,h6⟩=>by
   obtain⟨o,a,rfl⟩:=bg s;exact⟨i,o,_,a,z,c,⟨s,L,h5⟩,h6⟩
  have Ux:=aA b6;clear PI b6;by_cases hk:∀x∈l,jU (gX x)
  .have PP:∀V r v i,aD U V->Hid (i.map fq.pc=l)->xM V r v i->aJ 39 #[v,.int .i64 w,.int .i64 h] V λe W=>∃g a,e=.returned (.tuple #[.agg #[.int .i64 w,.int .i64 h,.slice (some ⟨g,0,none⟩) (w*h) a],.nilIface])/\Hid (W.ownsRow V.heap.size 9 1 (.slice (some ⟨g,0,none⟩) (w*h) a) (w*h) ((ng bA ((i.map fq.pc).map gX) w h).map .string))/\aD V W:=λV r v i F hq hp=>(IQ (D.below F) hp (by have c:=Ux.out;rw[<- hq.out,dF] at c;exact c) Z hw Aa hh).mono λe W ⟨c,z⟩=>by
    rcases c with⟨-,g,a,s,L⟩|⟨c, -⟩
    .exact⟨g,a,s,L,z⟩
    .exact absurd (λ(x:fq) T=>hk x.pc (by rw[<- hq.out];exact List.mem_map_of_mem T)) c
   have HK:=aA hk;clear hk;go_wp2_with(first|(have hu:=R;go_at_call 39;refine(PP _ _ _ i (aW (aW d j) (aW f (aW (dI k _) Y))) R p4).mono ?_;rintro e w5 ⟨g5,a8,rfl,p5,b5⟩)|(go_at_call 40;refine(P _ _ _ _ _ _ _ _ _ _ (aW (aW d j) (aW f (dI k _))) (J.below (aW j (aW f (dI k _)))) (bD I.out (aW f (dI k _)))).mono ?_;rintro e w4 ⟨i,o4,n4,c4,rfl,R,p4,Y⟩)|(go_at_call 39;refine(P0 _ (aW d j)).mono ?_;rintro e k ⟨g,a,rfl,f⟩)|(go_at_call 38;refine(RS _ d).mono ?_;rintro e w2 ⟨o2,Q,rfl,I,j⟩)|(go_at_call 37;refine DN.mono ?_;rintro e w1 ⟨d,DB,C,A,p,rfl,J⟩))
   go_ret2
   have b9:=bD I.out (aW f (aW (dI k (.cells #[.int .i64 w,.int .i64 h,.slice (some ⟨g,0,none⟩) (w*h) a] 81)) (aW Y b5)));obtain⟨X,hX⟩:∃X,w5.alloc (.cells #[.int .i64 w,.int .i64 h,.slice (some ⟨g5,0,none⟩) (w*h) a8] 81)=X:=⟨_,rfl⟩;have c3:X.heap.size=w5.heap.size+1:=by rw[<- hX,dK]
   have bX:aD w5 X:=by rw[<- hX];exact dI _ _
   have bL:=dI X (.cells #[aI DB,.slice o2 rl.length Q,.slice o4 n4 c4,.int .i64 w,.int .i64 h,.slice (some ⟨g5,0,none⟩) (w*h) a8] 88);have X7:=aW (dI k (.cells #[.int .i64 w,.int .i64 h,.slice (some ⟨g,0,none⟩) (w*h) a] 81)) Y;have b7:=aW b5 (aW bX bL);have b8:=aW j (aW f (aW X7 b7));have bW:=aW M (aW d b8);have z1:=M.size;have z2:=(aW M (aW d (aW j f))).size;have z3:=(aW M (aW d (aW j (aW f X7)))).size;have z4:=(aW M (aW d (aW j (aW f (aW X7 (aW b5 bX)))))).size;have z5:=(dI k (.cells #[.int .i64 w,.int .i64 h,.slice (some ⟨g,0,none⟩) (w*h) a] 81)).size;have c5:∀x∈i,jU (gX x.pc):=λx T=>HK.out x.pc (by rw[<- R.out];exact List.mem_map_of_mem T);have c6:i.length<=1000:=by have c:=Ux.out;rw[<- R.out,dF] at c;exact c
   have S:=J.below b8;have zr:=d.size;refine⟨by rw[hX];exact bW,.inr ⟨w5.heap.size+1,DB,l,ZG.out,⟨l,ZG.out,HK.out⟩,rfl,rkD n,A,C,p,.slice o2 rl.length Q,i,.slice o4 n4 c4,.slice (some ⟨g5,0,none⟩) (w*h) a8,by rw[hX];exact⟨by rw[<- c3];exact dN _ _ _,aa,⟨S.w.a3C z1,S.d,S.n,S.le,bW.size⟩,nR HC.out.1,HC.out.2.g,fO (bD b9 (aW bX bL)) aa,(p4.below b7).low aa,by rw[R.out];exact ZG.out,c5,c6,fO (bD p5.out (aW bX bL)) z3⟩,R.out,λb hb=>by cases hb⟩⟩
  .have PP:∀V r v i,aD U V->Hid (i.map fq.pc=l)->xM V r v i->aJ 39 #[v,.int .i64 w,.int .i64 h] V λe W=>∃H,e=.returned (.tuple #[.agg #[.int .i64 0,.int .i64 0,.slice none 0 0],.iface 67 (aI H)])/\Hid (Ci E (kM n) rl (.iface 67 (aI H)) W)/\aD V W:=λV r v i F hq hp=>(IQ (D.below F) hp (by have c:=Ux.out;rw[<- hq.out,dF] at c;exact c) Z hw Aa hh).mono λe W ⟨c,z⟩=>by
    rcases c with⟨c, -⟩|⟨-,H,s,L⟩
    .refine absurd (λx T=>?_) hk;rw[<- hq.out] at T;obtain⟨y,hy,rfl⟩:=gu.1 T;exact c y hy
    .exact⟨H,s,L.out.pc (by rw[hq.out];exact ZG.out) (aQ _ _),z⟩
   clear hk;go_wp2_with(first|(have hu:=R;go_at_call 39;refine(PP _ _ _ i (aW (aW d j) (aW f (aW (dI k _) Y))) R p4).mono ?_;rintro e w5 ⟨H,rfl,c7,b5⟩)|(go_at_call 40;refine(P _ _ _ _ _ _ _ _ _ _ (aW (aW d j) (aW f (dI k _))) (J.below (aW j (aW f (dI k _)))) (bD I.out (aW f (dI k _)))).mono ?_;rintro e w4 ⟨i,o4,n4,c4,rfl,R,p4,Y⟩)|(go_at_call 39;refine(P0 _ (aW d j)).mono ?_;rintro e k ⟨g,a,rfl,f⟩)|(go_at_call 38;refine(RS _ d).mono ?_;rintro e w2 ⟨o2,Q,rfl,I,j⟩)|(go_at_call 37;refine DN.mono ?_;rintro e w1 ⟨d,DB,C,A,p,rfl,J⟩))
   go_ret2
   obtain⟨c8,n',c,z,s⟩:=c7.out;have bm:=dI w5 (.cells #[.int .i64 0,.int .i64 0,.slice none 0 0] 81);refine⟨aW (aW M d) (aW j (aW f (aW (aW (dI k _) Y) (aW b5 bm)))),.inl ⟨_,_,rfl,c8,n',c,(bm.cell (aK z)).trans z,?_⟩⟩;rcases s with⟨ft,L,h5⟩|⟨q,x,t,L,h5,h6,h7⟩
   .exact .inl ⟨ft,L,(bm.cell (aK h5)).trans h5⟩
   .exact .inr ⟨q,x,t,L,h5,h6,(bm.cell (aK h7)).trans h7⟩
end
section
open Go.RowKit Go.Maps Go.Shelf
def Oth (o:Option Obj):Prop:=∀a t f,o=some (ai a t f)->t≠88/\t≠140/\t≠45
def KM (W w':ah):Prop:=W.heap.size<=w'.heap.size/\∀b,b<W.heap.size->Oth W.heap[b]? ->w'.heap[b]? =W.heap[b]?
section
variable {W w' A:ah}{LB B DB:Nat}{M:Dm}{nx c:Nat}{rl:List Rl}{l:List Pc}{w h:Nat}{X:Option Nat}
theorem Oth.ne {b g:Nat}{cs:Array au}{t:TypeId}{f:Nat×Nat}(a:Oth W.heap[b]?)(h:W.heap[g]? =some (ai cs t f))(c:t=88\/t=140\/t=45):b≠g:=λe=>by
 subst e;have d:=a _ _ _ h;grind
theorem KM.of_below (h:aD W w'):KM W w':=⟨h.size,λb a _=>h.block b a⟩
theorem KM.trans (h:KM W w')(d:KM w' A):KM W A:=⟨bu h.1 d.1,λb a c=>(d.2 b (dP a h.1) (by rw[h.2 b a c];exact c)).trans (h.2 b a c)⟩
theorem KM.set {b i:Nat}{cs:Array au}{v:au}(h:W.heap[b]? =some (ai cs 45)):KM W (W.setCell ⟨b,i,none⟩ v):=⟨by rw[mO];exact Nat.le_refl _,λg _ a=>bY _ _ _ g (a.ne h (.inr (.inr rfl)))⟩
theorem xO.at2 (b:xO W LB B DB M nx c rl l w h X):(∃cs f,W.heap[LB]? =some (ai cs 88 f))/\∃cs f,W.heap[DB]? =some (ai cs 140 f):=by
 obtain⟨r,d,e,p,g,i,pv,j,a,k, -⟩:=b;exact⟨⟨_,_,a.lb⟩,_,_,a.ds.w.doc⟩
theorem xO.km (e:xO W LB B DB M nx c rl l w h X)(a:K2 LB DB W w'):KM W w':=by
 obtain⟨⟨j,k,f⟩,m,n,g⟩:=e.at2;exact⟨a.size,λb i d=>a.block b i (d.ne f (.inl rfl)) (d.ne g (.inr (.inl rfl)))⟩
theorem xO.a9L (a:xO W LB B DB M nx c rl l w h X):B<=LB/\B<=DB/\B<=W.heap.size:=a.e.choose_spec.base
theorem xO.agN {B':Nat}(d:xO W LB B DB M nx c rl l w h X)(b:B'<=B):xO W LB B' DB M nx c rl l w h X:=by
 obtain⟨r,e,f,p,g,i,pv,j,a,k,m⟩:=d;exact⟨r,e,f,p,g,i,pv,j,⟨a.lb,bu b a.base,⟨a.ds.w.a3C b,a.ds.d,a.ds.n,a.ds.le,bu b a.ds.low⟩,a.ok,a.rok,fO a.row b,a.pc.low b,a.pm,a.pk,a.ql,fO a.Xc b⟩,k,m⟩
theorem xO.old (i:xO W LB B DB M nx c rl l w h none)(d:∀b,X=some b->b<B):xO W LB B DB M nx c rl l w h X:=by
 obtain⟨r,f,j,p,k,m,pv,n,a,o, -⟩:=i;refine⟨r,f,j,p,k,m,pv,n,a,o,λb g=>⟨?_,λe=>?_⟩⟩
 .have q:=d b g;cases s:f b with
  |none=>rfl
  |some t=>have:=(a.ds.w.low b t s).1;omega
 .have q:=d b g;have:=(a.Xc.lt b e).1;omega
end
structure Stp where
 M:Dm
 nx:Nat
 c:Nat
 rl:List Rl
 l:List Pc
 sh:Bs
structure tC (E:Nat->Addr)(T:Nat->Bs)(V:ah)(PB B:Nat)(X:Option Nat)(s:Stp)(W:ah)(LB DB:Nat):Prop where
 env:PE E V
 tx:Sz E T V
 pv:V.heap.size<=PB
 pB:PB<B
 Eb:aD V W
 lv:xO W LB B DB s.M s.nx s.c s.rl s.l 8 6 X
 box:W.heap[PB]? =some (ai #[aI LB,bV s.sh] 45)
 xx:∀b,X=some b->∃cs f,W.heap[b]? =some (ai cs 9 f)
section
variable {E:Nat->Addr}{T:Nat->Bs}{V:ah}{PB B:Nat}{X:Option Nat}{s:Stp}{W w':ah}{LB DB:Nat}
theorem tC.pe (h:tC E T V PB B X s W LB DB):PE E W:=h.env.below h.Eb
theorem tC.te (h:tC E T V PB B X s W LB DB):Sz E T W:=h.tx.below h.Eb
theorem tC.xl (h:tC E T V PB B X s W LB DB):∀b,X=some b->b<W.heap.size:=λb a=>by
 obtain⟨c,f,d⟩:=h.xx b a;grind
theorem tC.below (h:tC E T V PB B X s W LB DB)(a:aD W w'):tC E T V PB B X s w' LB DB:=
 ⟨h.env,h.tx,h.pv,h.pB,aW h.Eb a,h.lv.below a,(a.block _ (aY h.box)).trans h.box,λb d=>by
  obtain⟨e,f,c⟩:=h.xx b d;exact⟨e,f,(a.block _ (aY c)).trans c⟩⟩
theorem tC.k2 {d:Dm}{g i:Nat}{j:List Rl}{k:List Pc}(h:tC E T V PB B X s W LB DB)(a:K2 LB DB W w')(l:xO w' LB B DB d g i j k 8 6 X):tC E T V PB B X ⟨d,g,i,j,k,s.sh⟩ w' LB DB:=by
 obtain⟨p,q,r⟩:=h.lv.a9L;have t:=h.pB;have u:=h.pv;exact⟨h.env,h.tx,h.pv,h.pB,h.Eb.trans (a.below aa aa h.Eb.size),l,(a.block PB aa aa aa).trans h.box,λb m=>by
  obtain⟨n,f,c⟩:=h.xx b m;exact⟨n,f,((h.lv.km a).2 b (aY c) (λo v w e=>by rw[c] at e;cases e;decide)).trans c⟩⟩
theorem tC.put {a c e:Nat}{h:Dm}{j k:Nat}{l:List Rl}{m:List Pc}{sh2:Bs}{cs:Array au}{i:Nat}{v:au}(hE:PE E V)(n:Sz E T V)(pv:V.heap.size<=PB)(o:PB<B)(p:aD V W)(q:xO W a e c h j k l m 8 6 X)(r:B<=e)(s:∀b,X=some b->∃cs f,W.heap[b]? =some (ai cs 9 f))
  (t:W.heap[PB]? =some (ai cs 45)) (hc:cs.setIfInBounds i v=#[aI a,bV sh2]):tC E T V PB B X ⟨h,j,k,l,m,sh2⟩ (W.setCell ⟨PB,i,none⟩ v) a c:=by
 have nX:∀b,X=some b->b≠PB:=by grind
 refine⟨hE,n,pv,o,p.setCell pv v,(q.turn (λg y _ _=>bY _ _ _ g (show g≠PB by omega)) (λb d=>?_) (by rw[mO];exact Nat.le_refl _) (λb d=>.inl d)).agN r,?_,λb d=>?_⟩
 .grind
 .rw[heap_setCell_same W PB i _ _ v t,hc]
 .obtain⟨u,w,x⟩:=s b d;exact⟨u,w,(bY _ _ _ b (nX b d)).trans x⟩
end
def CmF (E:Nat->Addr)(T:Nat->Bs)(i:Nat)(P:Ps)(k:Nat)(t:Bs)(s d:Stp):Prop:=∀V PB B X W f g,tC E T V PB B X s W f g->∀o b h,W.ownsRow h 3 1 (aj o P.ns.length b) P.ns.length (bO P.ns)->aJ (zx i) #[aI PB,.agg (j6 o P.ns.length b P.nm P.tx)] W λe a=>(∃j l,tC E T V PB B X d a j l)/\KM W a/\∃c v,e=ax (aF #[bV c,v])/\((k=0/\c=t/\v=aU)\/(1<=k/\Ei E k v a))
section
variable {E:Nat->Addr}{T:Nat->Bs}{i:Nat}{P:Ps}{k:Nat}{t:Bs}{s A:Stp}
theorem uH (H:∀V PB B X W LB DB,tC E T V PB B X s W LB DB->∀o cp a,W.ownsRow a 3 1 (aj o P.ns.length cp) P.ns.length (bO P.ns)->aJ (zx i) #[aI PB,.agg (j6 o P.ns.length cp P.nm P.tx)] W λe w'=>aD W w'/\∃b v,e=ax (aF #[bV b,v])/\((k=0/\b=t/\v=aU)\/(1<=k/\Ei E k v w'))):CmF E T i P k t s s:=λV PB B X W LB DB h o cp a d=>(H V PB B X W LB DB h o cp a d).mono λ_ _ ⟨c,f⟩=>⟨⟨LB,DB,h.below c⟩,KM.of_below c,f⟩
def bS (x:aM):Bs:=x.data.toList
theorem agO (x:aM):bV (bS x)=ak x:=rfl
theorem a4l {x:Ed}{i:Dm}{j l:Nat}{m:List Rl}{c:List Pc}{V:ah}{PB B:Nat}{X:Option Nat}{W:ah}{LB DB:Nat}(C:DoS E x s.M s.nx s.c s.rl s.l 8 6 k i j l m c)(h:tC E T V PB B X s W LB DB):
  aJ 43 #[aI PB,.agg (rO x)] W λe w'=>(∃n o,tC E T V PB B X ⟨i,j,l,m,c,s.sh⟩ w' n o)/\KM W w'/\∃p v,e=ax (aF #[bV p,v])/\((k=0/\p=bS (qP (((sM s.l c 6).map λ(y:Nat)=>(y:Int)).map zb))/\v=aU)\/(1<=k/\p=[]/\Ei E k v w')):=by
 obtain⟨F,q⟩:=UQ s.l c 6;have r:(sM s.l c 6).length<=6:=bu (List.length_filter_le _ _) (by rw[List.length_range];exact Nat.le_refl _);refine(a8w (E:=E) (LB:=LB) (aO h.box 0 _ rfl) x k ((sM s.l c 6).map λ(y:Nat)=>(y:Int)) (λy H=>?_) (by rw[dF];omega) (λw'=>(∃n o,tC E T V PB B X ⟨i,j,l,m,c,s.sh⟩ w' n o)/\KM W w') (λM N ⟨⟨L,D,d⟩,f⟩ b=>⟨⟨L,D,d.below b⟩,f.trans (KM.of_below b)⟩) λI t=>?_).mono λe w' ⟨⟨d,f⟩,b⟩=>⟨d,f,?_⟩
 .obtain⟨z,J,rfl⟩:=gu.1 H;have:=q z J;exact⟨aa,aa⟩
 .have a:=h.below t;refine(C I LB B DB X a.xl a.pe a.lv).mono λe w' ⟨d,f,v,u,b,g⟩=>?_;have w:=a.k2 d f;refine⟨⟨⟨LB,DB,w⟩,(KM.of_below t).trans (a.lv.km d)⟩,w.pe.ne,v,u,b,?_⟩;rcases g with⟨A,O,P,Q,K,R,S⟩|g
  .grind
  .exact .inr g
 .rcases b with⟨A,b⟩|⟨U,u,b,g⟩
  .exact⟨bS _,_,b,.inl ⟨A,rfl,rfl⟩⟩
  .grind
theorem Nv {x:Ed}{c:Dm}{d f:Nat}{b:List Pc}(q:DoS E x s.M s.nx s.c s.rl s.l 8 6 k c d f s.rl b)
  (j:∀(W:ah) (PB l cp:Nat) (o:Option Addr) (Q:au->au->ah->Prop),W.ownsRow l 3 1 (aj o P.ns.length cp) P.ns.length (bO P.ns)->(∀m,aD W m->aJ 43 #[aI PB,.agg (rO x)] m λe w'=>KM m w'/\∃u v,e=ax (aF #[u,v])/\Q u v w')->aJ (zx i) #[aI PB,.agg (j6 o P.ns.length cp P.nm P.tx)] W λe w'=>∃u v,e=ax (aF #[u,v])/\Q u v w'):
  CmF E T i P k (bS (qP (((sM s.l b 6).map λ(y:Nat)=>(y:Int)).map zb))) s ⟨c,d,f,s.rl,b,s.sh⟩:=λV PB B X W K L h o cp l r=>
 (j W PB l cp o (λu v w'=>(∃t w,tC E T V PB B X ⟨c,d,f,s.rl,b,s.sh⟩ w' t w)/\KM W w'/\∃a,u=bV a/\((k=0/\a=bS (qP (((sM s.l b 6).map λ(y:Nat)=>(y:Int)).map zb))/\v=aU)\/(1<=k/\Ei E k v w'))) r λM n=>(a4l q (h.below n)).mono λ_ _ ⟨z,p,a,v,A,C⟩=>⟨p,_,v,A,z,(KM.of_below n).trans p,a,rfl,C.imp id λg=>⟨g.1,g.2.2⟩⟩).mono λe w' ⟨u,v,D,F,H,a,I,J⟩=>⟨F,H,a,v,by rw[D,I],J⟩
end
set_option maxRecDepth 20000
section
variable {W:ah}{PB:Nat}{sh:Bs}{Q:au->ah->Prop}
abbrev ndA (a:aM)(b:Option Addr)(c d:Nat)(e:Option Addr)(f g:Nat):Array au:=#[ak a,aj b c d,aj e f g]
theorem a4m {p0:au}(a:aM)(b:Option Addr)(c d:Nat)(f:Option Addr)(g h:Nat)(n:W.heap[PB]? =some (ai #[p0,bV sh] 45))
  (q:∀r,aD W r->aJ 18 #[.agg (ndA a b c d f g h),bV sh,ag 8,ag 6] r λe w'=>aD W w'/\∃u v,e=ax (aF #[u,v])/\((∃t y,v=aP t y/\Q (aP t y) w')\/∃LB,u=aI LB/\v=aU/\Q aU (w'.setCell ⟨PB,0,none⟩ (aI LB)))):
  aJ 13 #[aI PB,.agg (ndA a b c d f g h)] W λe w'=>∃x,e=ax x/\Q x w':=by
 have o:=dI W (ai (ndA a b c d f g h) 50);have i:=dN W (ndA a b c d f g h) 50;have j:=aY n;have z:=aA n;have s:=q (W.alloc (ai (ndA a b c d f g h) 50)).drew (below_drewN o 1);have k:=(o.block _ j).trans n;clear q n;go_enter func13,ntmps13;go_upto_region 1 with fail;obtain⟨U,w⟩:∃U,W.alloc (ai (ndA a b c d f g h) 50)=U:=⟨_,rfl⟩;rw[w] at i s k⊢;have C:=aO k 1 _ rfl;have D:=aO i 0 _ rfl;have E:=aO i 1 _ rfl;have F:=aO i 2 _ rfl;clear w i o
 go_region_with (go_at_call 18;refine s.mono ?_;rintro e H ⟨A,u,v,rfl,B⟩)
 all_goals
  have l:=(A.block _ j).trans z.out;have I:=aO l 0 _ rfl;have J:=bq l 0;rcases B with⟨t,y,rfl,m⟩|⟨LB,rfl,rfl,m⟩
  .have p:=aA m;clear m;go_wp2_with fail;go_ret;exact⟨_,rfl,p.out⟩
  .have p:=aA m;clear m;go_wp2_with fail;go_ret;exact⟨_,rfl,p.out⟩
theorem Xt {o:Option Addr}{n cp:Nat}{nm tx:Bs}
  (m:∀p,aD W p->aJ 41 #[bV tx] p λe w'=>∃c d f g h i j v,e=ax (aF #[.agg (ndA c d f g h i j),v])/\((∃t y,v=aP t y/\∀q,aD w' q->Q (aF #[bV [],aP t y]) q)\/(v=aU/\∀r,aD w' r->aJ 13 #[aI PB,.agg (ndA c d f g h i j)] r λe l=>∃x,e=ax x/\((∃t y,x=aP t y/\Q (aF #[bV [],aP t y]) l)\/(x=aU/\Q (aF #[bV [111,107],aU]) l))))):
  aJ 19 #[aI PB,.agg (j6 o n cp nm tx)] W λe w'=>∃x,e=ax x/\Q x w':=by
 have RD:=m (W.alloc (ai (j6 o n cp nm tx) 62)) (dI _ _);clear m;go_enter func19,ntmps19;go_upto_region 2 with(go_at_call 41;refine RD.mono ?_;rintro e s ⟨c,d,f,g,h,i,j,v,rfl,a⟩);have u:=dI s (ai (ndA c d f g h i j) 50);rcases a with⟨t,y,rfl,a⟩|⟨rfl,a⟩
 .have k:Hid (Q (aF #[bV [],aP t y]) (s.alloc (ai (ndA c d f g h i j) 50))):=a _ u;clear a;go_wp2_with fail
  go_ret2
  exact⟨_,rfl,k.out⟩
 .have w:=a _ u;clear a;go_upto_region 5 with(go_at_call 13;refine w.mono ?_;rintro e l ⟨x,rfl,b⟩);rcases b with⟨t,y,rfl,b⟩|⟨rfl,b⟩
  .have k:=aA b;clear b;go_wp2_with fail
   go_ret2
   exact⟨_,rfl,k.out⟩
  .have k:=aA b;clear b;go_wp2_with fail
   go_ret2
   exact⟨_,rfl,k.out⟩
theorem a4n {o:Option Addr}{n cp:Nat}{nm tx sh2:Bs}(hS:∀b,aD W b->aJ 42 #[bV tx] b λe w'=>e=ax (bV sh2)/\aD b w')
  (hE:∀b,aD W b->aJ 43 #[aI PB,.agg (rO ⟨gU,0,0,0,[],sh2⟩)] b λe w'=>∃u v,e=ax (aF #[u,v])/\((∃t y,v=aP t y/\Q (aF #[bV [],aP t y]) w')\/(v=aU/\(∃cs,w'.heap[PB]? =some (ai cs 45)/\cs.size=2)/\Q (aF #[u,aU]) (w'.setCell ⟨PB,1,none⟩ (bV sh2))))):
  aJ 20 #[aI PB,.agg (j6 o n cp nm tx)] W λe w'=>∃x,e=ax x/\Q x w':=by
 have d:=dI W (ai (j6 o n cp nm tx) 62);have h:=hS _ d;have f:=λV (i:Below (W.alloc (ai (j6 o n cp nm tx) 62)).heap.size (W.alloc (ai (j6 o n cp nm tx) 62)) V)=>hE V (aW d i);unfold gU at f;clear hS hE;go_enter func20,ntmps20;go_upto_region 3 with(first|(go_at_call 42;refine h.mono ?_;rintro e l ⟨rfl,j⟩)|(go_at_call 43;refine(f _ j).mono ?_;rintro e m ⟨u,v,rfl,a⟩));rcases a with⟨t,y,rfl,a⟩|⟨rfl,⟨cs,g,p⟩,a⟩
 .have c:=aA a;clear a;go_wp2_with fail
  go_ret2
  exact⟨_,rfl,c.out⟩
 .have k:=aO g 1 cs[1] aG;have q:=bq g 1;generalize cs[1]=r at k;have c:=aA a;clear a;go_wp2_with fail
  go_ret2
  exact⟨_,rfl,c.out⟩
end
section
variable {W:ah}{B PB LB cp:Nat}{o:Option Addr}{nm tx:Bs}
theorem a8y {Q:au->au->ah->Prop}(a m ea:Int)(h:W.ownsRow B 3 1 (aj o 3 cp) 3 (bO [a,m,ea]))(z:∀r,aD W r->aJ 43 #[aI PB,.agg (rO ⟨qV,a,m,ea,[],[]⟩)] r λe w'=>KM r w'/\∃u v,e=ax (aF #[u,v])/\Q u v w'):
  aJ 23 #[aI PB,.agg (j6 o 3 cp nm tx)] W λe w'=>∃u v,e=ax (aF #[u,v])/\Q u v w':=by
 obtain⟨g,rfl,d,l⟩:=tu h aC;have c:=dI W (ai (j6 (some ⟨g,0,none⟩) 3 cp nm tx) 62);have s:=(c.cell (p:=⟨g,0,none⟩) d).trans (l 0 a rfl);have t:=(c.cell (p:=⟨g,1,none⟩) d).trans (l 1 m rfl);have w:=(c.cell (p:=⟨g,2,none⟩) d).trans (l 2 ea rfl);have n:=aO (dN W (j6 (some ⟨g,0,none⟩) 3 cp nm tx) 62) 0 _ rfl;have A:=z (W.alloc (ai (j6 (some ⟨g,0,none⟩) 3 cp nm tx) 62)).drew (below_drewN c 1);obtain⟨O,f,i, -⟩:=fM h g rfl;have b:=(c.block g d).trans i;have k:=dN W (j6 (some ⟨g,0,none⟩) 3 cp nm tx) 62;clear z h l i;go_enter func23,ntmps23;go_upto_region 1 with fail;obtain⟨U,D⟩:∃U,W.alloc (ai (j6 (some ⟨g,0,none⟩) 3 cp nm tx) 62)=U:=⟨_,rfl⟩;rw[D] at s t w n k b A⊢;obtain⟨C,E⟩:∃C,W.heap.size=C:=⟨_,rfl⟩;rw[E] at n k⊢;clear D E c d;have F:∀w',KM U.drew w'->(∀j,w'.cell? (aH C j)=U.cell? (aH C j))/\∀j,w'.cell? (aH g j)=U.cell? (aH g j):=λw' q=>by
  have H:w'.heap[C]? =U.heap[C]? :=q.2 C (aY k) (λx I J e=>by rw[show U.drew.heap[C]? =_ from k] at e;cases e;decide);have K:w'.heap[g]? =U.heap[g]? :=q.2 g (aY b) (λx I J e=>by rw[show U.drew.heap[g]? =_ from b] at e;cases e;decide);exact⟨λj=>by unfold World.cell?;rw[H],λj=>by unfold World.cell?;rw[K]⟩
 clear k b
 go_region_held3 (λw'=>w'.cell? (aH C 0)=some (aj (some ⟨g,0,none⟩) 3 cp)/\w'.cell? (aH g 0)=some (ag a)/\w'.cell? (aH g 1)=some (ag m)/\w'.cell? (aH g 2)=some (ag ea)) (refine⟨?_,?_,?_,?_⟩<;>assumption) ((go_at_call 43;refine A.mono ?_;rintro e L ⟨q,u,v,rfl,M⟩;obtain⟨N,y⟩:=F L q;have s:=(y 0).trans s;have t:=(y 1).trans t;have w:=(y 2).trans w;have n:=(N 0).trans n))
 all_goals
  go_wp2_with fail;exact bodyPost_ret (v:=aF #[u,v]) (by simp[results,results23,go_sem]) rfl ⟨u,v,rfl,M⟩
theorem a4o {Q:au->ah->Prop}(a ea:Int)(h:W.ownsRow B 3 1 (aj o 2 cp) 2 (bO [a,ea]))(hp:W.cell? (aH PB 0)=some (aI LB))
  (q:∀r,aD W r->aJ 44 #[aI LB,.agg (rO ⟨Cm,a,0,ea,nm,[]⟩)] r λe w'=>∃v u,e=ax (aF #[v,u])/\((∃t y,u=aP t y/\Q (aF #[bV [],aP t y]) w')\/(u=aU/\w'.cell? (aH PB 0)=some (aI LB)/\∃DB,(aJ 46 #[aI LB] w' λe H=>e=ax (aI DB)/\w'=H)/\aJ 47 #[aI DB,ag a] w' λe f=>∃(g n k:Nat) (z:Int) (j:Nat),e=ax (aj (some ⟨g,0,none⟩) n k)/\ea=j/\j<n/\f.cell? (aH g j)=some (ag z)/\aJ 45 #[ag z] f λe s=>∃t,e=ax (ak t)/\Q (aF #[ak t,aU]) s))):
  aJ 21 #[aI PB,.agg (j6 o 2 cp nm tx)] W λe w'=>∃x,e=ax x/\Q x w':=by
 obtain⟨g,rfl,i,l⟩:=tu h aC;have b:=dI W (ai (j6 (some ⟨g,0,none⟩) 2 cp nm tx) 62);have I:=(b.cell (p:=⟨g,0,none⟩) i).trans (l 0 a rfl);have J:=(b.cell (p:=⟨g,1,none⟩) i).trans (l 1 ea rfl);have m:=dN W (j6 (some ⟨g,0,none⟩) 2 cp nm tx) 62;have w:=aO m 0 _ rfl;have A:=aO m 1 _ rfl;have c:=aR hp;have K:=(b.cell (p:=⟨PB,0,none⟩) c).trans hp;have D:=q (W.alloc (ai (j6 (some ⟨g,0,none⟩) 2 cp nm tx) 62)).drew.drew (below_drewN b 2);clear q h l m hp c;go_enter func21,ntmps21;go_upto_region 1 with fail;obtain⟨U,E⟩:∃U,W.alloc (ai (j6 (some ⟨g,0,none⟩) 2 cp nm tx) 62)=U:=⟨_,rfl⟩;rw[E] at I J w A K D⊢;obtain⟨C,F⟩:∃C,W.heap.size=C:=⟨_,rfl⟩;rw[F] at w A⊢;clear E F b i;go_region;go_upto_region 2 with fail
 go_region_with (go_at_call 44;refine D.mono ?_;rintro e f ⟨v,u,rfl,d⟩)
 all_goals
  rcases d with⟨t,y,rfl,d⟩|⟨rfl,S,DB,L,M⟩
  .have N:=aA d;clear d;go_wp2_with fail
   go_ret2
   exact⟨_,rfl,N.out⟩
  .go_wp2_with(first|(go_at_call 46;refine L.mono ?_;rintro e s ⟨rfl,rfl⟩)|(go_at_call 47;refine M.mono ?_;rintro e T ⟨gk,n,k,z,j,rfl,rfl,V,X,O⟩;have P:(j:Int)<(n:Int):=aa)|(go_at_call 45;refine O.mono ?_;rintro e Y ⟨t,rfl,R⟩))
   go_ret2
   exact⟨_,rfl,R⟩
end
end
open Go.RowKit Go.Maps Go.Shelf
structure NK (n:Nat)(s:Stp):Prop where
 M:eG s.M
 sh:Ej s.sh s.rl
 pc:eH s.M s.rl=.ok s.l
 nx:s.nx<=1000+n
def CmX (E:Nat->Addr)(T:Nat->Bs)(i:Nat)(P:Ps)(n:Nat)(s:Stp):Prop:=∃k t a,k<=10/\NK (n+1) a/\CmF E T i P k t s a
section
variable {E:Nat->Addr}{T:Nat->Bs}{P:Ps}{s:Stp}{n i:Nat}{a m ea:Int}
theorem NK.up (h:NK n s):NK (n+1) s:=⟨h.M,h.sh,h.pc,by have:=h.nx;omega⟩
theorem Xu {x:Ed}(hs:NK n s)(j:ApX E x s.M s.nx s.c)(m:x.kd≠gU)
  (a:∀(W:ah) (PB p cp:Nat) (o:Option Addr) (Q:au->au->ah->Prop),W.ownsRow p 3 1 (aj o P.ns.length cp) P.ns.length (bO P.ns)->(∀d,aD W d->aJ 43 #[aI PB,.agg (rO x)] d λe w'=>KM d w'/\∃u v,e=ax (aF #[u,v])/\Q u v w')->aJ (zx i) #[aI PB,.agg (j6 o P.ns.length cp P.nm P.tx)] W λe w'=>∃u v,e=ax (aF #[u,v])/\Q u v w'):CmX E T i P n s:=by
 obtain⟨C,q,b,r,f,t,c,y⟩:=j;rcases a4k (l:=s.l) (w:=8) (h:=6) c f y (bf 10) (Az m hs.sh.g) (.inr rfl) aC aC aC aC with⟨k, -,z,g⟩|⟨-, -,A,B,g⟩
 .exact⟨k,_,s,z,hs.up,Nv g a⟩
 .exact⟨0,_,⟨q,b,r,s.rl,A,s.sh⟩,aC,⟨c,hs.sh,B,by have:=hs.nx;show b<=_;omega⟩,Nv g a⟩
theorem a02 (hs:NK n s)(hP:P.ns=[a])(d:kS a):CmX E T 3 P n s:=Xu hs (Vd (m:=0) (ea:=0) (nm:=[]) (v:=[]) hs.M (WalkArith.wf_i64 d)) (show xE≠gU by decide) λW PB g i o Q c e=>by
 rw[hP] at c⊢;exact ZY a c λf b=>(e f b).mono λ_ _ h=>h.2
theorem a4p (hs:NK n s)(hP:P.ns=[a])(e:kS a)(b:P.nm.length<=1000000):CmX E T 6 P n s:=Xu hs (Xg (m:=0) (ea:=0) (nm:=P.nm) (v:=[]) hs.M (WalkArith.wf_i64 e) b (bf _)).2 (show Ck≠gU by decide) λW PB i j o Q d f=>by
 rw[hP] at d⊢;exact a4i a d λg c=>(f g c).mono λ_ _ h=>h.2
theorem Xv (hP:P.ns=[a])(W:ah)(PB f cp:Nat)(o:Option Addr)(Q:au->au->ah->Prop)(d:W.ownsRow f 3 1 (aj o P.ns.length cp) P.ns.length (bO P.ns))(g:∀b,aD W b->aJ 43 #[aI PB,.agg (rO ⟨Rs,a,0,0,P.nm,P.tx⟩)] b λe w'=>KM b w'/\∃u v,e=ax (aF #[u,v])/\Q u v w'):aJ (zx 5) #[aI PB,.agg (j6 o P.ns.length cp P.nm P.tx)] W λe w'=>∃u v,e=ax (aF #[u,v])/\Q u v w':=by
 rw[hP] at d⊢;exact acD a d λb c=>(g b c).mono λ_ _ h=>h.2
theorem acF (hs:NK n s)(hP:P.ns=[a])(d:kS a)(b:P.nm.length<=1000000)(c:P.tx.length<=1000000):CmX E T 5 P n s:=Xu hs (Xg (m:=0) (ea:=0) (nm:=P.nm) (v:=P.tx) hs.M (WalkArith.wf_i64 d) b c).1 (show Rs≠gU by decide) (Xv hP)
theorem a8z (hs:NK n s)(hP:P.ns=[a,m,ea])(c:kS a)(d:kS m):CmX E T 4 P n s:=Xu hs (a3F (ea:=ea) (nm:=[]) (v:=[]) hs.M (WalkArith.wf_i64 c) (WalkArith.wf_i64 d)) (show qV≠gU by decide) λW PB f g o Q b e=>by
 rw[hP] at b⊢;exact a8y a m ea b e
end
def JE (t:Bs):Bs:=if t=[] then[] else Lib.replaceAll t [59,32] [10]++[10]
theorem Lh (a:Bs)(c:UInt8):∀(k:Nat) (s:Bs),(Lib.replaceK a [c] k s).length<=s.length+k
 |0,s=>by simp[Lib.replaceK]
 |k+1,s=>by
  rw[Lib.replaceK];split
  .omega
  .have:=Lh a c k (s.drop ((Lib.index s a).toNat+a.length));grind
theorem RV (s a:Bs)(c:UInt8):(Lib.replaceAll s a [c]).length<=2*s.length+1:=by
 have b:=Lh a c (Lib.count s a) s;have d:=Lib.count_le s a;unfold Lib.replaceAll Lib.replace Lib.replaceNum;grind
theorem wQ {W:ah}(b:Sq W)(x a:aM)(c:UInt8)(d:1<=a.size)(h:x.size<=1000000):aJ 48 #[ak x,ak a,ak ⟨#[c]⟩] W λe w'=>e=ax (ak ⟨(Lib.replaceAll x.data.toList a.data.toList [c]).toArray⟩)/\aD W w':=by
 obtain⟨m,b⟩:=b;have g:=Lib.countB_le a d _ x ay;have f:(⟨#[c]⟩:aM).size=1:=rfl;exact Tryz.strings_ReplaceAll x a ⟨#[c]⟩ m W aa b d (by rw[f];omega)
variable {E:Nat->Addr}{T:Nat->Bs}{P:Ps}{s:Stp}{n i:Nat}{a m ea:Int}
theorem JF {W:ah}(d:Sq W)(t:Bs)(h:t.length<=1000000):aJ 42 #[bV t] W λe w'=>e=ax (bV (JE t))/\aD W w':=by
 cases t with
 |nil=>
  clear d;go_enter func42,ntmps42;go_wp2_with fail;go_ret;exact⟨rfl,aQ _ _⟩
 |cons x r=>
  obtain⟨b,c⟩:∃b:aM,⟨(x::r).toArray⟩=b:=⟨_,rfl⟩;have o:(b.toList==[])=false:=by rw[gz,<- c];rfl
  have p:b.toList.isEmpty=false:=by rw[gz,<- c];rfl
  have i:b.size<=1000000:=by rw[<- c];simpa[ByteArray.size] using h
  have f:=wQ d b ⟨#[59,32]⟩ 10 aC i;have j:=RV b.data.toList [59,32] 10;have k:b.data.toList.length=b.size:=rfl;have g:bV (JE (x::r))=ak (⟨(Lib.replaceAll b.data.toList [59,32] [10]).toArray⟩++⟨#[10]⟩):=by
   rw[<- c];show Value.string _=_;congr 1
  obtain⟨q,a⟩:∃q:aM,⟨(Lib.replaceAll b.data.toList [59,32] [10]).toArray⟩=q:=⟨_,rfl⟩;have l:¬9223372036854775807<q.size+1:=by
   rw[<- a];simp only[ByteArray.size,ji];omega
  have f:aJ 48 #[ak b,ak ⟨#[59,32]⟩,ak ⟨#[10]⟩] W λe w'=>e=ax (ak q)/\aD W w':=by rw[<- a];exact f
  rw[g,a];have m:Hid (bV (x::r)=ak b):=by rw[<- c];rfl
  rw[m.out];clear g a c d j k;go_enter func42,ntmps42;go_wp2_with(go_at_call 48;refine f.mono ?_;rintro e s ⟨rfl,n⟩);go_ret;exact⟨rfl,n⟩
theorem Vj {k:Nat}{g:List Rl}{c:List Pc}(hE:P.tx.length<=1000000)(r:DoS E ⟨gU,0,0,0,[],JE P.tx⟩ s.M s.nx s.c s.rl s.l 8 6 k s.M s.nx s.c g c)(u:k≠0->g=s.rl/\c=s.l):CmF E T 1 P k (bS (qP (((sM s.l c 6).map λ(y:Nat)=>(y:Int)).map zb))) s ⟨s.M,s.nx,s.c,g,c,if k=0 then JE P.tx else s.sh⟩:=λV PB B X W K L h o M N O=>
  (a4n (Q:=λx f=>(∃i j,tC E T V PB B X ⟨s.M,s.nx,s.c,g,c,if k=0 then JE P.tx else s.sh⟩ f i j)/\KM W f/\∃b v,x=aF #[bV b,v]/\((k=0/\b=bS (qP (((sM s.l c 6).map λ(y:Nat)=>(y:Int)).map zb))/\v=aU)\/(1<=k/\Ei E k v f))) (sh2:=JE P.tx) (λw a=>JF (h.pe.mx.below a) P.tx hE) λw a=>(a4l r (h.below a)).mono λe f ⟨⟨i,j,d⟩,m,b,v,z,A⟩=>⟨bV b,v,z,by
    rcases A with⟨p,q,l⟩|⟨C,q,l⟩
    . refine .inr ⟨l,⟨_,d.box,rfl⟩,⟨i,j,?_⟩,((KM.of_below a).trans m).trans (KM.set d.box),b,_,rfl,.inl ⟨p,q,rfl⟩⟩
      rw[if_pos p];exact tC.put h.env h.tx h.pv h.pB d.Eb d.lv ay d.xx d.box rfl
    . obtain⟨rfl,rfl⟩:=u aa
      obtain⟨t,y,rfl⟩:∃t y,v=aP t y:=by
        rcases l with rfl|⟨R,n,rfl, -, -⟩
        . grind
        . grind
      refine .inl ⟨t,y,rfl,⟨i,j,?_⟩,(KM.of_below a).trans m,[],_,rfl,.inr ⟨C,l⟩⟩;grind⟩).mono λe f ⟨x,D,F,H,b,v,I,J⟩=>⟨F,H,b,v,by rw[D,I],J⟩
theorem a4q (hs:NK n s)(hE:P.tx.length<=4000):CmX E T 1 P n s:=by
 have g:(JE P.tx).length<=10000:=by
  unfold JE;split
  .grind
  .have:=RV P.tx [59,32] 10;grind
 have f:=a00 (E:=E) (M:=s.M) (nx:=s.nx) (c:=s.c) 0 0 0 [] (JE P.tx);rcases ZZ (E:=E) 0 0 0 [] (JE P.tx) g with⟨k,o,i,d⟩|⟨p,j,d⟩
 .rcases a4k (l:=s.l) (w:=8) (h:=6) hs.M (bf 10) f i (d s.rl) (.inl rfl) aC aC aC aC with⟨k,e,a,b⟩|⟨-,q, -⟩
  .exact⟨k,_,_,a,by rw[if_neg (show k≠0 by omega)];exact hs.up,Vj aa b λ_=>⟨rfl,rfl⟩⟩
  .omega
 .rcases a4k (l:=s.l) (w:=8) (h:=6) hs.M (bf 10) f (bf 10) (d s.rl) (.inl rfl) aC aC aC aC with⟨k,e,a,b⟩|⟨-, -,r,m,b⟩
  .exact⟨k,_,_,a,by rw[if_neg (show k≠0 by omega)];exact hs.up,Vj aa b λ_=>⟨rfl,rfl⟩⟩
  .exact⟨0,_,_,aC,by rw[if_pos rfl];exact⟨hs.M,j,m,by have:=hs.nx;show s.nx<=_;omega⟩,Vj aa b λh=>absurd rfl h⟩

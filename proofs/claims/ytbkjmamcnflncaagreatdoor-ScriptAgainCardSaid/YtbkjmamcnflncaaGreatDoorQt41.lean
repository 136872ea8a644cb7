import Derived.Test.YtbkjmamcnflncaaGreatDoorQt40
namespace Go.Proofs.YtbkjmamcnflncaaGreatDoor
open Go.Proofs.Tryz
set_option maxHeartbeats 4000000
section
open Go.RowKit
set_option maxRecDepth 20000
theorem Ey (R:Nat):∀f,El R f
 |0=>λ_ _ h=>absurd h (Nat.not_lt_zero _)
 |f+1=>Oh R f (Ey R f)
def rdT (s:Bs):Option Nd:=match pG (s.length+1) s with
 |some (n,[])=>some n
 |_=>none
theorem a5f {s:Bs}{n:Nd}(h:pG (s.length+1) s=some (n,[])):rdT s=some n:=by rw[rdT,h]
theorem a5g {s:Bs}(h:pG (s.length+1) s=none):rdT s=none:=by rw[rdT,h]
theorem a5h {s:Bs}{n:Nd}{c:UInt8}{r:Bs}(h:pG (s.length+1) s=some (n,c::r)):rdT s=none:=by rw[rdT,h]
abbrev ndZ:ax:=.agg #[au ⟨#[]⟩,aj none 0 0,aj none 0 0]
def aax (E:Nat->Addr)(B:Nat)(s:Bs)(e:Ending)(w:ai):Prop:=
 (10000<s.length/\e=ay (aH #[ndZ,aU 453 (.pointer (some (E 2)))]))\/
 (s.length<=10000/\rdT s=none/\e=ay (aH #[ndZ,aU 453 (.pointer (some (E 1)))]))\/
 (s.length<=10000/\∃n,rdT s=some n/\(je n 1 0).1≠0/\∃a,B<=a/\e=ay (aH #[ndZ,aU 67 (aK a)])/\w.cell? (aJ a 0)=some (ag (je n 1 0).2)/\w.cell? (aJ a 1)=some (aU 453 (.pointer (some (E (je n 1 0).1)))))\/
 (s.length<=10000/\∃n b c d,rdT s=some n/\(je n 1 0).1=0/\e=ay (aH #[.agg #[b,c,d],aY])/\sS w b c d n)
theorem VW (E:Nat->Addr)(s:Bs)(W:ai)(hE:ME E W)(Y:W.cell? (aJ 1 0)=some (aU 453 (.pointer (some (E 1)))))(hs:s.length<=9223372036854775807):
  aL 41 #[au ⟨s.toArray⟩] W λe w'=>aD W w'/\aax E W.heap.size s e w':=by
 have b1:=iE s;have p:NB W.heap.size (au ⟨#[]⟩) (aj none 0 0) (aj none 0 0) (W.alloc (ak #[au ⟨#[]⟩,aj none 0 0,aj none 0 0] 50)):=dY W #[au ⟨#[]⟩,aj none 0 0,aj none 0 0] 50;have Z:=dR W (ak #[au ⟨#[]⟩,aj none 0 0,aj none 0 0] 50);obtain⟨P,Ot⟩:∃V,W.alloc (ak #[au ⟨#[]⟩,aj none 0 0,aj none 0 0] 50)=V:=⟨_,rfl⟩;rw[Ot] at p Z;have e2:=(hE.below Z).c2;have e1:=(Z.cell (aM Y)).trans Y;have l2:=aM hE.c2;have l1:=aM Y;simp only at l1 l2;have q2:¬W.heap.size=0:=aa;have b2:¬0=W.heap.size:=aa;have q1:¬W.heap.size=1:=aa;have b4:¬1=W.heap.size:=aa;by_cases a4:10000<s.length
 .have K:10000<(s.length:Int):=aa;have x:=p.c0;have y:=p.c1;have z:=p.c2;have af:=p.fG;go_enter func41,ntmps41;go_upto_region 2 with fail;clear Ot;go_region;go_wp2_with fail;refine bg (v:=aH #[ndZ,aU 453 (.pointer (some (E 2)))]) (by simp[results,results41,go_sem,x,y,z]) rfl ⟨?_,.inl ⟨a4,rfl⟩⟩;exact((((GN 1 Z).setCell az _).setCell az _).setCell az _)
 .have K:(s.length:Int)<=10000:=aa;have A:RD P.heap.size s (P.alloc (ak #[au ⟨s.toArray⟩] 173)):=dY P #[au ⟨s.toArray⟩] 173;have TP:=p.al (ak #[au ⟨s.toArray⟩] 173);have w:=bf Z (dR P (ak #[au ⟨s.toArray⟩] 173));have a8:=p.lt;obtain⟨U,hU⟩:∃U,P.alloc (ak #[au ⟨s.toArray⟩] 173)=U:=⟨_,rfl⟩;obtain⟨R,hR⟩:∃R,P.heap.size=R:=⟨_,rfl⟩;rw[hU] at A TP w;rw[hR] at A a8;have B:=A.lt;have FL:R≠W.heap.size:=aa;have EL:=Ey R (s.length+1) s U aa aa A;clear e2 e1;cases C:pG (s.length+1) s with
  |none=>
   have S:Hid (rdT s=none):=a5g C;have D:=EL.mono (R':=λe w'=>eG R U w'/\∃(a:aO) (d:Option Addr) (f g:Nat) (i:Option Addr) (j k:Nat),e=ay (aH #[.agg #[au a,aj d f g,aj i j k],.bool false])) (λe w' h=>by
    refine⟨h.1,?_⟩;obtain⟨a,d,f,g,i,j,k,m|⟨n,r,m, -⟩⟩:=h.2
    .exact⟨a,d,f,g,i,j,k,m.2⟩
    .rw[C] at m;cases m)
   clear EL C;go_enter func41,ntmps41;go_upto_region 6 with(go_at_call 82;refine D.mono ?_;rintro e t ⟨u,a,d,f,g,i,j,k,rfl⟩);have bV:=(w.trans (u.below aa w.size)).trans ((dR t (ak #[au a,aj d f g,aj i j k] 50)).mono (bO w.size u.size));have o:=(TP.keep u FL).al (ak #[au a,aj d f g,aj i j k] 50);obtain⟨V,I⟩:∃V,t.alloc (ak #[au a,aj d f g,aj i j k] 50)=V:=⟨_,rfl⟩;rw[I] at bV o⊢;clear I Ot hU hR;have x:=o.c0;have y:=o.c1;have z:=o.c2;have af:=o.fG;have e1:=(bV.cell l1).trans Y;go_region;go_wp2_with fail;refine bg (v:=aH #[ndZ,aU 453 (.pointer (some (E 1)))]) (by simp[results,results41,go_sem,x,y,z]) rfl ⟨?_,.inr (.inl ⟨aa,S.out,rfl⟩)⟩;exact((((GN 1 bV).setCell az _).setCell az _).setCell az _)
  |some q=>
   obtain⟨n,r⟩:=q;have D:=EL.mono (R':=λe w'=>eG R U w'/\∃(a:aO) (d:Option Addr) (f g:Nat) (i:Option Addr) (j k:Nat),e=ay (aH #[.agg #[au a,aj d f g,aj i j k],.bool true])/\RD R r w'/\uy (λb=>U.heap.size<=b) w' (au a) (aj d f g) (aj i j k) n) (λe w' h=>by
    refine⟨h.1,?_⟩;obtain⟨a,d,f,g,i,j,k,m|⟨n,r,m,h3,h4,h5⟩⟩:=h.2
    .rw[C] at m;cases m.1
    .rw[C] at m;cases m;exact⟨a,d,f,g,i,j,k,h3,h4,h5⟩)
   clear EL;cases r with
   |cons c r=>
    have S:Hid (rdT s=none):=a5h C;clear C;go_enter func41,ntmps41;go_upto_region 6 with(go_at_call 82;refine D.mono ?_;rintro e t ⟨u,a,d,f,g,i,j,k,rfl,rO,a5⟩;have rv:=(rO.al (ak #[au a,aj d f g,aj i j k] 50)).cell);have bV:=(w.trans (u.below aa w.size)).trans ((dR t (ak #[au a,aj d f g,aj i j k] 50)).mono (bO w.size u.size));have o:=(TP.keep u FL).al (ak #[au a,aj d f g,aj i j k] 50);obtain⟨V,I⟩:∃V,t.alloc (ak #[au a,aj d f g,aj i j k] 50)=V:=⟨_,rfl⟩;rw[I] at bV o⊢;clear I Ot hU hR rv;have x:=o.c0;have y:=o.c1;have z:=o.c2;have af:=o.fG;have e1:=(bV.cell l1).trans Y;go_region;go_wp2_with fail;refine bg (v:=aH #[ndZ,aU 453 (.pointer (some (E 1)))]) (by simp[results,results41,go_sem,x,y,z]) rfl ⟨?_,.inr (.inl ⟨aa,S.out,rfl⟩)⟩;exact((((GN 1 bV).setCell az _).setCell az _).setCell az _)
   |nil=>
    have S:Hid (rdT s=some n):=a5f C;clear C;go_enter func41,ntmps41;go_upto_region 7 with(go_at_call 82;refine D.mono ?_;rintro e t ⟨u,a,d,f,g,i,j,k,rfl,rO,a5⟩;have rv:=(rO.al (ak #[au a,aj d f g,aj i j k] 50)).cell);have bV:=(w.trans (u.below aa w.size)).trans ((dR t (ak #[au a,aj d f g,aj i j k] 50)).mono (bO w.size u.size));have o:=(TP.keep u FL).al (ak #[au a,aj d f g,aj i j k] 50);have F:NB t.heap.size (au a) (aj d f g) (aj i j k) (t.alloc (ak #[au a,aj d f g,aj i j k] 50)):=dY t #[au a,aj d f g,aj i j k] 50;have L:=uy.turn (Q:=λb=>U.heap.size<=b) (Q':=λb=>U.heap.size<=b) (λb hb B=>⟨hb,(dR t (ak #[au a,aj d f g,aj i j k] 50)).block b B⟩) n a5;obtain⟨V,I⟩:∃V,t.alloc (ak #[au a,aj d f g,aj i j k] 50)=V:=⟨_,rfl⟩;rw[I] at bV o F L⊢;clear I Ot hU hR rv;have m0:=F.c0;have m1:=F.c1;have m2:=F.c2;have CK:=GG E n _ _ _ V (hE.below bV).ce (uy.nd n L);have a6:=o.lt;by_cases T:(je n 1 0).1=0
    .have M:=CK.mono (R':=λe w'=>aD V w'/\e=ay aY) (λe w' h=>by
      refine⟨h.1,?_⟩;rcases h.2 with m|m
      .exact m.2
      .exact absurd T m.1)
     have HC:=aF T;clear CK T;go_wp2_with(go_at_call 68;refine M.mono ?_;rintro e X ⟨H,rfl⟩;have p0:=(H.cell (aM m0)).trans m0;have p1:=(H.cell (aM m1)).trans m1;have p2:=(H.cell (aM m2)).trans m2;have l:NB W.heap.size (au ⟨#[]⟩) (aj none 0 0) (aj none 0 0) X:=(H.block _ a6).trans o;have x:=l.c0;have y:=l.c1;have z:=l.c2;have af:=l.fG);have bF:=bV.trans (H.mono bV.size);have a9:=uy.turn (Q:=λb=>U.heap.size<=b) (Q':=λb=>U.heap.size<=b) (w':=a4O W.heap.size (au a) (aj d f g) (aj i j k) X) (λb hb B=>⟨hb,by
      have N:b≠W.heap.size:=aa;rw[dw _ _ _ b N,dw _ _ _ b N,dw _ _ _ b N];exact H.block b B⟩) n L
     refine bg (v:=aH #[.agg #[au a,aj d f g,aj i j k],aY]) (by simp[results,results41,go_sem,x,y,z]) rfl ⟨?_,.inr (.inr (.inr ⟨aa,n,_,_,_,S.out,HC.out,rfl,uy.nd n a9⟩))⟩;exact(((bF.setCell az _).setCell az _).setCell az _)
    .have M:=CK.mono (R':=λe w'=>aD V w'/\Flt E V.heap.size (je n 1 0) e w') (λe w' h=>by
      refine⟨h.1,?_⟩;rcases h.2 with m|m
      .exact absurd m.1 T
      .exact m.2)
     have HC:=aF T;clear CK T;go_wp2_with(go_at_call 68;refine M.mono ?_;rintro e X ⟨H,J,b5,rfl,z0,z1⟩;have l:NB W.heap.size (au ⟨#[]⟩) (aj none 0 0) (aj none 0 0) X:=(H.block _ a6).trans o;have x:=l.c0;have y:=l.c1;have z:=l.c2;have af:=l.fG);have bF:=bV.trans (H.mono bV.size);have O:J≠W.heap.size:=aa;have a7:(a4O W.heap.size (au ⟨#[]⟩) (aj none 0 0) (aj none 0 0) X).heap[J]? =X.heap[J]? :=by rw[dw _ _ _ J O,dw _ _ _ J O,dw _ _ _ J O]
     refine bg (v:=aH #[ndZ,aU 67 (aK J)]) (by simp[results,results41,go_sem,x,y,z]) rfl ⟨?_,.inr (.inr (.inl ⟨aa,n,S.out,HC.out,J,by have:=bV.size;omega,rfl,(qL a7).trans z0,(qL a7).trans z1⟩))⟩;exact(((bF.setCell az _).setCell az _).setCell az _)
end
section
open Go.RowKit Go.Maps Go.Shelf
theorem F8.ahw {E:Nat->Addr}{k:Nat}{v:ax}{w:ai}(h:F8 E k v w):∃t y,v=aU t y:=by
 rcases h with rfl|⟨a,n,rfl, -, -⟩
 .grind
 .grind
theorem F8.below {E:Nat->Addr}{k:Nat}{v:ax}{w w':ai}(h:F8 E k v w)(a:aD w w'):F8 E k v w':=h.imp id λ⟨d,n,e,b,c⟩=>⟨d,n,e,(a.cell (aM b)).trans b,(a.cell (aM c)).trans c⟩
section
variable {E:Nat->Addr}{T:Nat->Bs}{P:Ps}{s:Stp}{n:Nat}{a ea:Int}
theorem Mg {j:Nat}{q:ig}{l:Nat}{m:List Pc}(hP:P.ns=[a,(j:Int)])(N:kU a)(O:s.nx<1000000)(C:j<=q.kids.length)(D:DoS E ⟨Di,a,0,j,P.nm,[]⟩ s.M s.nx s.c s.rl s.l 8 6 0 (eP (eP s.M s.nx ⟨P.nm,[],a,[]⟩) a ⟨q.name,q.ats,q.parent,iO q.kids j s.nx⟩) (s.nx+1) l s.rl m):
  CmF E T 2 P 0 (bS (yY s.nx)) s ⟨eP (eP s.M s.nx ⟨P.nm,[],a,[]⟩) a ⟨q.name,q.ats,q.parent,iO q.kids j s.nx⟩,s.nx+1,l,s.rl,m,s.sh⟩:=λV PB B X W LB n h o cp BN F=>by
 obtain⟨g,b⟩:∃g,eP (eP s.M s.nx ⟨P.nm,[],a,[]⟩) a ⟨q.name,q.ats,q.parent,iO q.kids j s.nx⟩=g:=⟨_,rfl⟩;have R:ru g a=iO q.kids j s.nx:=by
  rw[<- b];unfold ru eP;rw[aR rfl]
 rw[b] at D⊢;have t:kU (s.nx:Int):=⟨aa,aa⟩;rw[hP] at F⊢;refine(a5c (LB:=LB) (Q:=λx i=>(∃S U,uC E T V PB B X ⟨g,s.nx+1,l,s.rl,m,s.sh⟩ i S U)/\KM W i/\x=aH #[au (yY s.nx),aY]) a j F (aQ h.box 0 _ rfl) λY c=>?_).mono λe i ⟨x,Z,h2,h3,h4⟩=>⟨h2,h3,_,aY,by rw[Z,h4,aav],.inl ⟨rfl,rfl,rfl⟩⟩;have d:=h.below c;refine(D Y LB B n X d.xl d.pe d.lv).mono λe i ⟨w,y,v,u,g3,H⟩=>⟨v,u,g3,?_⟩;rcases H with⟨-,rfl, -⟩|⟨H, -⟩
 .have I:=d.k2 w y;have gk:=(KM.of_below c).trans (d.lv.km w);refine .inr ⟨rfl,aQ I.box 0 _ rfl,n,y.doc.mono λ_ _ ⟨k,f⟩=>⟨k,f⟩,?_⟩;obtain⟨r,tg,MB,p,rv,qs,pv,cv,J, -⟩:=y;have a4:=J.ds.akE a;refine(QM J.ds.w a (WalkArith.wf_i64 N) aa).mono λe w2 ⟨o2,k2,k,f,K⟩=>?_;rw[R] at k f;have a5:=xV q.kids j s.nx C;obtain⟨gB,z,hc⟩:=eF f j (ag s.nx) (by rw[uh q.kids j j s.nx C,aG (Nat.lt_irrefl _),aR rfl]);have L:=I.below K;obtain⟨A,rfl⟩:∃A,o2=some ⟨A,0,none⟩:=by
   rcases f.2 with⟨_,e1⟩|⟨w,a6,a7,e1,_⟩
   .omega
   .grind
  cases z;exact⟨A,_,k2,s.nx,j,k,rfl,aa,hc,(Fx s.nx (yY s.nx) w2 t rfl L.pe.ne.tab).mono λe w3 ⟨f4,M⟩=>⟨_,f4,⟨LB,n,L.below M⟩,(gk.trans (KM.of_below K)).trans (KM.of_below M),rfl⟩⟩
 .omega
theorem adt (hs:Oy n s)(hn:n<=1000)(hP:P.ns=[a,ea])(H:kU a)(z:P.nm.length<=1000000):CmX E T 2 P n s:=by
 have R:∀k,1<=k->k<=10->DoS E ⟨Di,a,0,ea,P.nm,[]⟩ s.M s.nx s.c s.rl s.l 8 6 k s.M s.nx s.c s.rl s.l->CmX E T 2 P n s:=λk I A d=>⟨k,[],s,A,hs.up,λV PB B X W LB J h o cp BN K=>by
  rw[hP] at K⊢;refine(a5c (LB:=LB) (Q:=λx f=>(∃S U,uC E T V PB B X s f S U)/\KM W f/\∃v,x=aH #[bV [],v]/\F8 E k v f) a ea K (aQ h.box 0 _ rfl) λY g=>?_).mono λe f ⟨x,Z,h2,h3,v,h4,h5⟩=>⟨h2,h3,[],v,by rw[Z,h4],.inr ⟨I,h5⟩⟩;have i:=h.below g;refine(d Y LB B J X i.xl i.pe i.lv).mono λe f ⟨L,g2,v,u,g3,p⟩=>⟨v,u,g3,?_⟩;rcases p with⟨p, -⟩|⟨-,p⟩
  .omega
  .obtain⟨t,y,rfl⟩:=p.ahw;exact .inl ⟨t,y,rfl,⟨LB,J,i.k2 L g2⟩,(KM.of_below g).trans (i.lv.km L),_,rfl,p⟩⟩
 have r:s.nx<1000000:=by have:=hs.nx;omega
 have N:=BI (E:=E) (x:=⟨Di,a,0,ea,P.nm,[]⟩) (show Di≠iy by decide) hs.sh.g;rcases a8P (E:=E) (M:=s.M) (nx:=s.nx) (c:=s.c) (m:=0) (ea:=ea) (v:=[]) r (WalkArith.wf_i64 H) z with⟨k,I,A,C⟩|⟨j,q,rfl,O,hj,b,C⟩
 .rcases a4Y (l:=s.l) (w:=8) (h:=6) hs.M A C (bA 10) N (.inr rfl) aC aC aC aC with⟨k',D,F,d⟩|⟨h0, -⟩
  .grind
  .omega
 .rcases a4Y (l:=s.l) (w:=8) (h:=6) (VP hs.M b O j (nx:=s.nx)) (bA 10) C (bA 10) N (.inr rfl) aC aC aC aC with⟨k',D,F,d⟩|⟨-, -,l2,hp,d⟩
  .grind
  .exact⟨0,_,⟨eP (eP s.M s.nx ⟨P.nm,[],a,[]⟩) a ⟨q.name,q.ats,q.parent,iO q.kids j s.nx⟩,s.nx+1,s.c+1,s.rl,l2,s.sh⟩,aC,⟨VP hs.M b O j,hs.sh,hp,by have:=hs.nx;show s.nx+1<=_;omega⟩,Mg hP H r hj d⟩
end
abbrev adu (n:Nd)(rl:List Rl)(l:List Pc)(sh:Bs):Stp:=⟨l9 n,jq n,jq n,rl,l,sh⟩
theorem VX {n:Nd}(hc:(je n 1 0).1=0):jq n<=100:=by
 have a:=UU n 1 0 hc;have b:=GA n 1 0 hc;omega
theorem Yf {E:Nat->Addr}{W:ai}{PB:Nat}{p0:ax}{sh:Bs}{rl:List Rl}{b:Nd}{c:aO}{d:Option Addr}{f g:Nat}{h:Option Addr}{i j:Nat}(hE:PE E W)(k:F9 sh rl)(hc:(je b 1 0).1=0)(q:sS W (au c) (aj d f g) (aj h i j) b)(r:W.heap[PB]? =some (ak #[p0,bV sh] 45)):
  aL 13 #[aK PB,.agg (ndA c d f g h i j)] W λe w'=>∃x,e=ay x/\((∃t y,x=aU t y/\Df E (l9 b) rl x w'/\aD W w')\/(x=aY/\∃LB DB l m,fC (l9 b) rl=.ok l/\Km (l9 b) rl/\yC m LB W.heap.size DB (l9 b) (jq b) (jq b) rl l 8 6 none/\aD W m/\w'=m.setCell ⟨PB,0,none⟩ (aK LB))):=
 a5a c d f g h i j r λs a=>(ahu E b _ _ _ s 8 6 sh rl k hc (hE.below a) (sS.below a b q) (by have:=VX hc;omega) aC aC aC aC).mono λe w' ⟨n,u⟩=>⟨bf a n,by
  rcases u with⟨t,y,o,p⟩|⟨LB,DB,l,o,p,v,w⟩
  .exact⟨_,_,o,.inl ⟨t,y,rfl,.inl ⟨t,y,rfl,p,bf a n⟩⟩⟩
  .exact⟨_,_,v,.inr ⟨LB,rfl,rfl,.inr ⟨rfl,LB,DB,l,w',o,p,w.ahv a.size,bf a n,rfl⟩⟩⟩⟩
theorem a5i:∀(l:List (Bs×Bs)) (a:List (Bs×Bs)),EK a l<=10
 |[],_=>by simp[EK]
 |x::l,a=>by
  rw[EK];split
  .exact a5i l _
  .unfold Um;grind
theorem adv (nm:Bs)(ats:List (Bs×Bs))(d a:Nat):ck1 nm ats d a<=10:=by
 unfold ck1
 repeat' split
 all_goals first|decide|exact a5i _ _
mutual
theorem a5j:∀(n:Nd) (d a:Nat),(je n d a).1<=10
 | .mk c ats b,d,a=>by
  rw[je];split
  .exact a5k b _ _
  .exact adv _ _ _ _
theorem a5k:∀(l:List Nd) (d a:Nat),(uQ l d a).1<=10
 |[],_,_=>by simp[uQ]
 |k::l,d,a=>by
  rw[uQ];split
  .exact a5k l _ _
  .exact a5j k _ _
end
section
variable {E:Nat->Addr}{T:Nat->Bs}{P:Ps}{s:Stp}{n:Nat}
theorem a9l (hs:Oy n s)(a4:P.tx.length<=1000000):CmX E T 0 P n s:=by
 have RD:=λ(W:ai) (hE:PE E W)=>VW E P.tx W hE.le.me hE.ne.c1 aa;have u:∀k,1<=k->k<=10->(∀B e a,aax E B P.tx e a->∃v,e=ay (aH #[ndZ,v])/\F8 E k v a)->CmX E T 0 P n s:=λk K L HR=>⟨k,[],s,L,hs.up,λV PB B X W p q h o cp Z ho=>by
  refine(Yb (PB:=PB) (n:=P.ns.length) (nm:=P.nm) (o:=o) (cp:=cp) (Q:=λx a=>aD W a/\∃v,x=aH #[bV [],v]/\F8 E k v a) λM i=>(RD M (h.pe.below i)).mono λe a ⟨w,j⟩=>?_).mono λe a ⟨x,h1,h2,v,c,N⟩=>⟨⟨p,q,h.below h2⟩,KM.of_below h2,[],v,by rw[h1,c],.inr ⟨K,N⟩⟩;obtain⟨v,m,r⟩:=HR _ _ _ j;obtain⟨t,y,rfl⟩:=r.ahw;exact⟨_,_,_,_,_,_,_,_,m,.inl ⟨t,y,rfl,λw3 b3=>⟨bf (bf i w) b3,_,rfl,r.below b3⟩⟩⟩⟩
 by_cases h1:10000<P.tx.length
 .refine u 2 aC aC λB e a C=>?_;rcases C with⟨-,c⟩|⟨c, -⟩|⟨c, -⟩|⟨c, -⟩
  .exact⟨_,c,.inl rfl⟩
  all_goals omega
 cases hd:rdT P.tx with
 |none=>
  refine u 1 aC aC λB e a C=>?_;rcases C with⟨c, -⟩|⟨-, -,c⟩|⟨-,n,c, -⟩|⟨-,n,c0,c1,c2,c, -⟩
  .omega
  .exact⟨_,c,.inl rfl⟩
  .grind
  .grind
 |some g=>
  by_cases O:(je g 1 0).1=0
  .-- the node is right
   have GO:∀V PB B X W p q,uC E T V PB B X s W p q->∀o cp,aL (A9 0) #[aK PB,.agg (jl o P.ns.length cp P.nm P.tx)] W λe a=>∃x,e=ay x/\KM W a/\((∃t y,x=aH #[bV [],aU t y]/\Df E (l9 g) s.rl (aU t y) a/\aD W a)\/(x=aH #[bV [111,107],aY]/\∃z A l,fC (l9 g) s.rl=.ok l/\Km (l9 g) s.rl/\uC E T V PB B X (adu g s.rl l s.sh) a z A)):=λV PB B X W p q h o cp=>by
    refine Yb (PB:=PB) (n:=P.ns.length) (nm:=P.nm) (o:=o) (cp:=cp) (tx:=P.tx) (W:=W) λM i=>(RD M (h.pe.below i)).mono λe a ⟨w,j⟩=>?_;rcases j with⟨j, -⟩|⟨-,j, -⟩|⟨-,n',j,m, -⟩|⟨-,n',c0,c1,c2,j, -,m,r⟩
    .omega
    .grind
    .grind
    .rw[hd] at j;cases j;obtain⟨sa,oa,na,ka,ob,nb,kb,rfl,rfl,rfl⟩:=Ya r;refine⟨sa,oa,na,ka,ob,nb,kb,_,m,.inr ⟨rfl,λW2 R=>?_⟩⟩;have d:=h.below (bf (bf i w) R);have S:=bf (bf i w) R;refine(Yf d.pe hs.sh O (sS.below R g r) d.box).mono λe w2 ⟨x,f1,f2⟩=>⟨x,f1,?_⟩;rcases f2 with⟨t,y,rfl,U,H⟩|⟨rfl,z,A,l,w1,U,H,f5,I,rfl⟩
     .exact .inl ⟨t,y,rfl,KM.of_below (bf S H),.inl ⟨t,y,rfl,U,bf S H⟩⟩
     .have D:=(I.block _ (bu d.box)).trans d.box;have F:yC w1 z W2.heap.size A (l9 g) (jq g) (jq g) s.rl l 8 6 X:=f5.old d.xl;have Y:=d.lv.aau;refine .inr ⟨rfl,(KM.of_below (bf S I)).trans (KM.set D),.inr ⟨rfl,z,A,l,U,H,uC.put h.env h.tx h.pv h.pB (bf d.EY I) F Y.2.2 (λb hx=>?_) D rfl⟩⟩;obtain⟨cs,f,J⟩:=d.xx b hx;exact⟨cs,f,(I.block _ (bu J)).trans J⟩
   by_cases hp:Km (l9 g) s.rl
   .obtain⟨l,hl,a5⟩:=id hp;refine⟨0,[111,107],adu g s.rl l s.sh,aC,⟨oI O,hs.sh,hl,by have:=VX O;show jq g<=_;omega⟩,λV PB B X W p q h o cp Z ho=>(GO V PB B X W p q h o cp).mono λe a ⟨x,w,j,m⟩=>?_⟩;rcases m with⟨t,y, -,m, -⟩|⟨rfl,z,A,l',r, -,g5⟩
    .exact absurd hp m.no
    .grind
   .obtain⟨k,K,L,k3⟩:=Df.num (l9 g) s.rl;refine⟨k,[],s,L,hs.up,λV PB B X W p q h o cp Z ho=>(GO V PB B X W p q h o cp).mono λe a ⟨x,w,j,m⟩=>?_⟩;rcases m with⟨t,y,rfl,m,r⟩|⟨-,z,A,l', -,r, -⟩
    .exact⟨⟨p,q,h.below r⟩,j,_,_,w,.inr ⟨K,k3 _ _ _ m⟩⟩
    .grind
  .refine u (je g 1 0).1 aa (a5j _ _ _) λB e a C=>?_;rcases C with⟨c, -⟩|⟨-,c, -⟩|⟨-,n,c,N,pb, -,h5,J,h7⟩|⟨-,n,c0,c1,c2,c,N, -⟩
   .omega
   .grind
   .rw[hd] at c;cases c;exact⟨_,h5,.inr ⟨pb,_,rfl,J,h7⟩⟩
   .grind
end
end
open Go.RowKit Go.Shelf
variable {B:Nat}{i:dG}{W:ai}{DB z:Nat}{p:Int->Option Nat}{M:Dm}{nx c:Nat}{r:Int->Nat}
theorem a5l (h:dm B i W DB z p M nx c)(f:Wd M r)(hF:EU M)(s:Bs)(hs:s.length<=1000000)(a:s≠[])(n:Int)(g:eH n)(b d:Nat)(l:W.cell? (aJ b 0)=some (bV s))(m:W.cell? (aJ d 0)=some (aK DB)):
  aL 102 #[ag n,aK b,aK d] W λe w'=>e=ay (.bool (!oQ M s n))/\aD W w':=by
 have j:=Re h f hF s hs a n g;go_enter func102,ntmps102;go_wp2_with(go_at_call 103;refine j.mono ?_;rintro e o ⟨rfl,k⟩);go_ret;exact⟨rfl,k⟩

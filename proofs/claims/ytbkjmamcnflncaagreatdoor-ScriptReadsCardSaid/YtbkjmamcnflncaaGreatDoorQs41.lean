import Derived.Test.YtbkjmamcnflncaaGreatDoorQs40
namespace Go.Proofs.YtbkjmamcnflncaaGreatDoor
open Go.Proofs.Tryz
set_option maxHeartbeats 4000000
section
open Go.RowKit
set_option maxRecDepth 20000
theorem Dz (R:Nat):∀f,El R f
 |0=>λ_ _ h=>absurd h (Nat.not_lt_zero _)
 |f+1=>Nu R f (Dz R f)
def rdT (s:Bs):Option Nd:=match oF (s.length+1) s with
 |some (n,[])=>some n
 |_=>none
theorem a4r {s:Bs}{n:Nd}(h:oF (s.length+1) s=some (n,[])):rdT s=some n:=by rw[rdT,h]
theorem a4s {s:Bs}(h:oF (s.length+1) s=none):rdT s=none:=by rw[rdT,h]
theorem a4t {s:Bs}{n:Nd}{c:UInt8}{r:Bs}(h:oF (s.length+1) s=some (n,c::r)):rdT s=none:=by rw[rdT,h]
abbrev ndZ:au:=.agg #[ak ⟨#[]⟩,aj none 0 0,aj none 0 0]
def a9N (E:Nat->Addr)(B:Nat)(s:Bs)(e:Ending)(w:ah):Prop:=
 (10000<s.length/\e=ax (aF #[ndZ,aP 453 (.pointer (some (E 2)))]))\/
 (s.length<=10000/\rdT s=none/\e=ax (aF #[ndZ,aP 453 (.pointer (some (E 1)))]))\/
 (s.length<=10000/\∃n,rdT s=some n/\(iT n 1 0).1≠0/\∃a,B<=a/\e=ax (aF #[ndZ,aP 67 (aI a)])/\w.cell? (aH a 0)=some (ag (iT n 1 0).2)/\w.cell? (aH a 1)=some (aP 453 (.pointer (some (E (iT n 1 0).1)))))\/
 (s.length<=10000/\∃n b c d,rdT s=some n/\(iT n 1 0).1=0/\e=ax (aF #[.agg #[b,c,d],aU])/\rJ w b c d n)
theorem Vk (E:Nat->Addr)(s:Bs)(W:ah)(hE:ME E W)(Y:W.cell? (aH 1 0)=some (aP 453 (.pointer (some (E 1)))))(hs:s.length<=9223372036854775807):
  aJ 41 #[ak ⟨s.toArray⟩] W λe w'=>aD W w'/\a9N E W.heap.size s e w':=by
 have b1:=ic s;have o:NB W.heap.size (ak ⟨#[]⟩) (aj none 0 0) (aj none 0 0) (W.alloc (ai #[ak ⟨#[]⟩,aj none 0 0,aj none 0 0] 50)):=dN W #[ak ⟨#[]⟩,aj none 0 0,aj none 0 0] 50;have Z:=dI W (ai #[ak ⟨#[]⟩,aj none 0 0,aj none 0 0] 50);obtain⟨P,NF⟩:∃V,W.alloc (ai #[ak ⟨#[]⟩,aj none 0 0,aj none 0 0] 50)=V:=⟨_,rfl⟩;rw[NF] at o Z;have e2:=(hE.below Z).c2;have e1:=(Z.cell (aK Y)).trans Y;have l2:=aK hE.c2;have l1:=aK Y;simp only at l1 l2;have q2:¬W.heap.size=0:=aa;have b2:¬0=W.heap.size:=aa;have q1:¬W.heap.size=1:=aa;have b4:¬1=W.heap.size:=aa;by_cases a4:10000<s.length
 .have K:10000<(s.length:Int):=aa;have w:=o.c0;have x:=o.c1;have y:=o.c2;have af:=o.eY;go_enter func41,ntmps41;go_upto_region 2 with fail;clear NF;go_region;go_wp2_with fail;refine bodyPost_ret (v:=aF #[ndZ,aP 453 (.pointer (some (E 2)))]) (by simp[results,results41,go_sem,w,x,y]) rfl ⟨?_,.inl ⟨a4,rfl⟩⟩;exact((((G9 1 Z).setCell ay _).setCell ay _).setCell ay _)
 .have K:(s.length:Int)<=10000:=aa;have z:RD P.heap.size s (P.alloc (ai #[ak ⟨s.toArray⟩] 173)):=dN P #[ak ⟨s.toArray⟩] 173;have Sy:=o.al (ai #[ak ⟨s.toArray⟩] 173);have u:=aW Z (dI P (ai #[ak ⟨s.toArray⟩] 173));have a8:=o.lt;obtain⟨U,hU⟩:∃U,P.alloc (ai #[ak ⟨s.toArray⟩] 173)=U:=⟨_,rfl⟩;obtain⟨R,hR⟩:∃R,P.heap.size=R:=⟨_,rfl⟩;rw[hU] at z Sy u;rw[hR] at z a8;have A:=z.lt;have EN:R≠W.heap.size:=aa;have EL:=Dz R (s.length+1) s U aa aa z;clear e2 e1;cases B:oF (s.length+1) s with
  |none=>
   have S:Hid (rdT s=none):=a4s B;have C:=EL.mono (R':=λe w'=>dR R U w'/\∃(a:aM) (d:Option Addr) (f g:Nat) (i:Option Addr) (j k:Nat),e=ax (aF #[.agg #[ak a,aj d f g,aj i j k],.bool false])) (λe w' h=>by
    refine⟨h.1,?_⟩;obtain⟨a,d,f,g,i,j,k,l|⟨n,r,l, -⟩⟩:=h.2
    .exact⟨a,d,f,g,i,j,k,l.2⟩
    .rw[B] at l;cases l)
   clear EL B;go_enter func41,ntmps41;go_upto_region 6 with(go_at_call 82;refine C.mono ?_;rintro e p ⟨t,a,d,f,g,i,j,k,rfl⟩);have bV:=(u.trans (t.below aa u.size)).trans ((dI p (ai #[ak a,aj d f g,aj i j k] 50)).mono (bu u.size t.size));have m:=(Sy.keep t EN).al (ai #[ak a,aj d f g,aj i j k] 50);obtain⟨V,I⟩:∃V,p.alloc (ai #[ak a,aj d f g,aj i j k] 50)=V:=⟨_,rfl⟩;rw[I] at bV m⊢;clear I NF hU hR;have w:=m.c0;have x:=m.c1;have y:=m.c2;have af:=m.eY;have e1:=(bV.cell l1).trans Y;go_region;go_wp2_with fail;refine bodyPost_ret (v:=aF #[ndZ,aP 453 (.pointer (some (E 1)))]) (by simp[results,results41,go_sem,w,x,y]) rfl ⟨?_,.inr (.inl ⟨aa,S.out,rfl⟩)⟩;exact((((G9 1 bV).setCell ay _).setCell ay _).setCell ay _)
  |some q=>
   obtain⟨n,r⟩:=q;have C:=EL.mono (R':=λe w'=>dR R U w'/\∃(a:aM) (d:Option Addr) (f g:Nat) (i:Option Addr) (j k:Nat),e=ax (aF #[.agg #[ak a,aj d f g,aj i j k],.bool true])/\RD R r w'/\sQ (λb=>U.heap.size<=b) w' (ak a) (aj d f g) (aj i j k) n) (λe w' h=>by
    refine⟨h.1,?_⟩;obtain⟨a,d,f,g,i,j,k,l|⟨n,r,l,h3,h4,h5⟩⟩:=h.2
    .rw[B] at l;cases l.1
    .rw[B] at l;cases l;exact⟨a,d,f,g,i,j,k,h3,h4,h5⟩)
   clear EL;cases r with
   |cons c r=>
    have S:Hid (rdT s=none):=a4t B;clear B;go_enter func41,ntmps41;go_upto_region 6 with(go_at_call 82;refine C.mono ?_;rintro e p ⟨t,a,d,f,g,i,j,k,rfl,qN,a5⟩;have rv:=(qN.al (ai #[ak a,aj d f g,aj i j k] 50)).cell);have bV:=(u.trans (t.below aa u.size)).trans ((dI p (ai #[ak a,aj d f g,aj i j k] 50)).mono (bu u.size t.size));have m:=(Sy.keep t EN).al (ai #[ak a,aj d f g,aj i j k] 50);obtain⟨V,I⟩:∃V,p.alloc (ai #[ak a,aj d f g,aj i j k] 50)=V:=⟨_,rfl⟩;rw[I] at bV m⊢;clear I NF hU hR rv;have w:=m.c0;have x:=m.c1;have y:=m.c2;have af:=m.eY;have e1:=(bV.cell l1).trans Y;go_region;go_wp2_with fail;refine bodyPost_ret (v:=aF #[ndZ,aP 453 (.pointer (some (E 1)))]) (by simp[results,results41,go_sem,w,x,y]) rfl ⟨?_,.inr (.inl ⟨aa,S.out,rfl⟩)⟩;exact((((G9 1 bV).setCell ay _).setCell ay _).setCell ay _)
   |nil=>
    have S:Hid (rdT s=some n):=a4r B;clear B;go_enter func41,ntmps41;go_upto_region 7 with(go_at_call 82;refine C.mono ?_;rintro e p ⟨t,a,d,f,g,i,j,k,rfl,qN,a5⟩;have rv:=(qN.al (ai #[ak a,aj d f g,aj i j k] 50)).cell);have bV:=(u.trans (t.below aa u.size)).trans ((dI p (ai #[ak a,aj d f g,aj i j k] 50)).mono (bu u.size t.size));have m:=(Sy.keep t EN).al (ai #[ak a,aj d f g,aj i j k] 50);have D:NB p.heap.size (ak a) (aj d f g) (aj i j k) (p.alloc (ai #[ak a,aj d f g,aj i j k] 50)):=dN p #[ak a,aj d f g,aj i j k] 50;have L:=sQ.turn (Q:=λb=>U.heap.size<=b) (Q':=λb=>U.heap.size<=b) (λb hb A=>⟨hb,(dI p (ai #[ak a,aj d f g,aj i j k] 50)).block b A⟩) n a5;obtain⟨V,I⟩:∃V,p.alloc (ai #[ak a,aj d f g,aj i j k] 50)=V:=⟨_,rfl⟩;rw[I] at bV m D L⊢;clear I NF hU hR rv;have m0:=D.c0;have m1:=D.c1;have m2:=D.c2;have CK:=FW E n _ _ _ V (hE.below bV).ce (sQ.nd n L);have a6:=m.lt;by_cases T:(iT n 1 0).1=0
    .have M:=CK.mono (R':=λe w'=>aD V w'/\e=ax aU) (λe w' h=>by
      refine⟨h.1,?_⟩;rcases h.2 with l|l
      .exact l.2
      .exact absurd T l.1)
     have HC:=aA T;clear CK T;go_wp2_with(go_at_call 68;refine M.mono ?_;rintro e X ⟨F,rfl⟩;have p0:=(F.cell (aK m0)).trans m0;have p1:=(F.cell (aK m1)).trans m1;have p2:=(F.cell (aK m2)).trans m2;have H:NB W.heap.size (ak ⟨#[]⟩) (aj none 0 0) (aj none 0 0) X:=(F.block _ a6).trans m;have w:=H.c0;have x:=H.c1;have y:=H.c2;have af:=H.eY);have bF:=bV.trans (F.mono bV.size);have a9:=sQ.turn (Q:=λb=>U.heap.size<=b) (Q':=λb=>U.heap.size<=b) (w':=a4a W.heap.size (ak a) (aj d f g) (aj i j k) X) (λb hb A=>⟨hb,by
      have N:b≠W.heap.size:=aa;rw[bY _ _ _ b N,bY _ _ _ b N,bY _ _ _ b N];exact F.block b A⟩) n L
     refine bodyPost_ret (v:=aF #[.agg #[ak a,aj d f g,aj i j k],aU]) (by simp[results,results41,go_sem,w,x,y]) rfl ⟨?_,.inr (.inr (.inr ⟨aa,n,_,_,_,S.out,HC.out,rfl,sQ.nd n a9⟩))⟩;exact(((bF.setCell ay _).setCell ay _).setCell ay _)
    .have M:=CK.mono (R':=λe w'=>aD V w'/\Flt E V.heap.size (iT n 1 0) e w') (λe w' h=>by
      refine⟨h.1,?_⟩;rcases h.2 with l|l
      .exact absurd l.1 T
      .exact l.2)
     have HC:=aA T;clear CK T;go_wp2_with(go_at_call 68;refine M.mono ?_;rintro e X ⟨F,J,b5,rfl,z0,z1⟩;have H:NB W.heap.size (ak ⟨#[]⟩) (aj none 0 0) (aj none 0 0) X:=(F.block _ a6).trans m;have w:=H.c0;have x:=H.c1;have y:=H.c2;have af:=H.eY);have bF:=bV.trans (F.mono bV.size);have O:J≠W.heap.size:=aa;have a7:(a4a W.heap.size (ak ⟨#[]⟩) (aj none 0 0) (aj none 0 0) X).heap[J]? =X.heap[J]? :=by rw[bY _ _ _ J O,bY _ _ _ J O,bY _ _ _ J O]
     refine bodyPost_ret (v:=aF #[ndZ,aP 67 (aI J)]) (by simp[results,results41,go_sem,w,x,y]) rfl ⟨?_,.inr (.inr (.inl ⟨aa,n,S.out,HC.out,J,by have:=bV.size;omega,rfl,(qg a7).trans z0,(qg a7).trans z1⟩))⟩;exact(((bF.setCell ay _).setCell ay _).setCell ay _)
end
section
open Go.RowKit Go.Maps Go.Shelf
theorem Ei.agP {E:Nat->Addr}{k:Nat}{v:au}{w:ah}(h:Ei E k v w):∃t y,v=aP t y:=by
 rcases h with rfl|⟨a,n,rfl, -, -⟩
 .grind
 .grind
theorem Ei.below {E:Nat->Addr}{k:Nat}{v:au}{w w':ah}(h:Ei E k v w)(a:aD w w'):Ei E k v w':=h.imp id λ⟨d,n,e,b,c⟩=>⟨d,n,e,(a.cell (aK b)).trans b,(a.cell (aK c)).trans c⟩
section
variable {E:Nat->Addr}{T:Nat->Bs}{P:Ps}{s:Stp}{n:Nat}{a ea:Int}
theorem Li {j:Nat}{q:gP}{l:Nat}{m:List Pc}(hP:P.ns=[a,(j:Int)])(N:kS a)(O:s.nx<1000000)(C:j<=q.kids.length)(D:DoS E ⟨Cm,a,0,j,P.nm,[]⟩ s.M s.nx s.c s.rl s.l 8 6 0 (dY (dY s.M s.nx ⟨P.nm,[],a,[]⟩) a ⟨q.name,q.ats,q.parent,iE q.kids j s.nx⟩) (s.nx+1) l s.rl m):
  CmF E T 2 P 0 (bS (zb s.nx)) s ⟨dY (dY s.M s.nx ⟨P.nm,[],a,[]⟩) a ⟨q.name,q.ats,q.parent,iE q.kids j s.nx⟩,s.nx+1,l,s.rl,m,s.sh⟩:=λV PB B X W LB n h o cp BN F=>by
 obtain⟨g,b⟩:∃g,dY (dY s.M s.nx ⟨P.nm,[],a,[]⟩) a ⟨q.name,q.ats,q.parent,iE q.kids j s.nx⟩=g:=⟨_,rfl⟩;have R:qG g a=iE q.kids j s.nx:=by
  rw[<- b];unfold qG dY;rw[if_pos rfl]
 rw[b] at D⊢;have t:kS (s.nx:Int):=⟨aa,aa⟩;rw[hP] at F⊢;refine(a4o (LB:=LB) (Q:=λx i=>(∃S U,tC E T V PB B X ⟨g,s.nx+1,l,s.rl,m,s.sh⟩ i S U)/\KM W i/\x=aF #[ak (zb s.nx),aU]) a j F (aO h.box 0 _ rfl) λY c=>?_).mono λe i ⟨x,Z,h2,h3,h4⟩=>⟨h2,h3,_,aU,by rw[Z,h4,agO],.inl ⟨rfl,rfl,rfl⟩⟩;have d:=h.below c;refine(D Y LB B n X d.xl d.pe d.lv).mono λe i ⟨w,y,v,u,g3,H⟩=>⟨v,u,g3,?_⟩;rcases H with⟨-,rfl, -⟩|⟨H, -⟩
 .have I:=d.k2 w y;have gk:=(KM.of_below c).trans (d.lv.km w);refine .inr ⟨rfl,aO I.box 0 _ rfl,n,y.doc.mono λ_ _ ⟨k,f⟩=>⟨k,f⟩,?_⟩;obtain⟨r,tg,MB,p,rv,qs,pv,cv,J, -⟩:=y;have a4:=J.ds.ajX a;refine(Qb J.ds.w a (WalkArith.wf_i64 N) aa).mono λe w2 ⟨o2,k2,k,f,K⟩=>?_;rw[R] at k f;have a5:=xq q.kids j s.nx C;obtain⟨gB,z,hc⟩:=dO f j (ag s.nx) (by rw[sF q.kids j j s.nx C,if_neg (Nat.lt_irrefl _),if_pos rfl]);have L:=I.below K;obtain⟨A,rfl⟩:∃A,o2=some ⟨A,0,none⟩:=by
   rcases f.2 with⟨_,e1⟩|⟨w,a6,a7,e1,_⟩
   .omega
   .grind
  cases z;exact⟨A,_,k2,s.nx,j,k,rfl,aa,hc,(EA s.nx (zb s.nx) w2 t rfl L.pe.ne.tab).mono λe w3 ⟨f4,M⟩=>⟨_,f4,⟨LB,n,L.below M⟩,(gk.trans (KM.of_below K)).trans (KM.of_below M),rfl⟩⟩
 .omega
theorem acG (hs:NK n s)(hn:n<=1000)(hP:P.ns=[a,ea])(H:kS a)(z:P.nm.length<=1000000):CmX E T 2 P n s:=by
 have R:∀k,1<=k->k<=10->DoS E ⟨Cm,a,0,ea,P.nm,[]⟩ s.M s.nx s.c s.rl s.l 8 6 k s.M s.nx s.c s.rl s.l->CmX E T 2 P n s:=λk I A d=>⟨k,[],s,A,hs.up,λV PB B X W LB J h o cp BN K=>by
  rw[hP] at K⊢;refine(a4o (LB:=LB) (Q:=λx f=>(∃S U,tC E T V PB B X s f S U)/\KM W f/\∃v,x=aF #[bV [],v]/\Ei E k v f) a ea K (aO h.box 0 _ rfl) λY g=>?_).mono λe f ⟨x,Z,h2,h3,v,h4,h5⟩=>⟨h2,h3,[],v,by rw[Z,h4],.inr ⟨I,h5⟩⟩;have i:=h.below g;refine(d Y LB B J X i.xl i.pe i.lv).mono λe f ⟨L,g2,v,u,g3,p⟩=>⟨v,u,g3,?_⟩;rcases p with⟨p, -⟩|⟨-,p⟩
  .omega
  .obtain⟨t,y,rfl⟩:=p.agP;exact .inl ⟨t,y,rfl,⟨LB,J,i.k2 L g2⟩,(KM.of_below g).trans (i.lv.km L),_,rfl,p⟩⟩
 have r:s.nx<1000000:=by have:=hs.nx;omega
 have N:=Az (E:=E) (x:=⟨Cm,a,0,ea,P.nm,[]⟩) (show Cm≠gU by decide) hs.sh.g;rcases a7Y (E:=E) (M:=s.M) (nx:=s.nx) (c:=s.c) (m:=0) (ea:=ea) (v:=[]) r (WalkArith.wf_i64 H) z with⟨k,I,A,C⟩|⟨j,q,rfl,O,hj,b,C⟩
 .rcases a4k (l:=s.l) (w:=8) (h:=6) hs.M A C (bf 10) N (.inr rfl) aC aC aC aC with⟨k',D,F,d⟩|⟨h0, -⟩
  .grind
  .omega
 .rcases a4k (l:=s.l) (w:=8) (h:=6) (Ve hs.M b O j (nx:=s.nx)) (bf 10) C (bf 10) N (.inr rfl) aC aC aC aC with⟨k',D,F,d⟩|⟨-, -,l2,hp,d⟩
  .grind
  .exact⟨0,_,⟨dY (dY s.M s.nx ⟨P.nm,[],a,[]⟩) a ⟨q.name,q.ats,q.parent,iE q.kids j s.nx⟩,s.nx+1,s.c+1,s.rl,l2,s.sh⟩,aC,⟨Ve hs.M b O j,hs.sh,hp,by have:=hs.nx;show s.nx+1<=_;omega⟩,Li hP H r hj d⟩
end
abbrev acH (n:Nd)(rl:List Rl)(l:List Pc)(sh:Bs):Stp:=⟨kM n,je n,je n,rl,l,sh⟩
theorem Vl {n:Nd}(hc:(iT n 1 0).1=0):je n<=100:=by
 have a:=Ui n 1 0 hc;have b:=FU n 1 0 hc;omega
theorem Xw {E:Nat->Addr}{W:ah}{PB:Nat}{p0:au}{sh:Bs}{rl:List Rl}{b:Nd}{c:aM}{d:Option Addr}{f g:Nat}{h:Option Addr}{i j:Nat}(hE:PE E W)(k:Ej sh rl)(hc:(iT b 1 0).1=0)(q:rJ W (ak c) (aj d f g) (aj h i j) b)(r:W.heap[PB]? =some (ai #[p0,bV sh] 45)):
  aJ 13 #[aI PB,.agg (ndA c d f g h i j)] W λe w'=>∃x,e=ax x/\((∃t y,x=aP t y/\Ci E (kM b) rl x w'/\aD W w')\/(x=aU/\∃LB DB l m,eH (kM b) rl=.ok l/\JA (kM b) rl/\xO m LB W.heap.size DB (kM b) (je b) (je b) rl l 8 6 none/\aD W m/\w'=m.setCell ⟨PB,0,none⟩ (aI LB))):=
 a4m c d f g h i j r λs a=>(agM E b _ _ _ s 8 6 sh rl k hc (hE.below a) (rJ.below a b q) (by have:=Vl hc;omega) aC aC aC aC).mono λe w' ⟨n,u⟩=>⟨aW a n,by
  rcases u with⟨t,y,o,p⟩|⟨LB,DB,l,o,p,v,w⟩
  .exact⟨_,_,o,.inl ⟨t,y,rfl,.inl ⟨t,y,rfl,p,aW a n⟩⟩⟩
  .exact⟨_,_,v,.inr ⟨LB,rfl,rfl,.inr ⟨rfl,LB,DB,l,w',o,p,w.agN a.size,aW a n,rfl⟩⟩⟩⟩
theorem a4u:∀(l:List (Bs×Bs)) (a:List (Bs×Bs)),DX a l<=10
 |[],_=>by simp[DX]
 |x::l,a=>by
  rw[DX];split
  .exact a4u l _
  .unfold Ty;grind
theorem acI (nm:Bs)(ats:List (Bs×Bs))(d a:Nat):ck1 nm ats d a<=10:=by
 unfold ck1
 repeat' split
 all_goals first|decide|exact a4u _ _
mutual
theorem a4v:∀(n:Nd) (d a:Nat),(iT n d a).1<=10
 | .mk c ats b,d,a=>by
  rw[iT];split
  .exact a4w b _ _
  .exact acI _ _ _ _
theorem a4w:∀(l:List Nd) (d a:Nat),(uj l d a).1<=10
 |[],_,_=>by simp[uj]
 |k::l,d,a=>by
  rw[uj];split
  .exact a4w l _ _
  .exact a4v k _ _
end
section
variable {E:Nat->Addr}{T:Nat->Bs}{P:Ps}{s:Stp}{n:Nat}
theorem a8A (hs:NK n s)(a4:P.tx.length<=1000000):CmX E T 0 P n s:=by
 have RD:=λ(W:ah) (hE:PE E W)=>Vk E P.tx W hE.le.me hE.ne.c1 aa;have u:∀k,1<=k->k<=10->(∀B e a,a9N E B P.tx e a->∃v,e=ax (aF #[ndZ,v])/\Ei E k v a)->CmX E T 0 P n s:=λk K L HR=>⟨k,[],s,L,hs.up,λV PB B X W p q h o cp Z ho=>by
  refine(Xt (PB:=PB) (n:=P.ns.length) (nm:=P.nm) (o:=o) (cp:=cp) (Q:=λx a=>aD W a/\∃v,x=aF #[bV [],v]/\Ei E k v a) λM i=>(RD M (h.pe.below i)).mono λe a ⟨w,j⟩=>?_).mono λe a ⟨x,h1,h2,v,c,N⟩=>⟨⟨p,q,h.below h2⟩,KM.of_below h2,[],v,by rw[h1,c],.inr ⟨K,N⟩⟩;obtain⟨v,m,r⟩:=HR _ _ _ j;obtain⟨t,y,rfl⟩:=r.agP;exact⟨_,_,_,_,_,_,_,_,m,.inl ⟨t,y,rfl,λw3 b3=>⟨aW (aW i w) b3,_,rfl,r.below b3⟩⟩⟩⟩
 by_cases h1:10000<P.tx.length
 .refine u 2 aC aC λB e a C=>?_;rcases C with⟨-,c⟩|⟨c, -⟩|⟨c, -⟩|⟨c, -⟩
  .exact⟨_,c,.inl rfl⟩
  all_goals omega
 cases hd:rdT P.tx with
 |none=>
  refine u 1 aC aC λB e a C=>?_;rcases C with⟨c, -⟩|⟨-, -,c⟩|⟨-,n,c, -⟩|⟨-,n,c0,c1,c2,c, -⟩
  .omega
  .exact⟨_,c,.inl rfl⟩
  .grind
  .grind
 |some g=>
  by_cases O:(iT g 1 0).1=0
  .-- the node is right
   have GO:∀V PB B X W p q,tC E T V PB B X s W p q->∀o cp,aJ (zx 0) #[aI PB,.agg (j6 o P.ns.length cp P.nm P.tx)] W λe a=>∃x,e=ax x/\KM W a/\((∃t y,x=aF #[bV [],aP t y]/\Ci E (kM g) s.rl (aP t y) a/\aD W a)\/(x=aF #[bV [111,107],aU]/\∃z A l,eH (kM g) s.rl=.ok l/\JA (kM g) s.rl/\tC E T V PB B X (acH g s.rl l s.sh) a z A)):=λV PB B X W p q h o cp=>by
    refine Xt (PB:=PB) (n:=P.ns.length) (nm:=P.nm) (o:=o) (cp:=cp) (tx:=P.tx) (W:=W) λM i=>(RD M (h.pe.below i)).mono λe a ⟨w,j⟩=>?_;rcases j with⟨j, -⟩|⟨-,j, -⟩|⟨-,n',j,m, -⟩|⟨-,n',c0,c1,c2,j, -,m,r⟩
    .omega
    .grind
    .grind
    .rw[hd] at j;cases j;obtain⟨sa,oa,na,ka,ob,nb,kb,rfl,rfl,rfl⟩:=Xr r;refine⟨sa,oa,na,ka,ob,nb,kb,_,m,.inr ⟨rfl,λW2 R=>?_⟩⟩;have d:=h.below (aW (aW i w) R);have S:=aW (aW i w) R;refine(Xw d.pe hs.sh O (rJ.below R g r) d.box).mono λe w2 ⟨x,f1,f2⟩=>⟨x,f1,?_⟩;rcases f2 with⟨t,y,rfl,U,H⟩|⟨rfl,z,A,l,w1,U,H,f5,I,rfl⟩
     .exact .inl ⟨t,y,rfl,KM.of_below (aW S H),.inl ⟨t,y,rfl,U,aW S H⟩⟩
     .have D:=(I.block _ (aY d.box)).trans d.box;have F:xO w1 z W2.heap.size A (kM g) (je g) (je g) s.rl l 8 6 X:=f5.old d.xl;have Y:=d.lv.a9L;refine .inr ⟨rfl,(KM.of_below (aW S I)).trans (KM.set D),.inr ⟨rfl,z,A,l,U,H,tC.put h.env h.tx h.pv h.pB (aW d.Eb I) F Y.2.2 (λb hx=>?_) D rfl⟩⟩;obtain⟨cs,f,J⟩:=d.xx b hx;exact⟨cs,f,(I.block _ (aY J)).trans J⟩
   by_cases hp:JA (kM g) s.rl
   .obtain⟨l,hl,a5⟩:=id hp;refine⟨0,[111,107],acH g s.rl l s.sh,aC,⟨nR O,hs.sh,hl,by have:=Vl O;show je g<=_;omega⟩,λV PB B X W p q h o cp Z ho=>(GO V PB B X W p q h o cp).mono λe a ⟨x,w,j,m⟩=>?_⟩;rcases m with⟨t,y, -,m, -⟩|⟨rfl,z,A,l',r, -,g5⟩
    .exact absurd hp m.no
    .grind
   .obtain⟨k,K,L,k3⟩:=Ci.num (kM g) s.rl;refine⟨k,[],s,L,hs.up,λV PB B X W p q h o cp Z ho=>(GO V PB B X W p q h o cp).mono λe a ⟨x,w,j,m⟩=>?_⟩;rcases m with⟨t,y,rfl,m,r⟩|⟨-,z,A,l', -,r, -⟩
    .exact⟨⟨p,q,h.below r⟩,j,_,_,w,.inr ⟨K,k3 _ _ _ m⟩⟩
    .grind
  .refine u (iT g 1 0).1 aa (a4v _ _ _) λB e a C=>?_;rcases C with⟨c, -⟩|⟨-,c, -⟩|⟨-,n,c,N,pb, -,h5,J,h7⟩|⟨-,n,c0,c1,c2,c,N, -⟩
   .omega
   .grind
   .rw[hd] at c;cases c;exact⟨_,h5,.inr ⟨pb,_,rfl,J,h7⟩⟩
   .grind
end
end
open Go.RowKit Go.Shelf
variable {B:Nat}{i:dm}{W:ah}{DB z:Nat}{p:Int->Option Nat}{M:Dm}{nx c:Nat}{r:Int->Nat}
theorem a4x (h:bT B i W DB z p M nx c)(f:Wd M r)(hF:E8 M)(s:Bs)(hs:s.length<=1000000)(a:s≠[])(n:Int)(g:dV n)(b d:Nat)(l:W.cell? (aH b 0)=some (bV s))(m:W.cell? (aH d 0)=some (aI DB)):
  aJ 102 #[ag n,aI b,aI d] W λe w'=>e=ax (.bool (!o6 M s n))/\aD W w':=by
 have j:=Qr h f hF s hs a n g;go_enter func102,ntmps102;go_wp2_with(go_at_call 103;refine j.mono ?_;rintro e o ⟨rfl,k⟩);go_ret;exact⟨rfl,k⟩

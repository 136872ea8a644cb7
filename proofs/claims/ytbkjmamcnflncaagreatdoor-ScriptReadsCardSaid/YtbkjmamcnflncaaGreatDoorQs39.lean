import Derived.Test.YtbkjmamcnflncaaGreatDoorQs38
namespace Go.Proofs.YtbkjmamcnflncaaGreatDoor
open Go.Proofs.Tryz
set_option maxHeartbeats 8000000
section
open Go.RowKit
def NdR (N:Nat)(n:Nd)(e:Ending)(w:ah):Prop:=∃(s:aM) (a:Option Addr) (c d:Nat) (f:Option Addr) (g h:Nat),e=ax (.agg #[ak s,aj a c d,aj f g h])/\sQ (λb=>N<=b) w (ak s) (aj a c d) (aj f g h) n
structure ZX (N XB:Nat)(nm:Bs)(vA vK:au)(ats:List (Bs×Bs))(K:List V3)(ks:List Nd)(V w:ah):Prop where
 nb:NB XB (ak ⟨nm.toArray⟩) vA vK w
 lt:N<XB
 at_:w.ownsRow (N+1) 145 2 vA ats.length (bG ats)
 own:w.ownsRow (N+1) 50 3 vK K.length (fG K)
 nx:vK.ownBlock≠some XB
 kr:KR (λb=>N<b/\b≠XB/\vK.ownBlock≠some b) w K ks
 res:w.heap[N]? =some (ai #[ak ⟨#[]⟩,aj none 0 0,aj none 0 0] 50)
 low:Below N V w
theorem ZX.below {N c:Nat}{nm:Bs}{d e:au}{ats:List (Bs×Bs)}{K:List V3}{f:List Nd}{V w w':ah}(h:ZX N c nm d e ats K f V w)(g:N<=w.heap.size)(a:aD w w'):ZX N c nm d e ats K f V w':=
 ⟨by have:=h.nb;unfold NB at this⊢;exact(a.block _ (aY this)).trans this,h.lt,bD h.at_ a,bD h.own a,h.nx,KR.turn (λb i j=>⟨i,a.block b j⟩) h.kr,(a.block _ (aY h.res)).trans h.res,h.low.trans (a.mono g)⟩
theorem ZX.more {N i g o n:Nat}{nm:Bs}{z r a b c:au}{ats:List (Bs×Bs)}{K:List V3}{F:List Nd}{k:Nd}{V w j s:ah}(h:ZX N i nm z r ats K F V w)(L:N<=w.heap.size)(H:aD w j)(M:sQ (λb=>w.heap.size<=b) j a b c k)(m:Obj)
  (O:s.ownsRow (N+1) 50 3 (aj (some ⟨g,0,none⟩) n o) (K.length+1) (fG K++[a,b,c])) (I:(j.alloc m).grownBy s r.ownBlock) (p:r.ownBlock=some g\/g=(j.alloc m).heap.size):
  ZX N i nm z (aj (some ⟨g,0,none⟩) n o) ats (K++[(a,b,c)]) (F++[k]) V (s.setCell ⟨i,2,none⟩ (aj (some ⟨g,0,none⟩) n o)):=by
 have t:=h.below L (aW H (dI j m));have sz:=(aW H (dI j m)).size;have P:=aY (show w.heap[i]? =_ from h.nb);have A:i<(j.alloc m).heap.size:=aa;have u:g≠i:=by
  rintro rfl;rcases p with p|p
  .exact h.nx p
  .omega
 have x:∀q,q<(j.alloc m).heap.size->r.ownBlock≠some q->s.heap[q]? =(j.alloc m).heap[q]? :=λq d Q=>I.block q d (λe=>Q e.symm);have y:∀q,q≠i->(s.setCell ⟨i,2,none⟩ (aj (some ⟨g,0,none⟩) n o)).heap[q]? =s.heap[q]? :=λq d=>bY _ _ _ q d;have B:NB i (ak ⟨nm.toArray⟩) z r s:=by
  have C:=t.nb;unfold NB at C⊢;exact(x i A h.nx).trans C
 have R:∀q,r.ownBlock=some q->q<w.heap.size:=λq d=>(h.own.lt q d).2;have D:Below N V s:=t.low.grown I aa (λq d=>by have:=(h.own.lt q d).1;omega);refine⟨B.set2 _,h.lt,?_,?_,λl=>u (fF l),?_,?_,D.setCell (Nat.le_of_lt h.lt) _⟩
 .refine di t.at_ λq d=>?_;obtain⟨cs,f,C, -⟩:=fM t.at_ q d;have v:r.ownBlock≠some q:=λl=>by
   obtain⟨S,f',T, -⟩:=fM t.own q l;grind
  have U:q≠i:=λl=>by
   have T:(j.alloc m).heap[i]? =_:=t.nb;grind
  grind
 .rw[Dy,dJ];exact di O λq d=>y q (λl=>u (by cases d;exact l))
 .refine KR.snoc (KR.turn (λq d E=>?_) t.kr) (sQ.turn (λq d E=>?_) k M)
  .obtain⟨W,J,X⟩:=d;refine⟨⟨W,J,λl=>?_⟩,by rw[y q J,x q E X]⟩;have Y:g=q:=fF l;grind
  .have Z:w.heap.size<=q:=d;have a4:=(dI j m).size;have v:r.ownBlock≠some q:=by grind
   refine⟨⟨by have:=h.lt;omega,aa,λl=>?_⟩,by rw[y q aa,x q aa v];exact(dI j m).block q E⟩;have Y:g=q:=fF l;grind
 .rw[y N (by have:=h.lt;omega),x N (by have:=h.lt;omega) (λl=>by have:=(h.own.lt N l).1;omega)];exact t.res
theorem ZX.done {N f:Nat}{nm:Bs}{c d:au}{ats:List (Bs×Bs)}{K:List V3}{e:List Nd}{V w w':ah}(h:ZX N f nm c d ats K e V w)(g:nm.length<=maxLen)(i:∀x∈ats,x.1.length<=maxLen/\x.2.length<=maxLen)(j:∀b,b≠N->w'.heap[b]? =w.heap[b]?):sQ (λb=>N<=b) w' (ak ⟨nm.toArray⟩) c d (.mk nm ats e):=by
 refine sQ.turn (Q:=λb=>N<b) (w:=w) (λb a _=>⟨Nat.le_of_lt a,j b (by have:N<b:=a;omega)⟩) _ (sQ.make (B:=N+1) g ?_ h.own (KR.turn (λb a _=>⟨a.1,rfl⟩) h.kr) λb a=>(h.own.lt b a).1);exact Co.turn (Co.a3N h.at_ i) λb a _=>⟨(h.at_.lt b a).1,rfl⟩
set_option maxRecDepth 20000
structure SXK (XB:Nat)(vK:au)(w:ah):Prop where
 c:w.cell? (aH XB 2)=some vK
abbrev oZ:Obj:=ai #[ak ⟨#[]⟩,aj none 0 0,aj none 0 0] 50
theorem Lg {V U a:ah}{b:Nat}{nm:Bs}{o:Option Addr}{n k:Nat}{ats:List (Bs×Bs)}(d:aD V U)(f:U.heap.size=V.heap.size+1)(g:U.heap[V.heap.size]? =some oZ)(c:aD U a)(j:U.heap.size<=b)(h:a.heap[b]? =some (ai #[ak ⟨nm.toArray⟩,aj o n k,aj none 0 0] 50))(i:a.ownsRow U.heap.size 145 2 (aj o n k) ats.length (bG ats)):ZX V.heap.size b nm (aj o n k) (aj none 0 0) ats [] [] V a:=
 ⟨h,aa,by rw[<- f];exact i,gp _ _ _ _,(λe=>by cases e),trivial,(c.block _ aa).trans g,aW d c⟩
theorem a8u {V U a:ah}{nm:Bs}{o:Option Addr}{n k:Nat}{ats:List (Bs×Bs)}(d:aD V U)(e:U.heap.size=V.heap.size+1)(f:U.heap[V.heap.size]? =some oZ)(b:Below U.drew.heap.size U.drew a)(g:a.ownsRow U.drew.heap.size 145 2 (aj o n k) ats.length (bG ats)):ZX V.heap.size a.heap.size nm (aj o n k) (aj none 0 0) ats [] [] V (a.alloc (ai #[ak ⟨nm.toArray⟩,aj o n k,aj none 0 0] 50)):=by
 have c:aD U a:=⟨b.os,b.tape,b.output,b.size,b.block⟩;exact Lg d e f (aW c (dI _ _)) c.size (dN a _ _) (bD g (dI _ _))
theorem a8v {V U a:ah}{nm:Bs}{o:Option Addr}{n k:Nat}{ats:List (Bs×Bs)}(e:aD V U)(f:U.heap.size=V.heap.size+1)(g:U.heap[V.heap.size]? =some oZ)(b:Below (U.alloc oZ).drew.heap.size (U.alloc oZ).drew a)(h:a.ownsRow (U.alloc oZ).drew.heap.size 145 2 (aj o n k) ats.length (bG ats)):ZX V.heap.size U.heap.size nm (aj o n k) (aj none 0 0) ats [] [] V (((a.setCell ⟨U.heap.size,0,none⟩ (ak ⟨nm.toArray⟩)).setCell ⟨U.heap.size,1,none⟩ (aj o n k)).setCell ⟨U.heap.size,2,none⟩ (aj none 0 0)):=by
 have c:Below (U.alloc oZ).heap.size (U.alloc oZ) a:=⟨b.os,b.tape,b.output,b.size,b.block⟩;have i:(U.alloc oZ).heap.size=U.heap.size+1:=dK _ _;have j:=(c.block U.heap.size aa).trans (dN U #[ak ⟨#[]⟩,aj none 0 0,aj none 0 0] 50);have d:a.ownsRow (U.heap.size+1) 145 2 (aj o n k) ats.length (bG ats):=by rw[<- i];exact h
 have l:=jD (jD (jD d (p:=⟨U.heap.size,0,none⟩) (Nat.lt_succ_self _) (ak ⟨nm.toArray⟩)) (p:=⟨U.heap.size,1,none⟩) (Nat.lt_succ_self _) (aj o n k)) (p:=⟨U.heap.size,2,none⟩) (Nat.lt_succ_self _) (aj none 0 0);exact Lg e f g ((((aW (dI U oZ) c).setCell aG _).setCell aG _).setCell aG _) ay (MX j _ _ _) (fO l (Nat.le_succ _))
section
variable {B:Nat}{A:dm}{W:ah}{DB m:Nat}{p:Int->Option Nat}{M:Dm}{nx c:Nat}{r:Int->Nat}
theorem IJ (h:j5 B A W DB m p M nx c r)(a7:eG M):∀(f:Nat) (n:Int) (V:ah),aD W V->dV n->Dp M f n->aJ 158 #[aI DB,ag n] V λe w'=>NdR V.heap.size (J7 M f n) e w'/\aD V w'
 |0,_,_,_,_,hd=>hd.elim
 |f+1,n,V,hV,hn,hd=>by
  have IH:=IJ h a7 f;obtain⟨ND,R⟩:∃x,J7 M (f+1) n=x:=⟨_,rfl⟩;rw[R];have a8:=aA R;clear R;have N:=dI V oZ;have o:=dN V #[ak ⟨#[]⟩,aj none 0 0,aj none 0 0] 50;have l:=(h.below (aW hV N)).w;have d0:=l.d0;go_enter func158,ntmps158;go_upto_region 1 with fail;obtain⟨U,hU⟩:∃U,V.alloc oZ=U:=⟨_,rfl⟩;have sU:U.heap.size=V.heap.size+1:=by rw[<- hU,dK]
  rw[hU] at N o l d0⊢;clear hU;cases L:M n with
  |none=>
   have hp:=l.non n L;have z0:=aO o 0 _ rfl;have z1:=aO o 1 _ rfl;have z2:=aO o 2 _ rfl;have y0:=bq o 0;have y1:=bq o 1;have y2:=bq o 2;go_wp2_with(at_lookup;refine jW _ rfl _ _ 138 rfl underlying3 underlying138 (cO _) rfl l.map n rfl hn hp ?_);have S:=MX o (ak ⟨#[]⟩) (aj none 0 0) (aj none 0 0);have e0:=aO S 0 _ rfl;have T:=aO S 1 _ rfl;have e2:=aO S 2 _ rfl;refine bodyPost_ret (v:=.agg #[ak ⟨#[]⟩,aj none 0 0,aj none 0 0]) (by simp[results,results158,go_sem,e0,T,e2]) rfl ?_;have Y:ND=.mk [] [] []:=by rw[<- a8.out,J7,L]
   subst Y;refine⟨⟨⟨#[]⟩,none,0,0,none,0,0,rfl,?_⟩,((N.setCell aG _).setCell aG _).setCell aG _⟩;unfold sQ;exact⟨rfl,aC,⟨none,0,rfl,aC,aC,λ_=>rfl,λi x hx=>by simp at hx⟩,none,0,rfl,aC,aC,λ_=>rfl,by unfold vg;trivial⟩
  |some e=>
   obtain⟨EB,va,vk,hp,he⟩:=l.els n e L;obtain⟨f3,f4,c3⟩:=bg he.ats;obtain⟨Z,a4,c4⟩:=bg he.kids;subst c3 c4;obtain⟨a1,a2,a3⟩:=a7 n e L;have a9:∀a∈e.ats,a.1.length<=maxLen/\a.2.length<=maxLen:=λa ha=>by
    have h1:=lC (a3.1 a ha).1;have h2:=pM (a3.1 a ha).2;simp only[maxLen];omega
   have f5:=h.few L;have b3:=(l.wf n e L).2;have CA:=λX (hX:aD U X)=>TA X _ e.ats (Ii (bD he.ats hX) a9) aa;have C1:=CA U.drew (below_drewN (aQ _ _) 1);have C2:=CA (U.alloc oZ).drew (below_drewN (dI _ _) 1);go_upto_region 4 with(at_lookup;refine dA _ rfl _ _ 138 rfl underlying3 underlying138 (cO _) rfl l.map n rfl hn EB hp ?_)
   go_cut [7] from 22 to 31 (λv wx=>∃z oA C D,v=aI z/\ZX V.heap.size z e.name (aj oA C D) (aj none 0 0) e.ats [] [] V wx)
   case first=>
    have x0:=he.c0;have x1:=he.c1;have b4:=dQ oZ x0;have f6:=dQ oZ x1;have KK:∀j,Below (U.alloc oZ).drew.heap.size (U.alloc oZ).drew j->oC j U.heap.size (ak ⟨#[]⟩) (aj none 0 0) (aj none 0 0):=λj q=>oC.of ((q.block U.heap.size (by show _<(U.alloc oZ).heap.size;rw[dK];omega)).trans (dN U #[ak ⟨#[]⟩,aj none 0 0,aj none 0 0] 50));have KE:∀j,Below U.drew.heap.size U.drew j->j.cell? (aH EB 0)=some (ak ⟨e.name.toArray⟩):=λj q=>(q.cell (aK (show U.drew.cell? _=_ from x0))).trans x0;have c5:∀j,Below (U.alloc oZ).drew.heap.size (U.alloc oZ).drew j->j.cell? (aH EB 0)=some (ak ⟨e.name.toArray⟩):=λj q=>(q.cell (aK (show(U.alloc oZ).drew.cell? _=_ from b4))).trans b4;have c6:Hid (aD V U/\U.heap.size=V.heap.size+1/\U.heap[V.heap.size]? =some oZ):=⟨N,sU,o⟩;clear IH CA N sU o hd b3
    go_region_with (go_at_call 70;first|(refine C1.mono ?_;rintro T j ⟨oA,C,D,rfl,ow,q⟩;have y0:=KE j q;have f7:=dQ oZ y0)|(refine C2.mono ?_;rintro T j ⟨oA,C,D,rfl,ow,q⟩;have y0:=c5 j q;obtain⟨u0,u1,u2,f0,f1,f2⟩:=KK j q))
    all_goals go_wp2_with fail
    all_goals go_meet
    all_goals obtain⟨N,sU,o⟩:=c6.out
    all_goals first|(have hu:=u0;exact⟨_,oA,C,D,rfl,a8v N sU o q ow⟩)|exact⟨_,oA,C,D,rfl,a8u N sU o q ow⟩
   case rest=>
    obtain⟨z,oA,C,D,rfl,hG⟩:=hcut;obtain⟨i0,hi,c7,c8,c9⟩:=info_parts nodeInfo;have b5:∀X,aD V X->X.cell? (aH EB 3)=some (aj Z e.kids.length a4)/\X.ownsRow B 3 1 (aj Z e.kids.length a4) e.kids.length (bO e.kids):=λX hX=>by
     obtain⟨f8,f9,d1,b6,a5⟩:=(h.below (aW hV hX)).w.els n e L;obtain⟨d2,g0,g2,b7,O⟩:=(h.below hV).w.els n e L;have hh:=(aW (aQ _ _) N).block d2 (aY O.cells);rw[hp] at b6 b7;cases b6;cases b7;have h1:=he.cells;rw[hh,O.cells] at h1;have h2:=(hX.block EB (aY O.cells)).trans O.cells;have h3:=a5.cells;rw[h2] at h3;rw[h1] at h3;have h4:d1=aj Z e.kids.length a4:=by
      have h5:=fF h3;simp at h5;exact h5.2.symm
     subst h4;exact⟨a5.c3,a5.kids⟩
    have d3:∀k∈e.kids,Dp M f k:=hd e L;have g3:=hG.low.size;have x3:=(b5 wc hG.low).1;clear C1 C2 CA o hd;go_wp2_with fail
    go_loopw [37] (λi wr=>∃(k:Nat) (K:List V3) (s:Option Addr) (nK t:Nat),k<=e.kids.length/\i=ag k/\ZX V.heap.size z e.name (aj oA C D) (aj s nK t) e.ats K ((e.kids.take k).map (J7 M f)) V wr) (λi _=>e.kids.length-(intOf i).toNat)
    case atStart=>exact⟨0,[],none,0,0,bf _,rfl,hG⟩
    case round=>
     obtain⟨k,K,s,nK,t,hk,rfl,g⟩:=hrel;have sV:=g.low.size;by_cases d4:k<e.kids.length
     .have e9:(k:Int)<(e.kids.length:Int):=aa;obtain⟨kid,rZ⟩:∃y,e.kids[k]? =some y:=⟨_,eZ d4⟩;have Q:=gN rZ;have E:=(b5 wr g.low).2;obtain⟨gk,d6,g4⟩:=dO E k (ag kid) (by rw[bO,iN,rZ];rfl);obtain⟨o',c',d7, -, -, -,b8⟩:=eT E;cases d7;have d8:=b8 gk d6;subst d8;have IK:=IH kid wr.drew (below_drewN (aW hV g.low) 1) (b3 kid Q) (d3 kid Q);have g5:K.length<=100:=by
       have h1:=g.kr.len;rw[dF,iV] at h1;omega
      have d9:nK=K.length:=by
       obtain⟨o2,c2,e3, -⟩:=eT g.own;cases e3;rfl
      subst d9;have hS:SXK z (aj s K.length t) wr.drew:=⟨g.nb.c2⟩;have e4:Hid ((e.kids.take (k+1)).map (J7 M f)=(e.kids.take k).map (J7 M f)++[J7 M f kid]):=(by rw[dS,rZ,iG];rfl:(e.kids.take (k+1)).map (J7 M f)=(e.kids.take k).map (J7 M f)++[J7 M f kid]);clear E b8 rZ;go_upto_region 8 with fail;refine Ib (SXK z (aj s K.length t)) 8 az ?_;refine dH (v:=?v0) 0 rfl az az az az (λ_ _ _ h=>h) hS (.inl ⟨rfl,λw hw=>?hy0⟩) ?hr0
      case hy0=>have g1:=hw.c;go_simp;try with_reducible rfl
      simp only[Act.put,List.setIfInBounds_toArray];refine dH (v:=?v1) 1 rfl az az az az (λ_ _ _ h=>h) hS (.inl ⟨rfl,λw hw=>?hy1⟩) ?hr1
      case hy1=>have g1:=hw.c;go_simp;try with_reducible rfl
      simp only[Act.put];refine dH (v:=?v2) 2 rfl az az az az (λ_ _ _ h=>h) hS (.inl ⟨rfl,λw hw=>?hy2⟩) ?hr2
      case hy2=>have g1:=hw.c;go_simp;try with_reducible rfl
      simp only[Act.put];refine dH (v:=?v3) 3 rfl az az az az (λ_ _ _ h=>h) hS (.inl ⟨rfl,λw hw=>?hy3⟩) ?hr3
      case hy3=>have g1:=hw.c;go_simp;try with_reducible rfl
      simp only[Act.put];refine nG 4 az rfl (λK1 d=>?_);go_simp;go_wp2_with(go_at_call 158;refine IK.mono ?_;rintro e2 w2 ⟨⟨s2,o2,n2,k2,F,H,I,rfl,e5⟩,b2⟩);have P:aD wr w2:=⟨b2.os,b2.tape,b2.output,b2.size,b2.block⟩;have a6:=g.below sV P;have e6:SXK z (aj s K.length t) w2:=⟨a6.nb.c2⟩;refine d.out _ _ (λ_=>e6) ?_;clear d;refine nG 5 az rfl (λK1 d=>?_);go_simp;have J:=a6.below (bu sV P.size) (dI w2 (ai #[ak s2,aj o2 n2 k2,aj F H I] 50));have e7:SXK z (aj s K.length t) (w2.alloc (ai #[ak s2,aj o2 n2 k2,aj F H I] 50)):=⟨J.nb.c2⟩;have H0:=dN w2 #[ak s2,aj o2 n2 k2,aj F H I] 50;have g6:=P.size;refine d.out _ _ (λ_=>e7) ?_;clear d;refine nG 6 az rfl (λK1 d=>?_);refine step_append_lies _ rfl (.tmp 42) (.tmp 46) 48 rfl (V.heap.size+1) 50 i0 (.agg #[ak ⟨#[]⟩,aj none 0 0,aj none 0 0]) 3 64 underlying48 hi c7 c8 c9 rfl aC (aj s K.length t) K.length (fG K) rfl J.own ⟨w2.heap.size,0,none⟩ 1 1 [ak s2,aj o2 n2 k2,aj F H I] rfl rfl (World.news_of_block H0) (λu hu=>by simp at hu;rcases hu with rfl|rfl|rfl<;>rfl) aC (by rw[dh];omega) aa aX _ rfl ?_;intro g7 xJ w7 kz l9 TE g8;have b9:=g.more sV P e5 (ai #[ak s2,aj o2 n2 k2,aj F H I] 50) kz l9 TE;have NJ:NB z (ak ⟨e.name.toArray⟩) (aj oA C D) (aj s K.length t) w7:=(l9.block z (aY J.nb) (λT=>g.nx T.symm)).trans J.nb;have c0:SXK z (aj s K.length t) w7:=⟨NJ.c2⟩;have m2:=NJ.c2;have mf:=NJ.eY 2;refine d.out _ _ (λ_=>c0) ?_;clear d;simp only[Act.put];refine nG 7 az rfl (λK1 d=>?_);go_simp;refine d.out _ _ (λ_=>c0) ?_;clear d;refine nG 8 az rfl (λK1 d=>?_);go_simp;refine d.out _ _ (λh=>absurd rfl h) ?_;clear d;refine UX az ?_ _;have e8:=aA b9;clear b9 g a6 J kz l9 TE NJ;go_wp2_with fail
      go_roundw
      case rel=>exact⟨k+1,_,_,_,_,aa,by go_num,by rw[e4.out];exact e8.out⟩
      case measure=>simp[intOf];omega
     .obtain rfl:k=e.kids.length:=aa;have n0:=g.nb.c0;have n1:=g.nb.c1;have n2:=g.nb.c2;have r0:=aO g.res 0 _ rfl;have r1:=aO g.res 1 _ rfl;have r2:=aO g.res 2 _ rfl;have q0:=bq g.res 0;have q1:=bq g.res 1;have q2:=bq g.res 2;go_wp2_with fail;have S:=MX g.res (ak ⟨e.name.toArray⟩) (aj oA C D) (aj s nK t);have e0:=aO S 0 _ rfl;have T:=aO S 1 _ rfl;have e2:=aO S 2 _ rfl;refine bodyPost_ret (v:=.agg #[ak ⟨e.name.toArray⟩,aj oA C D,aj s nK t]) (by simp[results,results158,go_sem,e0,T,e2]) rfl ?_;have Y:ND=.mk e.name e.ats (e.kids.map (J7 M f)):=by rw[<- a8.out,J7,L]
      subst Y;refine⟨⟨_,_,_,_,_,_,_,rfl,?_⟩,((g.low.setCell aG _).setCell aG _).setCell aG _⟩;have c1:=g.done (w':=((wr.setCell ⟨V.heap.size,0,none⟩ (ak ⟨e.name.toArray⟩)).setCell ⟨V.heap.size,1,none⟩ (aj oA C D)).setCell ⟨V.heap.size,2,none⟩ (aj s nK t)) (by have h1:=lC a1;simp only[maxLen];omega) a9 (λb hb=>(bY _ _ _ b hb).trans ((bY _ _ _ b hb).trans (bY _ _ _ b hb)));rw[gq] at c1;exact c1
end
end
section
open Go.RowKit
section
variable {W:ah}{LB B DB:Nat}{M:Dm}{nx c:Nat}{r:Int->Nat}{rl:List Rl}{l:List Pc}{w h:Nat}
theorem LvE.doc (b:LvE W LB B DB M nx c r rl l w h):aJ 46 #[aI LB] W λe w'=>e=ax (aI DB)/\W=w':=by
 obtain⟨d,f,p,g,i,pv,j,a, -⟩:=b;have k:=aO a.lb 0 _ rfl;clear a;go_enter func46,ntmps46;go_wp2_with fail;go_ret;exact⟨rfl,rfl⟩
theorem a4g {V c:ah}{n:Nd}{s:aM}{d e:Option Addr}{f g h i:Nat}(k:Below (V.alloc oZ).heap.size (V.alloc oZ) c)(j:sQ (λb=>(V.alloc oZ).heap.size<=b) c (ak s) (aj d f g) (aj e h i) n):
  oC c V.heap.size (ak ⟨#[]⟩) (aj none 0 0) (aj none 0 0)/\(((c.setCell ⟨V.heap.size,0,none⟩ (ak s)).setCell ⟨V.heap.size,1,none⟩ (aj d f g)).setCell ⟨V.heap.size,2,none⟩ (aj e h i)).heap[V.heap.size]? =some (ai #[ak s,aj d f g,aj e h i] 50)/\
   sQ (λb=>V.heap.size<=b) (((c.setCell ⟨V.heap.size,0,none⟩ (ak s)).setCell ⟨V.heap.size,1,none⟩ (aj d f g)).setCell ⟨V.heap.size,2,none⟩ (aj e h i)) (ak s) (aj d f g) (aj e h i) n/\aD V (((c.setCell ⟨V.heap.size,0,none⟩ (ak s)).setCell ⟨V.heap.size,1,none⟩ (aj d f g)).setCell ⟨V.heap.size,2,none⟩ (aj e h i)):=by
 have m:(V.alloc oZ).heap.size=V.heap.size+1:=dK _ _;have l:=(k.block V.heap.size aa).trans (dN V #[ak ⟨#[]⟩,aj none 0 0,aj none 0 0] 50);refine⟨oC.of l,MX l _ _ _,sQ.turn (λb j _=>?_) n j,(((aW (dI V oZ) k).setCell aG _).setCell aG _).setCell aG _⟩;have j:(V.alloc oZ).heap.size<=b:=j;have a:b≠V.heap.size:=aa;exact⟨aa,(bY _ _ _ b a).trans ((bY _ _ _ b a).trans (bY _ _ _ b a))⟩
theorem LvE.node (F:LvE W LB B DB M nx c r rl l w h):aJ 52 #[aI LB] W λe w'=>NdR W.heap.size (J7 M 11 0) e w'/\aD W w':=by
 obtain⟨Q,R,p,S,T,pv,U,f, -⟩:=F;have H:=dQ oZ (aO f.lb 0 _ rfl);obtain⟨g,i, -⟩:=f.ds.d.root;have u:∀V,aD W V->aJ 158 #[aI DB,ag 0] V λe w'=>NdR V.heap.size (J7 M 11 0) e w'/\aD V w':=λV x=>IJ f.ds f.ok 11 0 V x aC (f.ds.d.dp 11 0 g i aa);obtain⟨X,E⟩:∃X,J7 M 11 0=X:=⟨_,rfl⟩;rw[E] at u⊢;clear E f i;have j:∀V,aD W V->aJ 97 #[aI DB] V λe w'=>NdR V.heap.size X e w'/\aD V w':=λV x=>by
  have y:=u (V.alloc oZ) (aW x (dI _ _));clear u x H;go_enter func97,ntmps97;go_wp2_with(go_at_call 158;refine y.mono ?_;rintro e I ⟨⟨s,k,m,n,o,q,t,rfl,z⟩,A⟩;obtain⟨⟨J,K,L,N,O,P⟩,a,b,d⟩:=a4g A z);have g:=aO a 0 _ rfl;have C:=aO a 1 _ rfl;have D:=aO a 2 _ rfl;refine bodyPost_ret (v:=.agg #[ak s,aj k m n,aj o q t]) (by simp[results,results97,go_sem,g,C,D]) rfl ?_;exact⟨⟨s,k,m,n,o,q,t,rfl,b⟩,d⟩
 have y:=j (W.alloc oZ) (dI _ _);clear u j;go_enter func52,ntmps52;go_wp2_with(go_at_call 97;refine y.mono ?_;rintro e I ⟨⟨s,k,m,n,o,q,t,rfl,z⟩,A⟩;obtain⟨⟨J,K,L,N,O,P⟩,a,b,d⟩:=a4g A z);have g:=aO a 0 _ rfl;have C:=aO a 1 _ rfl;have D:=aO a 2 _ rfl;refine bodyPost_ret (v:=.agg #[ak s,aj k m n,aj o q t]) (by simp[results,results52,go_sem,g,C,D]) rfl ?_;exact⟨⟨s,k,m,n,o,q,t,rfl,b⟩,d⟩
end
structure PE (E:Nat->Addr)(w:ah):Prop where
 le:LE E w
 mx:Sq w
section
variable {E:Nat->Addr}{w w':ah}
theorem PE.below (h:PE E w)(a:aD w w'):PE E w':=⟨h.le.below a,h.mx.below a⟩
theorem PE.ne (h:PE E w):NE E w:=h.le.ne
end
section
variable {E:Nat->Addr}{W w':ah}{LB B DB:Nat}{M:Dm}{nx c:Nat}{rl:List Rl}{l:List Pc}{w h:Nat}{X:Option Nat}
theorem xO.turn (C:xO W LB B DB M nx c rl l w h X)(hs:∀g,B<=g->g<W.heap.size->X≠some g->w'.heap[g]? =W.heap[g]?)(s:∀b,X=some b->∃cs t f,W.heap[b]? =some (ai cs t f)/\(t=3\/t=9))(u:W.heap.size<=w'.heap.size){Y:Option Nat}(D:∀b,Y=some b->X=some b\/W.heap.size<=b):xO w' LB B DB M nx c rl l w h Y:=by
 obtain⟨r,E,F,p,H,I,pv,J,a,K,m⟩:=C;have y:∀{g:Nat} {cs:Array au} {t:TypeId} {f:Nat×Nat},W.heap[g]? =some (ai cs t f)->t≠3/\t≠9->X≠some g:=λi z O=>by grind
 have o:∀{k n:Nat} {e:TypeId} {v:au} {A:List au},W.ownsRow B e k v n A->e≠3/\e≠9->w'.ownsRow B e k v n A:=λh L=>di h λg d=>by
  obtain⟨cs,f,i, -⟩:=fM h g d;exact hs g (h.lt g d).1 (h.lt g d).2 (y i L)
 exact⟨r,E,F,p,H,I,pv,J,⟨(hs LB a.base (aY a.lb) (y a.lb aC)).trans a.lb,a.base,⟨a.ds.w.turn (λg t j=>hs g (a.ds.w.low g t j).1 (a.ds.w.low g t j).2 λq=>by rw[(m g q).1] at j;cases j) u,a.ds.d,a.ds.n,a.ds.le,bu a.ds.low u⟩,a.ok,a.rok,o a.row aC,⟨o a.pc.own aC,λx s=>o (a.pc.pts x s) aC,a.pc.rt⟩,a.pm,a.pk,a.ql,di a.Xc λg d=>hs g (a.Xc.lt g d).1 (a.Xc.lt g d).2 λq=>(m g q).2 d⟩,K,λb N=>(D b N).elim (m b) λi=>⟨a.ds.w.new i,λz=>by have:=(a.Xc.lt b z).2;omega⟩⟩
theorem xO.doc (a:xO W LB B DB M nx c rl l w h X):aJ 46 #[aI LB] W λe w'=>e=ax (aI DB)/\W=w':=by
 obtain⟨r,a⟩:=a.e;exact a.doc
end
end
section
open Go.RowKit Go.Maps Go.Shelf
set_option maxRecDepth 20000
def Sz (E:Nat->Addr)(T:Nat->Bs)(w:ah):Prop:=∀k,1<=k->k<=10->∃b o,E k=⟨b,o,none⟩/\w.cell? (aH b o)=some (bV (T k))
theorem Sz.below {E:Nat->Addr}{T:Nat->Bs}{w w':ah}(h:Sz E T w)(d:aD w w'):Sz E T w':=λk e f=>by
 obtain⟨b,o,c,a⟩:=h k e f;exact⟨b,o,c,(d.cell (lt_of_cell a)).trans a⟩
theorem RQ (v:au)(w:ah):(Go.method 591 453 v "Error").run prog w=.ok (417,v) w:=az
theorem RU (b o:Nat)(s:Bs)(W:ah)(h:W.cell? (aH b o)=some (bV s)):aJ 417 #[.pointer (some ⟨b,o,none⟩)] W λe w'=>e=ax (bV s)/\w'=W:=by
 go_enter func417,ntmps417;go_wp2_with fail;go_ret;exact⟨rfl,rfl⟩
theorem yw {E:Nat->Addr}{T:Nat->Bs}{W:ah}{k:Nat}{v:au}(h:LE E W)(w:Sz E T W)(y:1<=k)(z:k<=10)(A:Ei E k v W):
  aJ 33 #[v] W λe w'=>e=ax (bV (T k))/\aD W w':=by
 have L:=RQ;have a:∀o,aD W (W.alloc o):=λo=>(aQ _ _).alloc ay o;obtain⟨b,o,i,d⟩:=w k y z;have j:=lt_of_cell d;rcases A with rfl|⟨l,n,rfl,B,q⟩
 .unfold eV;rw[i];have C:=MC ⟨b,o,none⟩ ⟨W.heap.size,0,none⟩ (W.alloc (ai #[.pointer none] 67)) (h.below (a _)).ty;go_enter func33,ntmps33;go_wp2_with(first|(go_at_call 34;refine C.mono ?_;rintro e f ⟨rfl,r⟩;have m:=(a _).trans (r.mono aG);have s:=(m.cell j).trans d)|(go_at_call 417;refine(RU b o (T k) _ s).mono ?_;rintro e D ⟨rfl,rfl⟩));go_ret;exact⟨rfl,m⟩
 .have t:=lt_of_cell q;have F:=a2g ⟨l,0,none⟩ ⟨W.heap.size,0,none⟩ (.pointer none) (W.alloc (ai #[.pointer none] 67)) (h.below (a _)).ty aG aG;have u:∀f,Below (W.alloc (ai #[.pointer none] 67)).heap.size (W.alloc (ai #[.pointer none] 67)) f->∃g,f.setCell ⟨W.heap.size,0,none⟩ (aI l)=g/\aD W g/\g.cell? (aH b o)=some (bV (T k))/\g.cell? (aH l 1)=some (aP 453 (.pointer (some ⟨b,o,none⟩)))/\g.cell? ⟨W.heap.size,0,none⟩=some (aI l):=λf x=>by
   have c:aD W (f.setCell ⟨W.heap.size,0,none⟩ (aI l)):=((a _).trans (x.mono aG)).setCell ay _;refine⟨_,rfl,c,(c.cell j).trans d,?_,?_⟩
   .rw[(c.cell t).trans q];unfold eV;rw[i]
   .have H:f.cell? ⟨W.heap.size,0,none⟩=some (.pointer none):=by rw[x.cell (p:=⟨W.heap.size,0,none⟩) aG];simp
    exact iA _ _ _ (by rw[H];rfl)
  clear d q B a h w;go_enter func33,ntmps33;go_wp2_with(first|(go_at_call 34;refine F.mono ?_;rintro e I ⟨rfl,f,r,rfl⟩;obtain⟨g,J,K,s,M,N⟩:=u f r;rw[J])|(go_at_call 417;refine(RU b o (T k) _ s).mono ?_;rintro e D ⟨rfl,rfl⟩));go_ret;exact⟨rfl,K⟩
theorem acC:∀i,i<13->(prog.funcs[zx i]?).map (λa=>(a.name=="runtime.NumGoroutine",a.body.isNone))=some (false,false):=by
 intro i b;rcases i with _|_|_|_|_|_|_|_|_|_|_|_|_|i
 all_goals first|kernel_rfl|omega
theorem cfI {i:Nat}(hi:i<13)(a:Array au)(w:ah):Sem.run prog (callFunc (zx i) a) w=.ok (.enter (zx i) a) w:=by
 have h:=acC i hi;cases b:prog.funcs[zx i]? with
 |none=>rw[b] at h;cases h
 |some d=>
  rw[b] at h;have c:=fF h;exact rT _ d b (congrArg Prod.fst c) (congrArg Prod.snd c) a w
theorem a4h {s:Bs}{i:Nat}{P:Ps}(h:jH s=some (i,P)):i<13:=by
 unfold jH at h;split at h
 .cases h
 .next j b=>
  cases a:iP (Ec j) ⟨(Lib.cut (Sw s) [32]).2.1,(Lib.cut (Sw s) [32]).2.2,[],[],[]⟩ with
  |none=>rw[a] at h;cases h
  |some q=>rw[a] at h;cases h;exact N9 b
theorem IL {E:Nat->Addr}{T:Nat->Bs}{W:ah}{PB r n:Nat}(h:PE E W)(l:Sz E T W)(m:pF W PB r wL n)(s:Bs)(hs:s.length<=100000)(R:Bs->ah->Prop)
  (f:∀i P,jH s=some (i,P)->∀o cp w,aD W w->w.ownsRow W.heap.size 3 1 (aj o P.ns.length cp) P.ns.length (bO P.ns)->aJ (zx i) #[aI PB,.agg (j6 o P.ns.length cp P.nm P.tx)] w λe w'=>∃t v,e=ax (aF #[bV t,v])/\((v=aU/\R t w')\/∃k,1<=k/\k<=10/\Ei E k v w'/\LE E w'/\Sz E T w'/\∀g,aD w' g->R (T k) g)):
  aJ 15 #[.map (some r),bV s] W λe w'=>(jH s=none/\e=ax (bV (T 1))/\aD W w')\/∃t,e=ax (bV t)/\R t w':=by
 have j:=Na h.ne h.mx m s hs;have u:Hid (PE E W/\Sz E T W):=⟨h,l⟩;cases c:jH s with
 |none=>
  rw[c] at j;clear f m h l c;have B:∀a,aD W a->aJ 33 #[eV (E 1)] a λe w'=>e=ax (bV (T 1))/\aD a w':=λa b=>yw (u.out.1.below b).le (u.out.2.below b) ay aC (.inl rfl);go_enter func15,ntmps15;go_wp2_with(first|(go_at_call 32;refine j.mono ?_;rintro e a ⟨rfl,b⟩;have d:=b.trans ((aW (dI a (ai #[ak ⟨#[]⟩,.nilFunc] 60)) (dI (a.alloc (ai #[ak ⟨#[]⟩,.nilFunc] 60)) (ai (j6 none 0 0 [] []) 62))).mono b.size);have C:=B _ d)|(go_at_call 33;refine C.mono ?_;rintro e g ⟨rfl,p⟩));go_ret;exact .inl ⟨trivial,rfl,d.trans (p.mono d.size)⟩
 |some z=>
  obtain⟨i,P⟩:=z;have D:=a4h c;have O:=λF w=>cfI D F w;replace f:=f i P c;rw[c] at j;clear m h l c;go_enter func15,ntmps15;go_wp2_with(go_at_call 32;refine j.mono ?_;rintro e a ⟨⟨o,cp,rfl,H⟩,b⟩;have x:=dI a (ai #[bV (Ec i),.func (.func (zx i)) #[aI PB] #[]] 60);have y:=dI (a.alloc (ai #[bV (Ec i),.func (.func (zx i)) #[aI PB] #[]] 60)) (ai (j6 o P.ns.length cp P.nm P.tx) 62);have d:=b.trans ((aW x y).mono b.size);have I:=f o cp _ d (bD (bD H x) y));refine I.mono ?_;rintro e g ⟨t,v,rfl,⟨rfl,q⟩|⟨k,J,K,A,L,M,q⟩⟩
  .go_wp2_with fail;go_ret;exact .inr ⟨t,rfl,q⟩
  .have N:=yw L M J K A;rcases A with rfl|⟨Q,n,rfl, -, -⟩
   all_goals
    go_wp2_with(go_at_call 33;refine N.mono ?_;rintro e S ⟨rfl,p⟩);go_ret;exact .inr ⟨_,rfl,q _ p⟩
theorem a8w {E:Nat->Addr}{W:ah}{PB LB:Nat}(hp:W.cell? (aH PB 0)=some (aI LB))(x:Ed)(k:Nat)(a:List Int)(g:∀y∈a,kS y)(d:a.length<=1000000)(S:ah->Prop)(hS:∀w w',S w->aD w w'->S w')
  (i:∀j,aD W j->aJ 44 #[aI LB,.agg (rO x)] j λe w'=>S w'/\NE E w'/\∃v u,e=ax (aF #[v,u])/\((k=0/\u=aU/\∃b,w'.ownsRow b 3 1 v a.length (bO a))\/(1<=k/\Ei E k u w'))):
  aJ 43 #[aI PB,.agg (rO x)] W λe w'=>S w'/\((k=0/\e=ax (aF #[ak (qP (a.map zb)),aU]))\/(1<=k/\∃u,e=ax (aF #[bV [],u])/\Ei E k u w')):=by
 have f:=dI W (ai (rO x) 94);have h:=dN W (rO x) 94;have c:=aR hp;simp only at c;have l:=i (W.alloc (ai (rO x) 94)).drew (below_drewN f 1);clear i;go_enter func43,ntmps43;go_upto_region 1 with fail;obtain⟨U,m⟩:∃U,W.alloc (ai (rO x) 94)=U:=⟨_,rfl⟩;have s:=(f.cell (p:=⟨PB,0,none⟩) c).trans hp;rw[m] at f h l s⊢;clear m hp;obtain⟨z,A,B,D,F,H⟩:=EdC.of h;obtain⟨C,o⟩:∃C,W.heap.size=C:=⟨_,rfl⟩;rw[o] at z A B D F H⊢;clear h f c o
 go_region_with (go_at_call 44;refine l.mono ?_;rintro e Q ⟨q,I,v,u,rfl,J⟩)
 all_goals
  rcases J with⟨K,rfl,b,L⟩|⟨M,r⟩
  .have N:=uQ I a v rfl L g d;go_wp2_with(go_at_call 54;refine N.mono ?_;rintro e R ⟨rfl,O⟩);exact bodyPost_ret (v:=aF #[ak (qP (a.map zb)),aU]) (by simp[results,results43,go_sem]) rfl ⟨hS _ _ q O,.inl ⟨K,rfl⟩⟩
  .have P:=r;obtain⟨t,y,rfl⟩:∃t y,u=aP t y:=by
    rcases r with rfl|⟨T,n,rfl, -, -⟩
    .exact⟨_,_,rfl⟩
    .exact⟨_,_,rfl⟩
   go_wp2_with fail;exact bodyPost_ret (v:=aF #[bV [],aP t y]) (by simp[results,results43,go_sem]) rfl ⟨q,.inr ⟨M,_,rfl,P⟩⟩
end
open Go.RowKit Go.Maps Go.Shelf
variable {W:ah}{B PB g n cp:Nat}{o:Option Addr}{m:List Int}{nm tx:Bs}{Q:au->au->ah->Prop}
theorem tu (h:W.ownsRow B 3 1 (aj o n cp) n (bO m))(b:0<n):∃g,o=some ⟨g,0,none⟩/\g<W.heap.size/\∀(k:Nat) (y:Int),m[k]? =some y->W.cell? (aH g k)=some (ag y):=by
 obtain⟨g,c,d, -,e⟩:=h.form b;cases d;refine⟨g,rfl,e,λk y f=>?_⟩;obtain⟨j,a,i⟩:=dO h k (ag y) (by unfold bO;rw[iN,f];rfl);cases a;exact i
theorem ZY (a:Int)(h:W.ownsRow B 3 1 (aj o 1 cp) 1 (bO [a]))(b:∀c,aD W c->aJ 43 #[aI PB,.agg (rO ⟨xE,a,0,0,[],[]⟩)] c λe w'=>∃u v,e=ax (aF #[u,v])/\Q u v w'):
  aJ 22 #[aI PB,.agg (j6 o 1 cp nm tx)] W λe w'=>∃u v,e=ax (aF #[u,v])/\Q u v w':=by
 obtain⟨g,rfl,i,d⟩:=tu h aC;have f:=dI W (ai (j6 (some ⟨g,0,none⟩) 1 cp nm tx) 62);have l:=(f.cell (p:=⟨g,0,none⟩) i).trans (d 0 a rfl);have j:=b _ f;clear b h d;go_enter func22,ntmps22;go_wp2_with(go_at_call 43;refine j.mono ?_;rintro e m ⟨u,v,rfl,k⟩);exact bodyPost_ret (v:=aF #[u,v]) (by simp[results,results22,go_sem]) rfl ⟨u,v,rfl,k⟩
theorem a4i (a:Int)(h:W.ownsRow B 3 1 (aj o 1 cp) 1 (bO [a]))(b:∀c,aD W c->aJ 43 #[aI PB,.agg (rO ⟨Ck,a,0,0,nm,[]⟩)] c λe w'=>∃u v,e=ax (aF #[u,v])/\Q u v w'):
  aJ 25 #[aI PB,.agg (j6 o 1 cp nm tx)] W λe w'=>∃u v,e=ax (aF #[u,v])/\Q u v w':=by
 obtain⟨g,rfl,i,d⟩:=tu h aC;have f:=dI W (ai (j6 (some ⟨g,0,none⟩) 1 cp nm tx) 62);have l:=(f.cell (p:=⟨g,0,none⟩) i).trans (d 0 a rfl);have j:=b (W.alloc (ai (j6 (some ⟨g,0,none⟩) 1 cp nm tx) 62)).drew (below_drewN f 1);clear b h d;go_enter func25,ntmps25;go_upto_region 1 with fail
 go_region_with (go_at_call 43;refine j.mono ?_;rintro e m ⟨u,v,rfl,k⟩)
 all_goals
  go_wp2_with fail;exact bodyPost_ret (v:=aF #[u,v]) (by simp[results,results25,go_sem]) rfl ⟨u,v,rfl,k⟩
theorem acD (a:Int)(h:W.ownsRow B 3 1 (aj o 1 cp) 1 (bO [a]))(b:∀c,aD W c->aJ 43 #[aI PB,.agg (rO ⟨Rs,a,0,0,nm,tx⟩)] c λe w'=>∃u v,e=ax (aF #[u,v])/\Q u v w'):
  aJ 24 #[aI PB,.agg (j6 o 1 cp nm tx)] W λe w'=>∃u v,e=ax (aF #[u,v])/\Q u v w':=by
 obtain⟨g,rfl,i,d⟩:=tu h aC;have f:=dI W (ai (j6 (some ⟨g,0,none⟩) 1 cp nm tx) 62);have l:=(f.cell (p:=⟨g,0,none⟩) i).trans (d 0 a rfl);have j:=b (W.alloc (ai (j6 (some ⟨g,0,none⟩) 1 cp nm tx) 62)).drew (below_drewN f 1);clear b h d;go_enter func24,ntmps24;go_upto_region 1 with fail
 go_region_with (go_at_call 43;refine j.mono ?_;rintro e m ⟨u,v,rfl,k⟩)
 all_goals
  go_wp2_with fail;exact bodyPost_ret (v:=aF #[u,v]) (by simp[results,results24,go_sem]) rfl ⟨u,v,rfl,k⟩

import Derived.Test.YtbkjmamcnflncaaGreatDoorQt38
namespace Go.Proofs.YtbkjmamcnflncaaGreatDoor
open Go.Proofs.Tryz
set_option maxHeartbeats 8000000
section
open Go.RowKit
def NdR (N:Nat)(n:Nd)(e:Ending)(w:ai):Prop:=∃(s:aO) (a:Option Addr) (c d:Nat) (f:Option Addr) (g h:Nat),e=ay (.agg #[au s,aj a c d,aj f g h])/\uy (λb=>N<=b) w (au s) (aj a c d) (aj f g h) n
structure NdG (N XB:Nat)(nm:Bs)(vA vK:ax)(ats:List (Bs×Bs))(K:List V3)(ks:List Nd)(V w:ai):Prop where
 nb:NB XB (au ⟨nm.toArray⟩) vA vK w
 lt:N<XB
 at_:w.ownsRow (N+1) 145 2 vA ats.length (bZ ats)
 own:w.ownsRow (N+1) 50 3 vK K.length (fU K)
 nx:vK.ownBlock≠some XB
 kr:KR (λb=>N<b/\b≠XB/\vK.ownBlock≠some b) w K ks
 res:w.heap[N]? =some (ak #[au ⟨#[]⟩,aj none 0 0,aj none 0 0] 50)
 low:Below N V w
theorem NdG.below {N c:Nat}{nm:Bs}{d e:ax}{ats:List (Bs×Bs)}{K:List V3}{f:List Nd}{V w w':ai}(h:NdG N c nm d e ats K f V w)(g:N<=w.heap.size)(a:aD w w'):NdG N c nm d e ats K f V w':=
 ⟨by have:=h.nb;unfold NB at this⊢;exact(a.block _ (bu this)).trans this,h.lt,bY h.at_ a,bY h.own a,h.nx,KR.turn (λb i j=>⟨i,a.block b j⟩) h.kr,(a.block _ (bu h.res)).trans h.res,h.low.trans (a.mono g)⟩
theorem NdG.more {N i g o n:Nat}{nm:Bs}{z r a b c:ax}{ats:List (Bs×Bs)}{K:List V3}{F:List Nd}{k:Nd}{V w j s:ai}(h:NdG N i nm z r ats K F V w)(L:N<=w.heap.size)(H:aD w j)(M:uy (λb=>w.heap.size<=b) j a b c k)(m:Obj)
  (O:s.ownsRow (N+1) 50 3 (aj (some ⟨g,0,none⟩) n o) (K.length+1) (fU K++[a,b,c])) (I:(j.alloc m).grownBy s r.ownBlock) (p:r.ownBlock=some g\/g=(j.alloc m).heap.size):
  NdG N i nm z (aj (some ⟨g,0,none⟩) n o) ats (K++[(a,b,c)]) (F++[k]) V (s.setCell ⟨i,2,none⟩ (aj (some ⟨g,0,none⟩) n o)):=by
 have t:=h.below L (bf H (dR j m));have sz:=(bf H (dR j m)).size;have P:=bu (show w.heap[i]? =_ from h.nb);have A:i<(j.alloc m).heap.size:=aa;have u:g≠i:=by
  rintro rfl;rcases p with p|p
  .exact h.nx p
  .omega
 have x:∀q,q<(j.alloc m).heap.size->r.ownBlock≠some q->s.heap[q]? =(j.alloc m).heap[q]? :=λq d Q=>I.block q d (λe=>Q e.symm);have y:∀q,q≠i->(s.setCell ⟨i,2,none⟩ (aj (some ⟨g,0,none⟩) n o)).heap[q]? =s.heap[q]? :=λq d=>dw _ _ _ q d;have B:NB i (au ⟨nm.toArray⟩) z r s:=by
  have C:=t.nb;unfold NB at C⊢;exact(x i A h.nx).trans C
 have R:∀q,r.ownBlock=some q->q<w.heap.size:=λq d=>(h.own.lt q d).2;have D:Below N V s:=t.low.grown I aa (λq d=>by have:=(h.own.lt q d).1;omega);refine⟨B.set2 _,h.lt,?_,?_,λl=>u (fT l),?_,?_,D.setCell (Nat.le_of_lt h.lt) _⟩
 .refine dF t.at_ λq d=>?_;obtain⟨cs,f,C, -⟩:=gy t.at_ q d;have v:r.ownBlock≠some q:=λl=>by
   obtain⟨S,f',T, -⟩:=gy t.own q l;grind
  have U:q≠i:=λl=>by
   have T:(j.alloc m).heap[i]? =_:=t.nb;grind
  grind
 .rw[Ex,dO];exact dF O λq d=>y q (λl=>u (by cases d;exact l))
 .refine KR.snoc (KR.turn (λq d E=>?_) t.kr) (uy.turn (λq d E=>?_) k M)
  .obtain⟨W,J,X⟩:=d;refine⟨⟨W,J,λl=>?_⟩,by rw[y q J,x q E X]⟩;have Y:g=q:=fT l;grind
  .have Z:w.heap.size<=q:=d;have a4:=(dR j m).size;have v:r.ownBlock≠some q:=by grind
   refine⟨⟨by have:=h.lt;omega,aa,λl=>?_⟩,by rw[y q aa,x q aa v];exact(dR j m).block q E⟩;have Y:g=q:=fT l;grind
 .rw[y N (by have:=h.lt;omega),x N (by have:=h.lt;omega) (λl=>by have:=(h.own.lt N l).1;omega)];exact t.res
theorem NdG.done {N f:Nat}{nm:Bs}{c d:ax}{ats:List (Bs×Bs)}{K:List V3}{e:List Nd}{V w w':ai}(h:NdG N f nm c d ats K e V w)(g:nm.length<=maxLen)(i:∀x∈ats,x.1.length<=maxLen/\x.2.length<=maxLen)(j:∀b,b≠N->w'.heap[b]? =w.heap[b]?):uy (λb=>N<=b) w' (au ⟨nm.toArray⟩) c d (.mk nm ats e):=by
 refine uy.turn (Q:=λb=>N<b) (w:=w) (λb a _=>⟨Nat.le_of_lt a,j b (by have:N<b:=a;omega)⟩) _ (uy.make (B:=N+1) g ?_ h.own (KR.turn (λb a _=>⟨a.1,rfl⟩) h.kr) λb a=>(h.own.lt b a).1);exact Dk.turn (Dk.a4B h.at_ i) λb a _=>⟨(h.at_.lt b a).1,rfl⟩
set_option maxRecDepth 20000
structure SXK (XB:Nat)(vK:ax)(w:ai):Prop where
 c:w.cell? (aJ XB 2)=some vK
abbrev oZ:Obj:=ak #[au ⟨#[]⟩,aj none 0 0,aj none 0 0] 50
theorem Me {V U a:ai}{b:Nat}{nm:Bs}{o:Option Addr}{n k:Nat}{ats:List (Bs×Bs)}(d:aD V U)(f:U.heap.size=V.heap.size+1)(g:U.heap[V.heap.size]? =some oZ)(c:aD U a)(j:U.heap.size<=b)(h:a.heap[b]? =some (ak #[au ⟨nm.toArray⟩,aj o n k,aj none 0 0] 50))(i:a.ownsRow U.heap.size 145 2 (aj o n k) ats.length (bZ ats)):NdG V.heap.size b nm (aj o n k) (aj none 0 0) ats [] [] V a:=
 ⟨h,aa,by rw[<- f];exact i,gp _ _ _ _,(λe=>by cases e),trivial,(c.block _ aa).trans g,bf d c⟩
theorem a9f {V U a:ai}{nm:Bs}{o:Option Addr}{n k:Nat}{ats:List (Bs×Bs)}(d:aD V U)(e:U.heap.size=V.heap.size+1)(f:U.heap[V.heap.size]? =some oZ)(b:Below U.drew.heap.size U.drew a)(g:a.ownsRow U.drew.heap.size 145 2 (aj o n k) ats.length (bZ ats)):NdG V.heap.size a.heap.size nm (aj o n k) (aj none 0 0) ats [] [] V (a.alloc (ak #[au ⟨nm.toArray⟩,aj o n k,aj none 0 0] 50)):=by
 have c:aD U a:=⟨b.os,b.tape,b.output,b.size,b.block⟩;exact Me d e f (bf c (dR _ _)) c.size (dY a _ _) (bY g (dR _ _))
theorem a9g {V U a:ai}{nm:Bs}{o:Option Addr}{n k:Nat}{ats:List (Bs×Bs)}(e:aD V U)(f:U.heap.size=V.heap.size+1)(g:U.heap[V.heap.size]? =some oZ)(b:Below (U.alloc oZ).drew.heap.size (U.alloc oZ).drew a)(h:a.ownsRow (U.alloc oZ).drew.heap.size 145 2 (aj o n k) ats.length (bZ ats)):NdG V.heap.size U.heap.size nm (aj o n k) (aj none 0 0) ats [] [] V (((a.setCell ⟨U.heap.size,0,none⟩ (au ⟨nm.toArray⟩)).setCell ⟨U.heap.size,1,none⟩ (aj o n k)).setCell ⟨U.heap.size,2,none⟩ (aj none 0 0)):=by
 have c:Below (U.alloc oZ).heap.size (U.alloc oZ) a:=⟨b.os,b.tape,b.output,b.size,b.block⟩;have i:(U.alloc oZ).heap.size=U.heap.size+1:=dV _ _;have j:=(c.block U.heap.size aa).trans (dY U #[au ⟨#[]⟩,aj none 0 0,aj none 0 0] 50);have d:a.ownsRow (U.heap.size+1) 145 2 (aj o n k) ats.length (bZ ats):=by rw[<- i];exact h
 have l:=jN (jN (jN d (p:=⟨U.heap.size,0,none⟩) (Nat.lt_succ_self _) (au ⟨nm.toArray⟩)) (p:=⟨U.heap.size,1,none⟩) (Nat.lt_succ_self _) (aj o n k)) (p:=⟨U.heap.size,2,none⟩) (Nat.lt_succ_self _) (aj none 0 0);exact Me e f g ((((bf (dR U oZ) c).setCell aI _).setCell aI _).setCell aI _) az (NM j _ _ _) (gz l (Nat.le_succ _))
section
variable {B:Nat}{A:dG}{W:ai}{DB m:Nat}{p:Int->Option Nat}{M:Dm}{nx c:Nat}{r:Int->Nat}
theorem Jp (h:jk B A W DB m p M nx c r)(a7:fq M):∀(f:Nat) (n:Int) (V:ai),aD W V->eH n->Dp M f n->aL 158 #[aK DB,ag n] V λe w'=>NdR V.heap.size (JG M f n) e w'/\aD V w'
 |0,_,_,_,_,hd=>hd.elim
 |f+1,n,V,hV,hn,hd=>by
  have IH:=Jp h a7 f;obtain⟨ND,R⟩:∃x,JG M (f+1) n=x:=⟨_,rfl⟩;rw[R];have a8:=aF R;clear R;have N:=dR V oZ;have o:=dY V #[au ⟨#[]⟩,aj none 0 0,aj none 0 0] 50;have l:=(h.below (bf hV N)).w;have d0:=l.d0;go_enter func158,ntmps158;go_upto_region 1 with fail;obtain⟨U,hU⟩:∃U,V.alloc oZ=U:=⟨_,rfl⟩;have sU:U.heap.size=V.heap.size+1:=by rw[<- hU,dV]
  rw[hU] at N o l d0⊢;clear hU;cases L:M n with
  |none=>
   have hp:=l.non n L;have z0:=aQ o 0 _ rfl;have z1:=aQ o 1 _ rfl;have z2:=aQ o 2 _ rfl;have y0:=bG o 0;have y1:=bG o 1;have y2:=bG o 2;go_wp2_with(at_lookup;refine kG _ rfl _ _ 138 rfl underlying3 underlying138 (dA _) rfl l.map n rfl hn hp ?_);have S:=NM o (au ⟨#[]⟩) (aj none 0 0) (aj none 0 0);have e0:=aQ S 0 _ rfl;have T:=aQ S 1 _ rfl;have e2:=aQ S 2 _ rfl;refine bg (v:=.agg #[au ⟨#[]⟩,aj none 0 0,aj none 0 0]) (by simp[results,results158,go_sem,e0,T,e2]) rfl ?_;have Y:ND=.mk [] [] []:=by rw[<- a8.out,JG,L]
   subst Y;refine⟨⟨⟨#[]⟩,none,0,0,none,0,0,rfl,?_⟩,((N.setCell aI _).setCell aI _).setCell aI _⟩;unfold uy;exact⟨rfl,aC,⟨none,0,rfl,aC,aC,λ_=>rfl,λi x hx=>by simp at hx⟩,none,0,rfl,aC,aC,λ_=>rfl,by unfold vY;trivial⟩
  |some e=>
   obtain⟨EB,va,vk,hp,he⟩:=l.els n e L;obtain⟨f3,f4,c3⟩:=bD he.ats;obtain⟨Z,a4,c4⟩:=bD he.kids;subst c3 c4;obtain⟨a1,a2,a3⟩:=a7 n e L;have a9:∀a∈e.ats,a.1.length<=maxLen/\a.2.length<=maxLen:=λa ha=>by
    have h1:=lV (a3.1 a ha).1;have h2:=qF (a3.1 a ha).2;simp only[maxLen];omega
   have f5:=h.few L;have b3:=(l.wf n e L).2;have CA:=λX (hX:aD U X)=>Uo X _ e.ats (Ja (bY he.ats hX) a9) aa;have C1:=CA U.drew (below_drewN (aW _ _) 1);have C2:=CA (U.alloc oZ).drew (below_drewN (dR _ _) 1);go_upto_region 4 with(at_lookup;refine dJ _ rfl _ _ 138 rfl underlying3 underlying138 (dA _) rfl l.map n rfl hn EB hp ?_)
   go_cut [7] from 22 to 31 (λv wx=>∃z oA C D,v=aK z/\NdG V.heap.size z e.name (aj oA C D) (aj none 0 0) e.ats [] [] V wx)
   case first=>
    have x0:=he.c0;have x1:=he.c1;have b4:=eD oZ x0;have f6:=eD oZ x1;have KK:∀j,Below (U.alloc oZ).drew.heap.size (U.alloc oZ).drew j->pF j U.heap.size (au ⟨#[]⟩) (aj none 0 0) (aj none 0 0):=λj q=>pF.of ((q.block U.heap.size (by show _<(U.alloc oZ).heap.size;rw[dV];omega)).trans (dY U #[au ⟨#[]⟩,aj none 0 0,aj none 0 0] 50));have KE:∀j,Below U.drew.heap.size U.drew j->j.cell? (aJ EB 0)=some (au ⟨e.name.toArray⟩):=λj q=>(q.cell (aM (show U.drew.cell? _=_ from x0))).trans x0;have c5:∀j,Below (U.alloc oZ).drew.heap.size (U.alloc oZ).drew j->j.cell? (aJ EB 0)=some (au ⟨e.name.toArray⟩):=λj q=>(q.cell (aM (show(U.alloc oZ).drew.cell? _=_ from b4))).trans b4;have c6:Hid (aD V U/\U.heap.size=V.heap.size+1/\U.heap[V.heap.size]? =some oZ):=⟨N,sU,o⟩;clear IH CA N sU o hd b3
    go_region_with (go_at_call 70;first|(refine C1.mono ?_;rintro T j ⟨oA,C,D,rfl,ow,q⟩;have y0:=KE j q;have f7:=eD oZ y0)|(refine C2.mono ?_;rintro T j ⟨oA,C,D,rfl,ow,q⟩;have y0:=c5 j q;obtain⟨u0,u1,u2,f0,f1,f2⟩:=KK j q))
    all_goals go_wp2_with fail
    all_goals go_meet
    all_goals obtain⟨N,sU,o⟩:=c6.out
    all_goals first|(have hu:=u0;exact⟨_,oA,C,D,rfl,a9g N sU o q ow⟩)|exact⟨_,oA,C,D,rfl,a9f N sU o q ow⟩
   case rest=>
    obtain⟨z,oA,C,D,rfl,hG⟩:=hcut;obtain⟨i0,hi,c7,c8,c9⟩:=info_parts nodeInfo;have b5:∀X,aD V X->X.cell? (aJ EB 3)=some (aj Z e.kids.length a4)/\X.ownsRow B 3 1 (aj Z e.kids.length a4) e.kids.length (di e.kids):=λX hX=>by
     obtain⟨f8,f9,d1,b6,a5⟩:=(h.below (bf hV hX)).w.els n e L;obtain⟨d2,g0,g2,b7,O⟩:=(h.below hV).w.els n e L;have hh:=(bf (aW _ _) N).block d2 (bu O.cells);rw[hp] at b6 b7;cases b6;cases b7;have h1:=he.cells;rw[hh,O.cells] at h1;have h2:=(hX.block EB (bu O.cells)).trans O.cells;have h3:=a5.cells;rw[h2] at h3;rw[h1] at h3;have h4:d1=aj Z e.kids.length a4:=by
      have h5:=fT h3;simp at h5;exact h5.2.symm
     subst h4;exact⟨a5.c3,a5.kids⟩
    have d3:∀k∈e.kids,Dp M f k:=hd e L;have g3:=hG.low.size;have x3:=(b5 wc hG.low).1;clear C1 C2 CA o hd;go_wp2_with fail
    go_loopw [37] (λi wr=>∃(k:Nat) (K:List V3) (s:Option Addr) (nK t:Nat),k<=e.kids.length/\i=ag k/\NdG V.heap.size z e.name (aj oA C D) (aj s nK t) e.ats K ((e.kids.take k).map (JG M f)) V wr) (λi _=>e.kids.length-(intOf i).toNat)
    case atStart=>exact⟨0,[],none,0,0,bA _,rfl,hG⟩
    case round=>
     obtain⟨k,K,s,nK,t,hk,rfl,g⟩:=hrel;have sV:=g.low.size;by_cases d4:k<e.kids.length
     .have e9:(k:Int)<(e.kids.length:Int):=aa;obtain⟨kid,tV⟩:∃y,e.kids[k]? =some y:=⟨_,fD d4⟩;have Q:=ic tV;have E:=(b5 wr g.low).2;obtain⟨gk,d6,g4⟩:=eF E k (ag kid) (by rw[di,jv,tV];rfl);obtain⟨o',c',d7, -, -, -,b8⟩:=eT E;cases d7;have d8:=b8 gk d6;subst d8;have IK:=IH kid wr.drew (below_drewN (bf hV g.low) 1) (b3 kid Q) (d3 kid Q);have g5:K.length<=100:=by
       have h1:=g.kr.len;rw[dP,iR] at h1;omega
      have d9:nK=K.length:=by
       obtain⟨o2,c2,e3, -⟩:=eT g.own;cases e3;rfl
      subst d9;have hS:SXK z (aj s K.length t) wr.drew:=⟨g.nb.c2⟩;have e4:Hid ((e.kids.take (k+1)).map (JG M f)=(e.kids.take k).map (JG M f)++[JG M f kid]):=(by rw[eX,tV,iK];rfl:(e.kids.take (k+1)).map (JG M f)=(e.kids.take k).map (JG M f)++[JG M f kid]);clear E b8 tV;go_upto_region 8 with fail;refine J5 (SXK z (aj s K.length t)) 8 aA ?_;refine dQ (v:=?v0) 0 rfl aA aA aA aA (λ_ _ _ h=>h) hS (.inl ⟨rfl,λw hw=>?hy0⟩) ?hr0
      case hy0=>have g1:=hw.c;go_simp;try with_reducible rfl
      simp only[Act.put,List.setIfInBounds_toArray];refine dQ (v:=?v1) 1 rfl aA aA aA aA (λ_ _ _ h=>h) hS (.inl ⟨rfl,λw hw=>?hy1⟩) ?hr1
      case hy1=>have g1:=hw.c;go_simp;try with_reducible rfl
      simp only[Act.put];refine dQ (v:=?v2) 2 rfl aA aA aA aA (λ_ _ _ h=>h) hS (.inl ⟨rfl,λw hw=>?hy2⟩) ?hr2
      case hy2=>have g1:=hw.c;go_simp;try with_reducible rfl
      simp only[Act.put];refine dQ (v:=?v3) 3 rfl aA aA aA aA (λ_ _ _ h=>h) hS (.inl ⟨rfl,λw hw=>?hy3⟩) ?hr3
      case hy3=>have g1:=hw.c;go_simp;try with_reducible rfl
      simp only[Act.put];refine nT 4 aA rfl (λK1 d=>?_);go_simp;go_wp2_with(go_at_call 158;refine IK.mono ?_;rintro e2 w2 ⟨⟨s2,o2,n2,k2,F,H,I,rfl,e5⟩,b2⟩);have P:aD wr w2:=⟨b2.os,b2.tape,b2.output,b2.size,b2.block⟩;have a6:=g.below sV P;have e6:SXK z (aj s K.length t) w2:=⟨a6.nb.c2⟩;refine d.out _ _ (λ_=>e6) ?_;clear d;refine nT 5 aA rfl (λK1 d=>?_);go_simp;have J:=a6.below (bO sV P.size) (dR w2 (ak #[au s2,aj o2 n2 k2,aj F H I] 50));have e7:SXK z (aj s K.length t) (w2.alloc (ak #[au s2,aj o2 n2 k2,aj F H I] 50)):=⟨J.nb.c2⟩;have H0:=dY w2 #[au s2,aj o2 n2 k2,aj F H I] 50;have g6:=P.size;refine d.out _ _ (λ_=>e7) ?_;clear d;refine nT 6 aA rfl (λK1 d=>?_);refine step_append_lies _ rfl (.tmp 42) (.tmp 46) 48 rfl (V.heap.size+1) 50 i0 (.agg #[au ⟨#[]⟩,aj none 0 0,aj none 0 0]) 3 64 underlying48 hi c7 c8 c9 rfl aC (aj s K.length t) K.length (fU K) rfl J.own ⟨w2.heap.size,0,none⟩ 1 1 [au s2,aj o2 n2 k2,aj F H I] rfl rfl (World.news_of_block H0) (λu hu=>by simp at hu;rcases hu with rfl|rfl|rfl<;>rfl) aC (by rw[dD];omega) aa bq _ rfl ?_;intro g7 yt w7 kN lJ Ur g8;have b9:=g.more sV P e5 (ak #[au s2,aj o2 n2 k2,aj F H I] 50) kN lJ Ur;have Ox:NB z (au ⟨e.name.toArray⟩) (aj oA C D) (aj s K.length t) w7:=(lJ.block z (bu J.nb) (λT=>g.nx T.symm)).trans J.nb;have c0:SXK z (aj s K.length t) w7:=⟨Ox.c2⟩;have m2:=Ox.c2;have mf:=Ox.fG 2;refine d.out _ _ (λ_=>c0) ?_;clear d;simp only[Act.put];refine nT 7 aA rfl (λK1 d=>?_);go_simp;refine d.out _ _ (λ_=>c0) ?_;clear d;refine nT 8 aA rfl (λK1 d=>?_);go_simp;refine d.out _ _ (λh=>absurd rfl h) ?_;clear d;refine VD aA ?_ _;have e8:=aF b9;clear b9 g a6 J kN lJ Ur Ox;go_wp2_with fail
      go_roundw
      case rel=>exact⟨k+1,_,_,_,_,aa,by go_num,by rw[e4.out];exact e8.out⟩
      case measure=>simp[intOf];omega
     .obtain rfl:k=e.kids.length:=aa;have n0:=g.nb.c0;have n1:=g.nb.c1;have n2:=g.nb.c2;have r0:=aQ g.res 0 _ rfl;have r1:=aQ g.res 1 _ rfl;have r2:=aQ g.res 2 _ rfl;have q0:=bG g.res 0;have q1:=bG g.res 1;have q2:=bG g.res 2;go_wp2_with fail;have S:=NM g.res (au ⟨e.name.toArray⟩) (aj oA C D) (aj s nK t);have e0:=aQ S 0 _ rfl;have T:=aQ S 1 _ rfl;have e2:=aQ S 2 _ rfl;refine bg (v:=.agg #[au ⟨e.name.toArray⟩,aj oA C D,aj s nK t]) (by simp[results,results158,go_sem,e0,T,e2]) rfl ?_;have Y:ND=.mk e.name e.ats (e.kids.map (JG M f)):=by rw[<- a8.out,JG,L]
      subst Y;refine⟨⟨_,_,_,_,_,_,_,rfl,?_⟩,((g.low.setCell aI _).setCell aI _).setCell aI _⟩;have c1:=g.done (w':=((wr.setCell ⟨V.heap.size,0,none⟩ (au ⟨e.name.toArray⟩)).setCell ⟨V.heap.size,1,none⟩ (aj oA C D)).setCell ⟨V.heap.size,2,none⟩ (aj s nK t)) (by have h1:=lV a1;simp only[maxLen];omega) a9 (λb hb=>(dw _ _ _ b hb).trans ((dw _ _ _ b hb).trans (dw _ _ _ b hb)));rw[gJ] at c1;exact c1
end
end
section
open Go.RowKit
section
variable {W:ai}{LB B DB:Nat}{M:Dm}{nx c:Nat}{r:Int->Nat}{rl:List Rl}{l:List Pc}{w h:Nat}
theorem LvE.doc (b:LvE W LB B DB M nx c r rl l w h):aL 46 #[aK LB] W λe w'=>e=ay (aK DB)/\W=w':=by
 obtain⟨d,f,p,g,i,pv,j,a, -⟩:=b;have k:=aQ a.lb 0 _ rfl;clear a;go_enter func46,ntmps46;go_wp2_with fail;go_ret;exact⟨rfl,rfl⟩
theorem a4U {V c:ai}{n:Nd}{s:aO}{d e:Option Addr}{f g h i:Nat}(k:Below (V.alloc oZ).heap.size (V.alloc oZ) c)(j:uy (λb=>(V.alloc oZ).heap.size<=b) c (au s) (aj d f g) (aj e h i) n):
  pF c V.heap.size (au ⟨#[]⟩) (aj none 0 0) (aj none 0 0)/\(((c.setCell ⟨V.heap.size,0,none⟩ (au s)).setCell ⟨V.heap.size,1,none⟩ (aj d f g)).setCell ⟨V.heap.size,2,none⟩ (aj e h i)).heap[V.heap.size]? =some (ak #[au s,aj d f g,aj e h i] 50)/\
   uy (λb=>V.heap.size<=b) (((c.setCell ⟨V.heap.size,0,none⟩ (au s)).setCell ⟨V.heap.size,1,none⟩ (aj d f g)).setCell ⟨V.heap.size,2,none⟩ (aj e h i)) (au s) (aj d f g) (aj e h i) n/\aD V (((c.setCell ⟨V.heap.size,0,none⟩ (au s)).setCell ⟨V.heap.size,1,none⟩ (aj d f g)).setCell ⟨V.heap.size,2,none⟩ (aj e h i)):=by
 have m:(V.alloc oZ).heap.size=V.heap.size+1:=dV _ _;have l:=(k.block V.heap.size aa).trans (dY V #[au ⟨#[]⟩,aj none 0 0,aj none 0 0] 50);refine⟨pF.of l,NM l _ _ _,uy.turn (λb j _=>?_) n j,(((bf (dR V oZ) k).setCell aI _).setCell aI _).setCell aI _⟩;have j:(V.alloc oZ).heap.size<=b:=j;have a:b≠V.heap.size:=aa;exact⟨aa,(dw _ _ _ b a).trans ((dw _ _ _ b a).trans (dw _ _ _ b a))⟩
theorem LvE.node (F:LvE W LB B DB M nx c r rl l w h):aL 52 #[aK LB] W λe w'=>NdR W.heap.size (JG M 11 0) e w'/\aD W w':=by
 obtain⟨Q,R,p,S,T,pv,U,f, -⟩:=F;have H:=eD oZ (aQ f.lb 0 _ rfl);obtain⟨g,i, -⟩:=f.ds.d.root;have u:∀V,aD W V->aL 158 #[aK DB,ag 0] V λe w'=>NdR V.heap.size (JG M 11 0) e w'/\aD V w':=λV x=>Jp f.ds f.ok 11 0 V x aC (f.ds.d.dp 11 0 g i aa);obtain⟨X,E⟩:∃X,JG M 11 0=X:=⟨_,rfl⟩;rw[E] at u⊢;clear E f i;have j:∀V,aD W V->aL 97 #[aK DB] V λe w'=>NdR V.heap.size X e w'/\aD V w':=λV x=>by
  have y:=u (V.alloc oZ) (bf x (dR _ _));clear u x H;go_enter func97,ntmps97;go_wp2_with(go_at_call 158;refine y.mono ?_;rintro e I ⟨⟨s,k,m,n,o,q,t,rfl,z⟩,A⟩;obtain⟨⟨J,K,L,N,O,P⟩,a,b,d⟩:=a4U A z);have g:=aQ a 0 _ rfl;have C:=aQ a 1 _ rfl;have D:=aQ a 2 _ rfl;refine bg (v:=.agg #[au s,aj k m n,aj o q t]) (by simp[results,results97,go_sem,g,C,D]) rfl ?_;exact⟨⟨s,k,m,n,o,q,t,rfl,b⟩,d⟩
 have y:=j (W.alloc oZ) (dR _ _);clear u j;go_enter func52,ntmps52;go_wp2_with(go_at_call 97;refine y.mono ?_;rintro e I ⟨⟨s,k,m,n,o,q,t,rfl,z⟩,A⟩;obtain⟨⟨J,K,L,N,O,P⟩,a,b,d⟩:=a4U A z);have g:=aQ a 0 _ rfl;have C:=aQ a 1 _ rfl;have D:=aQ a 2 _ rfl;refine bg (v:=.agg #[au s,aj k m n,aj o q t]) (by simp[results,results52,go_sem,g,C,D]) rfl ?_;exact⟨⟨s,k,m,n,o,q,t,rfl,b⟩,d⟩
end
structure PE (E:Nat->Addr)(w:ai):Prop where
 le:LE E w
 mx:TF w
section
variable {E:Nat->Addr}{w w':ai}
theorem PE.below (h:PE E w)(a:aD w w'):PE E w':=⟨h.le.below a,h.mx.below a⟩
theorem PE.ne (h:PE E w):NE E w:=h.le.ne
end
section
variable {E:Nat->Addr}{W w':ai}{LB B DB:Nat}{M:Dm}{nx c:Nat}{rl:List Rl}{l:List Pc}{w h:Nat}{X:Option Nat}
theorem yC.turn (C:yC W LB B DB M nx c rl l w h X)(hs:∀g,B<=g->g<W.heap.size->X≠some g->w'.heap[g]? =W.heap[g]?)(s:∀b,X=some b->∃cs t f,W.heap[b]? =some (ak cs t f)/\(t=3\/t=9))(u:W.heap.size<=w'.heap.size){Y:Option Nat}(D:∀b,Y=some b->X=some b\/W.heap.size<=b):yC w' LB B DB M nx c rl l w h Y:=by
 obtain⟨r,E,F,p,H,I,pv,J,a,K,m⟩:=C;have y:∀{g:Nat} {cs:Array ax} {t:TypeId} {f:Nat×Nat},W.heap[g]? =some (ak cs t f)->t≠3/\t≠9->X≠some g:=λi z O=>by grind
 have o:∀{k n:Nat} {e:TypeId} {v:ax} {A:List ax},W.ownsRow B e k v n A->e≠3/\e≠9->w'.ownsRow B e k v n A:=λh L=>dF h λg d=>by
  obtain⟨cs,f,i, -⟩:=gy h g d;exact hs g (h.lt g d).1 (h.lt g d).2 (y i L)
 exact⟨r,E,F,p,H,I,pv,J,⟨(hs LB a.base (bu a.lb) (y a.lb aC)).trans a.lb,a.base,⟨a.ds.w.turn (λg t j=>hs g (a.ds.w.low g t j).1 (a.ds.w.low g t j).2 λq=>by rw[(m g q).1] at j;cases j) u,a.ds.d,a.ds.n,a.ds.le,bO a.ds.low u⟩,a.ok,a.rok,o a.row aC,⟨o a.pc.own aC,λx s=>o (a.pc.pts x s) aC,a.pc.rt⟩,a.pm,a.pk,a.ql,dF a.XU λg d=>hs g (a.XU.lt g d).1 (a.XU.lt g d).2 λq=>(m g q).2 d⟩,K,λb N=>(D b N).elim (m b) λi=>⟨a.ds.w.new i,λz=>by have:=(a.XU.lt b z).2;omega⟩⟩
theorem yC.doc (a:yC W LB B DB M nx c rl l w h X):aL 46 #[aK LB] W λe w'=>e=ay (aK DB)/\W=w':=by
 obtain⟨r,a⟩:=a.e;exact a.doc
end
end
section
open Go.RowKit Go.Maps Go.Shelf
set_option maxRecDepth 20000
def Tj (E:Nat->Addr)(T:Nat->Bs)(w:ai):Prop:=∀k,1<=k->k<=10->∃b o,E k=⟨b,o,none⟩/\w.cell? (aJ b o)=some (bV (T k))
theorem Tj.below {E:Nat->Addr}{T:Nat->Bs}{w w':ai}(h:Tj E T w)(d:aD w w'):Tj E T w':=λk e f=>by
 obtain⟨b,o,c,a⟩:=h k e f;exact⟨b,o,c,(d.cell (lt_of_cell a)).trans a⟩
theorem Tk (v:ax)(w:ai):(Go.method 591 453 v "Error").run prog w=.ok (417,v) w:=aA
theorem Tm (b o:Nat)(s:Bs)(W:ai)(h:W.cell? (aJ b o)=some (bV s)):aL 417 #[.pointer (some ⟨b,o,none⟩)] W λe w'=>e=ay (bV s)/\w'=W:=by
 go_enter func417,ntmps417;go_wp2_with fail;go_ret;exact⟨rfl,rfl⟩
theorem ze {E:Nat->Addr}{T:Nat->Bs}{W:ai}{k:Nat}{v:ax}(h:LE E W)(w:Tj E T W)(y:1<=k)(z:k<=10)(A:F8 E k v W):
  aL 33 #[v] W λe w'=>e=ay (bV (T k))/\aD W w':=by
 have L:=Tk;have a:∀o,aD W (W.alloc o):=λo=>(aW _ _).alloc az o;obtain⟨b,o,i,d⟩:=w k y z;have j:=lt_of_cell d;rcases A with rfl|⟨l,n,rfl,B,q⟩
 .unfold eV;rw[i];have C:=Xx ⟨b,o,none⟩ ⟨W.heap.size,0,none⟩ (W.alloc (ak #[.pointer none] 67)) (h.below (a _)).ty;go_enter func33,ntmps33;go_wp2_with(first|(go_at_call 34;refine C.mono ?_;rintro e f ⟨rfl,r⟩;have m:=(a _).trans (r.mono aI);have s:=(m.cell j).trans d)|(go_at_call 417;refine(Tm b o (T k) _ s).mono ?_;rintro e D ⟨rfl,rfl⟩));go_ret;exact⟨rfl,m⟩
 .have t:=lt_of_cell q;have F:=a2U ⟨l,0,none⟩ ⟨W.heap.size,0,none⟩ (.pointer none) (W.alloc (ak #[.pointer none] 67)) (h.below (a _)).ty aI aI;have u:∀f,Below (W.alloc (ak #[.pointer none] 67)).heap.size (W.alloc (ak #[.pointer none] 67)) f->∃g,f.setCell ⟨W.heap.size,0,none⟩ (aK l)=g/\aD W g/\g.cell? (aJ b o)=some (bV (T k))/\g.cell? (aJ l 1)=some (aU 453 (.pointer (some ⟨b,o,none⟩)))/\g.cell? ⟨W.heap.size,0,none⟩=some (aK l):=λf x=>by
   have c:aD W (f.setCell ⟨W.heap.size,0,none⟩ (aK l)):=((a _).trans (x.mono aI)).setCell az _;refine⟨_,rfl,c,(c.cell j).trans d,?_,?_⟩
   .rw[(c.cell t).trans q];unfold eV;rw[i]
   .have H:f.cell? ⟨W.heap.size,0,none⟩=some (.pointer none):=by rw[x.cell (p:=⟨W.heap.size,0,none⟩) aI];simp
    exact iJ _ _ _ (by rw[H];rfl)
  clear d q B a h w;go_enter func33,ntmps33;go_wp2_with(first|(go_at_call 34;refine F.mono ?_;rintro e I ⟨rfl,f,r,rfl⟩;obtain⟨g,J,K,s,M,N⟩:=u f r;rw[J])|(go_at_call 417;refine(Tm b o (T k) _ s).mono ?_;rintro e D ⟨rfl,rfl⟩));go_ret;exact⟨rfl,K⟩
theorem adp:∀i,i<13->(prog.funcs[A9 i]?).map (λa=>(a.name=="runtime.NumGoroutine",a.body.isNone))=some (false,false):=by
 intro i b;rcases i with _|_|_|_|_|_|_|_|_|_|_|_|_|i
 all_goals first|kernel_rfl|omega
theorem cfI {i:Nat}(hi:i<13)(a:Array ax)(w:ai):Sem.run prog (callFunc (A9 i) a) w=.ok (.enter (A9 i) a) w:=by
 have h:=adp i hi;cases b:prog.funcs[A9 i]? with
 |none=>rw[b] at h;cases h
 |some d=>
  rw[b] at h;have c:=fT h;exact tH _ d b (congrArg Prod.fst c) (congrArg Prod.snd c) a w
theorem a4V {s:Bs}{i:Nat}{P:Ps}(h:nN s=some (i,P)):i<13:=by
 unfold nN at h;split at h
 .cases h
 .next j b=>
  cases a:jE (IY j) ⟨(Lib.cut (shT s) [32]).2.1,(Lib.cut (shT s) [32]).2.2,[],[],[]⟩ with
  |none=>rw[a] at h;cases h
  |some q=>rw[a] at h;cases h;exact Vw b
theorem Jq {E:Nat->Addr}{T:Nat->Bs}{W:ai}{PB r n:Nat}(h:PE E W)(l:Tj E T W)(m:qm W PB r Aa n)(s:Bs)(hs:s.length<=100000)(R:Bs->ai->Prop)
  (f:∀i P,nN s=some (i,P)->∀o cp w,aD W w->w.ownsRow W.heap.size 3 1 (aj o P.ns.length cp) P.ns.length (di P.ns)->aL (A9 i) #[aK PB,.agg (jl o P.ns.length cp P.nm P.tx)] w λe w'=>∃t v,e=ay (aH #[bV t,v])/\((v=aY/\R t w')\/∃k,1<=k/\k<=10/\F8 E k v w'/\LE E w'/\Tj E T w'/\∀g,aD w' g->R (T k) g)):
  aL 15 #[.map (some r),bV s] W λe w'=>(nN s=none/\e=ay (bV (T 1))/\aD W w')\/∃t,e=ay (bV t)/\R t w':=by
 have j:=NY h.ne h.mx m s hs;have u:Hid (PE E W/\Tj E T W):=⟨h,l⟩;cases c:nN s with
 |none=>
  rw[c] at j;clear f m h l c;have B:∀a,aD W a->aL 33 #[eV (E 1)] a λe w'=>e=ay (bV (T 1))/\aD a w':=λa b=>ze (u.out.1.below b).le (u.out.2.below b) az aC (.inl rfl);go_enter func15,ntmps15;go_wp2_with(first|(go_at_call 32;refine j.mono ?_;rintro e a ⟨rfl,b⟩;have d:=b.trans ((bf (dR a (ak #[au ⟨#[]⟩,.nilFunc] 60)) (dR (a.alloc (ak #[au ⟨#[]⟩,.nilFunc] 60)) (ak (jl none 0 0 [] []) 62))).mono b.size);have C:=B _ d)|(go_at_call 33;refine C.mono ?_;rintro e g ⟨rfl,p⟩));go_ret;exact .inl ⟨trivial,rfl,d.trans (p.mono d.size)⟩
 |some z=>
  obtain⟨i,P⟩:=z;have D:=a4V c;have O:=λF w=>cfI D F w;replace f:=f i P c;rw[c] at j;clear m h l c;go_enter func15,ntmps15;go_wp2_with(go_at_call 32;refine j.mono ?_;rintro e a ⟨⟨o,cp,rfl,H⟩,b⟩;have x:=dR a (ak #[bV (IY i),.func (.func (A9 i)) #[aK PB] #[]] 60);have y:=dR (a.alloc (ak #[bV (IY i),.func (.func (A9 i)) #[aK PB] #[]] 60)) (ak (jl o P.ns.length cp P.nm P.tx) 62);have d:=b.trans ((bf x y).mono b.size);have I:=f o cp _ d (bY (bY H x) y));refine I.mono ?_;rintro e g ⟨t,v,rfl,⟨rfl,q⟩|⟨k,J,K,A,L,M,q⟩⟩
  .go_wp2_with fail;go_ret;exact .inr ⟨t,rfl,q⟩
  .have N:=ze L M J K A;rcases A with rfl|⟨Q,n,rfl, -, -⟩
   all_goals
    go_wp2_with(go_at_call 33;refine N.mono ?_;rintro e S ⟨rfl,p⟩);go_ret;exact .inr ⟨_,rfl,q _ p⟩
theorem a9h {E:Nat->Addr}{W:ai}{PB LB:Nat}(hp:W.cell? (aJ PB 0)=some (aK LB))(x:Ed)(k:Nat)(a:List Int)(g:∀y∈a,kU y)(d:a.length<=1000000)(S:ai->Prop)(hS:∀w w',S w->aD w w'->S w')
  (i:∀j,aD W j->aL 44 #[aK LB,.agg (tq x)] j λe w'=>S w'/\NE E w'/\∃v u,e=ay (aH #[v,u])/\((k=0/\u=aY/\∃b,w'.ownsRow b 3 1 v a.length (di a))\/(1<=k/\F8 E k u w'))):
  aL 43 #[aK PB,.agg (tq x)] W λe w'=>S w'/\((k=0/\e=ay (aH #[au (rQ (a.map yY)),aY]))\/(1<=k/\∃u,e=ay (aH #[bV [],u])/\F8 E k u w')):=by
 have f:=dR W (ak (tq x) 94);have h:=dY W (tq x) 94;have c:=aX hp;simp only at c;have l:=i (W.alloc (ak (tq x) 94)).drew (below_drewN f 1);clear i;go_enter func43,ntmps43;go_upto_region 1 with fail;obtain⟨U,m⟩:∃U,W.alloc (ak (tq x) 94)=U:=⟨_,rfl⟩;have s:=(f.cell (p:=⟨PB,0,none⟩) c).trans hp;rw[m] at f h l s⊢;clear m hp;obtain⟨z,A,B,D,F,H⟩:=EdC.of h;obtain⟨C,o⟩:∃C,W.heap.size=C:=⟨_,rfl⟩;rw[o] at z A B D F H⊢;clear h f c o
 go_region_with (go_at_call 44;refine l.mono ?_;rintro e Q ⟨q,I,v,u,rfl,J⟩)
 all_goals
  rcases J with⟨K,rfl,b,L⟩|⟨M,r⟩
  .have N:=vO I a v rfl L g d;go_wp2_with(go_at_call 54;refine N.mono ?_;rintro e R ⟨rfl,O⟩);exact bg (v:=aH #[au (rQ (a.map yY)),aY]) (by simp[results,results43,go_sem]) rfl ⟨hS _ _ q O,.inl ⟨K,rfl⟩⟩
  .have P:=r;obtain⟨t,y,rfl⟩:∃t y,u=aU t y:=by
    rcases r with rfl|⟨T,n,rfl, -, -⟩
    .exact⟨_,_,rfl⟩
    .exact⟨_,_,rfl⟩
   go_wp2_with fail;exact bg (v:=aH #[bV [],aU t y]) (by simp[results,results43,go_sem]) rfl ⟨q,.inr ⟨M,_,rfl,P⟩⟩
end
open Go.RowKit Go.Maps Go.Shelf
variable {W:ai}{B PB g n cp:Nat}{o:Option Addr}{m:List Int}{nm tx:Bs}{Q:ax->ax->ai->Prop}
theorem uB (h:W.ownsRow B 3 1 (aj o n cp) n (di m))(b:0<n):∃g,o=some ⟨g,0,none⟩/\g<W.heap.size/\∀(k:Nat) (y:Int),m[k]? =some y->W.cell? (aJ g k)=some (ag y):=by
 obtain⟨g,c,d, -,e⟩:=h.form b;cases d;refine⟨g,rfl,e,λk y f=>?_⟩;obtain⟨j,a,i⟩:=eF h k (ag y) (by unfold di;rw[jv,f];rfl);cases a;exact i
theorem a0A (a:Int)(h:W.ownsRow B 3 1 (aj o 1 cp) 1 (di [a]))(b:∀c,aD W c->aL 43 #[aK PB,.agg (tq ⟨yj,a,0,0,[],[]⟩)] c λe w'=>∃u v,e=ay (aH #[u,v])/\Q u v w'):
  aL 22 #[aK PB,.agg (jl o 1 cp nm tx)] W λe w'=>∃u v,e=ay (aH #[u,v])/\Q u v w':=by
 obtain⟨g,rfl,i,d⟩:=uB h aC;have f:=dR W (ak (jl (some ⟨g,0,none⟩) 1 cp nm tx) 62);have l:=(f.cell (p:=⟨g,0,none⟩) i).trans (d 0 a rfl);have j:=b _ f;clear b h d;go_enter func22,ntmps22;go_wp2_with(go_at_call 43;refine j.mono ?_;rintro e m ⟨u,v,rfl,k⟩);exact bg (v:=aH #[u,v]) (by simp[results,results22,go_sem]) rfl ⟨u,v,rfl,k⟩
theorem a4W (a:Int)(h:W.ownsRow B 3 1 (aj o 1 cp) 1 (di [a]))(b:∀c,aD W c->aL 43 #[aK PB,.agg (tq ⟨Dh,a,0,0,nm,[]⟩)] c λe w'=>∃u v,e=ay (aH #[u,v])/\Q u v w'):
  aL 25 #[aK PB,.agg (jl o 1 cp nm tx)] W λe w'=>∃u v,e=ay (aH #[u,v])/\Q u v w':=by
 obtain⟨g,rfl,i,d⟩:=uB h aC;have f:=dR W (ak (jl (some ⟨g,0,none⟩) 1 cp nm tx) 62);have l:=(f.cell (p:=⟨g,0,none⟩) i).trans (d 0 a rfl);have j:=b (W.alloc (ak (jl (some ⟨g,0,none⟩) 1 cp nm tx) 62)).drew (below_drewN f 1);clear b h d;go_enter func25,ntmps25;go_upto_region 1 with fail
 go_region_with (go_at_call 43;refine j.mono ?_;rintro e m ⟨u,v,rfl,k⟩)
 all_goals
  go_wp2_with fail;exact bg (v:=aH #[u,v]) (by simp[results,results25,go_sem]) rfl ⟨u,v,rfl,k⟩
theorem adq (a:Int)(h:W.ownsRow B 3 1 (aj o 1 cp) 1 (di [a]))(b:∀c,aD W c->aL 43 #[aK PB,.agg (tq ⟨SI,a,0,0,nm,tx⟩)] c λe w'=>∃u v,e=ay (aH #[u,v])/\Q u v w'):
  aL 24 #[aK PB,.agg (jl o 1 cp nm tx)] W λe w'=>∃u v,e=ay (aH #[u,v])/\Q u v w':=by
 obtain⟨g,rfl,i,d⟩:=uB h aC;have f:=dR W (ak (jl (some ⟨g,0,none⟩) 1 cp nm tx) 62);have l:=(f.cell (p:=⟨g,0,none⟩) i).trans (d 0 a rfl);have j:=b (W.alloc (ak (jl (some ⟨g,0,none⟩) 1 cp nm tx) 62)).drew (below_drewN f 1);clear b h d;go_enter func24,ntmps24;go_upto_region 1 with fail
 go_region_with (go_at_call 43;refine j.mono ?_;rintro e m ⟨u,v,rfl,k⟩)
 all_goals
  go_wp2_with fail;exact bg (v:=aH #[u,v]) (by simp[results,results24,go_sem]) rfl ⟨u,v,rfl,k⟩

import Derived.Test.YtbkjmamcnflncaaGreatDoorQs23
namespace Go.Proofs.YtbkjmamcnflncaaGreatDoor
open Go.Proofs.Tryz
set_option maxHeartbeats 16000000
section
open Go.RowKit
def gG:List Qt->List au
 |[]=>[]
 |a::r=>ag a.xn::ag a.xd::ag a.yn::ag a.yd::gG r
theorem yV:∀l:List Qt,(gG l).length=l.length*4
 |[]=>rfl
 |x::r=>by simp[gG,yV r];omega
theorem GN:∀l m:List Qt,gG (l++m)=gG l++gG m
 |[],_=>rfl
 |x::r,m=>by simp[gG,GN r m]
theorem GQ:∀(l:List Qt) (j:Nat) (u:au),(gG l)[j]? =some u->∃i x,l[i]? =some x/\((j=i*4/\u=ag x.xn)\/(j=i*4+1/\u=ag x.xd)\/(j=i*4+2/\u=ag x.yn)\/(j=i*4+3/\u=ag x.yd))
 |[],j,u,h=>by simp[gG] at h
 |x::r,0,u,h=>by simp[gG] at h;exact⟨0,x,rfl,.inl ⟨rfl,h.symm⟩⟩
 |x::r,1,u,h=>by simp[gG] at h;exact⟨0,x,rfl,.inr (.inl ⟨rfl,h.symm⟩)⟩
 |x::r,2,u,h=>by simp[gG] at h;exact⟨0,x,rfl,.inr (.inr (.inl ⟨rfl,h.symm⟩))⟩
 |x::r,3,u,h=>by simp[gG] at h;exact⟨0,x,rfl,.inr (.inr (.inr ⟨rfl,h.symm⟩))⟩
 |x::r,j+4,u,h=>by
  have a:(gG r)[j]? =some u:=by simpa[gG] using h
  obtain⟨i,y,b,c⟩:=GQ r j u a;refine⟨i+1,y,by simpa using b,?_⟩;grind
theorem GR:∀(l:List Qt) (i:Nat) (x:Qt),l[i]? =some x->(gG l)[i*4]? =some (ag x.xn)/\(gG l)[i*4+1]? =some (ag x.xd)/\(gG l)[i*4+2]? =some (ag x.yn)/\(gG l)[i*4+3]? =some (ag x.yd)
 |[],i,x,h=>by simp at h
 |y::r,0,x,h=>by simp at h;subst h;exact⟨rfl,rfl,rfl,rfl⟩
 |y::r,i+1,x,h=>by
  have a:=GR r i x (by simpa using h);rw[show(i+1)*4=i*4+4 from by omega];simpa[gG,Nat.add_right_comm _ 4] using a
theorem GU (l:List Qt):∀u∈gG l,u.oneCell'=true:=λu a=>by
 obtain⟨j,b⟩:=List.getElem?_of_mem a;obtain⟨i,x, -,⟨-,rfl⟩|⟨-,rfl⟩|⟨-,rfl⟩|⟨-,rfl⟩⟩:=GQ l j u b<;>rfl
theorem addr_add (b off k:Nat):(⟨b,off,none⟩:Addr).add k=⟨b,off+k,none⟩:=by unfold Addr.add;split<;>simp_all
def kF (w:ah)(a:Nat)(v:au)(l:List Qt):Prop:=w.ownsRow a 233 4 v l.length (gG l)
theorem kF.at_ {w:ah}{c:Nat}{v:au}{l:List Qt}(h:kF w c v l)(k:∀a∈l,PI a):∃o b,v=aj o l.length b/\iw w o l:=by
 rcases h.2 with⟨rfl,f⟩|⟨g,b,m,rfl, -⟩
 .have:l=[]:=by grind
  subst this;exact⟨none,0,rfl,λi a d=>by simp at d⟩
 .refine⟨_,b,rfl,λi a d=>⟨g,0,rfl,?_⟩⟩;have e:∀j u,(gG l)[j]? =some u->w.cell? (aH g j)=some u:=λj u n=>by
   have:=World.ownsRow.cells h (g:=g) rfl j u n;rw[addr_add,fZ] at this;exact this
  obtain⟨f,p,q,r⟩:=GR l i a d;rw[fZ];exact⟨e _ _ f,e _ _ p,e _ _ q,e _ _ r,k a (gN d)⟩
theorem a2J:(prog.info? 233).map (λi=>(i.zero,i.size,i.bytes))=some (some (.agg #[ag 0,ag 0,ag 0,ag 0]),4,32):=az
theorem WW {w:ah}{a:Nat}{e:TypeId}{b:Nat}{v:au}{n:Nat}{d:List au}(h:w.ownsRow a e b v n d):∀k,v.ownBlock=some k->a<=k:=by
 obtain⟨_,f⟩:=h;rcases f with⟨rfl,_⟩|⟨g,i,j,rfl,l,_⟩
 .intro k c;cases c
 .intro k c;cases c;exact l
theorem kF.nil (w:ah)(a:Nat):kF w a (aj none 0 0) []:=gp _ _ _ _
theorem kF.app {w:ah}{a:Nat}{v:au}{l m:List Qt}{k:Nat}(h:w.ownsRow a 233 4 v (l.length+k) (gG l++gG m))(b:k=m.length):kF w a v (l++m):=by
 unfold kF;rw[GN,dJ,<- b];exact h
def Uw (a:Qt):Pt:=⟨⟨a.xn,a.xd⟩,⟨a.yn,a.yd⟩⟩
theorem EI {a:Qt}(h:iJ a=0):PI a:=by
 obtain⟨b,c⟩:=iQ.1 h;obtain⟨d,e⟩:=jy b;obtain⟨f,g⟩:=jy c;exact⟨d,e,f,g⟩
theorem afS (w:ah)(a b c:Obj):∀U,((w.alloc a).alloc b).alloc c=U->
  U.heap[w.heap.size]? =some a/\U.heap[w.heap.size+1]? =some b/\U.heap[w.heap.size+1+1]? =some c/\aD w U:=by
 rintro U rfl;refine⟨?_,?_,?_,?_⟩
 .exact jS _ (jS _ (uy _ rfl))
 .exact jS _ (uy _ aG)
 .exact uy _ aG
 .exact(((aQ _ _).alloc ay _).alloc aG _).alloc aX _
theorem Z6 {w w':ah}{b n:Nat}{o:Obj}(a:Below n w w')(c:w.heap.size<=n)(h:w.heap[b]? =some o):w'.heap[b]? =some o:=(a.block _ (dP (dZ.1 h).1 c)).trans h
theorem kG {w w':ah}{b:Nat}{o:Obj}(a:aD w w')(h:w.heap[b]? =some o):w'.heap[b]? =some o:=Z6 a ay h
theorem kF.far {w:ah}{a b:Nat}{v u:au}{l:List Qt}(h:kF w a v l)(m:b<a):kF (w.setCell ⟨b,0,none⟩ u) a v l:=by
 refine⟨h.1,?_⟩;rcases h.2 with e|⟨g,c,d,f,i,j,k⟩
 .exact .inl e
 .refine .inr ⟨g,c,d,f,i,?_,k⟩;rw[bY _ _ _ g aX];exact j
theorem kF.low {w:ah}{a b:Nat}{v:au}{l:List Qt}(h:kF w a v l)(e:b<=a):kF w b v l:=by
 refine⟨h.1,?_⟩;rcases h.2 with f|⟨g,c,d,i,j,k⟩
 .exact .inl f
 .exact .inr ⟨g,c,d,i,bu e j,k⟩
theorem kF.keep {w w':ah}{a:Nat}{v:au}{l:List Qt}(h:kF w a v l)(d:aD w w'):kF w' a v l:=by
 refine⟨h.1,?_⟩;rcases h.2 with e|⟨g,b,c,f,i,j,k⟩
 .exact .inl e
 .exact .inr ⟨g,b,c,f,i,kG d j,k⟩
end
section
open Go.RowKit Go.Shelf
set_option maxRecDepth 20000
def CkR (E:Nat->Addr)(l:List Qt)(o:Option Addr)(a:Nat)(e:Ending)(w':ah):Prop:=
 (okB l=true/\e=ax (aF #[.agg #[aj o l.length a],aU]))\/(okB l=false/\∃v,e=ax (aF #[.agg #[aj none 0 0],v])/\Su E 2 v w')
theorem Aj (l:List Qt):okB l=true↔oU l:=by
 unfold okB oU;simp
theorem ab8 {E:Nat->Addr}{w W:ah}{l:List Qt}{e:Ending}(t:∀y∈l,iJ y=0)(h:a1p (E 2) (E 3) (E 2) w l e W):∃v,e=ax v/\((okB l=true/\v=aU)\/(okB l=false/\(v=eV (E 2)\/∃a,w.heap.size<=a/\v=aP 67 (aI a)/\W.cell? (aH a 1)=some (eV (E 2))))):=by
 rcases h with⟨d,b⟩|⟨-,⟨y,c,g⟩, -⟩|⟨d,b,i⟩
 .exact⟨_,b,.inr ⟨by rw[<- Bool.not_eq_true,Aj];exact λh=>by have:=h.1;omega,.inl rfl⟩⟩
 .grind
 .rcases i with⟨f,j⟩|⟨q,x,r,a,f, -,u,k,m, -,n⟩
  .exact⟨_,j,.inl ⟨(Aj l).2 ⟨d,λy c=>by unfold jQ;rw[if_neg (by simp[b y c])];exact f y c⟩,rfl⟩⟩
  .have o:mX x=2:=by have:=qB x;omega
   refine⟨_,m,.inr ⟨?_,.inr ⟨a,k,rfl,by rw[n,o];rfl⟩⟩⟩;rw[<- Bool.not_eq_true,Aj];intro p;have s:x∈l:=by grind
   have:=p.2 x s;unfold jQ at this;grind
theorem GV {E:Nat->Addr}(l:List Qt)(B:∀y∈l,iJ y=0)(o:Option Addr)(a:Nat)(w:ah)(h:iw w o l)(hE:NE E w):
  aJ 321 #[aj o l.length a] w λe W=>CkR E l o a e W/\aD w W:=by
 go_enter func321,ntmps321;go_upto_region 2 with fail;obtain⟨U,c⟩:∃U,(w.alloc (ai #[aj none 0 0] 113)).alloc (ai #[aj o l.length a] 113)=U:=⟨_,rfl⟩;have j:aD w U:=by rw[<- c];exact((aQ _ _).alloc ay _).alloc aG _
 have b:U.cell? ⟨w.heap.size,0,none⟩=some (aj none 0 0)/\U.frozen? ⟨w.heap.size,0,none⟩=false:=by
  rw[<- c];have d:=bZ (w.alloc (ai #[aj none 0 0] 113)) (ai #[aj o l.length a] 113);exact⟨(d.cell (p:=⟨w.heap.size,0,none⟩) aG).trans (kN w _ _).1,(d.frozen (p:=⟨w.heap.size,0,none⟩) aG).trans (kN w _ _).2⟩
 have k:U.cell? ⟨w.heap.size+1,0,none⟩=some (aj o l.length a):=by
  have d:=(kN (w.alloc (ai #[aj none 0 0] 113)) (aj o l.length a) 113).1;rw[show(w.alloc (ai #[aj none 0 0] 113)).heap.size=w.heap.size+1 from by simp,c] at d;exact d
 rw[c];clear c;obtain⟨b,t⟩:=b;have u:=zT (E 2) (E 3) (E 2) l o a U (h.below j ay) (hE.e3.below j ay);have C:w.heap.size<U.heap.size:=aR b;have D:=aA B;go_upto_region 3 with(go_at_call 182;refine u.mono ?_;rintro e x ⟨z,g⟩;obtain⟨v,rfl,m⟩:=ab8 D.out z);have A:=(g.cell (aR b)).trans b;have I:=(g.frozen (aR b)).trans t;have J:=(g.cell (aR k)).trans k;have n:=aN j g;clear z u b t k;rcases m with⟨q,rfl⟩|⟨f,F⟩
 .go_wp2_with fail;have i:(x.setCell ⟨w.heap.size,0,none⟩ (aj o l.length a)).cell? ⟨w.heap.size,0,none⟩=some (aj o l.length a):=iA _ _ _ (by rw[A];rfl);exact bodyPost_ret (v:=aF #[.agg #[aj o l.length a],aU]) (by simp[results,results321,go_sem,i]) rfl ⟨.inl ⟨q,rfl⟩,n.setCell aG _⟩
 .have i:(x.setCell ⟨w.heap.size,0,none⟩ (aj none 0 0)).cell? ⟨w.heap.size,0,none⟩=some (aj none 0 0):=iA _ _ _ (by rw[A];rfl);rcases F with rfl|⟨r,H,rfl,s⟩
  .go_wp2_with fail;exact bodyPost_ret (v:=aF #[.agg #[aj none 0 0],eV (E 2)]) (by simp[results,results321,go_sem,i]) rfl ⟨.inr ⟨f,_,rfl,aC,aC,.inl rfl⟩,n.setCell aG _⟩
  .go_wp2_with fail;refine bodyPost_ret (v:=aF #[.agg #[aj none 0 0],aP 67 (aI r)]) (by simp[results,results321,go_sem,i]) rfl ⟨.inr ⟨f,_,rfl,aC,aC,.inr ⟨r,0,rfl,?_⟩⟩,n.setCell aG _⟩;exact(bN _ _ _ _ (by show w.heap.size≠r;omega)).trans s
def qI (E:Nat->Addr)(x:Except Nat (List Qt))(e:Ending)(w':ah):Prop:=match x with
 | .ok l=>(∀a∈l,iJ a=0)/\okB l=true/\∃o b,e=ax (aF #[.agg #[aj o l.length b],aU])/\iw w' o l
 | .error c=>∃v,e=ax (aF #[.agg #[aj none 0 0],v])/\Su E c v w'
def ptB (w:aM):Option Qt:=ptM w.data.toList
theorem a6Z {w:Bs}{q:Qt}(h:ptM w=some q):iJ q=0:=by
 unfold ptM at h;cases c:behind 44 w with
 |none=>rw[c] at h;cases h
 |some b=>
  rw[c] at h;dsimp only at h;by_cases a:(rd (ahead 44 w)).c=0/\(rd b).c=0
  .rw[if_pos a] at h;obtain rfl:=fF h;exact iQ.2 ⟨VT a.1,VT a.2⟩
  .rw[if_neg a] at h;cases h
theorem Z7 {f:aM->Option Qt}{ws:List aM}{k:Nat}{L:List Qt}{x:aM}{q:Qt}(h:(ws.take k).mapM f=some L)(a:ws[k]? =some x)(b:f x=some q):(ws.take (k+1)).mapM f=some (L++[q]):=by
 rw[dS,a];simp[List.mapM_append,h,b]
theorem WZ {f:aM->Option Qt}:∀{ws:List aM} {k:Nat} {x:aM},ws[k]? =some x->f x=none->ws.mapM f=none
 |[],_,_,h,_=>by simp at h
 |y::ws,0,x,h,a=>by
  simp at h;subst h;simp[a]
 |y::ws,k+1,x,h,a=>by
  have:=WZ (ws:=ws) (k:=k) (by simpa using h) a;simp[this]
def a2K (ws:List aM):Except Nat (List Qt):=match ws.mapM ptB with
 |none=>.error 1
 |some l=>if okB l then .ok l else .error 2
theorem Su.far {E:Nat->Addr}{c:Nat}{v u:au}{w:ah}{b:Nat}(h:Su E c v w):Su E c v (w.setCell ⟨b,0,none⟩ u):=by
 obtain⟨d,e,a⟩:=h;refine⟨d,e,?_⟩;rcases a with a|⟨f,g,a,i⟩
 .exact .inl a
 .exact .inr ⟨f,g,a,(World.cell?_setCell_other _ _ _ _ (by intro h;simp at h)).trans i⟩
def SrL (ws:List aM)(b:ah)(x y:au)(wr:ah):Prop:=∃(k:Nat) (L:List Qt) (v:au),x=v/\y=ag k/\k<=ws.length/\(ws.take k).mapM ptB=some L/\(∀a∈L,iJ a=0)/\L.length=k/\kF wr b.heap.size v L/\aD b wr
section
variable {E:Nat->Addr}{W:ah}
theorem QA (hN:NE E W)(s:aM)(hs:s.size<=1000)(h0:s.size≠0):
  aJ 260 #[ak s] W λe w'=>qI E (a2K (words s)) e w'/\aD W w':=by
 obtain⟨i0,hi,a6,a7,a8⟩:=info_parts a2J;have b0:=dI W (ai #[aj none 0 0] 113);have K0:=dN W #[aj none 0 0] 113;have SP:=Bn s aa (W.alloc (ai #[aj none 0 0] 113));have o:(words s).length=Lib.countB s ⟨#[32]⟩+1:=Lib.splitB_all ⟨#[32]⟩ aC 0 _ s rfl;have a9:=Lib.countB_le ⟨#[32]⟩ aC s.size s ay;have H:∀a∈words s,a.size<=1000:=λa p=>by have:=Gq _ s a p;omega
 have I:(Lib.splitB ⟨#[32]⟩ 0 (Lib.countB s ⟨#[32]⟩) s)=words s:=rfl;rw[I,<- o] at SP;have b5:(words s).length<=1001:=aa;generalize words s=c at SP H b5⊢;clear I o a9;have c2:s.toList.isEmpty=false:=by
  rw[gz,List.isEmpty_eq_false_iff];intro e;exact h0 (by rw[<- lX,e];rfl)
 have b1:=dI (W.alloc (ai #[aj none 0 0] 113)) (ai (c.map Value.string).toArray 9);have KW:=dN (W.alloc (ai #[aj none 0 0] 113)) (c.map Value.string).toArray 9;have HN:=aA hN;clear hN;go_enter func260,ntmps260;go_upto_region 5 with(go_at_call 291;refine SP.mono ?_;rintro e J ⟨rfl,rfl⟩);clear SP;obtain⟨J,K⟩:∃U,(W.alloc (ai #[aj none 0 0] 113)).alloc (ai (c.map Value.string).toArray 9)=U:=⟨_,rfl⟩;obtain⟨WB,i⟩:∃b,(W.alloc (ai #[aj none 0 0] 113)).heap.size=b:=⟨_,rfl⟩;have c3:W.heap.size<WB:=by rw[<- i];simp
 have K1:=(b1.block _ (dz K0)).trans K0;have yU:=aW b0 b1;rw[K] at yU K1 KW⊢;rw[i] at KW;simp only[dK] at i;simp only[i];clear K b0 b1 K0
 go_loopw [4,15] (λx y wr=>SrL c J x y wr) (λ_ y _=>c.length-(intOf y).toNat)
 case atStart=>exact⟨0,[],_,rfl,rfl,bf _,rfl,aG,rfl,kF.nil _ _,aQ _ _⟩
 case round=>
  obtain⟨k,L,v,rfl,rfl,hk,hL,hC,r,hO,M⟩:=hrel;have HL:=aA hL;have HC:=aA hC;obtain⟨j,l,rfl,N⟩:=hO.at_ (λa p=>EI (hC a p));rw[r] at hO⊢;have C:=aA r;have HO:=aA hO;have O:=aA N;have NR:=HN.out.below (aW yU M);have KR:=(M.block _ (dz K1)).trans K1;have KV:=(M.block _ (dz KW)).trans KW;have r0:=aO KR 0 _ rfl;have f0:=gm KR 0;have t:=aW yU M;clear hL hC r hO N;by_cases P:k<c.length
  .have Q:(k:Int)<(c.length:Int):=aa;obtain⟨x,hx⟩:∃x,c[k]? =some x:=⟨_,eZ P⟩;have hc:=aO KV k (ak x) (by simp[hx]);have D:=Jp NR x (H x (gN hx));have HX:=aA hx;clear hx;cases w:ptM x.data.toList with
   |none=>
    rw[w] at D;have HQ:=aA w;clear w;have HA:Hid (a2K c=.error 1):=by
     unfold a2K Hid;rw[WZ HX.out HQ.out]
    go_upto_region 9 with(go_at_call 322;refine D.mono ?_;rintro e d ⟨rfl,f⟩);have z:=dI d (ai #[ag 0,ag 0,ag 0,ag 0] 233);obtain⟨U,R⟩:∃U,d.alloc (ai #[ag 0,ag 0,ag 0,ag 0] 233)=U:=⟨_,rfl⟩;rw[R] at z⊢;have F:=aW f z;have NU:=NR.below F;have e1:=NU.c1;have KU:=(F.block _ (dz KR)).trans KR;have S:=aO KU 0 _ rfl;have uf:=gm KU 0;have hg:1<W.heap.size:=aR HN.out.c1;have c4:(U.setCell ⟨W.heap.size,0,none⟩ (aj none 0 0)).cell? (aH 1 0)=some (eV (E 1)):=(bN _ _ _ _ (by show W.heap.size≠1;omega)).trans e1;clear D R f z hc;go_region
    all_goals go_wp2_with fail
    all_goals refine bodyPost_ret (v:=aF #[.agg #[aj none 0 0],eV (E 1)]) (by simp[results,results260,go_sem,S]) rfl ⟨?_,below_drewN ((aW t F).setCell ay _) 1⟩
    all_goals rw[HA.out]
    all_goals exact⟨_,rfl,aC,aC,.inl rfl⟩
   |some q=>
    rw[w] at D;have HQ:=aA w;have b6:=a6Z w;clear w;go_upto_region 10 with(go_at_call 322;refine D.mono ?_;rintro e d ⟨rfl,f⟩);have z:=dI d (ai #[ag q.xn,ag q.xd,ag q.yn,ag q.yd] 233);have F3:=Four.new d (ag q.xn) (ag q.xd) (ag q.yn) (ag q.yd) 233;obtain⟨U,R⟩:∃U,d.alloc (ai #[ag q.xn,ag q.xd,ag q.yn,ag q.yd] 233)=U:=⟨_,rfl⟩;obtain⟨BQ,T⟩:∃b,d.heap.size=b:=⟨_,rfl⟩;rw[R] at z F3⊢;rw[T] at F3⊢;have F:=aW f z;have b8:=aW M F;have b7:=b8.size;have V:U.ownsRow J.heap.size 233 4 (aj j k l) k (gG L):=by
     have h:=HO.out.keep F;unfold kF at h;rw[C.out] at h;exact h
    have b9:=eO U (ai #[ag q.xn,ag q.xd,ag q.yn,ag q.yd] 233);have X:(U.alloc (ai #[ag q.xn,ag q.xd,ag q.yn,ag q.yd] 233)).ownsRow J.heap.size 233 4 (aj j k l) k (gG L):=ig V _;have HT:Hid ((c.take (k+1)).mapM ptB=some (L++[q])):=Z7 HL.out HX.out HQ.out;obtain⟨f0,f1,f2,f3⟩:=F3;clear D R T f z hc V r0 KR KV NR O;go_wp2_with(at_builtin;refine wpList_append_own _ rfl _ _ 111 rfl (J.heap.size) 233 i0 (.agg #[ag 0,ag 0,ag 0,ag 0]) 4 32 underlying111 hi a6 a7 a8 rfl aC _ _ _ rfl X _ _ _ (gG [q]) rfl (yV [q]) (World.news_of_block b9) (GU _) (by simp only[maxLen];omega) aa aX ?_;intro c0 c5 Y c1 _)
    go_roundw
    case rel=>
     refine⟨k+1,L++[q],c0,rfl,by go_num,P,HT.out,λa p=>?_,by simp[C.out],?_,(b8.alloc b7 _).grown c1 aX (WW X)⟩
     .rcases gT.1 p with h|h
      .exact HC.out a h
      .simp at h;rw[h];exact b6
     .rw[<- C.out] at Y;exact kF.app (m:=[q]) Y rfl
    case measure=>simp[intOf];omega
  .have Q:¬(k:Int)<(c.length:Int):=aa;obtain rfl:k=c.length:=aa;have HT:Hid (c.mapM ptB=some L):=by
    have:=HL.out;rw[gq] at this;exact this
   have Z:=C.out;have CK:=GV L HC.out j l wr O.out NR;rw[Z] at CK;clear Z;have a4:Hid (a2K c=if okB L then .ok L else .error 2):=by
    unfold a2K Hid;rw[HT.out]
   go_upto_region 12 with fail;have a5:∀d,aD wr d->d.cell? ⟨W.heap.size,0,none⟩=some (aj none 0 0)/\d.frozen? ⟨W.heap.size,0,none⟩=false:=λd f=>by
    have:=(f.block _ (dz KR)).trans KR;exact⟨aO this 0 _ rfl,gm this 0⟩
   clear r0 f0 KR KV;cases g:okB L with
   |true=>
    have A:aJ 321 #[aj j c.length l] wr λe w'=>e=ax (aF #[.agg #[aj j c.length l],aU])/\aD wr w':=CK.mono λe w' ⟨h,B⟩=>by
     rcases h with⟨-,h⟩|⟨h, -⟩
     .rw[C.out] at h;exact⟨h,B⟩
     .rw[g] at h;cases h
    have n:=aA g;clear CK g;go_wp2_with(go_at_call 321;refine A.mono ?_;rintro e d ⟨rfl,f⟩;obtain⟨S,uf⟩:=a5 d f);refine bodyPost_ret (v:=aF #[.agg #[aj j c.length l],aU]) (by simp[results,results260,go_sem,S]) rfl ⟨?_,(aW t f).setCell ay _⟩;rw[a4.out,if_pos n.out];refine⟨HC.out,n.out,j,l,by rw[C.out],?_⟩;have ho:=(HO.out.keep f).far (b:=W.heap.size) (u:=aj j c.length l) (by have:=dz K1;have:=yU.size;omega);obtain⟨o',c',h1,h2⟩:=ho.at_ (λa p=>EI (HC.out a p));injection h1 with h1;subst h1;exact h2
   |false=>
    have A:aJ 321 #[aj j c.length l] wr λe w'=>(∃v,e=ax (aF #[.agg #[aj none 0 0],v])/\Su E 2 v w')/\aD wr w':=CK.mono λe w' ⟨h,B⟩=>by
     rcases h with⟨h, -⟩|⟨-,h⟩
     .rw[g] at h;cases h
     .exact⟨h,B⟩
    have n:Hid (¬okB L=true):=by show¬_;rw[g];simp
    clear CK g;go_wp2_with(go_at_call 321;refine A.mono ?_;rintro e d ⟨⟨v,rfl,hv⟩,f⟩;obtain⟨S,uf⟩:=a5 d f);refine bodyPost_ret (v:=aF #[.agg #[aj none 0 0],v]) (by simp[results,results260,go_sem,S]) rfl ⟨?_,(aW t f).setCell ay _⟩;rw[a4.out,if_neg n.out];exact⟨v,rfl,hv.far⟩
theorem Uy (b:NE E W)(s:Bs)(hs:s.length<=1000):
  aJ 260 #[bV s] W λe w'=>qI E (Gd s) e w'/\aD W w':=by
 unfold Gd;by_cases a:s=[]
 .subst a;rw[if_pos rfl];clear b;go_enter func260,ntmps260;go_wp2;have c:=dI W (ai #[aj none 0 0] 113);refine bodyPost_ret (v:=aF #[.agg #[aj none 0 0],aU]) (by simp[results,results260,go_sem]) rfl ⟨⟨aG,rfl,none,0,rfl,λi x h=>by simp at h⟩,c⟩
 .rw[if_neg a];have h:=QA b ⟨s.toArray⟩ hs (λh=>a (lS.1 h));have e:(λ(w:aM)=>ptM w.toList)=ptB:=by
   funext w;unfold ptB;rw[gz]
  rw[e];exact h
end
end
section
open Go.RowKit Go.Shelf
theorem a7a {w:ah}{b:Nat}{a:Option Addr}{n c:Nat}{t:TypeId}{u:au}{o:Option Addr}{l:List Qt}(j:w.heap[b]? =some (ai #[aj a n c] t))(h:iw w o l):iw (w.setCell ⟨b,0,none⟩ u) o l:=λi x m=>by
 obtain⟨d,e,p,q⟩:=h i x m;obtain⟨g,r,s,v,y⟩:=q;have f:b≠d:=by
  rintro rfl;simp only[World.cell?,j] at g;grind
 have F:=λ(k:Nat)=>bN w ⟨b,0,none⟩ ⟨d,k,none⟩ u f;exact⟨d,e,p,(F _).trans g,(F _).trans r,(F _).trans s,(F _).trans v,y⟩
theorem qI.far {E:Nat->Addr}{x:Except Nat (List Qt)}{e:Ending}{w:ah}{b:Nat}{a:Option Addr}{n c:Nat}{t:TypeId}{u:au}(h:qI E x e w)(i:w.heap[b]? =some (ai #[aj a n c] t)):qI E x e (w.setCell ⟨b,0,none⟩ u):=by
 cases x with
 |error k=>
  obtain⟨v,d,f⟩:=h;exact⟨v,d,f.far⟩
 |ok l=>
  obtain⟨j,d,o,g,f,m⟩:=h;exact⟨j,d,o,g,f,a7a i m⟩
theorem qI.is {E:Nat->Addr}{x:Except Nat (List Qt)}{e:Ending}{w:ah}(h:qI E x e w):∃o n c v,e=ax (aF #[.agg #[aj o n c],v]):=by
 cases x with
 |error k=>obtain⟨v,a, -⟩:=h;exact⟨_,_,_,_,a⟩
 |ok l=>obtain⟨-, -,o,b,a, -⟩:=h;exact⟨_,_,_,_,a⟩
section
variable {E:Nat->Addr}{B:Nat}{A:dm}{W:ah}{DB C:Nat}{p:Int->Option Nat}{M:Dm}{nx c:Nat}
theorem Uz (f:NE E W)(g:bT B A W DB C p M nx c)(o:SzD M)(h:Nat)(i:W.cell? (aH h 0)=some (aI DB))(n:Int)(q:dV n):
  aJ 191 #[aI h,ag n] W λe w'=>qI E (Kj M n) e w'/\aD W w':=by
 have a:=dI W (ai #[aj none 0 0] 113);have j:=dN W #[aj none 0 0] 113;have b:=mZ (g.below a) n q A8;have r:=(a.cell (aR i)).trans i;rw[wE] at b;have k:=Qu o n A8;unfold Kj;unfold Mg at k⊢;generalize (DU M n A8).getD []=s at b k⊢;generalize (DU M n A8).isSome=J at b;have RD:=λV (t:NE E V)=>Uy t s aa;generalize Gd s=x at RD⊢;have u:=aA f;clear g f;go_enter func191,ntmps191;go_wp2_with(first|(go_at_call 169;refine b.mono ?_;rintro e w ⟨rfl,d⟩;have y:=RD w (u.out.below (aW a d)))|(go_at_call 260;refine y.mono ?_;rintro e K ⟨l,m⟩;obtain⟨z,D,F,H,rfl⟩:=l.is;have K2:=((aW d m).block _ (dz j)).trans j;have I:=aO K2 0 _ rfl;have L:=gm K2 0));refine bodyPost_ret (v:=aF #[.agg #[aj z D F],H]) (by simp[results,results191,go_sem,I]) rfl ⟨l.far K2,(aW a (aW d m)).setCell ay _⟩
end
set_option maxRecDepth 20000
theorem abb {E:Nat->Addr}(g l m p F H I J:Int)(w:ah)(a7:fH g l=0)(a8:fH m p=0)(a9:fH F H=0)(b0:fH I J=0)(hN:NE E w):
  aJ 259 #[.agg #[ag g,ag l],.agg #[ag m,ag p],.agg #[ag F,ag H],.agg #[ag I,ag J]] w λe W=>qI E (um ⟨g,l,0⟩ ⟨m,p,0⟩ ⟨F,H,0⟩ ⟨I,J,0⟩) e W/\aD w W:=by
 obtain⟨O,P⟩:=jy a7;obtain⟨Q,R⟩:=jy a8;obtain⟨c4,c5⟩:=jy a9;obtain⟨Aa,c6⟩:=jy b0;have Z8:=aA hN;have hE:=hN.e3;have e3:Hid (fH g l=0/\fH m p=0/\fH F H=0/\fH I J=0):=⟨a7,a8,a9,b0⟩;obtain⟨f6,sG⟩:∃a,um ⟨g,l,0⟩ ⟨m,p,0⟩ ⟨F,H,0⟩ ⟨I,J,0⟩=a:=⟨_,rfl⟩;rw[sG];have S:=aA sG;clear hN a7 a8 a9 b0 sG;go_enter func259,ntmps259;go_wp2;obtain⟨U,hU⟩:∃U,(((((w.alloc (ai #[ag g,ag l] 163)).alloc (ai #[ag m,ag p] 163)).alloc (ai #[ag F,ag H] 163)).alloc (ai #[ag I,ag J] 163)).alloc (ai #[aj none 0 0] 113)).alloc (ai #[ag g,ag l,ag m,ag p,ag F,ag H,ag I,ag J] 163)=U:=⟨_,rfl⟩;obtain⟨k0,k1,k2,k3,k4,T,uh⟩:=afM w _ _ _ _ _ _ U hU;rw[hU];clear hU;have Sv:=hE.below uh ay;obtain⟨L,hL⟩:∃L:List (Int×Int),L=[(g,l),(m,p),(F,H),(I,J)]:=⟨_,rfl⟩;have c7:L.length=4:=by rw[hL];rfl
 have c8:∀j n d,L[j]? =some (n,d)->U.cell? ⟨w.heap.size+1+1+1+1+1,j*2,none⟩=some (ag n)/\U.cell? ⟨w.heap.size+1+1+1+1+1,j*2+1,none⟩=some (ag d)/\kS n/\kS d:=λj n d t=>by
  rw[hL] at t
  match j,t with
  |0,t=>cases t;exact⟨bH T 0 _ rfl,bH T 1 _ rfl,O,P⟩
  |1,t=>cases t;exact⟨bH T 2 _ rfl,bH T 3 _ rfl,Q,R⟩
  |2,t=>cases t;exact⟨bH T 4 _ rfl,bH T 5 _ rfl,c4,c5⟩
  |3,t=>cases t;exact⟨bH T 6 _ rfl,bH T 7 _ rfl,Aa,c6⟩
  |(j+4),t=>simp at t
 have HL:=aA hL;have c9:Hid _:=c8;have Ux:=aA c7;clear hL c8 c7 T
 go_loopw [22] (λy wr=>∃k:Nat,k<=4/\y=ag k/\(∀j n d,j<k->L[j]? =some (n,d)->fH n d=0)/\aD U wr) (λy _=>4-(intOf y).toNat)
 case atStart=>exact⟨0,aa,rfl,λj n d t=>aa,aQ _ _⟩
 case round=>
  obtain⟨k,hk,rfl,a6,K⟩:=hrel;have HA:=aA a6;clear a6;by_cases f7:k<4
  .have f5:(k:Int)<4:=aa;obtain⟨⟨n,d⟩,b7⟩:∃x,L[k]? =some x:=⟨_,eZ (by have:=Ux.out;omega)⟩;obtain⟨c0,c1,e4,e5⟩:=c9.out k n d b7;have c0:=(K.cell (aR c0)).trans c0;have c1:=(K.cell (aR c1)).trans c1;have HN:=aA b7;have e6:=bZ wr (ai #[ag n,ag d] 163);have d0:=aN K e6;have CK:=kI (E 2) (E 3) (E 2) n d (wr.alloc (ai #[ag n,ag d] 163)) e4 e5 (Sv.below d0 ay);clear b7;by_cases hc:fH n d=0
   .rw[hc] at CK;have HC:=aA hc;clear hc;go_wp2_with(go_at_call 185;refine CK.mono ?_;rintro e w1 ⟨rfl,b1⟩;simp only[vG])
    go_roundw
    case rel=>exact⟨k+1,aa,by go_num,λj n' d' t d1=>by
     rcases Nat.lt_or_ge j k with h|h
     .exact HA.out j n' d' h d1
     .obtain rfl:j=k:=aa;have:=HN.out.symm.trans d1;cases this;exact HC.out,aN d0 b1⟩
    case measure=>simp[intOf];omega
   .exfalso;apply hc;have q:=HN.out;rw[HL.out] at q;obtain⟨q1,q2,q3,X⟩:=e3.out
    match k,q with
    |0,q=>cases q;exact q1
    |1,q=>cases q;exact q2
    |2,q=>cases q;exact q3
    |3,q=>cases q;exact X
    |(j+4),q=>simp at q
  .obtain rfl:k=4:=aa;have h4:=HA.out;rw[HL.out] at h4;have cx:fH g l=0:=h4 0 g l aa rfl;have cy:fH m p=0:=h4 1 m p aa rfl;have cw:fH F H=0:=h4 2 F H aa rfl;have ch:fH I J=0:=h4 3 I J aa rfl;clear h4 HA;have d2:=Sv.below K ay;have r:=λ{b:Nat} {o:Obj} (h:U.heap[b]? =some o)=>(dZ.1 h).1;have M:=(K.block _ (r k0)).trans k0;have N:=(K.block _ (r k1)).trans k1;have j2:=(K.block _ (r k2)).trans k2;have j3:=(K.block _ (r k3)).trans k3;have s:=(K.block _ (r k4)).trans k4;have e7:=aN uh K;clear r k0 k1 k2 k3 k4 HL c9 Ux;have AX:=Fe (E 2) (E 3) (E 2) g l F H wr O P c4 c5 d2;have a0:=bH M 0 _ rfl;have a1:=bH M 1 _ rfl;have a2:=bH j2 0 _ rfl;have a3:=bH j2 1 _ rfl;obtain⟨u,z,c,f⟩:∃n d c,add g l F H=⟨n,d,c⟩:=⟨_,_,_,rfl⟩;rw[f] at AX;have HX:=aA f;clear f;go_upto_region 9 with(go_at_call 320;refine AX.mono ?_;rintro e w1 ⟨rfl,b1⟩);have Y:=a9r cx cw;rw[HX.out] at Y;have Y:c=0\/c=2:=Y;have b2:=bZ w1 (ai #[ag u,ag z] 163);have kX:=eO w1 (ai #[ag u,ag z] 163);obtain⟨V,hV⟩:∃V,w1.alloc (ai #[ag u,ag z] 163)=V:=⟨_,rfl⟩;obtain⟨BX,d3⟩:∃B,w1.heap.size=B:=⟨_,rfl⟩;rw[hV] at b2 kX⊢;have bV:=aN b1 b2;rw[d3] at kX⊢;clear hV d3 b2 b1 AX a0 a1 a2 a3;have r:=λ{b:Nat} {o:Obj} (h:wr.heap[b]? =some o)=>(dZ.1 h).1;have M:=(bV.block _ (r M)).trans M;have N:=(bV.block _ (r N)).trans N;have j3:=(bV.block _ (r j3)).trans j3;have s:=(bV.block _ (r s)).trans s;have d6:=aN e7 bV;have d7:=d2.below bV ay;clear r;have f4:=gm s 0;have X:=bH s 0 _ rfl;rcases Y with rfl|rfl
   .simp only[vG];have AY:=Fe (E 2) (E 3) (E 2) m p I J V Q R Aa c6 d7;obtain⟨A,C,c,f⟩:∃n d c,add m p I J=⟨n,d,c⟩:=⟨_,_,_,rfl⟩;rw[f] at AY;have HY:=aA f;clear f;have a0:=bH N 0 _ rfl;have a1:=bH N 1 _ rfl;have a2:=bH j3 0 _ rfl;have a3:=bH j3 1 _ rfl;go_upto_region 12 with(go_at_call 320;refine AY.mono ?_;rintro e w2 ⟨rfl,b3⟩);have Z:=a9r cy ch;rw[HY.out] at Z;have Z:c=0\/c=2:=Z;have b4:=bZ w2 (ai #[ag A,ag C] 163);have kY:=eO w2 (ai #[ag A,ag C] 163);obtain⟨V2,d8⟩:∃V,w2.alloc (ai #[ag A,ag C] 163)=V:=⟨_,rfl⟩;obtain⟨BY,d9⟩:∃B,w2.heap.size=B:=⟨_,rfl⟩;rw[d8] at b4 kY⊢;have D:=aN b3 b4;rw[d9] at kY⊢;clear d8 d9 b4 b3 AY a0 a1 a2 a3 X f4;have r:=λ{b:Nat} {o:Obj} (h:V.heap[b]? =some o)=>(dZ.1 h).1;have M:=(D.block _ (r M)).trans M;have N:=(D.block _ (r N)).trans N;have s:=(D.block _ (r s)).trans s;have kX:=(D.block _ (r kX)).trans kX;have b8:=aN d6 D;have f8:=d7.below D ay;clear r;rcases Z with rfl|rfl
    .simp only[vG];have cX:=(F8.1 HX.out).2.2.1;have cY:=(F8.1 HY.out).2.2.1;have iX:=jy cX;have iY:=jy cY;have x0:=bH M 0 _ rfl;have x1:=bH M 1 _ rfl;have y0:=bH N 0 _ rfl;have y1:=bH N 1 _ rfl;have X0:=bH kX 0 _ rfl;have X1:=bH kX 1 _ rfl;have Y0:=bH kY 0 _ rfl;have Y1:=bH kY 1 _ rfl;have b5:=bZ V2 (ai #[ag g,ag l,ag m,ag p,ag u,ag z,ag m,ag p,ag u,ag z,ag A,ag C,ag g,ag l,ag A,ag C] 233);have kL:=eO V2 (ai #[ag g,ag l,ag m,ag p,ag u,ag z,ag m,ag p,ag u,ag z,ag A,ag C,ag g,ag l,ag A,ag C] 233);have hP:=a2I (a0:=⟨g,l,m,p⟩) (a1:=⟨u,z,m,p⟩) (a2:=⟨u,z,A,C⟩) (a3:=⟨g,l,A,C⟩) kL ⟨O,P,Q,R⟩ ⟨iX.1,iX.2,Q,R⟩ ⟨iX.1,iX.2,iY.1,iY.2⟩ ⟨O,P,iY.1,iY.2⟩;have b9:∀y∈Tx g l m p u z A C,iJ y=0:=λy hy=>by
      simp only[Tx,gD,List.not_mem_nil,or_false] at hy;rcases hy with rfl|rfl|rfl|rfl
      .exact iQ.2 ⟨cx,cy⟩
      .exact iQ.2 ⟨cX,cy⟩
      .exact iQ.2 ⟨cX,cY⟩
      .exact iQ.2 ⟨cx,cY⟩
     have CK:=GV (Tx g l m p u z A C) b9 (some ⟨V2.heap.size,0,none⟩) 4 _ hP (Z8.out.below (aN b8 b5));have e8:=aA b9;clear b9;have e0:=(b5.block _ (dZ.1 s).1).trans s;go_wp2_with(go_at_call 321;refine CK.mono ?_;rintro e w3 ⟨e9,b6⟩;have e1:=(b6.block _ (dZ.1 e0).1).trans e0;have X:=bH e1 0 _ rfl;have f4:=gm e1 0;obtain⟨os,ns,cs,v,rfl,f0⟩:∃os ns cs v,e=ax (aF #[.agg #[aj os ns cs],v])/\((okB (Tx g l m p u z A C)=true/\os=some ⟨V2.heap.size,0,none⟩/\ns=4/\cs=4/\v=aU)\/(okB (Tx g l m p u z A C)=false/\os=none/\ns=0/\cs=0/\Su E 2 v w3)):=(by rcases e9 with⟨q,rfl⟩|⟨q,v,rfl,h2⟩;exact⟨_,_,_,_,rfl,.inl ⟨q,rfl,rfl,rfl,rfl⟩⟩;exact⟨_,_,_,_,rfl,.inr ⟨q,rfl,rfl,rfl,h2⟩⟩));have d4:(w3.setCell ⟨w.heap.size+1+1+1+1,0,none⟩ (aj os ns cs)).cell? ⟨w.heap.size+1+1+1+1,0,none⟩=some (aj os ns cs):=iA _ _ _ (by rw[X];rfl);have bz:=aN (aN b8 b5) b6;refine bodyPost_ret (v:=aF #[.agg #[aj os ns cs],v]) (by simp[results,results259,go_sem,d4]) rfl ⟨?_,bz.setCell aX _⟩;rcases f0 with⟨a4,rfl,rfl,rfl,rfl⟩|⟨a4,rfl,rfl,rfl,hv⟩
     .rw[<- S.out];unfold um;simp only[HX.out,HY.out,a4,and_self,if_true];refine⟨e8.out,a4,_,_,rfl,?_⟩;have f1:=hP.below b6 ay;have f2:V2.heap.size≠w.heap.size+1+1+1+1:=by have:=(dZ.1 s).1;omega
      intro i a ha;obtain⟨b,f9,q,c0,c1,c2,c3,f3⟩:=f1 i a ha;cases q;have a5:∀k v,w3.cell? ⟨V2.heap.size,k,none⟩=some v->(w3.setCell ⟨w.heap.size+1+1+1+1,0,none⟩ (aj (some ⟨V2.heap.size,0,none⟩) 4 4)).cell? ⟨V2.heap.size,k,none⟩=some v:=λk v hv=>by
       rw[bN _ _ _ _ (by simp;exact λe=>f2 e.symm)];exact hv
      exact⟨_,0,rfl,a5 _ _ c0,a5 _ _ c1,a5 _ _ c2,a5 _ _ c3,f3⟩
     .rw[<- S.out];unfold um;simp only[HX.out,HY.out,a4,and_false,if_false,Bool.false_eq_true];exact⟨v,rfl,hv.far⟩
    .have e2:er (E 2) (E 3) (E 2) 2=aP 453 (.pointer (some (E 2))):=rfl;simp only[e2];have f4:=gm s 0;have X:=bH s 0 _ rfl;have d4:(V2.setCell ⟨w.heap.size+1+1+1+1,0,none⟩ (aj none 0 0)).cell? ⟨w.heap.size+1+1+1+1,0,none⟩=some (aj none 0 0):=iA _ _ _ (by rw[X];rfl);go_wp2_with fail;exact bodyPost_ret (v:=aF #[.agg #[aj none 0 0],aP 453 (.pointer (some (E 2)))]) (by simp[results,results259,go_sem,d4]) rfl ⟨by rw[<- S.out];unfold um;rw[if_neg (by rw[HY.out];simp)];exact⟨_,rfl,aC,aC,.inl rfl⟩,b8.setCell aX _⟩
   .have e2:er (E 2) (E 3) (E 2) 2=aP 453 (.pointer (some (E 2))):=rfl;simp only[e2];have f4:=gm s 0;have X:=bH s 0 _ rfl;have d4:(V.setCell ⟨w.heap.size+1+1+1+1,0,none⟩ (aj none 0 0)).cell? ⟨w.heap.size+1+1+1+1,0,none⟩=some (aj none 0 0):=iA _ _ _ (by rw[X];rfl);go_wp2_with fail;exact bodyPost_ret (v:=aF #[.agg #[aj none 0 0],aP 453 (.pointer (some (E 2)))]) (by simp[results,results259,go_sem,d4]) rfl ⟨by rw[<- S.out];unfold um;rw[if_neg (by rw[HX.out];simp)];exact⟨_,rfl,aC,aC,.inl rfl⟩,d6.setCell aX _⟩
theorem gy.ag0 {w:ah}{R:Nat}{cs:Array au}{t:TypeId}(h:gy w R cs t)(i:Nat)(v:au):gy (w.setCell ⟨R,i,none⟩ v) R (cs.setIfInBounds i v) t:=⟨heap_setCell_same w R i cs t v h.h⟩
theorem gy.a7b {w:ah}{R:Nat}{cs:Array au}{t:TypeId}(h:gy w R cs t)(i:Nat)(a b:au):gy ((w.setCell ⟨R,i,none⟩ a).setCell ⟨R,i+1,none⟩ b) R ((cs.setIfInBounds i a).setIfInBounds (i+1) b) t:=(h.ag0 i a).ag0 (i+1) b
theorem xw (M:Dm)(n:Int)(nm:Bs)(h:(iy M n nm).c=0):fH (iy M n nm).n (iy M n nm).d=0:=by
 unfold iy at h⊢;cases a:DU M n nm with
 |none=>exact Z5 aC aC
 |some s=>rw[a] at h;exact VT h
theorem xy (M:Dm)(n:Int)(nm:Bs):(iy M n nm).c=0\/(iy M n nm).c=1\/(iy M n nm).c=2\/(iy M n nm).c=3:=by
 unfold iy;cases a:DU M n nm with
 |none=>exact .inl rfl
 |some s=>exact Uv s
def BL (b c d fv:R3)(a:Except Nat (List Qt)):Except Nat (List Qt):=if b.c≠0 then .error b.c else if c.c≠0 then .error c.c else if d.c≠0 then .error d.c else if fv.c≠0 then .error fv.c else a
section
variable {E:Nat->Addr}{B:Nat}{A:dm}{W:ah}{DB C:Nat}{p:Int->Option Nat}{M:Dm}{nx c:Nat}
theorem UA (B:Nat)(n:Int)(a b c fv:R3)(C:Except Nat (List Qt))(R:NE E W)
  (X:a.c=0\/a.c=1\/a.c=2\/a.c=3) (Y:b.c=0\/b.c=1\/b.c=2\/b.c=3) (Z:c.c=0\/c.c=1\/c.c=2\/c.c=3) (hv:fv.c=0\/fv.c=1\/fv.c=2\/fv.c=3)
  (F0:∀V,aD W V->aJ 258 #[aI B,ag n,ak ⟨#[120]⟩] V λe w'=>e=ax (aF #[.agg #[ag a.n,ag a.d],Sk (E 1) (E 2) (E 3) (E 2) a.c])/\aD V w')
  (F1:∀V,aD W V->aJ 258 #[aI B,ag n,ak ⟨#[121]⟩] V λe w'=>e=ax (aF #[.agg #[ag b.n,ag b.d],Sk (E 1) (E 2) (E 3) (E 2) b.c])/\aD V w')
  (F2:∀V,aD W V->aJ 258 #[aI B,ag n,ak ⟨#[119]⟩] V λe w'=>e=ax (aF #[.agg #[ag c.n,ag c.d],Sk (E 1) (E 2) (E 3) (E 2) c.c])/\aD V w')
  (F3:∀V,aD W V->aJ 258 #[aI B,ag n,ak ⟨#[104]⟩] V λe w'=>e=ax (aF #[.agg #[ag fv.n,ag fv.d],Sk (E 1) (E 2) (E 3) (E 2) fv.c])/\aD V w')
  (FB:a.c=0->b.c=0->c.c=0->fv.c=0->∀V,NE E V->aJ 259 #[.agg #[ag a.n,ag a.d],.agg #[ag b.n,ag b.d],.agg #[ag c.n,ag c.d],.agg #[ag fv.n,ag fv.d]] V λe w'=>qI E C e w'/\aD V w'):
  aJ 190 #[aI B,ag n] W λe w'=>qI E (BL a b c fv C) e w'/\aD W w':=by
 have S:=dI W (ai #[aj none 0 0] 113);have P:=dN W #[aj none 0 0] 113;have Q:=dI (W.alloc (ai #[aj none 0 0] 113)) (ai #[ag 0,ag 0,ag 0,ag 0,ag 0,ag 0,ag 0,ag 0] 334);have i:=gy.new (W.alloc (ai #[aj none 0 0] 113)) #[ag 0,ag 0,ag 0,ag 0,ag 0,ag 0,ag 0,ag 0] 334;have g:=(Q.block _ (dz P)).trans P;have bV:=aW S Q;have D:(W.alloc (ai #[aj none 0 0] 113)).heap.size=W.heap.size+1:=aG;rw[D] at i;clear D S Q P;have HN:=aA R;clear R;go_enter func190,ntmps190;go_upto_region 3 with fail;obtain⟨V0,T⟩:∃V,(W.alloc (ai #[aj none 0 0] 113)).alloc (ai #[ag 0,ag 0,ag 0,ag 0,ag 0,ag 0,ag 0,ag 0] 334)=V:=⟨_,rfl⟩;rw[T] at i g bV⊢;clear T;have x0:∀w:ah,(Instr.index 335 (.agg #[ak ⟨#[120]⟩,ak ⟨#[121]⟩,ak ⟨#[119]⟩,ak ⟨#[104]⟩]) (ag 0)).run prog w=.ok (ak ⟨#[120]⟩) w:=λw=>az;have x1:∀w:ah,(Instr.index 335 (.agg #[ak ⟨#[120]⟩,ak ⟨#[121]⟩,ak ⟨#[119]⟩,ak ⟨#[104]⟩]) (ag 1)).run prog w=.ok (ak ⟨#[121]⟩) w:=λw=>az;have x2:∀w:ah,(Instr.index 335 (.agg #[ak ⟨#[120]⟩,ak ⟨#[121]⟩,ak ⟨#[119]⟩,ak ⟨#[104]⟩]) (ag 2)).run prog w=.ok (ak ⟨#[119]⟩) w:=λw=>az;have x3:∀w:ah,(Instr.index 335 (.agg #[ak ⟨#[120]⟩,ak ⟨#[121]⟩,ak ⟨#[119]⟩,ak ⟨#[104]⟩]) (ag 3)).run prog w=.ok (ak ⟨#[104]⟩) w:=λw=>az;refine wp_loop_rounds 5 ?_;rw[rounds_succ];have F:=F0 V0 bV;by_cases m:a.c=0
 rotate_left
 .have l:a.c=1\/a.c=2\/a.c=3:=X.resolve_left m;rw[BK l] at F;have o:=aA l;have x:=aA m;clear l;go_wp2_with(go_at_call 258;refine F.mono ?_;rintro e h ⟨rfl,f⟩;have Kw:=((aW f (dI h (ai #[ag a.n,ag a.d] 163))).block _ (dz g)).trans g;have k:=aO Kw 0 _ rfl;have L:=gm Kw 0);refine bodyPost_ret (v:=aF #[.agg #[aj none 0 0],eV (E a.c)]) (by simp[results,results190,go_sem,k]) rfl ⟨?_,(aW bV (aW f (dI h _))).setCell ay _⟩;unfold BL;rw[if_pos x.out];exact⟨_,rfl,by have:=o.out;omega,by have:=o.out;omega,.inl rfl⟩
 rw[m,uz] at F;go_wp2_with(go_at_call 258;refine F.mono ?_;rintro e h ⟨rfl,f⟩;have j:=aW f (dI h (ai #[ag a.n,ag a.d] 163));have d:=(j.block _ i.lt).trans i.h;have k:=bH d 0 _ rfl;have y:=bH d 1 _ rfl;have z:=gm d 0;have A:=gm d 1);obtain⟨M,p⟩:∃V,(((h.alloc (ai #[ag a.n,ag a.d] 163)).setCell ⟨W.heap.size+1,0,none⟩ (ag a.n)).setCell ⟨W.heap.size+1,1,none⟩ (ag a.d))=V:=⟨_,rfl⟩;have i:gy M (W.heap.size+1) #[ag a.n,ag a.d,ag 0,ag 0,ag 0,ag 0,ag 0,ag 0] 334:=by
  rw[<- p];exact(gy.mk d).a7b 0 _ _
 have g:M.heap[W.heap.size]? =some (ai #[aj none 0 0] 113):=by
  rw[<- p,bY _ _ _ _ aG,bY _ _ _ _ aG];exact(j.block _ (dz g)).trans g
 have bV:aD W M:=by
  rw[<- p];exact((aW bV j).setCell aG _).setCell aG _
 rw[p];clear p d k y z A f j F;rw[rounds_succ];have H:=F1 M bV;by_cases s:b.c=0
 rotate_left
 .have l:b.c=1\/b.c=2\/b.c=3:=Y.resolve_left s;rw[BK l] at H;have o:=aA l;have x:=aA s;clear l;go_wp2_with(go_at_call 258;refine H.mono ?_;rintro e h ⟨rfl,f⟩;have Kw:=((aW f (dI h (ai #[ag b.n,ag b.d] 163))).block _ (dz g)).trans g;have k:=aO Kw 0 _ rfl;have L:=gm Kw 0);refine bodyPost_ret (v:=aF #[.agg #[aj none 0 0],eV (E b.c)]) (by simp[results,results190,go_sem,k]) rfl ⟨?_,(aW bV (aW f (dI h _))).setCell ay _⟩;unfold BL;rw[if_neg (by simp[m]),if_pos x.out];exact⟨_,rfl,by have:=o.out;omega,by have:=o.out;omega,.inl rfl⟩
 rw[s,uz] at H;go_wp2_with(go_at_call 258;refine H.mono ?_;rintro e h ⟨rfl,f⟩;have j:=aW f (dI h (ai #[ag b.n,ag b.d] 163));have d:=(j.block _ i.lt).trans i.h;have k:=bH d 2 _ rfl;have y:=bH d 3 _ rfl;have z:=gm d 2;have A:=gm d 3);obtain⟨N,q⟩:∃V,(((h.alloc (ai #[ag b.n,ag b.d] 163)).setCell ⟨W.heap.size+1,2,none⟩ (ag b.n)).setCell ⟨W.heap.size+1,3,none⟩ (ag b.d))=V:=⟨_,rfl⟩;have i:gy N (W.heap.size+1) #[ag a.n,ag a.d,ag b.n,ag b.d,ag 0,ag 0,ag 0,ag 0] 334:=by
  rw[<- q];exact(gy.mk d).a7b 2 _ _
 have g:N.heap[W.heap.size]? =some (ai #[aj none 0 0] 113):=by
  rw[<- q,bY _ _ _ _ aG,bY _ _ _ _ aG];exact(j.block _ (dz g)).trans g
 have bV:aD W N:=by
  rw[<- q];exact((aW bV j).setCell aG _).setCell aG _
 rw[q];clear q d k y z A f j H;rw[rounds_succ];have I:=F2 N bV;by_cases t:c.c=0
 rotate_left
 .have l:c.c=1\/c.c=2\/c.c=3:=Z.resolve_left t;rw[BK l] at I;have o:=aA l;have x:=aA t;clear l;go_wp2_with(go_at_call 258;refine I.mono ?_;rintro e h ⟨rfl,f⟩;have Kw:=((aW f (dI h (ai #[ag c.n,ag c.d] 163))).block _ (dz g)).trans g;have k:=aO Kw 0 _ rfl;have L:=gm Kw 0);refine bodyPost_ret (v:=aF #[.agg #[aj none 0 0],eV (E c.c)]) (by simp[results,results190,go_sem,k]) rfl ⟨?_,(aW bV (aW f (dI h _))).setCell ay _⟩;unfold BL;rw[if_neg (by simp[m]),if_neg (by simp[s]),if_pos x.out];exact⟨_,rfl,by have:=o.out;omega,by have:=o.out;omega,.inl rfl⟩
 rw[t,uz] at I;go_wp2_with(go_at_call 258;refine I.mono ?_;rintro e h ⟨rfl,f⟩;have j:=aW f (dI h (ai #[ag c.n,ag c.d] 163));have d:=(j.block _ i.lt).trans i.h;have k:=bH d 4 _ rfl;have y:=bH d 5 _ rfl;have z:=gm d 4;have A:=gm d 5);obtain⟨V3,J⟩:∃V,(((h.alloc (ai #[ag c.n,ag c.d] 163)).setCell ⟨W.heap.size+1,4,none⟩ (ag c.n)).setCell ⟨W.heap.size+1,5,none⟩ (ag c.d))=V:=⟨_,rfl⟩;have i:gy V3 (W.heap.size+1) #[ag a.n,ag a.d,ag b.n,ag b.d,ag c.n,ag c.d,ag 0,ag 0] 334:=by
  rw[<- J];exact(gy.mk d).a7b 4 _ _
 have g:V3.heap[W.heap.size]? =some (ai #[aj none 0 0] 113):=by
  rw[<- J,bY _ _ _ _ aG,bY _ _ _ _ aG];exact(j.block _ (dz g)).trans g
 have bV:aD W V3:=by
  rw[<- J];exact((aW bV j).setCell aG _).setCell aG _
 rw[J];clear J d k y z A f j I;rw[rounds_succ];have K:=F3 V3 bV;by_cases u:fv.c=0
 rotate_left
 .have l:fv.c=1\/fv.c=2\/fv.c=3:=hv.resolve_left u;rw[BK l] at K;have o:=aA l;have x:=aA u;clear l;go_wp2_with(go_at_call 258;refine K.mono ?_;rintro e h ⟨rfl,f⟩;have Kw:=((aW f (dI h (ai #[ag fv.n,ag fv.d] 163))).block _ (dz g)).trans g;have k:=aO Kw 0 _ rfl;have L:=gm Kw 0);refine bodyPost_ret (v:=aF #[.agg #[aj none 0 0],eV (E fv.c)]) (by simp[results,results190,go_sem,k]) rfl ⟨?_,(aW bV (aW f (dI h _))).setCell ay _⟩;unfold BL;rw[if_neg (by simp[m]),if_neg (by simp[s]),if_neg (by simp[t]),if_pos x.out];exact⟨_,rfl,by have:=o.out;omega,by have:=o.out;omega,.inl rfl⟩
 rw[u,uz] at K;go_wp2_with(go_at_call 258;refine K.mono ?_;rintro e h ⟨rfl,f⟩;have j:=aW f (dI h (ai #[ag fv.n,ag fv.d] 163));have d:=(j.block _ i.lt).trans i.h;have k:=bH d 6 _ rfl;have y:=bH d 7 _ rfl;have z:=gm d 6;have A:=gm d 7);obtain⟨O,r⟩:∃V,(((h.alloc (ai #[ag fv.n,ag fv.d] 163)).setCell ⟨W.heap.size+1,6,none⟩ (ag fv.n)).setCell ⟨W.heap.size+1,7,none⟩ (ag fv.d))=V:=⟨_,rfl⟩;have i:gy O (W.heap.size+1) #[ag a.n,ag a.d,ag b.n,ag b.d,ag c.n,ag c.d,ag fv.n,ag fv.d] 334:=by
  rw[<- r];exact(gy.mk d).a7b 6 _ _
 have g:O.heap[W.heap.size]? =some (ai #[aj none 0 0] 113):=by
  rw[<- r,bY _ _ _ _ aG,bY _ _ _ _ aG];exact(j.block _ (dz g)).trans g
 have bV:aD W O:=by
  rw[<- r];exact((aW bV j).setCell aG _).setCell aG _
 rw[r];clear r d k y z A f j K;rw[rounds_succ];have BX:=FB m s t u O (HN.out.below bV);have s0:=i.cell 0 _ rfl;have s1:=i.cell 1 _ rfl;have s2:=i.cell 2 _ rfl;have s3:=i.cell 3 _ rfl;have s4:=i.cell 4 _ rfl;have s5:=i.cell 5 _ rfl;have s6:=i.cell 6 _ rfl;have s7:=i.cell 7 _ rfl;have HG:Hid (a.c=0/\b.c=0/\c.c=0/\fv.c=0):=⟨m,s,t,u⟩;clear m s t u;go_wp2_with(go_at_call 259;refine BX.mono ?_;rintro e w2 ⟨U,f⟩;obtain⟨ro,rn,rc,rv,rfl⟩:=U.is;have K2:=(f.block _ (dz g)).trans g;have k:=aO K2 0 _ rfl;have L:=gm K2 0);refine bodyPost_ret (v:=aF #[.agg #[aj ro rn rc],rv]) (by simp[results,results190,go_sem,k]) rfl ⟨?_,(aW bV f).setCell ay _⟩;obtain⟨m,s,t,u⟩:=HG.out;unfold BL;rw[if_neg (by simp[m]),if_neg (by simp[s]),if_neg (by simp[t]),if_neg (by simp[u])];exact U.far K2
theorem Z9 (d:NE E W)(g:bT B A W DB C p M nx c)(h:SzD M)(b:Nat)(f:W.cell? (aH b 0)=some (aI DB))(n:Int)(i:dV n):
  aJ 190 #[aI b,ag n] W λe w'=>qI E (a1H M n) e w'/\aD W w':=by
 have F:=λ(j:Bs) V (a:aD W V)=>Um (d.below a) (g.below a) h b ((a.cell (aR f)).trans f) n i j;exact UA b n (iy M n [120]) (iy M n [121]) (iy M n [119]) (iy M n [104]) (um (iy M n [120]) (iy M n [121]) (iy M n [119]) (iy M n [104])) d (xy _ _ _) (xy _ _ _) (xy _ _ _) (xy _ _ _) (F [120]) (F [121]) (F [119]) (F [104])
  (λk l m o V a=>abb _ _ _ _ _ _ _ _ V (xw _ _ _ k) (xw _ _ _ l) (xw _ _ _ m) (xw _ _ _ o) a)
end
def Za (E:Nat->Addr)(m:Mv)(l:List Qt)(a:Nat)(e:Ending)(w':ah):Prop:=match goM m l with
 |some b=>∃v,e=.returned (.tuple #[.agg #[v],.nilIface])/\kF w' a v b
 |none=>∃v,e=.returned (.tuple #[.agg #[.slice none 0 0],v])/\Su E 2 v w'
theorem a2N {E:Nat->Addr}{m:Mv}{l:List Qt}{b:Nat}{w':ah}{a:Qt}{v:au}(c:a∈l)(d:BB m a=false)(e:Su E 2 v w'):Za E m l b (.returned (.tuple #[.agg #[.slice none 0 0],v])) w':=by
 unfold Za goM;grind
theorem a7c {E:Nat->Addr}{m:Mv}{l:List Qt}{b:Nat}{w':ah}{v:au}(h:∀a∈l,BB m a=true)(c:kF w' b v (l.map (Mh m))):Za E m l b (.returned (.tuple #[.agg #[v],.nilIface])) w':=by
 unfold Za goM;grind
theorem GY {a:Qt}(h:jQ a=0):(Uw a).ok:=by
 obtain⟨b, -⟩:=jo.1 h;exact iQ.1 b
theorem ag2 {a:Qt}(h:jQ a=0):(Uw a).i64:=⟨lW (GY h).1,lW (GY h).2⟩
theorem GZ {m:Mv}{a:Qt}(d:m.ok)(f:jQ a=0)(h:(fe 0 m (Uw a)).2=0):iJ (Mh m a)=0:=by
 have b:=((yE (c:=0) (.inl rfl) d (GY f)).2 h).2.1;have e:Mh m a=⟨(fe 0 m (Uw a)).1.x.n,(fe 0 m (Uw a)).1.x.d,(fe 0 m (Uw a)).1.y.n,(fe 0 m (Uw a)).1.y.d⟩:=by
  unfold Mh Uw
  with_reducible rfl
 rw[e];clear e h;generalize fe 0 m (Uw a)=z at b⊢;exact iQ.2 ⟨b.1,b.2⟩
theorem BV {m:Mv}{a:Qt}(h:BB m a=true):(fe 0 m (Uw a)).2=0:=by
 unfold BB at h;simp only[iW,kZ] at h;exact h.1
theorem a7d {m:Mv}{a:Qt}(h:(fe 0 m (Uw a)).2=0)(b:mX (Mh m a)=0):BB m a=true:=by
 unfold BB;simp only[iW,kZ];exact⟨h,by rw[b];rfl⟩
theorem a2O {m:Mv}{a:Qt}(b:¬mX (Mh m a)=0):BB m a=false:=by
 unfold BB;grind
theorem MN {m:Mv}{a:Qt}(h:¬(fe 0 m (Uw a)).2=0):BB m a=false:=by
 cases b:BB m a with
 |false=>rfl
 |true=>exact absurd (BV b) h
theorem Zb {E:Nat->Addr}(m:Mv)(hm:m.ok)(l:List Qt)(o:Option Addr)(N:Nat)(w:ah)(H:oU l)(h:iw w o l)(hN:NE E w):
  aJ 256 #[.agg #[.slice o l.length N],mv m] w λe W=>Za E m l w.heap.size e W/\aD w W:=by
 have HC:Fg (E 2) (E 3) (E 2) m:=zI (qF hm) (tZ hm);have hE:=hN.e3;have HM:Hid m.ok:=hm;have Zc:=aA H;clear hm hN;obtain⟨i0,hi,d2,d3,d6⟩:=info_parts a2J;go_enter func256,ntmps256;go_upto_region 1 with fail;obtain⟨U,hU⟩:∃U,((w.alloc (.cells #[.slice o l.length N] 113)).alloc (.cells (mA m) 165)).alloc (.cells #[.slice none 0 0] 113)=U:=⟨_,rfl⟩;obtain⟨k0,i,J,uh⟩:=afS w _ _ _ U hU;rw[hU];clear hU;have Sv:=hE.below uh ay;have CK:=HC U Sv;have m0:=bH i 0 _ rfl;have m1:=bH i 1 _ rfl;have m2:=bH i 2 _ rfl;have m3:=bH i 3 _ rfl;have m4:=bH i 4 _ rfl;have m5:=bH i 5 _ rfl;have m6:=bH i 6 _ rfl;have m7:=bH i 7 _ rfl;have m8:=bH i 8 _ rfl;have m9:=bH i 9 _ rfl;have t:=bH i 10 _ rfl;have x:=bH i 11 _ rfl;go_upto_region 4 with(go_at_call 264;refine CK.mono ?_;rintro e w1 ⟨rfl,b1⟩);clear CK m0 m1 m2 m3 m4 m5 m6 m7 m8 m9 t x;have k0:=kG b1 k0;have i:=kG b1 i;have J:=kG b1 J;have O:=aN uh b1;have a8:=hE.below O ay;have SC:=zT (E 2) (E 3) (E 2) l o N w1 (h.below O ay) a8;have s0:=bH k0 0 _ rfl;have d7:=aA H;go_upto_region 7 with(go_at_call 182;refine SC.mono ?_;rintro e w2 ⟨hc,b2⟩;have he:e=.returned .nilIface:=(by rcases hc.plain with⟨-,h2⟩|⟨h1, -⟩;exact h2;exact absurd d7.out h1);subst he;clear hc);clear SC s0;have k0:=kG b2 k0;have i:=kG b2 i;have J:=kG b2 J;have j:=aN O b2;have e6:=H.1;have s0:=bH k0 0 _ rfl;clear H b1 b2 a8 Sv;go_wp2_with fail
 go_loopw [8,28] (λv y wr=>∃k:Nat,k<=l.length/\y=ag k/\(∀a∈l.take k,BB m a=true)/\kF wr w2.heap.size v ((l.take k).map (Mh m))/\aD w2 wr) (λ_ y _=>l.length-(intOf y).toNat)
 case atStart=>exact⟨0,bf _,rfl,aG,kF.nil _ _,aQ _ _⟩
 case round=>
  obtain⟨k,hk,rfl,z,n,K⟩:=hrel;have a9:=aA z;have b0:∀a∈(l.take k).map (Mh m),PI a:=λa P=>by
   obtain⟨b,I,rfl⟩:=gu.1 P;exact EI (GZ HM.out (Zc.out.2 b (List.mem_of_mem_take I)) (BV (z b I)))
  obtain⟨ov,cv,rfl, -⟩:=n.at_ b0;have A:((l.take k).map (Mh m)).length=k:=by rw[dF,iV];omega
  rw[A] at n⊢;have L:=aA A;clear z b0 A;by_cases d8:k<l.length
  .have e5:(k:Int)<(l.length:Int):=aa;obtain⟨a,P⟩:∃a,l[k]? =some a:=⟨_,eZ d8⟩;have f:=gN P;obtain⟨b,e7,ho,hp⟩:=(h.below (aN j K) ay) k a P;subst ho;obtain⟨c0,c1,c2,c3,e8⟩:=hp;have HL:=aA P;have c4:=hE.below (aN j K) ay;have M:=bZ wr (.cells #[ag a.xn,ag a.xd,ag a.yn,ag a.yd] 233);have F3:=Four.new wr (ag a.xn) (ag a.xd) (ag a.yn) (ag a.yd) 233;have c:=kG (aN K M) i;have TQ:=c4.below M ay;by_cases r:(fe 0 m (Uw a)).2=0
   .have C:=aew (aB:=E 2) (aS:=E 3) (aZ:=E 2) (qF HM.out) (ag2 (Zc.out.2 a f)) (aaw HM.out (GY (Zc.out.2 a f)) (Mo r)) _ TQ;have c5:iJ (Mh m a)=0:=GZ HM.out (Zc.out.2 a f) r;have C:aJ 318 #[mv m,qR a] _ λe w'=>e=.returned (.tuple #[qR (Mh m a),.nilIface])/\Below _ _ w':=C;have Q:=aA r;clear P r;go_upto_region 11 with fail;obtain⟨V,S⟩:∃V,wr.alloc (.cells #[ag a.xn,ag a.xd,ag a.yn,ag a.yd] 233)=V:=⟨_,rfl⟩;rw[S] at M F3 c TQ C⊢;clear S c0 c1 c2 c3;have m0:=bH c 0 _ rfl;have m1:=bH c 1 _ rfl;have m2:=bH c 2 _ rfl;have m3:=bH c 3 _ rfl;have m4:=bH c 4 _ rfl;have m5:=bH c 5 _ rfl;have m6:=bH c 6 _ rfl;have m7:=bH c 7 _ rfl;have m8:=bH c 8 _ rfl;have m9:=bH c 9 _ rfl;have t:=bH c 10 _ rfl;have x:=bH c 11 _ rfl;obtain⟨T,X,Y,Z⟩:=F3;generalize hga:Mh m a=q at*;have a4:=aA hga;clear hga;go_upto_region 12 with(go_at_call 318;refine C.mono ?_;rintro e w3 ⟨rfl,b4⟩);clear C T X Y Z m0 m1 m2 m3 m4 m5 m6 m7 m8 m9 t x;have b5:=bZ w3 (.cells #[ag q.xn,ag q.xd,ag q.yn,ag q.yd] 233);have F5:=Four.new w3 (ag q.xn) (ag q.xd) (ag q.yn) (ag q.yd) 233;obtain⟨V2,D⟩:∃V,w3.alloc (.cells #[ag q.xn,ag q.xd,ag q.yn,ag q.yd] 233)=V:=⟨_,rfl⟩;obtain⟨BQ,c6⟩:∃B,w3.heap.size=B:=⟨_,rfl⟩;rw[D] at b5 F5⊢;have b6:=aN (aN M b4) b5;rw[c6] at F5⊢;clear D c6 M b4 b5 TQ c;have CS:=rz (E 2) (E 3) (E 2) q V2 (EI c5) (zR c5) (c4.below b6 ay);obtain⟨T,X,Y,Z⟩:=id F5;by_cases hx:mX q=0
    .rw[hx] at CS;have HX:=aA hx;clear hx;go_upto_region 14 with(go_at_call 251;refine CS.mono ?_;rintro e d ⟨rfl,b7⟩;simp only[vG]);clear CS T X Y Z;obtain⟨T,X,Y,Z⟩:=F5.below b7 ay;have s:=aN (aN K b6) b7;have d9:=s.size;have c7:d.ownsRow w2.heap.size 233 4 (.slice ov k cv) k (gG ((l.take k).map (Mh m))):=by
      have h:=n.keep (aN b6 b7);unfold kF at h;rw[L.out] at h;exact h
     have e9:=(aN b6 b7).size;have e0:=eO d (.cells #[ag q.xn,ag q.xd,ag q.yn,ag q.yd] 233);have c8:(d.alloc (.cells #[ag q.xn,ag q.xd,ag q.yn,ag q.yd] 233)).ownsRow w2.heap.size 233 4 (.slice ov k cv) k (gG ((l.take k).map (Mh m))):=ig c7 _;have HT:Hid ((l.take (k+1)).map (Mh m)=(l.take k).map (Mh m)++[q]/\∀a∈l.take (k+1),BB m a=true):=by
      have ht:l.take (k+1)=l.take k++[a]:=by rw[dS,HL.out];rfl
      constructor
      .rw[ht,iG,List.map_singleton,a4.out]
      .rw[ht];intro y hy;rcases gT.1 hy with h|h
       .exact a9.out y h
       .simp at h;rw[h];exact a7d Q.out (by rw[a4.out];exact HX.out)
     generalize (l.take k).map (Mh m)=R at*;clear n c7;go_wp2_with(at_builtin;refine wpList_append_own _ rfl _ _ 111 rfl (w2.heap.size) 233 i0 (.agg #[ag 0,ag 0,ag 0,ag 0]) 4 32 underlying111 hi d2 d3 d6 rfl aC _ _ _ rfl c8 _ _ _ (gG [q]) rfl (yV [q]) (World.news_of_block e0) (GU _) (by simp only[maxLen];omega) aa aX ?_;intro f5 f6 c9 e1 _)
     go_roundw
     case rel=>exact⟨k+1,aa,by go_num,HT.out.2,by rw[HT.out.1];rw[<- L.out] at c9;exact kF.app (m:=[q]) c9 rfl,(s.alloc d9 _).grown e1 aX (WW c8)⟩
     case measure=>simp[intOf];omega
    .have d1:mX q=2:=by have:=qB q;omega
     rw[d1] at CS;have HX:=aA hx;clear hx d1;go_upto_region 13 with(go_at_call 251;refine CS.mono ?_;rintro e d ⟨rfl,b7⟩;simp only[a0O]);clear CS T X Y Z;have s:=aN (aN K b6) b7;have g:=kG s J;have q4:=bH g 0 _ rfl;have f4:=gm g 0;have a5:_=some (Value.iface 453 (.pointer (some (E 2)))):=(hE.below (aN j s) ay).b;have a6:=(dZ.1 g).1;have e2:¬d.heap.size=w.heap.size+1+1:=aa;have e3:¬w.heap.size+1+1=d.heap.size:=aa;have U4:=aR hE.b;have e4:(d.setCell ⟨w.heap.size+1+1,0,none⟩ (.slice none 0 0)).cell? (aH 0 0)=some (.iface 453 (.pointer (some (E 2)))):=(bN _ _ _ _ (by have:0<w.heap.size:=U4;show w.heap.size+1+1≠0;omega)).trans a5;clear U4;go_region;go_wp2_with fail;have d4:(((d.setCell ⟨w.heap.size+1+1,0,none⟩ (.slice none 0 0)).alloc (.cells #[ag k,.iface 453 (.pointer (some (E 2)))] 71)).drew).cell? ⟨w.heap.size+1+1,0,none⟩=some (.slice none 0 0):=aL _ (iA _ _ _ (by rw[q4];rfl));have b9:=aN j s;refine bodyPost_ret (v:=.tuple #[.agg #[.slice none 0 0],.iface 67 (aI d.heap.size)]) (by simp[results,results256,go_sem,d4]) rfl ⟨?_,below_drewN ((b9.setCell aX _).alloc (by simpa using b9.size) _) 1⟩;refine a2N f ?_ ⟨aC,aC,.inr ⟨_,0,rfl,?_⟩⟩
     .exact a2O (by rw[a4.out];exact HX.out)
     .show(((d.setCell ⟨w.heap.size+1+1,0,none⟩ (.slice none 0 0)).alloc (.cells #[ag k,.iface 453 (.pointer (some (E 2)))] 71))).cell? ⟨d.heap.size,1,none⟩=some (eV (E 2));have a7:(d.setCell ⟨w.heap.size+1+1,0,none⟩ (.slice none 0 0)).heap.size=d.heap.size:=aG;have F:=aO (eO (d.setCell ⟨w.heap.size+1+1,0,none⟩ (.slice none 0 0)) (.cells #[ag k,.iface 453 (.pointer (some (E 2)))] 71)) 1 _ rfl;rw[a7] at F;exact F
   .have C:∀V,E3 (E 2) (E 3) (E 2) V->aJ 318 #[mv m,qR a] V λe w'=>e=.returned (.tuple #[qR zQt,eV (E 2)])/\aD V w':=λV S=>by
     have h1:=aex (aB:=E 2) (aS:=E 3) (aZ:=E 2) (m:=m) (p:=Uw a) (qF HM.out) (ag2 (Zc.out.2 a f)) (λq e=>r (by rw[(aax e).2.2])) V S;have h2:(atR m (Uw a)).2=.bare 2:=by
      unfold atR;rw[if_neg (by simp[tZ HM.out]),if_neg (by simp[VS (GY (Zc.out.2 a f))]),if_neg r]
     rw[h2] at h1;refine h1.mono ?_;rintro e w' ⟨⟨v,rfl, -,rfl⟩,I⟩;exact⟨rfl,I⟩
    have C:=C _ TQ;have Q:=aA r;clear P r;go_upto_region 11 with fail;obtain⟨V,S⟩:∃V,wr.alloc (.cells #[ag a.xn,ag a.xd,ag a.yn,ag a.yd] 233)=V:=⟨_,rfl⟩;rw[S] at M F3 c TQ C⊢;clear S c0 c1 c2 c3;have m0:=bH c 0 _ rfl;have m1:=bH c 1 _ rfl;have m2:=bH c 2 _ rfl;have m3:=bH c 3 _ rfl;have m4:=bH c 4 _ rfl;have m5:=bH c 5 _ rfl;have m6:=bH c 6 _ rfl;have m7:=bH c 7 _ rfl;have m8:=bH c 8 _ rfl;have m9:=bH c 9 _ rfl;have t:=bH c 10 _ rfl;have x:=bH c 11 _ rfl;obtain⟨T,X,Y,Z⟩:=F3;go_upto_region 12 with(go_at_call 318;refine C.mono ?_;rintro e w3 ⟨rfl,b4⟩);clear C T X Y Z m0 m1 m2 m3 m4 m5 m6 m7 m8 m9 t x;have b5:=bZ w3 (.cells #[ag 0,ag 0,ag 0,ag 0] 233);obtain⟨d,D⟩:∃V,w3.alloc (.cells #[ag 0,ag 0,ag 0,ag 0] 233)=V:=⟨_,rfl⟩;rw[D] at b5⊢;have b6:=aN (aN M b4) b5;clear D M b4 b5 TQ c;go_upto_region 13 with fail;have s:=aN K b6;have g:=kG s J;have q4:=bH g 0 _ rfl;have f4:=gm g 0;have a5:_=some (Value.iface 453 (.pointer (some (E 2)))):=(hE.below (aN j s) ay).b;have a6:=(dZ.1 g).1;have e2:¬d.heap.size=w.heap.size+1+1:=aa;have e3:¬w.heap.size+1+1=d.heap.size:=aa;have U4:=aR hE.b;have e4:(d.setCell ⟨w.heap.size+1+1,0,none⟩ (.slice none 0 0)).cell? (aH 0 0)=some (.iface 453 (.pointer (some (E 2)))):=(bN _ _ _ _ (by have:0<w.heap.size:=U4;show w.heap.size+1+1≠0;omega)).trans a5;clear U4;go_region;go_wp2_with fail;have d4:(((d.setCell ⟨w.heap.size+1+1,0,none⟩ (.slice none 0 0)).alloc (.cells #[ag k,.iface 453 (.pointer (some (E 2)))] 71)).drew).cell? ⟨w.heap.size+1+1,0,none⟩=some (.slice none 0 0):=aL _ (iA _ _ _ (by rw[q4];rfl));have b9:=aN j s;refine bodyPost_ret (v:=.tuple #[.agg #[.slice none 0 0],.iface 67 (aI d.heap.size)]) (by simp[results,results256,go_sem,d4]) rfl ⟨?_,below_drewN ((b9.setCell aX _).alloc (by simpa using b9.size) _) 1⟩;refine a2N f ?_ ⟨aC,aC,.inr ⟨_,0,rfl,?_⟩⟩
    .exact MN Q.out
    .show(((d.setCell ⟨w.heap.size+1+1,0,none⟩ (.slice none 0 0)).alloc (.cells #[ag k,.iface 453 (.pointer (some (E 2)))] 71))).cell? ⟨d.heap.size,1,none⟩=some (eV (E 2));have a7:(d.setCell ⟨w.heap.size+1+1,0,none⟩ (.slice none 0 0)).heap.size=d.heap.size:=aG;have F:=aO (eO (d.setCell ⟨w.heap.size+1+1,0,none⟩ (.slice none 0 0)) (.cells #[ag k,.iface 453 (.pointer (some (E 2)))] 71)) 1 _ rfl;rw[a7] at F;exact F
  .obtain rfl:k=l.length:=aa;have s:=K;have g:=kG s J;have q4:=bH g 0 _ rfl;have f4:=gm g 0;have a6:=(dZ.1 J).1;go_wp2_with fail;have d0:(wr.setCell ⟨w.heap.size+1+1,0,none⟩ (.slice ov l.length cv)).cell? ⟨w.heap.size+1+1,0,none⟩=some (.slice ov l.length cv):=iA _ _ _ (by rw[q4];rfl);have hw:w.heap.size<=w2.heap.size:=j.size;refine bodyPost_ret (v:=.tuple #[.agg #[.slice ov l.length cv],.nilIface]) (by simp[results,results256,go_sem,d0]) rfl ⟨a7c ?_ ?_,(aN j K).setCell aX _⟩
   .have:=a9.out;rwa[gq] at this
   .have:=(n.far (b:=w.heap.size+1+1) (u:=.slice ov l.length cv) a6).low hw;rwa[gq] at this
def C8 (q:Int->Bool):Nat->List Int->Int
 |_,[]=> -1
 |k,x::l=>if q x then(k:Int) else C8 q (k+1) l
theorem KH (q:Int->Bool):∀(l:List Int) (k:Nat),(C8 q k l= -1/\l.find? q=none)\/∃i x,C8 q k l=((k+i:Nat):Int)/\l[i]? =some x/\l.find? q=some x
 |[],_=>.inl ⟨rfl,rfl⟩
 |x::l,k=>by
  unfold C8;rw[List.find?_cons];cases d:q x with
  |true=>exact .inr ⟨0,x,aG,rfl,rfl⟩
  |false=>
   rcases KH q l (k+1) with⟨a,b⟩|⟨i,y,a,b,c⟩
   .grind
   .exact .inr ⟨i+1,y,by rw[if_neg aG,a];congr 1;omega,by simpa using b,c⟩
theorem ints_at {w:ah}{B0:Nat}{v:au}{l:List Int}(h:w.ownsRow B0 3 1 v l.length (bO l)):(l=[]/\∃o c,v=aj o 0 c)\/∃g a,v=aj (some ⟨g,0,none⟩) l.length a/\l.length<=a/\∀k x,l[k]? =some x->w.cell? (aH g k)=some (ag x):=by
 obtain⟨o,a,e,p,q,s,j⟩:=eT h;cases l with
 |nil=>exact .inl ⟨rfl,_,_,e⟩
 |cons b r=>
  have f:∀(k:Nat) (x:Int),(b::r)[k]? =some x->(bO (b::r))[k]? =some (ag x):=λk x i=>by
   unfold bO;grind
  obtain⟨g,m, -⟩:=dO h 0 _ (f 0 b rfl);have d:=j g m;subst e d;refine .inr ⟨g,a,rfl,aa,λk x i=>?_⟩;obtain⟨t,n,u⟩:=dO h _ _ (f k x i);grind
def IxL (q:Int->Bool)(l:List Int)(W:ah)(y:au)(wr:ah):Prop:=∃k:Nat,k<=l.length/\y=ag k/\C8 q 0 l=C8 q k (l.drop k)/\aD W wr
theorem UB (q:Int->Bool)(l:List Int)(W:ah)(f:Nat)(r:Array au)(B0:Nat)(v:au)(M:l.length<=1000000)(h:W.ownsRow B0 3 1 v l.length (bO l))
  (B:∀x∈l,∀V,aD W V->aJ f (#[ag x]++r) V λe w'=>e=ax (.bool (q x))/\aD V w') (n:f=323) (s:∃a b,r=#[.pointer (some a),.pointer (some b)]):
  aJ 163 #[v,.func (.func f) #[] r] W λe w'=>e=ax (ag (C8 q 0 l))/\aD W w':=by
 subst n;obtain⟨a,b,rfl⟩:=s;have I:=aA B;clear B;rcases ints_at h with⟨rfl,o,c,rfl⟩|⟨g,t,rfl,C,D⟩
 .clear h;go_enter func163,ntmps163;go_wp2_with fail
  go_loopw [8] (λy wr=>y=ag 0/\wr=W) (λ_ _=>0)
  case atStart=>exact⟨rfl,rfl⟩
  case round=>
   obtain⟨rfl,rfl⟩:=hrel;go_wp2_with fail;go_ret;exact⟨rfl,aQ _ _⟩
 .have J:=aA D;clear h D;have K:(l.length:Int)<=(t:Int):=aa;go_enter func163,ntmps163;go_wp2_with fail
  go_loopw [8] (λy wr=>IxL q l W y wr) (λy _=>l.length-(intOf y).toNat)
  case atStart=>exact⟨0,bf _,rfl,rfl,aQ _ _⟩
  case round=>
   obtain⟨k,N,rfl,n,m⟩:=hrel;have u:=aA n;clear n;by_cases w:k<l.length
   .have E:(k:Int)<(l.length:Int):=aa;obtain⟨x,z,F⟩:=drop_at w;have A:=J.out k x z;have A:=(m.cell (aR A)).trans A;have p:=I.out x (gN z) wr m;have H:=aA F;clear z F;cases j:q x with
    |true=>
     rw[j] at p;have d:Hid (C8 q 0 l=k):=by show _=_;rw[u.out,H.out];unfold C8;rw[if_pos j]
     clear j;go_wp2_with(go_at_call 323;refine p.mono ?_;rintro e L ⟨rfl,i⟩);go_ret;exact⟨by rw[d.out];rfl,aW m i⟩
    |false=>
     rw[j] at p;have d:Hid (C8 q 0 l=C8 q (k+1) (l.drop (k+1))):=by show _=_;rw[u.out,H.out,C8,if_neg (by rw[j];simp)]
     clear j;go_wp2_with(go_at_call 323;refine p.mono ?_;rintro e L ⟨rfl,i⟩)
     go_roundw
     case rel=>exact⟨k+1,aa,by go_num,d.out,aW m i⟩
     case measure=>simp[intOf];omega
   .obtain rfl:k=l.length:=aa;have d:Hid (C8 q 0 l= -1):=by show _=_;rw[u.out,List.drop_length];rfl
    go_wp2_with fail;go_ret;exact⟨by rw[d.out];rfl,m⟩
section
variable {E:Nat->Addr}{B:Nat}{A:dm}{W:ah}{DB C:Nat}{p:Int->Option Nat}{M:Dm}{nx c:Nat}{r:Int->Nat}
theorem a2P (i:bT B A W DB C p M nx c)(j k l:Nat)(v:Bs)(w:W.cell? (aH j 0)=some (aI DB))(x:W.cell? (aH k 0)=some (aI j))(h:W.cell? (aH l 0)=some (bV v))(n:Int)(r:dV n):
  aJ 323 #[ag n,aI k,aI l] W λe w'=>e=ax (.bool (DU M n kId==some v))/\aD W w':=by
 have b:=mZ i n r kId;rw[wE] at b;have m:=λV (t:aD W V)=>(t.cell (aR h)).trans h;clear i h;cases f:DU M n kId with
 |none=>
  rw[f] at b;clear f;go_enter func323,ntmps323;go_wp2_with(go_at_call 169;refine b.mono ?_;rintro e g ⟨rfl,a⟩);go_ret;exact⟨rfl,a⟩
 |some s=>
  rw[f] at b;have o:=iL s v;have q:(some s==some v)=(s==v):=rfl;rw[q];clear f q;cases d:(s==v) with
  |true=>
   rw[d] at o;go_enter func323,ntmps323;go_wp2_with(go_at_call 169;refine b.mono ?_;rintro e g ⟨rfl,a⟩;have u:=m g a);go_ret;exact⟨rfl,a⟩
  |false=>
   rw[d] at o;go_enter func323,ntmps323;go_wp2_with(go_at_call 169;refine b.mono ?_;rintro e g ⟨rfl,a⟩;have u:=m g a);go_ret;exact⟨rfl,a⟩
theorem j5.QC (h:j5 B A W DB C p M nx c r):Dp M 11 0/\(dM M 11 0).length<=100:=by
 obtain⟨d,a, -⟩:=h.d.root;have b:=h.d.dp 11 0 d a aa;refine⟨b,?_⟩;unfold dM;rw[h.d.count h.n b];exact h.le
def LdR (x:Option Int)(e:Ending):Prop:=match x with
 |some k=>e=ax (aF #[ag k,.bool true])
 |none=>e=ax (aF #[ag 0,.bool false])
theorem a2Q (h:j5 B A W DB C p M nx c r):∀x∈dM M 11 0,dV x:=λx a=>by
 obtain⟨e,b⟩:=((h.d.mem h.QC.1).1 a).in_;have d:=h.w.dom x e b;have f:=h.w.few;exact WalkArith.wf_i64 aa
theorem Zd (h:j5 B A W DB C p M nx c r)(d:Nat)(P:W.cell? (aH d 0)=some (aI DB))(n:Int)(hn:dV n):
  aJ 261 #[aI d,ag n] W λe w'=>LdR (Mi M n) e/\aD W w':=by
 have v:=dI W (ai #[aI d] 156);have K0:=dN W #[aI d] 156;have f:=mZ (h.w.below v) n hn kOf;have a4:=(v.cell (aR P)).trans P;rw[wE] at f;have Q:=aA h;unfold Mi;cases R:DU M n kOf with
 |none=>
  rw[R] at f;clear R h;go_enter func261,ntmps261;go_wp2_with(go_at_call 169;refine f.mono ?_;rintro e q ⟨rfl,S⟩)
  go_ret2
  exact⟨rfl,aW (aW v S) (dI q _)⟩
 |some s=>
  rw[R] at f;have f:aJ 169 #[aI DB,ag n,ak ⟨#[111,102]⟩] (W.alloc (ai #[aI d] 156)) λr w'=>r=ax (aF #[bV s,.bool true])/\Below (W.alloc (ai #[aI d] 156)).heap.size (W.alloc (ai #[aI d] 156)) w':=f;clear R h;dsimp only;obtain⟨L,T⟩:∃L,dM M 11 0=L:=⟨_,rfl⟩;have w:allM M=L:=T;rw[w];have y:=a2Q Q.out;have z:=Q.out.QC.2;rw[T] at y z;have Ux:=aA T;clear T w;obtain⟨a5,sG⟩:∃x,L.find? (λk=>DU M k kId==some s)=x:=⟨_,rfl⟩;rw[sG];have UC:=aA sG;clear sG;go_enter func261,ntmps261;go_upto_region 4 with(go_at_call 169;refine f.mono ?_;rintro e q ⟨rfl,S⟩);have b2:=dI q (ai #[bV s] 9);have U:=dN q #[bV s] 9;obtain⟨V,hV⟩:∃V,q.alloc (ai #[bV s] 9)=V:=⟨_,rfl⟩;obtain⟨BO,D⟩:∃b,q.heap.size=b:=⟨_,rfl⟩;rw[hV] at b2 U⊢;rw[D] at U⊢;have j:=aW S b2;have l:=aW v j;have KW:=(j.block _ (dz K0)).trans K0;have E:=(l.cell (aR P)).trans P;have SV:=Q.out.below l;have AL:=Wy SV.w 11 aC SV.QC.1 (by have:=SV.QC.2;omega);rw[Ux.out] at AL;have c0:=aO KW 0 _ rfl;clear f hV D S b2 v K0 a4 j;go_upto_region 5 with(go_at_call 101;refine AL.mono ?_;rintro e w2 ⟨o,k,rfl,X,m⟩);clear AL;have B2:=aW l X;have F:=(X.cell (aR E)).trans E;have H:=(X.block _ (dz KW)).trans KW;have I:=(X.block _ (dz U)).trans U;have Y:=UB (λk=>DU M k kId==some s) L w2 323 #[aI W.heap.size,aI BO] _ _ aa m
   (λx hx V2 a=>a2P (Q.out.below (aW B2 a)).w d W.heap.size BO s ((a.cell (aR F)).trans F) (aO ((a.block _ (dz H)).trans H) 0 _ rfl) (aO ((a.block _ (dz I)).trans I) 0 _ rfl) x (y x hx)) rfl ⟨_,_,rfl⟩
  have HI:=KH (λk=>DU M k kId==some s) L 0;have J:=aA m;have K:L.find? (λk=>DU M k kId==some s)=a5:=UC.out;rw[K] at HI;clear m K;rcases HI with⟨N,rfl⟩|⟨i,x,N,Z,rfl⟩
  .rw[N] at Y;clear N;go_wp2_with(go_at_call 163;refine Y.mono ?_;rintro e t ⟨rfl,u⟩)
   go_ret2
   exact⟨rfl,aW B2 u⟩
  .rw[N,fZ] at Y;have O:=(kQ.1 Z).1;have R3:∀t,aD w2 t->∃g,o=some ⟨g,0,none⟩/\t.cell? (aH g i)=some (ag x):=λt u=>by
    rcases ints_at J.out with⟨he, -⟩|⟨g,a7,hv, -,hc⟩
    .rw[he] at O;simp at O
    .injection hv with hv1;exact⟨g,hv1,(u.cell (aR (hc i x Z))).trans (hc i x Z)⟩
   obtain⟨g,rfl, -⟩:=R3 w2 (aQ _ _);have a8:(i:Int)<(L.length:Int):=aa;clear N Z;go_wp2_with(go_at_call 163;refine Y.mono ?_;rintro e t ⟨rfl,u⟩;obtain⟨g',a6,cg⟩:=R3 t u;cases a6)
   go_ret2
   exact⟨rfl,aW B2 u⟩
end
end
open Go.RowKit Go.Shelf
abbrev xK (Bd Bl:Nat):au:=.func (.func 76) #[] #[aI Bd,aI Bl]
section
variable {E:Nat->Addr}{B:Nat}{A:dm}{W:ah}{DB C:Nat}{p:Int->Option Nat}{M:Dm}{nx c:Nat}{r:Int->Nat}
theorem Ze (h:bT B A W DB C p M nx c)(d:Wd M r)(hF:E8 M)(l:List Rl)(a:∀x∈l,RlG x)(B0:Nat)(v:au)(b:W.ownsRow B0 150 3 v l.length (fE l))(Bd Bl:Nat)(j:W.cell? (aH Bd 0)=some (aI DB))(k:W.cell? (aH Bl 0)=some v)(n:Int)(f:dV n)(nm:Bs):
  aJ 76 #[ag n,bV nm,aI Bd,aI Bl] W λe w'=>e=ax (bV (ofM M l nm n))/\aD W w':=by
 have g:=a2E h d hF l a B0 v b n f nm;obtain⟨m,o,rfl⟩:=bg b;clear h d hF a b;go_enter func76,ntmps76;go_wp2_with(go_at_call 56;refine g.mono ?_;rintro e q ⟨rfl,i⟩);go_ret;exact⟨rfl,i⟩
end
structure fq where
 nd:Int
 o:Option Addr
 cap:Nat
 pts:List Qt
 fill:Bs
 rule:Bs
 lv:Int
def fq.pc (x:fq):Pc:=⟨x.nd,x.pts,x.fill,x.rule,x.lv⟩
abbrev He (x:fq):au:=aj x.o x.pts.length x.cap
def cellsS:List fq->List au
 |[]=>[]
 |x::l=>ag x.nd::He x::bV x.fill::bV x.rule::ag x.lv::cellsS l
theorem yX:∀l:List fq,(cellsS l).length=l.length*5
 |[]=>rfl
 |x::l=>by simp[cellsS,yX l];omega
theorem Hf:∀l m:List fq,cellsS (l++m)=cellsS l++cellsS m
 |[],_=>rfl
 |x::l,m=>by simp[cellsS,Hf l m]
structure Sc (base WB DB:Nat)(sf:au)(k:Nat)(ps:List fq)(v:au)(V:ah):Prop where
 wb:V.heap[WB]? =some (ai #[aI DB,sf,ag k,v] 159)
 own:V.ownsRow base 115 5 v ps.length (cellsS ps)
 pts:∀x∈ps,kF V base (He x) x.pts
 rt:∀x∈ps,∀a∈x.pts,iJ a=0
structure Kw (WB:Nat)(v:au)(V V':ah):Prop where
 os:V'.os=V.os
 tape:V'.tape=V.tape
 output:V'.output=V.output
 size:V.heap.size<=V'.heap.size
 block:∀b,b<V.heap.size->b≠WB->v.ownBlock≠some b->V'.heap[b]? =V.heap[b]?
theorem Kw.refl (a:Nat)(v:au)(V:ah):Kw a v V V:=⟨rfl,rfl,rfl,Nat.le_refl _,λ_ _ _ _=>rfl⟩
theorem Kw.of_below {c:Nat}{v:au}{V a:ah}(h:aD V a):Kw c v V a:=⟨h.os,h.tape,h.output,h.size,λb d _ _=>h.block b d⟩
theorem Kw.trans {d:Nat}{v f:au}{V g a:ah}(h:Kw d v V g)(l:f.ownBlock=v.ownBlock\/∀b,f.ownBlock=some b->V.heap.size<=b)(c:Kw d f g a):Kw d v V a:=
 ⟨c.os.trans h.os,c.tape.trans h.tape,c.output.trans h.output,bu h.size c.size,λb i j k=>(c.block b (dP i h.size) j (λe=>by grind)).trans (h.block b i j k)⟩
theorem fM {w:ah}{a k n:Nat}{t:TypeId}{v:au}{c:List au}(h:w.ownsRow a t k v n c):∀g,v.ownBlock=some g->∃cs f,w.heap[g]? =some (ai cs t f)/\a<=g:=λg b=>by
 rcases h.2 with⟨d, -⟩|⟨l,e,i,j,m,o, -⟩
 .rw[d] at b;cases b
 .rw[j] at b;cases b;grind
variable {C A DB:Nat}{I:au}{k:Nat}{H:List fq}{v:au}{V D:ah}
theorem Sc.keep (h:Sc C A DB I k H v V)(c:Kw A v V D){b:Nat}{cs:Array au}{t:TypeId}{f:Nat×Nat}(a:V.heap[b]? =some (ai cs t f))(g:t≠159)(i:t≠115):D.heap[b]? =some (ai cs t f):=by
 refine(c.block b (dz a) ?_ ?_).trans a
 .rintro rfl;rw[h.wb] at a;grind
 .intro e;obtain⟨d,j,l, -⟩:=fM h.own b e;grind
theorem Sc.low (h:Sc C A DB I k H v V)(a:Kw A v V D)(b:C<=A)(c:C<=V.heap.size):Below C V D:=
 ⟨a.os,a.tape,a.output,a.size,λj d=>a.block j aa aa (λe=>by
  obtain⟨-, -, -,f⟩:=fM h.own j e;omega)⟩
theorem Sc.path (h:Sc C A DB I k H v V)(a:Kw A v V D){q:Option Nat}{l:List (Int×Mv)}(hp:iC V q l):iC D q l:=
 iC.keep (λb t d ⟨c,e⟩=>by subst e;exact h.keep a d aC aC) hp
theorem Sc.below (h:Sc C A DB I k H v V)(a:aD V D):Sc C A DB I k H v D:=
 ⟨(a.block _ (dz h.wb)).trans h.wb,bD h.own a,λx b=>(h.pts x b).keep a,h.rt⟩

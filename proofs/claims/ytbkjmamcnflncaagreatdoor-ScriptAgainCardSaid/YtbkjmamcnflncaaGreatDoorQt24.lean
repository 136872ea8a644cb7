import Derived.Test.YtbkjmamcnflncaaGreatDoorQt23
namespace Go.Proofs.YtbkjmamcnflncaaGreatDoor
open Go.Proofs.Tryz
set_option maxHeartbeats 16000000
variable{a:Qt}{t:TypeId}{m:Mv}
section
open Go.RowKit
def gQ:List Qt->List ax
 |[]=>[]
 |a::r=>ag a.xn::ag a.xd::ag a.yn::ag a.yd::gQ r
theorem zJ:∀l:List Qt,(gQ l).length=l.length*4
 |[]=>rfl
 |x::r=>by simp[gQ,zJ r];omega
theorem Ij:∀l m:List Qt,gQ (l++m)=gQ l++gQ m
 |[],_=>rfl
 |x::r,m=>by simp[gQ,Ij r m]
theorem Ik:∀(l:List Qt) (j:Nat) (u:ax),(gQ l)[j]? =some u->∃i x,l[i]? =some x/\((j=i*4/\u=ag x.xn)\/(j=i*4+1/\u=ag x.xd)\/(j=i*4+2/\u=ag x.yn)\/(j=i*4+3/\u=ag x.yd))
 |[],j,u,h=>by simp[gQ] at h
 |x::r,0,u,h=>by simp[gQ] at h;exact⟨0,x,rfl,.inl ⟨rfl,h.symm⟩⟩
 |x::r,1,u,h=>by simp[gQ] at h;exact⟨0,x,rfl,.inr (.inl ⟨rfl,h.symm⟩)⟩
 |x::r,2,u,h=>by simp[gQ] at h;exact⟨0,x,rfl,.inr (.inr (.inl ⟨rfl,h.symm⟩))⟩
 |x::r,3,u,h=>by simp[gQ] at h;exact⟨0,x,rfl,.inr (.inr (.inr ⟨rfl,h.symm⟩))⟩
 |x::r,j+4,u,h=>by
  have a:(gQ r)[j]? =some u:=by simpa[gQ] using h
  obtain⟨i,y,b,c⟩:=Ik r j u a;refine⟨i+1,y,by simpa using b,?_⟩;grind
theorem Il:∀(l:List Qt) (i:Nat) (x:Qt),l[i]? =some x->(gQ l)[i*4]? =some (ag x.xn)/\(gQ l)[i*4+1]? =some (ag x.xd)/\(gQ l)[i*4+2]? =some (ag x.yn)/\(gQ l)[i*4+3]? =some (ag x.yd)
 |[],i,x,h=>by simp at h
 |y::r,0,x,h=>by simp at h;subst h;exact⟨rfl,rfl,rfl,rfl⟩
 |y::r,i+1,x,h=>by
  have a:=Il r i x (by simpa using h);rw[show(i+1)*4=i*4+4 from by omega];simpa[gQ,Nat.add_right_comm _ 4] using a
theorem Im (l:List Qt):∀u∈gQ l,u.oneCell'=true:=λu a=>by
 obtain⟨j,b⟩:=List.getElem?_of_mem a;obtain⟨i,x, -,⟨-,rfl⟩|⟨-,rfl⟩|⟨-,rfl⟩|⟨-,rfl⟩⟩:=Ik l j u b<;>rfl
theorem addr_add (b off k:Nat):(⟨b,off,none⟩:Addr).add k=⟨b,off+k,none⟩:=by unfold Addr.add;split<;>simp_all
def kS (w:ai)(a:Nat)(v:ax)(l:List Qt):Prop:=w.ownsRow a 233 4 v l.length (gQ l)
theorem kS.at_ {w:ai}{c:Nat}{v:ax}{l:List Qt}(h:kS w c v l)(k:∀a∈l,PI a):∃o b,v=aj o l.length b/\iH w o l:=by
 rcases h.2 with⟨rfl,f⟩|⟨g,b,m,rfl, -⟩
 .have:l=[]:=by grind
  subst this;exact⟨none,0,rfl,λi a d=>by simp at d⟩
 .refine⟨_,b,rfl,λi a d=>⟨g,0,rfl,?_⟩⟩;have e:∀j u,(gQ l)[j]? =some u->w.cell? (aJ g j)=some u:=λj u n=>by
   have:=World.ownsRow.cells h (g:=g) rfl j u n;rw[addr_add,gq] at this;exact this
  obtain⟨f,p,q,r⟩:=Il l i a d;rw[gq];exact⟨e _ _ f,e _ _ p,e _ _ q,e _ _ r,k a (ic d)⟩
theorem a3x:(prog.info? 233).map (λi=>(i.zero,i.size,i.bytes))=some (some (.agg #[ag 0,ag 0,ag 0,ag 0]),4,32):=aA
theorem XI {w:ai}{a:Nat}{e:TypeId}{b:Nat}{v:ax}{n:Nat}{d:List ax}(h:w.ownsRow a e b v n d):∀k,v.ownBlock=some k->a<=k:=by
 obtain⟨_,f⟩:=h;rcases f with⟨rfl,_⟩|⟨g,i,j,rfl,l,_⟩
 .intro k c;cases c
 .intro k c;cases c;exact l
theorem kS.nil (w:ai)(a:Nat):kS w a (aj none 0 0) []:=gp _ _ _ _
theorem kS.app {w:ai}{a:Nat}{v:ax}{l m:List Qt}{k:Nat}(h:w.ownsRow a 233 4 v (l.length+k) (gQ l++gQ m))(b:k=m.length):kS w a v (l++m):=by
 unfold kS;rw[Ij,dO,<- b];exact h
def Ve (a:Qt):Pt:=⟨⟨a.xn,a.xd⟩,⟨a.yn,a.yd⟩⟩
theorem FH (h:iW a=0):PI a:=by
 obtain⟨b,c⟩:=jc.1 h;obtain⟨d,e⟩:=jJ b;obtain⟨f,g⟩:=jJ c;exact⟨d,e,f,g⟩
theorem agE (w:ai)(a b c:Obj):∀U,((w.alloc a).alloc b).alloc c=U->
  U.heap[w.heap.size]? =some a/\U.heap[w.heap.size+1]? =some b/\U.heap[w.heap.size+1+1]? =some c/\aD w U:=by
 rintro U rfl;refine⟨?_,?_,?_,?_⟩
 .exact ko _ (ko _ (uY _ rfl))
 .exact ko _ (uY _ aI)
 .exact uY _ aI
 .exact(((aW _ _).alloc az _).alloc aI _).alloc bq _
theorem ZJ {w w':ai}{b n:Nat}{o:Obj}(a:Below n w w')(c:w.heap.size<=n)(h:w.heap[b]? =some o):w'.heap[b]? =some o:=(a.block _ (fK (eY.1 h).1 c)).trans h
theorem kT {w w':ai}{b:Nat}{o:Obj}(a:aD w w')(h:w.heap[b]? =some o):w'.heap[b]? =some o:=ZJ a az h
theorem kS.far {w:ai}{a b:Nat}{v u:ax}{l:List Qt}(h:kS w a v l)(m:b<a):kS (w.setCell ⟨b,0,none⟩ u) a v l:=by
 refine⟨h.1,?_⟩;rcases h.2 with e|⟨g,c,d,f,i,j,k⟩
 .exact .inl e
 .refine .inr ⟨g,c,d,f,i,?_,k⟩;rw[dw _ _ _ g bq];exact j
theorem kS.low {w:ai}{a b:Nat}{v:ax}{l:List Qt}(h:kS w a v l)(e:b<=a):kS w b v l:=by
 refine⟨h.1,?_⟩;rcases h.2 with f|⟨g,c,d,i,j,k⟩
 .exact .inl f
 .exact .inr ⟨g,c,d,i,bO e j,k⟩
theorem kS.keep {w w':ai}{a:Nat}{v:ax}{l:List Qt}(h:kS w a v l)(d:aD w w'):kS w' a v l:=by
 refine⟨h.1,?_⟩;rcases h.2 with e|⟨g,b,c,f,i,j,k⟩
 .exact .inl e
 .exact .inr ⟨g,b,c,f,i,kT d j,k⟩
end
section
open Go.RowKit Go.Shelf
set_option maxRecDepth 20000
def CkR (E:Nat->Addr)(l:List Qt)(o:Option Addr)(a:Nat)(e:Ending)(w':ai):Prop:=
 (okB l=true/\e=ay (aH #[.agg #[aj o l.length a],aY]))\/(okB l=false/\∃v,e=ay (aH #[.agg #[aj none 0 0],v])/\TM E 2 v w')
theorem Bo (l:List Qt):okB l=true↔qd l:=by
 unfold okB qd;simp
theorem abV {E:Nat->Addr}{w W:ai}{l:List Qt}{e:Ending}(t:∀y∈l,iW y=0)(h:a2d (E 2) (E 3) (E 2) w l e W):∃v,e=ay v/\((okB l=true/\v=aY)\/(okB l=false/\(v=eV (E 2)\/∃a,w.heap.size<=a/\v=aU 67 (aK a)/\W.cell? (aJ a 1)=some (eV (E 2))))):=by
 rcases h with⟨d,b⟩|⟨-,⟨y,c,g⟩, -⟩|⟨d,b,i⟩
 .exact⟨_,b,.inr ⟨by rw[<- Bool.not_eq_true,Bo];exact λh=>by have:=h.1;omega,.inl rfl⟩⟩
 .grind
 .rcases i with⟨f,j⟩|⟨q,x,r,a,f, -,u,k,m, -,n⟩
  .exact⟨_,j,.inl ⟨(Bo l).2 ⟨d,λy c=>by unfold jZ;rw[aG (by simp[b y c])];exact f y c⟩,rfl⟩⟩
  .have o:nI x=2:=by have:=qX x;omega
   refine⟨_,m,.inr ⟨?_,.inr ⟨a,k,rfl,by rw[n,o];rfl⟩⟩⟩;rw[<- Bool.not_eq_true,Bo];intro p;have s:x∈l:=by grind
   have:=p.2 x s;unfold jZ at this;grind
theorem Io {E:Nat->Addr}(l:List Qt)(B:∀y∈l,iW y=0)(o:Option Addr)(a:Nat)(w:ai)(h:iH w o l)(hE:NE E w):
  aL 321 #[aj o l.length a] w λe W=>CkR E l o a e W/\aD w W:=by
 go_enter func321,ntmps321;go_upto_region 2 with fail;obtain⟨U,c⟩:∃U,(w.alloc (ak #[aj none 0 0] 113)).alloc (ak #[aj o l.length a] 113)=U:=⟨_,rfl⟩;have j:aD w U:=by rw[<- c];exact((aW _ _).alloc az _).alloc aI _
 have b:U.cell? ⟨w.heap.size,0,none⟩=some (aj none 0 0)/\U.frozen? ⟨w.heap.size,0,none⟩=false:=by
  rw[<- c];have d:=dz (w.alloc (ak #[aj none 0 0] 113)) (ak #[aj o l.length a] 113);exact⟨(d.cell (p:=⟨w.heap.size,0,none⟩) aI).trans (lg w _ _).1,(d.frozen (p:=⟨w.heap.size,0,none⟩) aI).trans (lg w _ _).2⟩
 have k:U.cell? ⟨w.heap.size+1,0,none⟩=some (aj o l.length a):=by
  have d:=(lg (w.alloc (ak #[aj none 0 0] 113)) (aj o l.length a) 113).1;rw[show(w.alloc (ak #[aj none 0 0] 113)).heap.size=w.heap.size+1 from by simp,c] at d;exact d
 rw[c];clear c;obtain⟨b,t⟩:=b;have u:=Aw (E 2) (E 3) (E 2) l o a U (h.below j az) (hE.e3.below j az);have C:w.heap.size<U.heap.size:=aX b;have D:=aF B;go_upto_region 3 with(go_at_call 182;refine u.mono ?_;rintro e x ⟨z,g⟩;obtain⟨v,rfl,m⟩:=abV D.out z);have A:=(g.cell (aX b)).trans b;have I:=(g.frozen (aX b)).trans t;have J:=(g.cell (aX k)).trans k;have n:=aP j g;clear z u b t k;rcases m with⟨q,rfl⟩|⟨f,F⟩
 .go_wp2_with fail;have i:(x.setCell ⟨w.heap.size,0,none⟩ (aj o l.length a)).cell? ⟨w.heap.size,0,none⟩=some (aj o l.length a):=iJ _ _ _ (by rw[A];rfl);exact bg (v:=aH #[.agg #[aj o l.length a],aY]) (by simp[results,results321,go_sem,i]) rfl ⟨.inl ⟨q,rfl⟩,n.setCell aI _⟩
 .have i:(x.setCell ⟨w.heap.size,0,none⟩ (aj none 0 0)).cell? ⟨w.heap.size,0,none⟩=some (aj none 0 0):=iJ _ _ _ (by rw[A];rfl);rcases F with rfl|⟨r,H,rfl,s⟩
  .go_wp2_with fail;exact bg (v:=aH #[.agg #[aj none 0 0],eV (E 2)]) (by simp[results,results321,go_sem,i]) rfl ⟨.inr ⟨f,_,rfl,aC,aC,.inl rfl⟩,n.setCell aI _⟩
  .go_wp2_with fail;refine bg (v:=aH #[.agg #[aj none 0 0],aU 67 (aK r)]) (by simp[results,results321,go_sem,i]) rfl ⟨.inr ⟨f,_,rfl,aC,aC,.inr ⟨r,0,rfl,?_⟩⟩,n.setCell aI _⟩;exact(dh _ _ _ _ (by show w.heap.size≠r;omega)).trans s
def rz (E:Nat->Addr)(x:Except Nat (List Qt))(e:Ending)(w':ai):Prop:=match x with
 | .ok l=>(∀a∈l,iW a=0)/\okB l=true/\∃o b,e=ay (aH #[.agg #[aj o l.length b],aY])/\iH w' o l
 | .error c=>∃v,e=ay (aH #[.agg #[aj none 0 0],v])/\TM E c v w'
def ptB (w:aO):Option Qt:=ptM w.data.toList
theorem a7S {w:Bs}{q:Qt}(h:ptM w=some q):iW q=0:=by
 unfold ptM at h;cases c:behind 44 w with
 |none=>rw[c] at h;cases h
 |some b=>
  rw[c] at h;dsimp only at h;by_cases a:(rd (ahead 44 w)).c=0/\(rd b).c=0
  .rw[aR a] at h;obtain rfl:=fT h;exact jc.2 ⟨WW a.1,WW a.2⟩
  .rw[aG a] at h;cases h
theorem ZK {f:aO->Option Qt}{ws:List aO}{k:Nat}{L:List Qt}{x:aO}{q:Qt}(h:(ws.take k).mapM f=some L)(a:ws[k]? =some x)(b:f x=some q):(ws.take (k+1)).mapM f=some (L++[q]):=by
 rw[eX,a];simp[List.mapM_append,h,b]
theorem XJ {f:aO->Option Qt}:∀{ws:List aO} {k:Nat} {x:aO},ws[k]? =some x->f x=none->ws.mapM f=none
 |[],_,_,h,_=>by simp at h
 |y::ws,0,x,h,a=>by
  simp at h;subst h;simp[a]
 |y::ws,k+1,x,h,a=>by
  have:=XJ (ws:=ws) (k:=k) (by simpa using h) a;simp[this]
def a3y (ws:List aO):Except Nat (List Qt):=match ws.mapM ptB with
 |none=>.error 1
 |some l=>if okB l then .ok l else .error 2
theorem TM.far {E:Nat->Addr}{c:Nat}{v u:ax}{w:ai}{b:Nat}(h:TM E c v w):TM E c v (w.setCell ⟨b,0,none⟩ u):=by
 obtain⟨d,e,a⟩:=h;refine⟨d,e,?_⟩;rcases a with a|⟨f,g,a,i⟩
 .exact .inl a
 .exact .inr ⟨f,g,a,(World.cell?_setCell_other _ _ _ _ (by intro h;simp at h)).trans i⟩
def SrL (ws:List aO)(b:ai)(x y:ax)(wr:ai):Prop:=∃(k:Nat) (L:List Qt) (v:ax),x=v/\y=ag k/\k<=ws.length/\(ws.take k).mapM ptB=some L/\(∀a∈L,iW a=0)/\L.length=k/\kS wr b.heap.size v L/\aD b wr
section
variable {E:Nat->Addr}{W:ai}
theorem Ro (hN:NE E W)(s:aO)(hs:s.size<=1000)(h0:s.size≠0):
  aL 260 #[au s] W λe w'=>rz E (a3y (words s)) e w'/\aD W w':=by
 obtain⟨i0,hi,a6,a7,a8⟩:=info_parts a3x;have b0:=dR W (ak #[aj none 0 0] 113);have K0:=dY W #[aj none 0 0] 113;have SP:=Ci s aa (W.alloc (ak #[aj none 0 0] 113));have o:(words s).length=Lib.countB s ⟨#[32]⟩+1:=Lib.splitB_all ⟨#[32]⟩ aC 0 _ s rfl;have a9:=Lib.countB_le ⟨#[32]⟩ aC s.size s az;have H:∀a∈words s,a.size<=1000:=λa p=>by have:=Ht _ s a p;omega
 have I:(Lib.splitB ⟨#[32]⟩ 0 (Lib.countB s ⟨#[32]⟩) s)=words s:=rfl;rw[I,<- o] at SP;have b5:(words s).length<=1001:=aa;generalize words s=c at SP H b5⊢;clear I o a9;have c2:s.toList.isEmpty=false:=by
  rw[gN,List.isEmpty_eq_false_iff];intro e;exact h0 (by rw[<- mH,e];rfl)
 have b1:=dR (W.alloc (ak #[aj none 0 0] 113)) (ak (c.map Value.string).toArray 9);have KW:=dY (W.alloc (ak #[aj none 0 0] 113)) (c.map Value.string).toArray 9;have HN:=aF hN;clear hN;go_enter func260,ntmps260;go_upto_region 5 with(go_at_call 291;refine SP.mono ?_;rintro e J ⟨rfl,rfl⟩);clear SP;obtain⟨J,K⟩:∃U,(W.alloc (ak #[aj none 0 0] 113)).alloc (ak (c.map Value.string).toArray 9)=U:=⟨_,rfl⟩;obtain⟨WB,i⟩:∃b,(W.alloc (ak #[aj none 0 0] 113)).heap.size=b:=⟨_,rfl⟩;have c3:W.heap.size<WB:=by rw[<- i];simp
 have K1:=(b1.block _ (dI K0)).trans K0;have zI:=bf b0 b1;rw[K] at zI K1 KW⊢;rw[i] at KW;simp only[dV] at i;simp only[i];clear K b0 b1 K0
 go_loopw [4,15] (λx y wr=>SrL c J x y wr) (λ_ y _=>c.length-(intOf y).toNat)
 case atStart=>exact⟨0,[],_,rfl,rfl,bA _,rfl,aI,rfl,kS.nil _ _,aW _ _⟩
 case round=>
  obtain⟨k,L,v,rfl,rfl,hk,hL,hC,r,hO,M⟩:=hrel;have HL:=aF hL;have HC:=aF hC;obtain⟨j,l,rfl,N⟩:=hO.at_ (λa p=>FH (hC a p));rw[r] at hO⊢;have C:=aF r;have HO:=aF hO;have O:=aF N;have NR:=HN.out.below (bf zI M);have KR:=(M.block _ (dI K1)).trans K1;have KV:=(M.block _ (dI KW)).trans KW;have r0:=aQ KR 0 _ rfl;have f0:=gI KR 0;have t:=bf zI M;clear hL hC r hO N;by_cases P:k<c.length
  .have Q:(k:Int)<(c.length:Int):=aa;obtain⟨x,hx⟩:∃x,c[k]? =some x:=⟨_,fD P⟩;have hc:=aQ KV k (au x) (by simp[hx]);have D:=Ka NR x (H x (ic hx));have HX:=aF hx;clear hx;cases w:ptM x.data.toList with
   |none=>
    rw[w] at D;have HQ:=aF w;clear w;have HA:Hid (a3y c=.error 1):=by
     unfold a3y Hid;rw[XJ HX.out HQ.out]
    go_upto_region 9 with(go_at_call 322;refine D.mono ?_;rintro e d ⟨rfl,f⟩);have z:=dR d (ak #[ag 0,ag 0,ag 0,ag 0] 233);obtain⟨U,R⟩:∃U,d.alloc (ak #[ag 0,ag 0,ag 0,ag 0] 233)=U:=⟨_,rfl⟩;rw[R] at z⊢;have F:=bf f z;have NU:=NR.below F;have e1:=NU.c1;have KU:=(F.block _ (dI KR)).trans KR;have S:=aQ KU 0 _ rfl;have uf:=gI KU 0;have hg:1<W.heap.size:=aX HN.out.c1;have c4:(U.setCell ⟨W.heap.size,0,none⟩ (aj none 0 0)).cell? (aJ 1 0)=some (eV (E 1)):=(dh _ _ _ _ (by show W.heap.size≠1;omega)).trans e1;clear D R f z hc;go_region
    all_goals go_wp2_with fail
    all_goals refine bg (v:=aH #[.agg #[aj none 0 0],eV (E 1)]) (by simp[results,results260,go_sem,S]) rfl ⟨?_,below_drewN ((bf t F).setCell az _) 1⟩
    all_goals rw[HA.out]
    all_goals exact⟨_,rfl,aC,aC,.inl rfl⟩
   |some q=>
    rw[w] at D;have HQ:=aF w;have b6:=a7S w;clear w;go_upto_region 10 with(go_at_call 322;refine D.mono ?_;rintro e d ⟨rfl,f⟩);have z:=dR d (ak #[ag q.xn,ag q.xd,ag q.yn,ag q.yd] 233);have F3:=Four.new d (ag q.xn) (ag q.xd) (ag q.yn) (ag q.yd) 233;obtain⟨U,R⟩:∃U,d.alloc (ak #[ag q.xn,ag q.xd,ag q.yn,ag q.yd] 233)=U:=⟨_,rfl⟩;obtain⟨BQ,T⟩:∃b,d.heap.size=b:=⟨_,rfl⟩;rw[R] at z F3⊢;rw[T] at F3⊢;have F:=bf f z;have b8:=bf M F;have b7:=b8.size;have V:U.ownsRow J.heap.size 233 4 (aj j k l) k (gQ L):=by
     have h:=HO.out.keep F;unfold kS at h;rw[C.out] at h;exact h
    have b9:=fE U (ak #[ag q.xn,ag q.xd,ag q.yn,ag q.yd] 233);have X:(U.alloc (ak #[ag q.xn,ag q.xd,ag q.yn,ag q.yd] 233)).ownsRow J.heap.size 233 4 (aj j k l) k (gQ L):=iF V _;have HT:Hid ((c.take (k+1)).mapM ptB=some (L++[q])):=ZK HL.out HX.out HQ.out;obtain⟨f0,f1,f2,f3⟩:=F3;clear D R T f z hc V r0 KR KV NR O;go_wp2_with(at_builtin;refine wpList_append_own _ rfl _ _ 111 rfl (J.heap.size) 233 i0 (.agg #[ag 0,ag 0,ag 0,ag 0]) 4 32 underlying111 hi a6 a7 a8 rfl aC _ _ _ rfl X _ _ _ (gQ [q]) rfl (zJ [q]) (World.news_of_block b9) (Im _) (by simp only[maxLen];omega) aa bq ?_;intro c0 c5 Y c1 _)
    go_roundw
    case rel=>
     refine⟨k+1,L++[q],c0,rfl,by go_num,P,HT.out,λa p=>?_,by simp[C.out],?_,(b8.alloc b7 _).grown c1 bq (XI X)⟩
     .rcases iw.1 p with h|h
      .exact HC.out a h
      .simp at h;rw[h];exact b6
     .rw[<- C.out] at Y;exact kS.app (m:=[q]) Y rfl
    case measure=>simp[intOf];omega
  .have Q:¬(k:Int)<(c.length:Int):=aa;obtain rfl:k=c.length:=aa;have HT:Hid (c.mapM ptB=some L):=by
    have:=HL.out;rw[gJ] at this;exact this
   have Z:=C.out;have CK:=Io L HC.out j l wr O.out NR;rw[Z] at CK;clear Z;have a4:Hid (a3y c=if okB L then .ok L else .error 2):=by
    unfold a3y Hid;rw[HT.out]
   go_upto_region 12 with fail;have a5:∀d,aD wr d->d.cell? ⟨W.heap.size,0,none⟩=some (aj none 0 0)/\d.frozen? ⟨W.heap.size,0,none⟩=false:=λd f=>by
    have:=(f.block _ (dI KR)).trans KR;exact⟨aQ this 0 _ rfl,gI this 0⟩
   clear r0 f0 KR KV;cases g:okB L with
   |true=>
    have A:aL 321 #[aj j c.length l] wr λe w'=>e=ay (aH #[.agg #[aj j c.length l],aY])/\aD wr w':=CK.mono λe w' ⟨h,B⟩=>by
     rcases h with⟨-,h⟩|⟨h, -⟩
     .rw[C.out] at h;exact⟨h,B⟩
     .rw[g] at h;cases h
    have n:=aF g;clear CK g;go_wp2_with(go_at_call 321;refine A.mono ?_;rintro e d ⟨rfl,f⟩;obtain⟨S,uf⟩:=a5 d f);refine bg (v:=aH #[.agg #[aj j c.length l],aY]) (by simp[results,results260,go_sem,S]) rfl ⟨?_,(bf t f).setCell az _⟩;rw[a4.out,aR n.out];refine⟨HC.out,n.out,j,l,by rw[C.out],?_⟩;have ho:=(HO.out.keep f).far (b:=W.heap.size) (u:=aj j c.length l) (by have:=dI K1;have:=zI.size;omega);obtain⟨o',c',h1,h2⟩:=ho.at_ (λa p=>FH (HC.out a p));injection h1 with h1;subst h1;exact h2
   |false=>
    have A:aL 321 #[aj j c.length l] wr λe w'=>(∃v,e=ay (aH #[.agg #[aj none 0 0],v])/\TM E 2 v w')/\aD wr w':=CK.mono λe w' ⟨h,B⟩=>by
     rcases h with⟨h, -⟩|⟨-,h⟩
     .rw[g] at h;cases h
     .exact⟨h,B⟩
    have n:Hid (¬okB L=true):=by show¬_;rw[g];simp
    clear CK g;go_wp2_with(go_at_call 321;refine A.mono ?_;rintro e d ⟨⟨v,rfl,hv⟩,f⟩;obtain⟨S,uf⟩:=a5 d f);refine bg (v:=aH #[.agg #[aj none 0 0],v]) (by simp[results,results260,go_sem,S]) rfl ⟨?_,(bf t f).setCell az _⟩;rw[a4.out,aG n.out];exact⟨v,rfl,hv.far⟩
theorem Vg (b:NE E W)(s:Bs)(hs:s.length<=1000):
  aL 260 #[bV s] W λe w'=>rz E (GV s) e w'/\aD W w':=by
 unfold GV;by_cases a:s=[]
 .subst a;rw[aR rfl];clear b;go_enter func260,ntmps260;go_wp2;have c:=dR W (ak #[aj none 0 0] 113);refine bg (v:=aH #[.agg #[aj none 0 0],aY]) (by simp[results,results260,go_sem]) rfl ⟨⟨aI,rfl,none,0,rfl,λi x h=>by simp at h⟩,c⟩
 .rw[aG a];have h:=Ro b ⟨s.toArray⟩ hs (λh=>a (lu.1 h));have e:(λ(w:aO)=>ptM w.toList)=ptB:=by
   funext w;unfold ptB;rw[gN]
  rw[e];exact h
end
end
section
open Go.RowKit Go.Shelf
theorem a7T {w:ai}{b:Nat}{a:Option Addr}{n c:Nat}{u:ax}{o:Option Addr}{l:List Qt}(j:w.heap[b]? =some (ak #[aj a n c] t))(h:iH w o l):iH (w.setCell ⟨b,0,none⟩ u) o l:=λi x m=>by
 obtain⟨d,e,p,q⟩:=h i x m;obtain⟨g,r,s,v,y⟩:=q;have f:b≠d:=by
  rintro rfl;simp only[World.cell?,j] at g;grind
 have F:=λ(k:Nat)=>dh w ⟨b,0,none⟩ ⟨d,k,none⟩ u f;exact⟨d,e,p,(F _).trans g,(F _).trans r,(F _).trans s,(F _).trans v,y⟩
theorem rz.far {E:Nat->Addr}{x:Except Nat (List Qt)}{e:Ending}{w:ai}{b:Nat}{a:Option Addr}{n c:Nat}{u:ax}(h:rz E x e w)(i:w.heap[b]? =some (ak #[aj a n c] t)):rz E x e (w.setCell ⟨b,0,none⟩ u):=by
 cases x with
 |error k=>
  obtain⟨v,d,f⟩:=h;exact⟨v,d,f.far⟩
 |ok l=>
  obtain⟨j,d,o,g,f,m⟩:=h;exact⟨j,d,o,g,f,a7T i m⟩
theorem rz.is {E:Nat->Addr}{x:Except Nat (List Qt)}{e:Ending}{w:ai}(h:rz E x e w):∃o n c v,e=ay (aH #[.agg #[aj o n c],v]):=by
 cases x with
 |error k=>obtain⟨v,a, -⟩:=h;exact⟨_,_,_,_,a⟩
 |ok l=>obtain⟨-, -,o,b,a, -⟩:=h;exact⟨_,_,_,_,a⟩
section
variable {E:Nat->Addr}{B:Nat}{A:dG}{W:ai}{DB C:Nat}{p:Int->Option Nat}{M:Dm}{nx c:Nat}
theorem Vh (f:NE E W)(g:dm B A W DB C p M nx c)(o:SzD M)(h:Nat)(i:W.cell? (aJ h 0)=some (aK DB))(n:Int)(q:eH n):
  aL 191 #[aK h,ag n] W λe w'=>rz E (Lj M n) e w'/\aD W w':=by
 have a:=dR W (ak #[aj none 0 0] 113);have j:=dY W #[aj none 0 0] 113;have b:=nL (g.below a) n q AV;have r:=(a.cell (aX i)).trans i;rw[xq] at b;have k:=Rh o n AV;unfold Lj;unfold Nc at k⊢;generalize (EI M n AV).getD []=s at b k⊢;generalize (EI M n AV).isSome=J at b;have RD:=λV (t:NE E V)=>Vg t s aa;generalize GV s=x at RD⊢;have u:=aF f;clear g f;go_enter func191,ntmps191;go_wp2_with(first|(go_at_call 169;refine b.mono ?_;rintro e w ⟨rfl,d⟩;have y:=RD w (u.out.below (bf a d)))|(go_at_call 260;refine y.mono ?_;rintro e K ⟨l,m⟩;obtain⟨z,D,F,H,rfl⟩:=l.is;have K2:=((bf d m).block _ (dI j)).trans j;have I:=aQ K2 0 _ rfl;have L:=gI K2 0));refine bg (v:=aH #[.agg #[aj z D F],H]) (by simp[results,results191,go_sem,I]) rfl ⟨l.far K2,(bf a (bf d m)).setCell az _⟩
end
set_option maxRecDepth 20000
theorem abY {E:Nat->Addr}(g l m p F H I J:Int)(w:ai)(a7:fV g l=0)(a8:fV m p=0)(a9:fV F H=0)(b0:fV I J=0)(hN:NE E w):
  aL 259 #[.agg #[ag g,ag l],.agg #[ag m,ag p],.agg #[ag F,ag H],.agg #[ag I,ag J]] w λe W=>rz E (uS ⟨g,l,0⟩ ⟨m,p,0⟩ ⟨F,H,0⟩ ⟨I,J,0⟩) e W/\aD w W:=by
 obtain⟨O,P⟩:=jJ a7;obtain⟨Q,R⟩:=jJ a8;obtain⟨c4,c5⟩:=jJ a9;obtain⟨Ba,c6⟩:=jJ b0;have ZL:=aF hN;have hE:=hN.e3;have e3:Hid (fV g l=0/\fV m p=0/\fV F H=0/\fV I J=0):=⟨a7,a8,a9,b0⟩;obtain⟨f6,uj⟩:∃a,uS ⟨g,l,0⟩ ⟨m,p,0⟩ ⟨F,H,0⟩ ⟨I,J,0⟩=a:=⟨_,rfl⟩;rw[uj];have S:=aF uj;clear hN a7 a8 a9 b0 uj;go_enter func259,ntmps259;go_wp2;obtain⟨U,hU⟩:∃U,(((((w.alloc (ak #[ag g,ag l] 163)).alloc (ak #[ag m,ag p] 163)).alloc (ak #[ag F,ag H] 163)).alloc (ak #[ag I,ag J] 163)).alloc (ak #[aj none 0 0] 113)).alloc (ak #[ag g,ag l,ag m,ag p,ag F,ag H,ag I,ag J] 163)=U:=⟨_,rfl⟩;obtain⟨k0,k1,k2,k3,k4,T,uP⟩:=agy w _ _ _ _ _ _ U hU;rw[hU];clear hU;have TN:=hE.below uP az;obtain⟨L,hL⟩:∃L:List (Int×Int),L=[(g,l),(m,p),(F,H),(I,J)]:=⟨_,rfl⟩;have c7:L.length=4:=by rw[hL];rfl
 have c8:∀j n d,L[j]? =some (n,d)->U.cell? ⟨w.heap.size+1+1+1+1+1,j*2,none⟩=some (ag n)/\U.cell? ⟨w.heap.size+1+1+1+1+1,j*2+1,none⟩=some (ag d)/\kU n/\kU d:=λj n d t=>by
  rw[hL] at t
  match j,t with
  |0,t=>cases t;exact⟨cO T 0 _ rfl,cO T 1 _ rfl,O,P⟩
  |1,t=>cases t;exact⟨cO T 2 _ rfl,cO T 3 _ rfl,Q,R⟩
  |2,t=>cases t;exact⟨cO T 4 _ rfl,cO T 5 _ rfl,c4,c5⟩
  |3,t=>cases t;exact⟨cO T 6 _ rfl,cO T 7 _ rfl,Ba,c6⟩
  |(j+4),t=>simp at t
 have HL:=aF hL;have c9:Hid _:=c8;have Vf:=aF c7;clear hL c8 c7 T
 go_loopw [22] (λy wr=>∃k:Nat,k<=4/\y=ag k/\(∀j n d,j<k->L[j]? =some (n,d)->fV n d=0)/\aD U wr) (λy _=>4-(intOf y).toNat)
 case atStart=>exact⟨0,aa,rfl,λj n d t=>aa,aW _ _⟩
 case round=>
  obtain⟨k,hk,rfl,a6,K⟩:=hrel;have HA:=aF a6;clear a6;by_cases f7:k<4
  .have f5:(k:Int)<4:=aa;obtain⟨⟨n,d⟩,b7⟩:∃x,L[k]? =some x:=⟨_,fD (by have:=Vf.out;omega)⟩;obtain⟨c0,c1,e4,e5⟩:=c9.out k n d b7;have c0:=(K.cell (aX c0)).trans c0;have c1:=(K.cell (aX c1)).trans c1;have HN:=aF b7;have e6:=dz wr (ak #[ag n,ag d] 163);have d0:=aP K e6;have CK:=kZ (E 2) (E 3) (E 2) n d (wr.alloc (ak #[ag n,ag d] 163)) e4 e5 (TN.below d0 az);clear b7;by_cases hc:fV n d=0
   .rw[hc] at CK;have HC:=aF hc;clear hc;go_wp2_with(go_at_call 185;refine CK.mono ?_;rintro e w1 ⟨rfl,b1⟩;simp only[wF])
    go_roundw
    case rel=>exact⟨k+1,aa,by go_num,λj n' d' t d1=>by
     rcases Nat.lt_or_ge j k with h|h
     .exact HA.out j n' d' h d1
     .obtain rfl:j=k:=aa;have:=HN.out.symm.trans d1;cases this;exact HC.out,aP d0 b1⟩
    case measure=>simp[intOf];omega
   .exfalso;apply hc;have q:=HN.out;rw[HL.out] at q;obtain⟨q1,q2,q3,X⟩:=e3.out
    match k,q with
    |0,q=>cases q;exact q1
    |1,q=>cases q;exact q2
    |2,q=>cases q;exact q3
    |3,q=>cases q;exact X
    |(j+4),q=>simp at q
  .obtain rfl:k=4:=aa;have h4:=HA.out;rw[HL.out] at h4;have cx:fV g l=0:=h4 0 g l aa rfl;have cy:fV m p=0:=h4 1 m p aa rfl;have cw:fV F H=0:=h4 2 F H aa rfl;have ch:fV I J=0:=h4 3 I J aa rfl;clear h4 HA;have d2:=TN.below K az;have r:=λ{b:Nat} {o:Obj} (h:U.heap[b]? =some o)=>(eY.1 h).1;have M:=(K.block _ (r k0)).trans k0;have N:=(K.block _ (r k1)).trans k1;have j2:=(K.block _ (r k2)).trans k2;have j3:=(K.block _ (r k3)).trans k3;have s:=(K.block _ (r k4)).trans k4;have e7:=aP uP K;clear r k0 k1 k2 k3 k4 HL c9 Vf;have AX:=G9 (E 2) (E 3) (E 2) g l F H wr O P c4 c5 d2;have a0:=cO M 0 _ rfl;have a1:=cO M 1 _ rfl;have a2:=cO j2 0 _ rfl;have a3:=cO j2 1 _ rfl;obtain⟨u,z,c,f⟩:∃n d c,add g l F H=⟨n,d,c⟩:=⟨_,_,_,rfl⟩;rw[f] at AX;have HX:=aF f;clear f;go_upto_region 9 with(go_at_call 320;refine AX.mono ?_;rintro e w1 ⟨rfl,b1⟩);have Y:=aa9 cx cw;rw[HX.out] at Y;have Y:c=0\/c=2:=Y;have b2:=dz w1 (ak #[ag u,ag z] 163);have kX:=fE w1 (ak #[ag u,ag z] 163);obtain⟨V,hV⟩:∃V,w1.alloc (ak #[ag u,ag z] 163)=V:=⟨_,rfl⟩;obtain⟨BX,d3⟩:∃B,w1.heap.size=B:=⟨_,rfl⟩;rw[hV] at b2 kX⊢;have bV:=aP b1 b2;rw[d3] at kX⊢;clear hV d3 b2 b1 AX a0 a1 a2 a3;have r:=λ{b:Nat} {o:Obj} (h:wr.heap[b]? =some o)=>(eY.1 h).1;have M:=(bV.block _ (r M)).trans M;have N:=(bV.block _ (r N)).trans N;have j3:=(bV.block _ (r j3)).trans j3;have s:=(bV.block _ (r s)).trans s;have d6:=aP e7 bV;have d7:=d2.below bV az;clear r;have f4:=gI s 0;have X:=cO s 0 _ rfl;rcases Y with rfl|rfl
   .simp only[wF];have AY:=G9 (E 2) (E 3) (E 2) m p I J V Q R Ba c6 d7;obtain⟨A,C,c,f⟩:∃n d c,add m p I J=⟨n,d,c⟩:=⟨_,_,_,rfl⟩;rw[f] at AY;have HY:=aF f;clear f;have a0:=cO N 0 _ rfl;have a1:=cO N 1 _ rfl;have a2:=cO j3 0 _ rfl;have a3:=cO j3 1 _ rfl;go_upto_region 12 with(go_at_call 320;refine AY.mono ?_;rintro e w2 ⟨rfl,b3⟩);have Z:=aa9 cy ch;rw[HY.out] at Z;have Z:c=0\/c=2:=Z;have b4:=dz w2 (ak #[ag A,ag C] 163);have kY:=fE w2 (ak #[ag A,ag C] 163);obtain⟨V2,d8⟩:∃V,w2.alloc (ak #[ag A,ag C] 163)=V:=⟨_,rfl⟩;obtain⟨BY,d9⟩:∃B,w2.heap.size=B:=⟨_,rfl⟩;rw[d8] at b4 kY⊢;have D:=aP b3 b4;rw[d9] at kY⊢;clear d8 d9 b4 b3 AY a0 a1 a2 a3 X f4;have r:=λ{b:Nat} {o:Obj} (h:V.heap[b]? =some o)=>(eY.1 h).1;have M:=(D.block _ (r M)).trans M;have N:=(D.block _ (r N)).trans N;have s:=(D.block _ (r s)).trans s;have kX:=(D.block _ (r kX)).trans kX;have b8:=aP d6 D;have f8:=d7.below D az;clear r;rcases Z with rfl|rfl
    .simp only[wF];have cX:=(FY.1 HX.out).2.2.1;have cY:=(FY.1 HY.out).2.2.1;have iX:=jJ cX;have iY:=jJ cY;have x0:=cO M 0 _ rfl;have x1:=cO M 1 _ rfl;have y0:=cO N 0 _ rfl;have y1:=cO N 1 _ rfl;have X0:=cO kX 0 _ rfl;have X1:=cO kX 1 _ rfl;have Y0:=cO kY 0 _ rfl;have Y1:=cO kY 1 _ rfl;have b5:=dz V2 (ak #[ag g,ag l,ag m,ag p,ag u,ag z,ag m,ag p,ag u,ag z,ag A,ag C,ag g,ag l,ag A,ag C] 233);have kL:=fE V2 (ak #[ag g,ag l,ag m,ag p,ag u,ag z,ag m,ag p,ag u,ag z,ag A,ag C,ag g,ag l,ag A,ag C] 233);have hP:=a3w (a0:=⟨g,l,m,p⟩) (a1:=⟨u,z,m,p⟩) (a2:=⟨u,z,A,C⟩) (a3:=⟨g,l,A,C⟩) kL ⟨O,P,Q,R⟩ ⟨iX.1,iX.2,Q,R⟩ ⟨iX.1,iX.2,iY.1,iY.2⟩ ⟨O,P,iY.1,iY.2⟩;have b9:∀y∈Ul g l m p u z A C,iW y=0:=λy hy=>by
      simp only[Ul,gP,List.not_mem_nil,or_false] at hy;rcases hy with rfl|rfl|rfl|rfl
      .exact jc.2 ⟨cx,cy⟩
      .exact jc.2 ⟨cX,cy⟩
      .exact jc.2 ⟨cX,cY⟩
      .exact jc.2 ⟨cx,cY⟩
     have CK:=Io (Ul g l m p u z A C) b9 (some ⟨V2.heap.size,0,none⟩) 4 _ hP (ZL.out.below (aP b8 b5));have e8:=aF b9;clear b9;have e0:=(b5.block _ (eY.1 s).1).trans s;go_wp2_with(go_at_call 321;refine CK.mono ?_;rintro e w3 ⟨e9,b6⟩;have e1:=(b6.block _ (eY.1 e0).1).trans e0;have X:=cO e1 0 _ rfl;have f4:=gI e1 0;obtain⟨os,ns,cs,v,rfl,f0⟩:∃os ns cs v,e=ay (aH #[.agg #[aj os ns cs],v])/\((okB (Ul g l m p u z A C)=true/\os=some ⟨V2.heap.size,0,none⟩/\ns=4/\cs=4/\v=aY)\/(okB (Ul g l m p u z A C)=false/\os=none/\ns=0/\cs=0/\TM E 2 v w3)):=(by rcases e9 with⟨q,rfl⟩|⟨q,v,rfl,h2⟩;exact⟨_,_,_,_,rfl,.inl ⟨q,rfl,rfl,rfl,rfl⟩⟩;exact⟨_,_,_,_,rfl,.inr ⟨q,rfl,rfl,rfl,h2⟩⟩));have d4:(w3.setCell ⟨w.heap.size+1+1+1+1,0,none⟩ (aj os ns cs)).cell? ⟨w.heap.size+1+1+1+1,0,none⟩=some (aj os ns cs):=iJ _ _ _ (by rw[X];rfl);have bz:=aP (aP b8 b5) b6;refine bg (v:=aH #[.agg #[aj os ns cs],v]) (by simp[results,results259,go_sem,d4]) rfl ⟨?_,bz.setCell bq _⟩;rcases f0 with⟨a4,rfl,rfl,rfl,rfl⟩|⟨a4,rfl,rfl,rfl,hv⟩
     .rw[<- S.out];unfold uS;simp only[HX.out,HY.out,a4,and_self,if_true];refine⟨e8.out,a4,_,_,rfl,?_⟩;have f1:=hP.below b6 az;have f2:V2.heap.size≠w.heap.size+1+1+1+1:=by have:=(eY.1 s).1;omega
      intro i a ha;obtain⟨b,f9,q,c0,c1,c2,c3,f3⟩:=f1 i a ha;cases q;have a5:∀k v,w3.cell? ⟨V2.heap.size,k,none⟩=some v->(w3.setCell ⟨w.heap.size+1+1+1+1,0,none⟩ (aj (some ⟨V2.heap.size,0,none⟩) 4 4)).cell? ⟨V2.heap.size,k,none⟩=some v:=λk v hv=>by
       rw[dh _ _ _ _ (by simp;exact λe=>f2 e.symm)];exact hv
      exact⟨_,0,rfl,a5 _ _ c0,a5 _ _ c1,a5 _ _ c2,a5 _ _ c3,f3⟩
     .rw[<- S.out];unfold uS;simp only[HX.out,HY.out,a4,and_false,if_false,Bool.false_eq_true];exact⟨v,rfl,hv.far⟩
    .have e2:er (E 2) (E 3) (E 2) 2=aU 453 (.pointer (some (E 2))):=rfl;simp only[e2];have f4:=gI s 0;have X:=cO s 0 _ rfl;have d4:(V2.setCell ⟨w.heap.size+1+1+1+1,0,none⟩ (aj none 0 0)).cell? ⟨w.heap.size+1+1+1+1,0,none⟩=some (aj none 0 0):=iJ _ _ _ (by rw[X];rfl);go_wp2_with fail;exact bg (v:=aH #[.agg #[aj none 0 0],aU 453 (.pointer (some (E 2)))]) (by simp[results,results259,go_sem,d4]) rfl ⟨by rw[<- S.out];unfold uS;rw[aG (by rw[HY.out];simp)];exact⟨_,rfl,aC,aC,.inl rfl⟩,b8.setCell bq _⟩
   .have e2:er (E 2) (E 3) (E 2) 2=aU 453 (.pointer (some (E 2))):=rfl;simp only[e2];have f4:=gI s 0;have X:=cO s 0 _ rfl;have d4:(V.setCell ⟨w.heap.size+1+1+1+1,0,none⟩ (aj none 0 0)).cell? ⟨w.heap.size+1+1+1+1,0,none⟩=some (aj none 0 0):=iJ _ _ _ (by rw[X];rfl);go_wp2_with fail;exact bg (v:=aH #[.agg #[aj none 0 0],aU 453 (.pointer (some (E 2)))]) (by simp[results,results259,go_sem,d4]) rfl ⟨by rw[<- S.out];unfold uS;rw[aG (by rw[HX.out];simp)];exact⟨_,rfl,aC,aC,.inl rfl⟩,d6.setCell bq _⟩
theorem gM.agL {w:ai}{R:Nat}{cs:Array ax}(h:gM w R cs t)(i:Nat)(v:ax):gM (w.setCell ⟨R,i,none⟩ v) R (cs.setIfInBounds i v) t:=⟨heap_setCell_same w R i cs t v h.h⟩
theorem gM.a7U {w:ai}{R:Nat}{cs:Array ax}(h:gM w R cs t)(i:Nat)(a b:ax):gM ((w.setCell ⟨R,i,none⟩ a).setCell ⟨R,i+1,none⟩ b) R ((cs.setIfInBounds i a).setIfInBounds (i+1) b) t:=(h.agL i a).agL (i+1) b
theorem xX (M:Dm)(n:Int)(nm:Bs)(h:(iI M n nm).c=0):fV (iI M n nm).n (iI M n nm).d=0:=by
 unfold iI at h⊢;cases a:EI M n nm with
 |none=>exact ZI aC aC
 |some s=>rw[a] at h;exact WW h
theorem xY (M:Dm)(n:Int)(nm:Bs):(iI M n nm).c=0\/(iI M n nm).c=1\/(iI M n nm).c=2\/(iI M n nm).c=3:=by
 unfold iI;cases a:EI M n nm with
 |none=>exact .inl rfl
 |some s=>exact Vd s
def CB (b c d fv:R3)(a:Except Nat (List Qt)):Except Nat (List Qt):=if b.c≠0 then .error b.c else if c.c≠0 then .error c.c else if d.c≠0 then .error d.c else if fv.c≠0 then .error fv.c else a
section
variable {E:Nat->Addr}{B:Nat}{A:dG}{W:ai}{DB C:Nat}{p:Int->Option Nat}{M:Dm}{nx c:Nat}
theorem Vi (B:Nat)(n:Int)(a b c fv:R3)(C:Except Nat (List Qt))(R:NE E W)
  (X:a.c=0\/a.c=1\/a.c=2\/a.c=3) (Y:b.c=0\/b.c=1\/b.c=2\/b.c=3) (Z:c.c=0\/c.c=1\/c.c=2\/c.c=3) (hv:fv.c=0\/fv.c=1\/fv.c=2\/fv.c=3)
  (F0:∀V,aD W V->aL 258 #[aK B,ag n,au ⟨#[120]⟩] V λe w'=>e=ay (aH #[.agg #[ag a.n,ag a.d],TA (E 1) (E 2) (E 3) (E 2) a.c])/\aD V w')
  (F1:∀V,aD W V->aL 258 #[aK B,ag n,au ⟨#[121]⟩] V λe w'=>e=ay (aH #[.agg #[ag b.n,ag b.d],TA (E 1) (E 2) (E 3) (E 2) b.c])/\aD V w')
  (F2:∀V,aD W V->aL 258 #[aK B,ag n,au ⟨#[119]⟩] V λe w'=>e=ay (aH #[.agg #[ag c.n,ag c.d],TA (E 1) (E 2) (E 3) (E 2) c.c])/\aD V w')
  (F3:∀V,aD W V->aL 258 #[aK B,ag n,au ⟨#[104]⟩] V λe w'=>e=ay (aH #[.agg #[ag fv.n,ag fv.d],TA (E 1) (E 2) (E 3) (E 2) fv.c])/\aD V w')
  (FB:a.c=0->b.c=0->c.c=0->fv.c=0->∀V,NE E V->aL 259 #[.agg #[ag a.n,ag a.d],.agg #[ag b.n,ag b.d],.agg #[ag c.n,ag c.d],.agg #[ag fv.n,ag fv.d]] V λe w'=>rz E C e w'/\aD V w'):
  aL 190 #[aK B,ag n] W λe w'=>rz E (CB a b c fv C) e w'/\aD W w':=by
 have S:=dR W (ak #[aj none 0 0] 113);have P:=dY W #[aj none 0 0] 113;have Q:=dR (W.alloc (ak #[aj none 0 0] 113)) (ak #[ag 0,ag 0,ag 0,ag 0,ag 0,ag 0,ag 0,ag 0] 334);have i:=gM.new (W.alloc (ak #[aj none 0 0] 113)) #[ag 0,ag 0,ag 0,ag 0,ag 0,ag 0,ag 0,ag 0] 334;have g:=(Q.block _ (dI P)).trans P;have bV:=bf S Q;have D:(W.alloc (ak #[aj none 0 0] 113)).heap.size=W.heap.size+1:=aI;rw[D] at i;clear D S Q P;have HN:=aF R;clear R;go_enter func190,ntmps190;go_upto_region 3 with fail;obtain⟨V0,T⟩:∃V,(W.alloc (ak #[aj none 0 0] 113)).alloc (ak #[ag 0,ag 0,ag 0,ag 0,ag 0,ag 0,ag 0,ag 0] 334)=V:=⟨_,rfl⟩;rw[T] at i g bV⊢;clear T;have x0:∀w:ai,(Instr.index 335 (.agg #[au ⟨#[120]⟩,au ⟨#[121]⟩,au ⟨#[119]⟩,au ⟨#[104]⟩]) (ag 0)).run prog w=.ok (au ⟨#[120]⟩) w:=λw=>aA;have x1:∀w:ai,(Instr.index 335 (.agg #[au ⟨#[120]⟩,au ⟨#[121]⟩,au ⟨#[119]⟩,au ⟨#[104]⟩]) (ag 1)).run prog w=.ok (au ⟨#[121]⟩) w:=λw=>aA;have x2:∀w:ai,(Instr.index 335 (.agg #[au ⟨#[120]⟩,au ⟨#[121]⟩,au ⟨#[119]⟩,au ⟨#[104]⟩]) (ag 2)).run prog w=.ok (au ⟨#[119]⟩) w:=λw=>aA;have x3:∀w:ai,(Instr.index 335 (.agg #[au ⟨#[120]⟩,au ⟨#[121]⟩,au ⟨#[119]⟩,au ⟨#[104]⟩]) (ag 3)).run prog w=.ok (au ⟨#[104]⟩) w:=λw=>aA;refine wp_loop_rounds 5 ?_;rw[rounds_succ];have F:=F0 V0 bV;by_cases m:a.c=0
 rotate_left
 .have l:a.c=1\/a.c=2\/a.c=3:=X.resolve_left m;rw[Cz l] at F;have o:=aF l;have x:=aF m;clear l;go_wp2_with(go_at_call 258;refine F.mono ?_;rintro e h ⟨rfl,f⟩;have Kw:=((bf f (dR h (ak #[ag a.n,ag a.d] 163))).block _ (dI g)).trans g;have k:=aQ Kw 0 _ rfl;have L:=gI Kw 0);refine bg (v:=aH #[.agg #[aj none 0 0],eV (E a.c)]) (by simp[results,results190,go_sem,k]) rfl ⟨?_,(bf bV (bf f (dR h _))).setCell az _⟩;unfold CB;rw[aR x.out];exact⟨_,rfl,by have:=o.out;omega,by have:=o.out;omega,.inl rfl⟩
 rw[m,uZ] at F;go_wp2_with(go_at_call 258;refine F.mono ?_;rintro e h ⟨rfl,f⟩;have j:=bf f (dR h (ak #[ag a.n,ag a.d] 163));have d:=(j.block _ i.lt).trans i.h;have k:=cO d 0 _ rfl;have y:=cO d 1 _ rfl;have z:=gI d 0;have A:=gI d 1);obtain⟨M,p⟩:∃V,(((h.alloc (ak #[ag a.n,ag a.d] 163)).setCell ⟨W.heap.size+1,0,none⟩ (ag a.n)).setCell ⟨W.heap.size+1,1,none⟩ (ag a.d))=V:=⟨_,rfl⟩;have i:gM M (W.heap.size+1) #[ag a.n,ag a.d,ag 0,ag 0,ag 0,ag 0,ag 0,ag 0] 334:=by
  rw[<- p];exact(gM.mk d).a7U 0 _ _
 have g:M.heap[W.heap.size]? =some (ak #[aj none 0 0] 113):=by
  rw[<- p,dw _ _ _ _ aI,dw _ _ _ _ aI];exact(j.block _ (dI g)).trans g
 have bV:aD W M:=by
  rw[<- p];exact((bf bV j).setCell aI _).setCell aI _
 rw[p];clear p d k y z A f j F;rw[rounds_succ];have H:=F1 M bV;by_cases s:b.c=0
 rotate_left
 .have l:b.c=1\/b.c=2\/b.c=3:=Y.resolve_left s;rw[Cz l] at H;have o:=aF l;have x:=aF s;clear l;go_wp2_with(go_at_call 258;refine H.mono ?_;rintro e h ⟨rfl,f⟩;have Kw:=((bf f (dR h (ak #[ag b.n,ag b.d] 163))).block _ (dI g)).trans g;have k:=aQ Kw 0 _ rfl;have L:=gI Kw 0);refine bg (v:=aH #[.agg #[aj none 0 0],eV (E b.c)]) (by simp[results,results190,go_sem,k]) rfl ⟨?_,(bf bV (bf f (dR h _))).setCell az _⟩;unfold CB;rw[aG (by simp[m]),aR x.out];exact⟨_,rfl,by have:=o.out;omega,by have:=o.out;omega,.inl rfl⟩
 rw[s,uZ] at H;go_wp2_with(go_at_call 258;refine H.mono ?_;rintro e h ⟨rfl,f⟩;have j:=bf f (dR h (ak #[ag b.n,ag b.d] 163));have d:=(j.block _ i.lt).trans i.h;have k:=cO d 2 _ rfl;have y:=cO d 3 _ rfl;have z:=gI d 2;have A:=gI d 3);obtain⟨N,q⟩:∃V,(((h.alloc (ak #[ag b.n,ag b.d] 163)).setCell ⟨W.heap.size+1,2,none⟩ (ag b.n)).setCell ⟨W.heap.size+1,3,none⟩ (ag b.d))=V:=⟨_,rfl⟩;have i:gM N (W.heap.size+1) #[ag a.n,ag a.d,ag b.n,ag b.d,ag 0,ag 0,ag 0,ag 0] 334:=by
  rw[<- q];exact(gM.mk d).a7U 2 _ _
 have g:N.heap[W.heap.size]? =some (ak #[aj none 0 0] 113):=by
  rw[<- q,dw _ _ _ _ aI,dw _ _ _ _ aI];exact(j.block _ (dI g)).trans g
 have bV:aD W N:=by
  rw[<- q];exact((bf bV j).setCell aI _).setCell aI _
 rw[q];clear q d k y z A f j H;rw[rounds_succ];have I:=F2 N bV;by_cases t:c.c=0
 rotate_left
 .have l:c.c=1\/c.c=2\/c.c=3:=Z.resolve_left t;rw[Cz l] at I;have o:=aF l;have x:=aF t;clear l;go_wp2_with(go_at_call 258;refine I.mono ?_;rintro e h ⟨rfl,f⟩;have Kw:=((bf f (dR h (ak #[ag c.n,ag c.d] 163))).block _ (dI g)).trans g;have k:=aQ Kw 0 _ rfl;have L:=gI Kw 0);refine bg (v:=aH #[.agg #[aj none 0 0],eV (E c.c)]) (by simp[results,results190,go_sem,k]) rfl ⟨?_,(bf bV (bf f (dR h _))).setCell az _⟩;unfold CB;rw[aG (by simp[m]),aG (by simp[s]),aR x.out];exact⟨_,rfl,by have:=o.out;omega,by have:=o.out;omega,.inl rfl⟩
 rw[t,uZ] at I;go_wp2_with(go_at_call 258;refine I.mono ?_;rintro e h ⟨rfl,f⟩;have j:=bf f (dR h (ak #[ag c.n,ag c.d] 163));have d:=(j.block _ i.lt).trans i.h;have k:=cO d 4 _ rfl;have y:=cO d 5 _ rfl;have z:=gI d 4;have A:=gI d 5);obtain⟨V3,J⟩:∃V,(((h.alloc (ak #[ag c.n,ag c.d] 163)).setCell ⟨W.heap.size+1,4,none⟩ (ag c.n)).setCell ⟨W.heap.size+1,5,none⟩ (ag c.d))=V:=⟨_,rfl⟩;have i:gM V3 (W.heap.size+1) #[ag a.n,ag a.d,ag b.n,ag b.d,ag c.n,ag c.d,ag 0,ag 0] 334:=by
  rw[<- J];exact(gM.mk d).a7U 4 _ _
 have g:V3.heap[W.heap.size]? =some (ak #[aj none 0 0] 113):=by
  rw[<- J,dw _ _ _ _ aI,dw _ _ _ _ aI];exact(j.block _ (dI g)).trans g
 have bV:aD W V3:=by
  rw[<- J];exact((bf bV j).setCell aI _).setCell aI _
 rw[J];clear J d k y z A f j I;rw[rounds_succ];have K:=F3 V3 bV;by_cases u:fv.c=0
 rotate_left
 .have l:fv.c=1\/fv.c=2\/fv.c=3:=hv.resolve_left u;rw[Cz l] at K;have o:=aF l;have x:=aF u;clear l;go_wp2_with(go_at_call 258;refine K.mono ?_;rintro e h ⟨rfl,f⟩;have Kw:=((bf f (dR h (ak #[ag fv.n,ag fv.d] 163))).block _ (dI g)).trans g;have k:=aQ Kw 0 _ rfl;have L:=gI Kw 0);refine bg (v:=aH #[.agg #[aj none 0 0],eV (E fv.c)]) (by simp[results,results190,go_sem,k]) rfl ⟨?_,(bf bV (bf f (dR h _))).setCell az _⟩;unfold CB;rw[aG (by simp[m]),aG (by simp[s]),aG (by simp[t]),aR x.out];exact⟨_,rfl,by have:=o.out;omega,by have:=o.out;omega,.inl rfl⟩
 rw[u,uZ] at K;go_wp2_with(go_at_call 258;refine K.mono ?_;rintro e h ⟨rfl,f⟩;have j:=bf f (dR h (ak #[ag fv.n,ag fv.d] 163));have d:=(j.block _ i.lt).trans i.h;have k:=cO d 6 _ rfl;have y:=cO d 7 _ rfl;have z:=gI d 6;have A:=gI d 7);obtain⟨O,r⟩:∃V,(((h.alloc (ak #[ag fv.n,ag fv.d] 163)).setCell ⟨W.heap.size+1,6,none⟩ (ag fv.n)).setCell ⟨W.heap.size+1,7,none⟩ (ag fv.d))=V:=⟨_,rfl⟩;have i:gM O (W.heap.size+1) #[ag a.n,ag a.d,ag b.n,ag b.d,ag c.n,ag c.d,ag fv.n,ag fv.d] 334:=by
  rw[<- r];exact(gM.mk d).a7U 6 _ _
 have g:O.heap[W.heap.size]? =some (ak #[aj none 0 0] 113):=by
  rw[<- r,dw _ _ _ _ aI,dw _ _ _ _ aI];exact(j.block _ (dI g)).trans g
 have bV:aD W O:=by
  rw[<- r];exact((bf bV j).setCell aI _).setCell aI _
 rw[r];clear r d k y z A f j K;rw[rounds_succ];have BX:=FB m s t u O (HN.out.below bV);have s0:=i.cell 0 _ rfl;have s1:=i.cell 1 _ rfl;have s2:=i.cell 2 _ rfl;have s3:=i.cell 3 _ rfl;have s4:=i.cell 4 _ rfl;have s5:=i.cell 5 _ rfl;have s6:=i.cell 6 _ rfl;have s7:=i.cell 7 _ rfl;have HG:Hid (a.c=0/\b.c=0/\c.c=0/\fv.c=0):=⟨m,s,t,u⟩;clear m s t u;go_wp2_with(go_at_call 259;refine BX.mono ?_;rintro e w2 ⟨U,f⟩;obtain⟨ro,rn,rc,rv,rfl⟩:=U.is;have K2:=(f.block _ (dI g)).trans g;have k:=aQ K2 0 _ rfl;have L:=gI K2 0);refine bg (v:=aH #[.agg #[aj ro rn rc],rv]) (by simp[results,results190,go_sem,k]) rfl ⟨?_,(bf bV f).setCell az _⟩;obtain⟨m,s,t,u⟩:=HG.out;unfold CB;rw[aG (by simp[m]),aG (by simp[s]),aG (by simp[t]),aG (by simp[u])];exact U.far K2
theorem ZM (d:NE E W)(g:dm B A W DB C p M nx c)(h:SzD M)(b:Nat)(f:W.cell? (aJ b 0)=some (aK DB))(n:Int)(i:eH n):
  aL 190 #[aK b,ag n] W λe w'=>rz E (a2v M n) e w'/\aD W w':=by
 have F:=λ(j:Bs) V (a:aD W V)=>UZ (d.below a) (g.below a) h b ((a.cell (aX f)).trans f) n i j;exact Vi b n (iI M n [120]) (iI M n [121]) (iI M n [119]) (iI M n [104]) (uS (iI M n [120]) (iI M n [121]) (iI M n [119]) (iI M n [104])) d (xY _ _ _) (xY _ _ _) (xY _ _ _) (xY _ _ _) (F [120]) (F [121]) (F [119]) (F [104])
  (λk l m o V a=>abY _ _ _ _ _ _ _ _ V (xX _ _ _ k) (xX _ _ _ l) (xX _ _ _ m) (xX _ _ _ o) a)
end
def ZN (E:Nat->Addr)(m:Mv)(l:List Qt)(a:Nat)(e:Ending)(w':ai):Prop:=match goM m l with
 |some b=>∃v,e=.returned (.tuple #[.agg #[v],.nilIface])/\kS w' a v b
 |none=>∃v,e=.returned (.tuple #[.agg #[.slice none 0 0],v])/\TM E 2 v w'
theorem a3B {E:Nat->Addr}{l:List Qt}{b:Nat}{w':ai}{v:ax}(c:a∈l)(d:Ct m a=false)(e:TM E 2 v w'):ZN E m l b (.returned (.tuple #[.agg #[.slice none 0 0],v])) w':=by
 unfold ZN goM;grind
theorem a7V {E:Nat->Addr}{l:List Qt}{b:Nat}{w':ai}{v:ax}(h:∀a∈l,Ct m a=true)(c:kS w' b v (l.map (Nf m))):ZN E m l b (.returned (.tuple #[.agg #[v],.nilIface])) w':=by
 unfold ZN goM;grind
theorem Ip (h:jZ a=0):(Ve a).ok:=by
 obtain⟨b, -⟩:=jC.1 h;exact jc.1 b
theorem agN (h:jZ a=0):(Ve a).i64:=⟨mG (Ip h).1,mG (Ip h).2⟩
theorem Iq (d:m.ok)(f:jZ a=0)(h:(fH 0 m (Ve a)).2=0):iW (Nf m a)=0:=by
 have b:=((zl (c:=0) (.inl rfl) d (Ip f)).2 h).2.1;have e:Nf m a=⟨(fH 0 m (Ve a)).1.x.n,(fH 0 m (Ve a)).1.x.d,(fH 0 m (Ve a)).1.y.n,(fH 0 m (Ve a)).1.y.d⟩:=by
  unfold Nf Ve
  with_reducible rfl
 rw[e];clear e h;generalize fH 0 m (Ve a)=z at b⊢;exact jc.2 ⟨b.1,b.2⟩
theorem CG (h:Ct m a=true):(fH 0 m (Ve a)).2=0:=by
 unfold Ct at h;simp only[jg,lG] at h;exact h.1
theorem a7W (h:(fH 0 m (Ve a)).2=0)(b:nI (Nf m a)=0):Ct m a=true:=by
 unfold Ct;simp only[jg,lG];exact⟨h,by rw[b];rfl⟩
theorem a3C (b:¬nI (Nf m a)=0):Ct m a=false:=by
 unfold Ct;grind
theorem NG (h:¬(fH 0 m (Ve a)).2=0):Ct m a=false:=by
 cases b:Ct m a with
 |false=>rfl
 |true=>exact absurd (CG b) h
theorem ZO {E:Nat->Addr}(m:Mv)(hm:m.ok)(l:List Qt)(o:Option Addr)(N:Nat)(w:ai)(H:qd l)(h:iH w o l)(hN:NE E w):
  aL 256 #[.agg #[.slice o l.length N],mv m] w λe W=>ZN E m l w.heap.size e W/\aD w W:=by
 have HC:Gb (E 2) (E 3) (E 2) m:=Aj (rq hm) (uN hm);have hE:=hN.e3;have HM:Hid m.ok:=hm;have ZP:=aF H;clear hm hN;obtain⟨i0,hi,d2,d3,d6⟩:=info_parts a3x;go_enter func256,ntmps256;go_upto_region 1 with fail;obtain⟨U,hU⟩:∃U,((w.alloc (.cells #[.slice o l.length N] 113)).alloc (.cells (mA m) 165)).alloc (.cells #[.slice none 0 0] 113)=U:=⟨_,rfl⟩;obtain⟨k0,i,J,uP⟩:=agE w _ _ _ U hU;rw[hU];clear hU;have TN:=hE.below uP az;have CK:=HC U TN;have m0:=cO i 0 _ rfl;have m1:=cO i 1 _ rfl;have m2:=cO i 2 _ rfl;have m3:=cO i 3 _ rfl;have m4:=cO i 4 _ rfl;have m5:=cO i 5 _ rfl;have m6:=cO i 6 _ rfl;have m7:=cO i 7 _ rfl;have m8:=cO i 8 _ rfl;have m9:=cO i 9 _ rfl;have t:=cO i 10 _ rfl;have x:=cO i 11 _ rfl;go_upto_region 4 with(go_at_call 264;refine CK.mono ?_;rintro e w1 ⟨rfl,b1⟩);clear CK m0 m1 m2 m3 m4 m5 m6 m7 m8 m9 t x;have k0:=kT b1 k0;have i:=kT b1 i;have J:=kT b1 J;have O:=aP uP b1;have a8:=hE.below O az;have SC:=Aw (E 2) (E 3) (E 2) l o N w1 (h.below O az) a8;have s0:=cO k0 0 _ rfl;have d7:=aF H;go_upto_region 7 with(go_at_call 182;refine SC.mono ?_;rintro e w2 ⟨hc,b2⟩;have he:e=.returned .nilIface:=(by rcases hc.plain with⟨-,h2⟩|⟨h1, -⟩;exact h2;exact absurd d7.out h1);subst he;clear hc);clear SC s0;have k0:=kT b2 k0;have i:=kT b2 i;have J:=kT b2 J;have j:=aP O b2;have e6:=H.1;have s0:=cO k0 0 _ rfl;clear H b1 b2 a8 TN;go_wp2_with fail
 go_loopw [8,28] (λv y wr=>∃k:Nat,k<=l.length/\y=ag k/\(∀a∈l.take k,Ct m a=true)/\kS wr w2.heap.size v ((l.take k).map (Nf m))/\aD w2 wr) (λ_ y _=>l.length-(intOf y).toNat)
 case atStart=>exact⟨0,bA _,rfl,aI,kS.nil _ _,aW _ _⟩
 case round=>
  obtain⟨k,hk,rfl,z,n,K⟩:=hrel;have a9:=aF z;have b0:∀a∈(l.take k).map (Nf m),PI a:=λa P=>by
   obtain⟨b,I,rfl⟩:=gL.1 P;exact FH (Iq HM.out (ZP.out.2 b (List.mem_of_mem_take I)) (CG (z b I)))
  obtain⟨ov,cv,rfl, -⟩:=n.at_ b0;have A:((l.take k).map (Nf m)).length=k:=by rw[dP,iR];omega
  rw[A] at n⊢;have L:=aF A;clear z b0 A;by_cases d8:k<l.length
  .have e5:(k:Int)<(l.length:Int):=aa;obtain⟨a,P⟩:∃a,l[k]? =some a:=⟨_,fD d8⟩;have f:=ic P;obtain⟨b,e7,ho,hp⟩:=(h.below (aP j K) az) k a P;subst ho;obtain⟨c0,c1,c2,c3,e8⟩:=hp;have HL:=aF P;have c4:=hE.below (aP j K) az;have M:=dz wr (.cells #[ag a.xn,ag a.xd,ag a.yn,ag a.yd] 233);have F3:=Four.new wr (ag a.xn) (ag a.xd) (ag a.yn) (ag a.yd) 233;have c:=kT (aP K M) i;have Uy:=c4.below M az;by_cases r:(fH 0 m (Ve a)).2=0
   .have C:=afg (aB:=E 2) (aS:=E 3) (aZ:=E 2) (rq HM.out) (agN (ZP.out.2 a f)) (abh HM.out (Ip (ZP.out.2 a f)) (Nl r)) _ Uy;have c5:iW (Nf m a)=0:=Iq HM.out (ZP.out.2 a f) r;have C:aL 318 #[mv m,rT a] _ λe w'=>e=.returned (.tuple #[rT (Nf m a),.nilIface])/\Below _ _ w':=C;have Q:=aF r;clear P r;go_upto_region 11 with fail;obtain⟨V,S⟩:∃V,wr.alloc (.cells #[ag a.xn,ag a.xd,ag a.yn,ag a.yd] 233)=V:=⟨_,rfl⟩;rw[S] at M F3 c Uy C⊢;clear S c0 c1 c2 c3;have m0:=cO c 0 _ rfl;have m1:=cO c 1 _ rfl;have m2:=cO c 2 _ rfl;have m3:=cO c 3 _ rfl;have m4:=cO c 4 _ rfl;have m5:=cO c 5 _ rfl;have m6:=cO c 6 _ rfl;have m7:=cO c 7 _ rfl;have m8:=cO c 8 _ rfl;have m9:=cO c 9 _ rfl;have t:=cO c 10 _ rfl;have x:=cO c 11 _ rfl;obtain⟨T,X,Y,Z⟩:=F3;generalize hga:Nf m a=q at*;have a4:=aF hga;clear hga;go_upto_region 12 with(go_at_call 318;refine C.mono ?_;rintro e w3 ⟨rfl,b4⟩);clear C T X Y Z m0 m1 m2 m3 m4 m5 m6 m7 m8 m9 t x;have b5:=dz w3 (.cells #[ag q.xn,ag q.xd,ag q.yn,ag q.yd] 233);have F5:=Four.new w3 (ag q.xn) (ag q.xd) (ag q.yn) (ag q.yd) 233;obtain⟨V2,D⟩:∃V,w3.alloc (.cells #[ag q.xn,ag q.xd,ag q.yn,ag q.yd] 233)=V:=⟨_,rfl⟩;obtain⟨BQ,c6⟩:∃B,w3.heap.size=B:=⟨_,rfl⟩;rw[D] at b5 F5⊢;have b6:=aP (aP M b4) b5;rw[c6] at F5⊢;clear D c6 M b4 b5 Uy c;have CS:=sG (E 2) (E 3) (E 2) q V2 (FH c5) (Au c5) (c4.below b6 az);obtain⟨T,X,Y,Z⟩:=id F5;by_cases hx:nI q=0
    .rw[hx] at CS;have HX:=aF hx;clear hx;go_upto_region 14 with(go_at_call 251;refine CS.mono ?_;rintro e d ⟨rfl,b7⟩;simp only[wF]);clear CS T X Y Z;obtain⟨T,X,Y,Z⟩:=F5.below b7 az;have s:=aP (aP K b6) b7;have d9:=s.size;have c7:d.ownsRow w2.heap.size 233 4 (.slice ov k cv) k (gQ ((l.take k).map (Nf m))):=by
      have h:=n.keep (aP b6 b7);unfold kS at h;rw[L.out] at h;exact h
     have e9:=(aP b6 b7).size;have e0:=fE d (.cells #[ag q.xn,ag q.xd,ag q.yn,ag q.yd] 233);have c8:(d.alloc (.cells #[ag q.xn,ag q.xd,ag q.yn,ag q.yd] 233)).ownsRow w2.heap.size 233 4 (.slice ov k cv) k (gQ ((l.take k).map (Nf m))):=iF c7 _;have HT:Hid ((l.take (k+1)).map (Nf m)=(l.take k).map (Nf m)++[q]/\∀a∈l.take (k+1),Ct m a=true):=by
      have ht:l.take (k+1)=l.take k++[a]:=by rw[eX,HL.out];rfl
      constructor
      .rw[ht,iK,List.map_singleton,a4.out]
      .rw[ht];intro y hy;rcases iw.1 hy with h|h
       .exact a9.out y h
       .simp at h;rw[h];exact a7W Q.out (by rw[a4.out];exact HX.out)
     generalize (l.take k).map (Nf m)=R at*;clear n c7;go_wp2_with(at_builtin;refine wpList_append_own _ rfl _ _ 111 rfl (w2.heap.size) 233 i0 (.agg #[ag 0,ag 0,ag 0,ag 0]) 4 32 underlying111 hi d2 d3 d6 rfl aC _ _ _ rfl c8 _ _ _ (gQ [q]) rfl (zJ [q]) (World.news_of_block e0) (Im _) (by simp only[maxLen];omega) aa bq ?_;intro f5 f6 c9 e1 _)
     go_roundw
     case rel=>exact⟨k+1,aa,by go_num,HT.out.2,by rw[HT.out.1];rw[<- L.out] at c9;exact kS.app (m:=[q]) c9 rfl,(s.alloc d9 _).grown e1 bq (XI c8)⟩
     case measure=>simp[intOf];omega
    .have d1:nI q=2:=by have:=qX q;omega
     rw[d1] at CS;have HX:=aF hx;clear hx d1;go_upto_region 13 with(go_at_call 251;refine CS.mono ?_;rintro e d ⟨rfl,b7⟩;simp only[a1x]);clear CS T X Y Z;have s:=aP (aP K b6) b7;have g:=kT s J;have q4:=cO g 0 _ rfl;have f4:=gI g 0;have a5:_=some (Value.iface 453 (.pointer (some (E 2)))):=(hE.below (aP j s) az).b;have a6:=(eY.1 g).1;have e2:¬d.heap.size=w.heap.size+1+1:=aa;have e3:¬w.heap.size+1+1=d.heap.size:=aa;have UE:=aX hE.b;have e4:(d.setCell ⟨w.heap.size+1+1,0,none⟩ (.slice none 0 0)).cell? (aJ 0 0)=some (.iface 453 (.pointer (some (E 2)))):=(dh _ _ _ _ (by have:0<w.heap.size:=UE;show w.heap.size+1+1≠0;omega)).trans a5;clear UE;go_region;go_wp2_with fail;have d4:(((d.setCell ⟨w.heap.size+1+1,0,none⟩ (.slice none 0 0)).alloc (.cells #[ag k,.iface 453 (.pointer (some (E 2)))] 71)).drew).cell? ⟨w.heap.size+1+1,0,none⟩=some (.slice none 0 0):=aN _ (iJ _ _ _ (by rw[q4];rfl));have b9:=aP j s;refine bg (v:=.tuple #[.agg #[.slice none 0 0],.iface 67 (aK d.heap.size)]) (by simp[results,results256,go_sem,d4]) rfl ⟨?_,below_drewN ((b9.setCell bq _).alloc (by simpa using b9.size) _) 1⟩;refine a3B f ?_ ⟨aC,aC,.inr ⟨_,0,rfl,?_⟩⟩
     .exact a3C (by rw[a4.out];exact HX.out)
     .show(((d.setCell ⟨w.heap.size+1+1,0,none⟩ (.slice none 0 0)).alloc (.cells #[ag k,.iface 453 (.pointer (some (E 2)))] 71))).cell? ⟨d.heap.size,1,none⟩=some (eV (E 2));have a7:(d.setCell ⟨w.heap.size+1+1,0,none⟩ (.slice none 0 0)).heap.size=d.heap.size:=aI;have F:=aQ (fE (d.setCell ⟨w.heap.size+1+1,0,none⟩ (.slice none 0 0)) (.cells #[ag k,.iface 453 (.pointer (some (E 2)))] 71)) 1 _ rfl;rw[a7] at F;exact F
   .have C:∀V,E3 (E 2) (E 3) (E 2) V->aL 318 #[mv m,rT a] V λe w'=>e=.returned (.tuple #[rT zQt,eV (E 2)])/\aD V w':=λV S=>by
     have h1:=afh (aB:=E 2) (aS:=E 3) (aZ:=E 2) (m:=m) (p:=Ve a) (rq HM.out) (agN (ZP.out.2 a f)) (λq e=>r (by rw[(abj e).2.2])) V S;have h2:(atR m (Ve a)).2=.bare 2:=by
      unfold atR;rw[aG (by simp[uN HM.out]),aG (by simp[WV (Ip (ZP.out.2 a f))]),aG r]
     rw[h2] at h1;refine h1.mono ?_;rintro e w' ⟨⟨v,rfl, -,rfl⟩,I⟩;exact⟨rfl,I⟩
    have C:=C _ Uy;have Q:=aF r;clear P r;go_upto_region 11 with fail;obtain⟨V,S⟩:∃V,wr.alloc (.cells #[ag a.xn,ag a.xd,ag a.yn,ag a.yd] 233)=V:=⟨_,rfl⟩;rw[S] at M F3 c Uy C⊢;clear S c0 c1 c2 c3;have m0:=cO c 0 _ rfl;have m1:=cO c 1 _ rfl;have m2:=cO c 2 _ rfl;have m3:=cO c 3 _ rfl;have m4:=cO c 4 _ rfl;have m5:=cO c 5 _ rfl;have m6:=cO c 6 _ rfl;have m7:=cO c 7 _ rfl;have m8:=cO c 8 _ rfl;have m9:=cO c 9 _ rfl;have t:=cO c 10 _ rfl;have x:=cO c 11 _ rfl;obtain⟨T,X,Y,Z⟩:=F3;go_upto_region 12 with(go_at_call 318;refine C.mono ?_;rintro e w3 ⟨rfl,b4⟩);clear C T X Y Z m0 m1 m2 m3 m4 m5 m6 m7 m8 m9 t x;have b5:=dz w3 (.cells #[ag 0,ag 0,ag 0,ag 0] 233);obtain⟨d,D⟩:∃V,w3.alloc (.cells #[ag 0,ag 0,ag 0,ag 0] 233)=V:=⟨_,rfl⟩;rw[D] at b5⊢;have b6:=aP (aP M b4) b5;clear D M b4 b5 Uy c;go_upto_region 13 with fail;have s:=aP K b6;have g:=kT s J;have q4:=cO g 0 _ rfl;have f4:=gI g 0;have a5:_=some (Value.iface 453 (.pointer (some (E 2)))):=(hE.below (aP j s) az).b;have a6:=(eY.1 g).1;have e2:¬d.heap.size=w.heap.size+1+1:=aa;have e3:¬w.heap.size+1+1=d.heap.size:=aa;have UE:=aX hE.b;have e4:(d.setCell ⟨w.heap.size+1+1,0,none⟩ (.slice none 0 0)).cell? (aJ 0 0)=some (.iface 453 (.pointer (some (E 2)))):=(dh _ _ _ _ (by have:0<w.heap.size:=UE;show w.heap.size+1+1≠0;omega)).trans a5;clear UE;go_region;go_wp2_with fail;have d4:(((d.setCell ⟨w.heap.size+1+1,0,none⟩ (.slice none 0 0)).alloc (.cells #[ag k,.iface 453 (.pointer (some (E 2)))] 71)).drew).cell? ⟨w.heap.size+1+1,0,none⟩=some (.slice none 0 0):=aN _ (iJ _ _ _ (by rw[q4];rfl));have b9:=aP j s;refine bg (v:=.tuple #[.agg #[.slice none 0 0],.iface 67 (aK d.heap.size)]) (by simp[results,results256,go_sem,d4]) rfl ⟨?_,below_drewN ((b9.setCell bq _).alloc (by simpa using b9.size) _) 1⟩;refine a3B f ?_ ⟨aC,aC,.inr ⟨_,0,rfl,?_⟩⟩
    .exact NG Q.out
    .show(((d.setCell ⟨w.heap.size+1+1,0,none⟩ (.slice none 0 0)).alloc (.cells #[ag k,.iface 453 (.pointer (some (E 2)))] 71))).cell? ⟨d.heap.size,1,none⟩=some (eV (E 2));have a7:(d.setCell ⟨w.heap.size+1+1,0,none⟩ (.slice none 0 0)).heap.size=d.heap.size:=aI;have F:=aQ (fE (d.setCell ⟨w.heap.size+1+1,0,none⟩ (.slice none 0 0)) (.cells #[ag k,.iface 453 (.pointer (some (E 2)))] 71)) 1 _ rfl;rw[a7] at F;exact F
  .obtain rfl:k=l.length:=aa;have s:=K;have g:=kT s J;have q4:=cO g 0 _ rfl;have f4:=gI g 0;have a6:=(eY.1 J).1;go_wp2_with fail;have d0:(wr.setCell ⟨w.heap.size+1+1,0,none⟩ (.slice ov l.length cv)).cell? ⟨w.heap.size+1+1,0,none⟩=some (.slice ov l.length cv):=iJ _ _ _ (by rw[q4];rfl);have hw:w.heap.size<=w2.heap.size:=j.size;refine bg (v:=.tuple #[.agg #[.slice ov l.length cv],.nilIface]) (by simp[results,results256,go_sem,d0]) rfl ⟨a7V ?_ ?_,(aP j K).setCell bq _⟩
   .have:=a9.out;rwa[gJ] at this
   .have:=(n.far (b:=w.heap.size+1+1) (u:=.slice ov l.length cv) a6).low hw;rwa[gJ] at this
def CJ (q:Int->Bool):Nat->List Int->Int
 |_,[]=> -1
 |k,x::l=>if q x then(k:Int) else CJ q (k+1) l
theorem LP (q:Int->Bool):∀(l:List Int) (k:Nat),(CJ q k l= -1/\l.find? q=none)\/∃i x,CJ q k l=((k+i:Nat):Int)/\l[i]? =some x/\l.find? q=some x
 |[],_=>.inl ⟨rfl,rfl⟩
 |x::l,k=>by
  unfold CJ;rw[List.find?_cons];cases d:q x with
  |true=>exact .inr ⟨0,x,aI,rfl,rfl⟩
  |false=>
   rcases LP q l (k+1) with⟨a,b⟩|⟨i,y,a,b,c⟩
   .grind
   .exact .inr ⟨i+1,y,by rw[aG aI,a];congr 1;omega,by simpa using b,c⟩
theorem ints_at {w:ai}{B0:Nat}{v:ax}{l:List Int}(h:w.ownsRow B0 3 1 v l.length (di l)):(l=[]/\∃o c,v=aj o 0 c)\/∃g a,v=aj (some ⟨g,0,none⟩) l.length a/\l.length<=a/\∀k x,l[k]? =some x->w.cell? (aJ g k)=some (ag x):=by
 obtain⟨o,a,e,p,q,s,j⟩:=eT h;cases l with
 |nil=>exact .inl ⟨rfl,_,_,e⟩
 |cons b r=>
  have f:∀(k:Nat) (x:Int),(b::r)[k]? =some x->(di (b::r))[k]? =some (ag x):=λk x i=>by
   unfold di;grind
  obtain⟨g,m, -⟩:=eF h 0 _ (f 0 b rfl);have d:=j g m;subst e d;refine .inr ⟨g,a,rfl,aa,λk x i=>?_⟩;obtain⟨t,n,u⟩:=eF h _ _ (f k x i);grind
def IxL (q:Int->Bool)(l:List Int)(W:ai)(y:ax)(wr:ai):Prop:=∃k:Nat,k<=l.length/\y=ag k/\CJ q 0 l=CJ q k (l.drop k)/\aD W wr
theorem Vj (q:Int->Bool)(l:List Int)(W:ai)(f:Nat)(r:Array ax)(B0:Nat)(v:ax)(M:l.length<=1000000)(h:W.ownsRow B0 3 1 v l.length (di l))
  (B:∀x∈l,∀V,aD W V->aL f (#[ag x]++r) V λe w'=>e=ay (.bool (q x))/\aD V w') (n:f=323) (s:∃a b,r=#[.pointer (some a),.pointer (some b)]):
  aL 163 #[v,.func (.func f) #[] r] W λe w'=>e=ay (ag (CJ q 0 l))/\aD W w':=by
 subst n;obtain⟨a,b,rfl⟩:=s;have I:=aF B;clear B;rcases ints_at h with⟨rfl,o,c,rfl⟩|⟨g,t,rfl,C,D⟩
 .clear h;go_enter func163,ntmps163;go_wp2_with fail
  go_loopw [8] (λy wr=>y=ag 0/\wr=W) (λ_ _=>0)
  case atStart=>exact⟨rfl,rfl⟩
  case round=>
   obtain⟨rfl,rfl⟩:=hrel;go_wp2_with fail;go_ret;exact⟨rfl,aW _ _⟩
 .have J:=aF D;clear h D;have K:(l.length:Int)<=(t:Int):=aa;go_enter func163,ntmps163;go_wp2_with fail
  go_loopw [8] (λy wr=>IxL q l W y wr) (λy _=>l.length-(intOf y).toNat)
  case atStart=>exact⟨0,bA _,rfl,rfl,aW _ _⟩
  case round=>
   obtain⟨k,N,rfl,n,m⟩:=hrel;have u:=aF n;clear n;by_cases w:k<l.length
   .have E:(k:Int)<(l.length:Int):=aa;obtain⟨x,z,F⟩:=drop_at w;have A:=J.out k x z;have A:=(m.cell (aX A)).trans A;have p:=I.out x (ic z) wr m;have H:=aF F;clear z F;cases j:q x with
    |true=>
     rw[j] at p;have d:Hid (CJ q 0 l=k):=by show _=_;rw[u.out,H.out];unfold CJ;rw[aR j]
     clear j;go_wp2_with(go_at_call 323;refine p.mono ?_;rintro e L ⟨rfl,i⟩);go_ret;exact⟨by rw[d.out];rfl,bf m i⟩
    |false=>
     rw[j] at p;have d:Hid (CJ q 0 l=CJ q (k+1) (l.drop (k+1))):=by show _=_;rw[u.out,H.out,CJ,aG (by rw[j];simp)]
     clear j;go_wp2_with(go_at_call 323;refine p.mono ?_;rintro e L ⟨rfl,i⟩)
     go_roundw
     case rel=>exact⟨k+1,aa,by go_num,d.out,bf m i⟩
     case measure=>simp[intOf];omega
   .obtain rfl:k=l.length:=aa;have d:Hid (CJ q 0 l= -1):=by show _=_;rw[u.out,List.drop_length];rfl
    go_wp2_with fail;go_ret;exact⟨by rw[d.out];rfl,m⟩
section
variable {E:Nat->Addr}{B:Nat}{A:dG}{W:ai}{DB C:Nat}{p:Int->Option Nat}{M:Dm}{nx c:Nat}{r:Int->Nat}
theorem a3D (i:dm B A W DB C p M nx c)(j k l:Nat)(v:Bs)(w:W.cell? (aJ j 0)=some (aK DB))(x:W.cell? (aJ k 0)=some (aK j))(h:W.cell? (aJ l 0)=some (bV v))(n:Int)(r:eH n):
  aL 323 #[ag n,aK k,aK l] W λe w'=>e=ay (.bool (EI M n kId==some v))/\aD W w':=by
 have b:=nL i n r kId;rw[xq] at b;have m:=λV (t:aD W V)=>(t.cell (aX h)).trans h;clear i h;cases f:EI M n kId with
 |none=>
  rw[f] at b;clear f;go_enter func323,ntmps323;go_wp2_with(go_at_call 169;refine b.mono ?_;rintro e g ⟨rfl,a⟩);go_ret;exact⟨rfl,a⟩
 |some s=>
  rw[f] at b;have o:=j5 s v;have q:(some s==some v)=(s==v):=rfl;rw[q];clear f q;cases d:(s==v) with
  |true=>
   rw[d] at o;go_enter func323,ntmps323;go_wp2_with(go_at_call 169;refine b.mono ?_;rintro e g ⟨rfl,a⟩;have u:=m g a);go_ret;exact⟨rfl,a⟩
  |false=>
   rw[d] at o;go_enter func323,ntmps323;go_wp2_with(go_at_call 169;refine b.mono ?_;rintro e g ⟨rfl,a⟩;have u:=m g a);go_ret;exact⟨rfl,a⟩
theorem jk.Rp (h:jk B A W DB C p M nx c r):Dp M 11 0/\(dZ M 11 0).length<=100:=by
 obtain⟨d,a, -⟩:=h.d.root;have b:=h.d.dp 11 0 d a aa;refine⟨b,?_⟩;unfold dZ;rw[h.d.count h.n b];exact h.le
def LdR (x:Option Int)(e:Ending):Prop:=match x with
 |some k=>e=ay (aH #[ag k,.bool true])
 |none=>e=ay (aH #[ag 0,.bool false])
theorem a3E (h:jk B A W DB C p M nx c r):∀x∈dZ M 11 0,eH x:=λx a=>by
 obtain⟨e,b⟩:=((h.d.mem h.Rp.1).1 a).in_;have d:=h.w.dom x e b;have f:=h.w.few;exact WalkArith.wf_i64 aa
theorem ZQ (h:jk B A W DB C p M nx c r)(d:Nat)(P:W.cell? (aJ d 0)=some (aK DB))(n:Int)(hn:eH n):
  aL 261 #[aK d,ag n] W λe w'=>LdR (Ng M n) e/\aD W w':=by
 have v:=dR W (ak #[aK d] 156);have K0:=dY W #[aK d] 156;have f:=nL (h.w.below v) n hn kOf;have a4:=(v.cell (aX P)).trans P;rw[xq] at f;have Q:=aF h;unfold Ng;cases R:EI M n kOf with
 |none=>
  rw[R] at f;clear R h;go_enter func261,ntmps261;go_wp2_with(go_at_call 169;refine f.mono ?_;rintro e q ⟨rfl,S⟩)
  go_ret2
  exact⟨rfl,bf (bf v S) (dR q _)⟩
 |some s=>
  rw[R] at f;have f:aL 169 #[aK DB,ag n,au ⟨#[111,102]⟩] (W.alloc (ak #[aK d] 156)) λr w'=>r=ay (aH #[bV s,.bool true])/\Below (W.alloc (ak #[aK d] 156)).heap.size (W.alloc (ak #[aK d] 156)) w':=f;clear R h;dsimp only;obtain⟨L,T⟩:∃L,dZ M 11 0=L:=⟨_,rfl⟩;have w:allM M=L:=T;rw[w];have y:=a3E Q.out;have z:=Q.out.Rp.2;rw[T] at y z;have Vf:=aF T;clear T w;obtain⟨a5,uj⟩:∃x,L.find? (λk=>EI M k kId==some s)=x:=⟨_,rfl⟩;rw[uj];have Vk:=aF uj;clear uj;go_enter func261,ntmps261;go_upto_region 4 with(go_at_call 169;refine f.mono ?_;rintro e q ⟨rfl,S⟩);have b2:=dR q (ak #[bV s] 9);have U:=dY q #[bV s] 9;obtain⟨V,hV⟩:∃V,q.alloc (ak #[bV s] 9)=V:=⟨_,rfl⟩;obtain⟨BO,D⟩:∃b,q.heap.size=b:=⟨_,rfl⟩;rw[hV] at b2 U⊢;rw[D] at U⊢;have j:=bf S b2;have l:=bf v j;have KW:=(j.block _ (dI K0)).trans K0;have E:=(l.cell (aX P)).trans P;have SV:=Q.out.below l;have AL:=Xt SV.w 11 aC SV.Rp.1 (by have:=SV.Rp.2;omega);rw[Vf.out] at AL;have c0:=aQ KW 0 _ rfl;clear f hV D S b2 v K0 a4 j;go_upto_region 5 with(go_at_call 101;refine AL.mono ?_;rintro e w2 ⟨o,k,rfl,X,m⟩);clear AL;have B2:=bf l X;have F:=(X.cell (aX E)).trans E;have H:=(X.block _ (dI KW)).trans KW;have I:=(X.block _ (dI U)).trans U;have Y:=Vj (λk=>EI M k kId==some s) L w2 323 #[aK W.heap.size,aK BO] _ _ aa m
   (λx hx V2 a=>a3D (Q.out.below (bf B2 a)).w d W.heap.size BO s ((a.cell (aX F)).trans F) (aQ ((a.block _ (dI H)).trans H) 0 _ rfl) (aQ ((a.block _ (dI I)).trans I) 0 _ rfl) x (y x hx)) rfl ⟨_,_,rfl⟩
  have HI:=LP (λk=>EI M k kId==some s) L 0;have J:=aF m;have K:L.find? (λk=>EI M k kId==some s)=a5:=Vk.out;rw[K] at HI;clear m K;rcases HI with⟨N,rfl⟩|⟨i,x,N,Z,rfl⟩
  .rw[N] at Y;clear N;go_wp2_with(go_at_call 163;refine Y.mono ?_;rintro e t ⟨rfl,u⟩)
   go_ret2
   exact⟨rfl,bf B2 u⟩
  .rw[N,gq] at Y;have O:=(lK.1 Z).1;have R3:∀t,aD w2 t->∃g,o=some ⟨g,0,none⟩/\t.cell? (aJ g i)=some (ag x):=λt u=>by
    rcases ints_at J.out with⟨he, -⟩|⟨g,a7,hv, -,hc⟩
    .rw[he] at O;simp at O
    .injection hv with hv1;exact⟨g,hv1,(u.cell (aX (hc i x Z))).trans (hc i x Z)⟩
   obtain⟨g,rfl, -⟩:=R3 w2 (aW _ _);have a8:(i:Int)<(L.length:Int):=aa;clear N Z;go_wp2_with(go_at_call 163;refine Y.mono ?_;rintro e t ⟨rfl,u⟩;obtain⟨g',a6,cg⟩:=R3 t u;cases a6)
   go_ret2
   exact⟨rfl,bf B2 u⟩
end
end
open Go.RowKit Go.Shelf
abbrev yu (Bd Bl:Nat):ax:=.func (.func 76) #[] #[aK Bd,aK Bl]
section
variable {E:Nat->Addr}{B:Nat}{A:dG}{W:ai}{DB C:Nat}{p:Int->Option Nat}{M:Dm}{nx c:Nat}{r:Int->Nat}
theorem ZR (h:dm B A W DB C p M nx c)(d:Wd M r)(hF:EU M)(l:List Rl)(a:∀x∈l,RlG x)(B0:Nat)(v:ax)(b:W.ownsRow B0 150 3 v l.length (fP l))(Bd Bl:Nat)(j:W.cell? (aJ Bd 0)=some (aK DB))(k:W.cell? (aJ Bl 0)=some v)(n:Int)(f:eH n)(nm:Bs):
  aL 76 #[ag n,bV nm,aK Bd,aK Bl] W λe w'=>e=ay (bV (ofM M l nm n))/\aD W w':=by
 have g:=a3s h d hF l a B0 v b n f nm;obtain⟨m,o,rfl⟩:=bD b;clear h d hF a b;go_enter func76,ntmps76;go_wp2_with(go_at_call 56;refine g.mono ?_;rintro e q ⟨rfl,i⟩);go_ret;exact⟨rfl,i⟩
end
structure fM where
 nd:Int
 o:Option Addr
 cap:Nat
 pts:List Qt
 fill:Bs
 rule:Bs
 lv:Int
def fM.pc (x:fM):Pc:=⟨x.nd,x.pts,x.fill,x.rule,x.lv⟩
abbrev Ir (x:fM):ax:=aj x.o x.pts.length x.cap
def cellsS:List fM->List ax
 |[]=>[]
 |x::l=>ag x.nd::Ir x::bV x.fill::bV x.rule::ag x.lv::cellsS l
theorem zK:∀l:List fM,(cellsS l).length=l.length*5
 |[]=>rfl
 |x::l=>by simp[cellsS,zK l];omega
theorem Iu:∀l m:List fM,cellsS (l++m)=cellsS l++cellsS m
 |[],_=>rfl
 |x::l,m=>by simp[cellsS,Iu l m]
structure Sc (base WB DB:Nat)(sf:ax)(k:Nat)(ps:List fM)(v:ax)(V:ai):Prop where
 wb:V.heap[WB]? =some (ak #[aK DB,sf,ag k,v] 159)
 own:V.ownsRow base 115 5 v ps.length (cellsS ps)
 pts:∀x∈ps,kS V base (Ir x) x.pts
 rt:∀x∈ps,∀a∈x.pts,iW a=0
structure Kw (WB:Nat)(v:ax)(V V':ai):Prop where
 os:V'.os=V.os
 tape:V'.tape=V.tape
 output:V'.output=V.output
 size:V.heap.size<=V'.heap.size
 block:∀b,b<V.heap.size->b≠WB->v.ownBlock≠some b->V'.heap[b]? =V.heap[b]?
theorem Kw.refl (a:Nat)(v:ax)(V:ai):Kw a v V V:=⟨rfl,rfl,rfl,bJ _,λ_ _ _ _=>rfl⟩
theorem Kw.of_below {c:Nat}{v:ax}{V a:ai}(h:aD V a):Kw c v V a:=⟨h.os,h.tape,h.output,h.size,λb d _ _=>h.block b d⟩
theorem Kw.trans {d:Nat}{v f:ax}{V g a:ai}(h:Kw d v V g)(l:f.ownBlock=v.ownBlock\/∀b,f.ownBlock=some b->V.heap.size<=b)(c:Kw d f g a):Kw d v V a:=
 ⟨c.os.trans h.os,c.tape.trans h.tape,c.output.trans h.output,bO h.size c.size,λb i j k=>(c.block b (fK i h.size) j (λe=>by grind)).trans (h.block b i j k)⟩
theorem gy {w:ai}{a k n:Nat}{v:ax}{c:List ax}(h:w.ownsRow a t k v n c):∀g,v.ownBlock=some g->∃cs f,w.heap[g]? =some (ak cs t f)/\a<=g:=λg b=>by
 rcases h.2 with⟨d, -⟩|⟨l,e,i,j,m,o, -⟩
 .rw[d] at b;cases b
 .rw[j] at b;cases b;grind
variable {C A DB:Nat}{I:ax}{k:Nat}{H:List fM}{v:ax}{V D:ai}
theorem Sc.keep (h:Sc C A DB I k H v V)(c:Kw A v V D){b:Nat}{cs:Array ax}{t:TypeId}{f:Nat×Nat}(a:V.heap[b]? =some (ak cs t f))(g:t≠159)(i:t≠115):D.heap[b]? =some (ak cs t f):=by
 refine(c.block b (dI a) ?_ ?_).trans a
 .rintro rfl;rw[h.wb] at a;grind
 .intro e;obtain⟨d,j,l, -⟩:=gy h.own b e;grind
theorem Sc.low (h:Sc C A DB I k H v V)(a:Kw A v V D)(b:C<=A)(c:C<=V.heap.size):Below C V D:=
 ⟨a.os,a.tape,a.output,a.size,λj d=>a.block j aa aa (λe=>by
  obtain⟨-, -, -,f⟩:=gy h.own j e;omega)⟩
theorem Sc.path (h:Sc C A DB I k H v V)(a:Kw A v V D){q:Option Nat}{l:List (Int×Mv)}(hp:iM V q l):iM D q l:=
 iM.keep (λb t d ⟨c,e⟩=>by subst e;exact h.keep a d aC aC) hp
theorem Sc.below (h:Sc C A DB I k H v V)(a:aD V D):Sc C A DB I k H v D:=
 ⟨(a.block _ (dI h.wb)).trans h.wb,bY h.own a,λx b=>(h.pts x b).keep a,h.rt⟩

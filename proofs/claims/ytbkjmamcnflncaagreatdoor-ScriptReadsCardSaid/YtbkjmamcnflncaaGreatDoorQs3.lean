import Derived.Test.YtbkjmamcnflncaaGreatDoorQs2
import Derived.RangeFuncNested
import Derived.RangeFuncBound
import Derived.Shelf.RegionOpen
import Derived.OwnWalkIn
import Derived.LoopNIn
import Derived.LoopIn
import Derived.Deep.DeepCutAuto
namespace Go.Proofs.YtbkjmamcnflncaaGreatDoor
open Go.Proofs.Tryz
set_option maxHeartbeats 8000000
section
structure Fr where
 n:Int
 d:Int
deriving DecidableEq
structure Pt where
 x:Fr
 y:Fr
deriving DecidableEq
structure Mv where
 a:Fr
 b:Fr
 c:Fr
 d:Fr
 e:Fr
 f:Fr
deriving DecidableEq
def Fr.zero:Fr:=⟨0,0⟩
def Pt.zero:Pt:=⟨.zero,.zero⟩
def Mv.zero:Mv:=⟨.zero,.zero,.zero,.zero,.zero,.zero⟩
def Fr.whole (n:Int):Fr:=⟨n,1⟩
def Mv.one:Mv:=⟨.whole 1,.whole 0,.whole 0,.whole 1,.whole 0,.whole 0⟩
def Fr.ok (x:Fr):Prop:=fH x.n x.d=0
def Pt.ok (p:Pt):Prop:=p.x.ok/\p.y.ok
def Mv.ok (m:Mv):Prop:=m.a.ok/\m.b.ok/\m.c.ok/\m.d.ok/\m.e.ok/\m.f.ok
abbrev Op4:=Int->Int->Int->Int->R3
def xV (a:Op4)(c:Nat)(x y:Fr):Fr×Nat:=
 if c=0 then(⟨(a x.n x.d y.n y.d).n,(a x.n x.d y.n y.d).d⟩,(a x.n x.d y.n y.d).c) else(.zero,c)
def Bb (c:Nat)(a x b y:Fr):Fr×Nat:=
 xV add (xV mul (xV mul c a x).2 b y).2 (xV mul c a x).1 (xV mul (xV mul c a x).2 b y).1
def dW (c:Nat)(m:Mv)(p:Pt):Pt×Nat:=
 (⟨(Bb c m.a p.x m.c p.y).1,(Bb (Bb c m.a p.x m.c p.y).2 m.b p.x m.d p.y).1⟩,(Bb (Bb c m.a p.x m.c p.y).2 m.b p.x m.d p.y).2)
def fe (c:Nat)(m:Mv)(p:Pt):Pt×Nat:=
 (⟨(xV add (dW c m p).2 (dW c m p).1.x m.e).1,(xV add (xV add (dW c m p).2 (dW c m p).1.x m.e).2 (dW c m p).1.y m.f).1⟩,
  (xV add (xV add (dW c m p).2 (dW c m p).1.x m.e).2 (dW c m p).1.y m.f).2)
def thenS (m n:Mv):Mv×Nat:=
 (⟨(dW 0 n ⟨m.a,m.b⟩).1.x,(dW 0 n ⟨m.a,m.b⟩).1.y,
  (dW (dW 0 n ⟨m.a,m.b⟩).2 n ⟨m.c,m.d⟩).1.x,(dW (dW 0 n ⟨m.a,m.b⟩).2 n ⟨m.c,m.d⟩).1.y,
  (fe (dW (dW 0 n ⟨m.a,m.b⟩).2 n ⟨m.c,m.d⟩).2 n ⟨m.e,m.f⟩).1.x,(fe (dW (dW 0 n ⟨m.a,m.b⟩).2 n ⟨m.c,m.d⟩).2 n ⟨m.e,m.f⟩).1.y⟩,
  (fe (dW (dW 0 n ⟨m.a,m.b⟩).2 n ⟨m.c,m.d⟩).2 n ⟨m.e,m.f⟩).2)
def Fr.val (x:Fr):Rat:=(x.n:Rat)/(x.d:Rat)
theorem Fr.Bc {x:Fr}(h:x.ok):x.d≠0:=by have:=(gI.1 h).1;omega
structure Good (op:Op4)(F:Rat->Rat->Rat):Prop where
 two:∀x y:Fr,x.ok->y.ok->(op x.n x.d y.n y.d).c=0\/op x.n x.d y.n y.d=⟨0,0,2⟩
 val:∀x y:Fr,∀p q,op x.n x.d y.n y.d=⟨p,q,0⟩->x.ok/\y.ok/\Fr.ok ⟨p,q⟩/\Fr.val ⟨p,q⟩=F x.val y.val
theorem mQ:Good add (·+·) where
 two x y hx hy:=by
  unfold add;unfold Fr.ok at hx hy;rw[if_neg (by simp[hx]),if_neg (by simp[hy])];rcases AZ (n:=x.n*y.d+y.n*x.d) (d:=x.d*y.d) with h|h
  .exact .inr h
  .exact .inl h
 val x y p q h:=by
  obtain⟨a,b,c,e⟩:=F8.1 h;refine⟨a,b,c,?_⟩;have f:(x.d:Rat)≠0:=by simpa using Fr.Bc a
  have g:(y.d:Rat)≠0:=by simpa using Fr.Bc b
  have i:(q:Rat)≠0:=by simpa using Fr.Bc (x:=⟨p,q⟩) c
  have j:(p:Rat)*(x.d*y.d)=(x.n*y.d+y.n*x.d)*q:=by exact_mod_cast e
  unfold Fr.val;simp only;grind
theorem jF:Good mul (·* ·) where
 two x y hx hy:=by
  unfold mul;unfold Fr.ok at hx hy;rw[if_neg (by simp[hx]),if_neg (by simp[hy])];rcases AZ (n:=x.n*y.n) (d:=x.d*y.d) with h|h
  .exact .inr h
  .exact .inl h
 val x y p q h:=by
  obtain⟨a,b,c,e⟩:=a0L.1 h;refine⟨a,b,c,?_⟩;have f:(x.d:Rat)≠0:=by simpa using Fr.Bc a
  have g:(y.d:Rat)≠0:=by simpa using Fr.Bc b
  have i:(q:Rat)≠0:=by simpa using Fr.Bc (x:=⟨p,q⟩) c
  have j:(p:Rat)*(x.d*y.d)=(x.n*y.n)*q:=by exact_mod_cast e
  unfold Fr.val;simp only;grind
theorem Good.step {a:Op4}{F:Rat->Rat->Rat}(g:Good a F){c:Nat}{x y:Fr}(hc:c=0\/c=2)(b:c=0->x.ok)(d:c=0->y.ok):
  ((xV a c x y).2=0\/(xV a c x y).2=2)/\((xV a c x y).2=0->c=0/\(xV a c x y).1.ok/\(xV a c x y).1.val=F x.val y.val):=by
 rcases hc with rfl|rfl
 .rcases g.two x y (b rfl) (d rfl) with h|h
  .have:=g.val x y (a x.n x.d y.n y.d).n (a x.n x.d y.n y.d).d (by rw[<- h]);simp only[xV,if_pos,h];grind
  .simp[xV,h]
 .simp[xV]
theorem zG {c:Nat}{a x b y:Fr}(hc:c=0\/c=2)(g:a.ok)(h:x.ok)(i:b.ok)(j:y.ok):
  ((Bb c a x b y).2=0\/(Bb c a x b y).2=2)/\((Bb c a x b y).2=0->c=0/\(Bb c a x b y).1.ok/\(Bb c a x b y).1.val=a.val*x.val+b.val*y.val):=by
 obtain⟨k,f⟩:=jF.step hc (λ_=>g) (λ_=>h);obtain⟨l,d⟩:=jF.step k (λ_=>i) (λ_=>j);obtain⟨m,n⟩:=mQ.step l (x:=(xV mul c a x).1) (y:=(xV mul (xV mul c a x).2 b y).1) (λe=>(f (d e).1).2.1) (λe=>(d e).2.1);refine⟨m,λe=>?_⟩;obtain⟨o,p,q⟩:=n e;obtain⟨r,_,s⟩:=d o;obtain⟨t,_,u⟩:=f r;exact⟨t,p,by rw[Bb,q,s,u]⟩
theorem lY {c:Nat}{m:Mv}{p:Pt}(hc:c=0\/c=2)(a:m.ok)(hp:p.ok):
  ((dW c m p).2=0\/(dW c m p).2=2)/\((dW c m p).2=0->c=0/\(dW c m p).1.ok/\
   (dW c m p).1.x.val=m.a.val*p.x.val+m.c.val*p.y.val/\(dW c m p).1.y.val=m.b.val*p.x.val+m.d.val*p.y.val):=by
 obtain⟨b,d⟩:=zG hc a.1 hp.1 a.2.2.1 hp.2;obtain⟨f,g⟩:=zG b a.2.1 hp.1 a.2.2.2.1 hp.2;refine⟨f,λe=>?_⟩;obtain⟨h,i,j⟩:=g e;obtain⟨k,l,n⟩:=d h;exact⟨k,⟨l,i⟩,n,j⟩
theorem yE {c:Nat}{m:Mv}{p:Pt}(hc:c=0\/c=2)(b:m.ok)(hp:p.ok):
  ((fe c m p).2=0\/(fe c m p).2=2)/\((fe c m p).2=0->c=0/\(fe c m p).1.ok/\
   (fe c m p).1.x.val=m.a.val*p.x.val+m.c.val*p.y.val+m.e.val/\(fe c m p).1.y.val=m.b.val*p.x.val+m.d.val*p.y.val+m.f.val):=by
 obtain⟨f,a⟩:=lY hc b hp;unfold fe;generalize dW c m p=t at f a⊢;obtain⟨g,d⟩:=mQ.step f (x:=t.1.x) (y:=m.e) (λe=>(a e).2.1.1) (λ_=>b.2.2.2.2.1);generalize xV add t.2 t.1.x m.e=u at g d⊢;obtain⟨h,i⟩:=mQ.step g (x:=t.1.y) (y:=m.f) (λe=>(a (d e).1).2.1.2) (λ_=>b.2.2.2.2.2);generalize xV add u.2 t.1.y m.f=v at h i⊢;refine⟨h,λe=>?_⟩;obtain⟨j,k,l⟩:=i e;obtain⟨n,o,q⟩:=d j;obtain⟨r,_,s,w⟩:=a n;exact⟨r,⟨o,k⟩,q.trans (by rw[s]),l.trans (by rw[w])⟩
theorem Be {m n:Mv}(a:m.ok)(b:n.ok):
  ((thenS m n).2=0\/(thenS m n).2=2)/\((thenS m n).2=0->(thenS m n).1.ok/\
   (thenS m n).1.a.val=n.a.val*m.a.val+n.c.val*m.b.val/\(thenS m n).1.b.val=n.b.val*m.a.val+n.d.val*m.b.val/\
   (thenS m n).1.c.val=n.a.val*m.c.val+n.c.val*m.d.val/\(thenS m n).1.d.val=n.b.val*m.c.val+n.d.val*m.d.val/\
   (thenS m n).1.e.val=n.a.val*m.e.val+n.c.val*m.f.val+n.e.val/\(thenS m n).1.f.val=n.b.val*m.e.val+n.d.val*m.f.val+n.f.val):=by
 obtain⟨d,f⟩:=lY (c:=0) (m:=n) (p:=⟨m.a,m.b⟩) (.inl rfl) b ⟨a.1,a.2.1⟩;unfold thenS;generalize dW 0 n ⟨m.a,m.b⟩=t at d f⊢;obtain⟨g,h⟩:=lY (m:=n) (p:=⟨m.c,m.d⟩) d b ⟨a.2.2.1,a.2.2.2.1⟩;generalize dW t.2 n ⟨m.c,m.d⟩=u at g h⊢;obtain⟨i,j⟩:=yE (m:=n) (p:=⟨m.e,m.f⟩) g b ⟨a.2.2.2.2.1,a.2.2.2.2.2⟩;generalize fe u.2 n ⟨m.e,m.f⟩=v at i j⊢;refine⟨i,λe=>?_⟩;obtain⟨q,k,r,s⟩:=j e;obtain⟨w,l,x,y⟩:=h q;obtain⟨_,o,z,A⟩:=f w;exact⟨⟨o.1,o.2,l.1,l.2,k.1,k.2⟩,z,A,x,y,r,s⟩
end
section
open Go.RowKit Go.Shelf
set_option maxRecDepth 100000
attribute [local go_sem] Oper.semAt_some
structure Item where
 i:Int
 x:Fr
 h1:kS x.n
 h2:kS x.d
abbrev fv (x:Fr):au:=.agg #[ag x.n,ag x.d]
abbrev aem (x:Item):Array au:=#[ag x.i,.agg #[ag x.x.n,ag x.x.d]]
theorem Td {a:Type}(b:List a)(k:Nat)(h:k<b.length):b.take (k+1)=b.take k++[b[k]]:=by
 rw[dS,eZ h];rfl
theorem LH (F:Fence)(n:Nat)(S:F.fn 366)(B:F.round=none)(hn:1<=n)(l Bl r a b c C:Nat)(D:Nat)(d:List Item)(hx:d.length=c)(M:c<=1000)(T:D<=1000)(N:b<a)(t:r<a)(J O:List Item->ah->Prop)
    (U:∀s W g,J s W->W.grownBy g none->J s g)
    (V:∀pre x W,J pre W->pre.length<c->YieldAt F (n-1) prog l #[ag x.i,.agg #[ag x.x.n,ag x.x.d]] W λe g=>
      (e=ax (.bool true)/\J (pre++[x]) g/\Below a W g)\/(e=ax (.bool false)/\O (pre++[x]) g))
    (W:ah) (o:a<=W.heap.size) (X:W.cell? (aH Bl 0)=some (aj (some ⟨b,0,none⟩) c C)) (E:W.cell? (aH r 0)=some (ag D))
    (H:∀j (h:j<d.length),W.cell? (aH b (j*2))=some (ag d[j].x.n)) (I:∀j (h:j<d.length),W.cell? (aH b (j*2+1))=some (ag d[j].x.d))
    (hi:∀j (h:j<d.length),d[j].i=D+j) (Y:J [] W):
    CallsIn F n prog 366 #[.func (.yield l) #[] #[],aI Bl,aI r] W λe g=>(∃v,e=ax v)/\
      ((∃P,P=d/\J P g)\/(∃pre,pre<+:d/\O pre g)):=by
  refine callsIn_of_wp func366 rfl S ?_ B;simp only[ntmps366,ji,eP,iO,Nat.reduceAdd,Nat.reduceSub,jM,jL,jO,jN,gF,fV]
  gi_wp2
  gi_loopw [8] (λi wr=>∃k:Nat,k<=c/\i=ag k/\J (d.take k) wr/\Below a W wr)
    (λi _=>c-(intOf i).toNat)
  case atStart=>exact⟨0,bf _,rfl,Y,aQ _ _⟩
  case round=>
    obtain⟨k,hk,rfl,u,f⟩:=hrel;by_cases Z:k<c
    . have m:k<d.length:=aa
      have c0:=(f.cell (p:=⟨b,k*2,none⟩) N).trans (H k m);have c1:=(f.cell (p:=⟨b,k*2+1,none⟩) N).trans (I k m);have cf:=(f.cell (p:=⟨r,0,none⟩) t).trans E;have w:=hi k m;have q:=Td d k m;generalize d[k]=x at c0 c1 w q;have hg:wr.grownBy (wr.alloc (ai #[ag x.x.n,ag x.x.d] 163)) none:=qY wr _ none;have y:=(aQ a wr).alloc (bu o f.size) (ai #[ag x.x.n,ag x.x.d] 163);have a4:=(y.cell (p:=⟨r,0,none⟩) t).trans cf;obtain⟨fn,Q,A,R,hy,hR⟩:=V (d.take k) x (wr.alloc (ai #[ag x.x.n,ag x.x.d] 163)) (U _ _ _ u hg) (by rw[iV];omega);rw[w] at hy
      gi_wp2
      refine hR.mono ?_;rintro e W3 (⟨rfl,K,L⟩|⟨rfl,z⟩)
      . gi_wp2
        go_roundw
        case rel=>exact⟨k+1,aa,aG,by rw[q];exact K,f.trans (y.trans L)⟩
        case measure=>simp[intOf];omega
      . gi_wp2
        refine bodyPost_ret (results_none rfl _ _ _) rfl ?_;exact⟨⟨_,rfl⟩,.inr ⟨_,by rw[<- q];exact List.take_prefix _ _,z⟩⟩
    . obtain rfl:k=c:=aa
      gi_wp2
      go_end0
      exact⟨⟨_,rfl⟩,.inl ⟨_,by rw[jg aa],u⟩⟩
end
section
open Go.RowKit Go.Shelf
set_option maxRecDepth 100000
attribute [local go_sem] Oper.semAt_some
theorem oO {W a:ah}(h:aD W a):KeepsOthers W a:=
 ⟨h.size,λk _ b _=>(h.block k (dZ.1 b).1).trans b⟩
theorem Te (W:ah)(v:au)(t:TypeId):(W.alloc (ai #[v] t)).cell? ⟨W.heap.size,0,none⟩=some v/\(W.alloc (ai #[v] t)).frozen? ⟨W.heap.size,0,none⟩=false:=⟨aG,aG⟩
theorem aL {W:ah}{a:Addr}{v:au}(o:Obj)(h:W.cell? a=some v):(W.alloc o).cell? a=some v:=cell_kept h (qY W o none) (λr e=>by cases e)
theorem gJ {W:ah}{a:Addr}{v:au}(o:Obj)(h:W.cell? a=some v)(b:W.frozen? a=false):(W.alloc o).frozen? a=false:=(frozen_kept h (qY W o none) (λr e=>by cases e)).trans b
structure zH (W:ah)(n₀ Bl Bf b cap fr:Nat)(xs:List Item):Prop where
 lb:Bl<n₀
 lf:Bf<n₀
 ls:b<n₀
 l:W.cell? (aH Bl 0)=some (aj (some ⟨b,0,none⟩) xs.length cap)
 f:W.cell? (aH Bf 0)=some (ag fr)
 c0:∀j (h:j<xs.length),W.cell? (aH b (j*2))=some (ag xs[j].x.n)
 c1:∀j (h:j<xs.length),W.cell? (aH b (j*2+1))=some (ag xs[j].x.d)
 i:∀j (h:j<xs.length),xs[j].i=fr+j
 len:xs.length<=1000
 fr:fr<=1000
theorem zH.below {W g:ah}{a Bl e b c i:Nat}{k:List Item}(h:zH W a Bl e b c i k)(d:Below a W g):zH g a Bl e b c i k:=
 ⟨h.lb,h.lf,h.ls,(d.cell (p:=⟨Bl,0,none⟩) h.lb).trans h.l,(d.cell (p:=⟨e,0,none⟩) h.lf).trans h.f,λj f=>(d.cell (p:=⟨b,j*2,none⟩) h.ls).trans (h.c0 j f),λj f=>(d.cell (p:=⟨b,j*2+1,none⟩) h.ls).trans (h.c1 j f),h.i,h.len,h.fr⟩
theorem Ff (F:Fence)(n:Nat)(o:F.fn 366)(i:F.round=none)(p:1<=n)(Bl j a b f k:Nat)(d:List Item)(w:ah)(c:a<=w.heap.size)(h:zH w a Bl j b f k d):
  SeqStopsK F n prog 366 #[aI Bl,aI j] aem (Below a) (λq=>q=d) (λpre=>pre<+:d) d.length w:=λl J t W m u _ v x=>by
 have g:=h.below (m.mono c);exact LH F n o i p l Bl j a b d.length f k d rfl h.len h.fr h.ls h.lf J t (λs A B y z=>u s A B none y z (λr e=>by cases e)) v W (bu c m.size) g.l g.f g.c0 g.c1 g.i x
theorem a5p {β:Type}(B:Nat)(x y:au):Own (λ(_:β) W=>Two W B x y):=λ_ _ _ _ a b c=>
 ⟨cell_kept a.c0 b c,cell_kept a.c1 b c,(frozen_kept a.c0 b c).trans a.f0,(frozen_kept a.c1 b c).trans a.f1⟩
def VF (aB aS aZ:Addr)(w:ah)(b:List Item)(e:Ending)(W:ah):Prop:=
 ((∀y∈b,fH y.x.n y.x.d=0)/\e=ax aU)\/
 (∃q x r a,b=q++x::r/\(∀y∈q,fH y.x.n y.x.d=0)/\fH x.x.n x.x.d≠0/\w.heap.size<=a/\e=ax (aP 67 (aI a))/\W.cell? (aH a 0)=some (ag x.i)/\W.cell? (aH a 1)=some (er aB aS aZ (fH x.x.n x.x.d)))
theorem O7 (aB aS aZ:Addr)(Bl E b H fr:Nat)(R:List Item)(w:ah)(h:zH w w.heap.size Bl E b H fr R)(hE:E3 aB aS aZ w):
  CallsIn Fence.wide 9 prog 326 #[.func (.func 366) #[] #[aI Bl,aI E]] w λe W=>VF aB aS aZ w R e W/\aD w W:=by
 refine callsIn_of_wp_marks func326 rfl trivial ?_ rfl;simp only[ntmps326,ji,eP,iO,Nat.reduceAdd,Nat.reduceSub,jM,jL,jO,jN,gF,fV]
 gi_wp2
 have c0:=Te w aU 25;have I:aD w (w.alloc (ai #[aU] 25)):=(aQ _ w).alloc ay _;refine wpIn_rangeFunc_ownH rfl aa (gf:=366) (lb:=#[aI Bl,aI E]) rfl trivial (enters_of func366 az rfl)
  (Ff Fence.wide _ trivial rfl aa Bl E w.heap.size b H fr R _ aG (h.below I)) belowK_t (belowK_b aG) (aQ _ _) (λ_=>rfl)
  (λpre W=>((∀y∈pre,fH y.x.n y.x.d=0)/\W.cell? ⟨w.heap.size,0,none⟩=some aU/\W.frozen? ⟨w.heap.size,0,none⟩=false)/\aD w W)
  (λc pre W=>(c=.ret/\∃q x m,pre=q++[x]/\(∀y∈q,fH y.x.n y.x.d=0)/\fH x.x.n x.x.d≠0/\w.heap.size<=m/\W.cell? ⟨w.heap.size,0,none⟩=some (aP 67 (aI m))/\W.cell? (aH m 0)=some (ag x.i)/\W.cell? (aH m 1)=some (er aB aS aZ (fH x.x.n x.x.d)))/\aD w W)
  (OwnFrom.and (Own.from (λs A B n j i g=>⟨j.1,cell_kept j.2.1 i g,(frozen_kept j.2.1 i g).trans j.2.2⟩) _) (ownFrom_below ay aG))
  (λc=>OwnFrom.and (Own.from (λs A B n j i g=>by obtain⟨S,q,x,m,T,J,U,V,X,Y,Z⟩:=j;exact⟨S,q,x,m,T,J,U,V,cell_kept X i g,cell_kept Y i g,cell_kept Z i g⟩) _) (ownFrom_below ay aG))
  ⟨⟨aG,c0.1,c0.2⟩,I⟩
  (λx a' W=>∃t,w.heap.size<t/\Two W t (ag x.x.n) (ag x.x.d)/\a'={tmps:=#[.func (.func 366) #[] #[aI Bl,aI E],undef,aI w.heap.size,ag x.i,aI t,undef,.func (.func 366) #[] #[aI Bl,aI E],ag x.i,.agg #[ag x.x.n,ag x.x.d],undef,undef,undef,undef,undef,undef,undef,undef,undef],defers:=[]})
  (λx a' s A B n j i g=>by obtain⟨t,S,T,J⟩:=j;exact⟨t,S,(a5p t _ _) () A B n T i (λr e=>(g r e).2),J⟩)
  ?assign ?body ?done ?stop
 case assign=>
  rintro l pre x W K ⟨⟨F,u,O⟩,d⟩ v
  gi_wp2
  have j:=d.size;have f:=aR u;exact v _ _ ((KeepsOthers.alloc _ _).from _) ((aQ _ W).alloc j _) ⟨⟨F,aL _ u,gJ _ u O⟩,d.alloc j _⟩ ⟨W.heap.size,f,Two.new W _ _ _,rfl⟩
 case body=>
  rintro l pre x a' W hl g ⟨⟨F,u,O⟩,d⟩ ⟨t,a9,⟨k1,k2,k3,k4⟩,rfl⟩ f;have f:=aR u;have a4:=hE.below d ay;have P:=kI aB aS aZ x.x.n x.x.d W x.h1 x.h2 a4;by_cases Q:fH x.x.n x.x.d=0
  .rw[Q] at P
   gi_wp2_with (refine⟨trivial,?_⟩;gi_at_call 185;refine(CallsIn.inRound l (callsIn_wide.2 P)).mono ?_;rintro e w' ⟨rfl,k⟩;simp only[vG])
   exact⟨(oO k).from _,k.mono d.size,⟨λy hy=>(gT.1 hy).elim (F y) (λe=>by simp at e;subst e;exact Q),(k.cell (p:=⟨w.heap.size,0,none⟩) f).trans u,(k.frozen (p:=⟨w.heap.size,0,none⟩) f).trans O⟩,d.trans (k.mono d.size)⟩
  .obtain⟨a,ha⟩:=jk aB aS aZ (show fH x.x.n x.x.d=2\/fH x.x.n x.x.d=3 by have:=gZ x.x.n x.x.d;omega);have HC:=aA ha;have HX:=aA Q;rw[ha] at P;clear ha Q
   gi_wp2_with (refine⟨trivial,?_⟩;gi_at_call 185;refine(CallsIn.inRound l (callsIn_wide.2 P)).mono ?_;rintro e w' ⟨rfl,k⟩;have hz:=k.size;have L:=(k.cell (p:=⟨w.heap.size,0,none⟩) f).trans u;have a5:=(k.frozen (p:=⟨w.heap.size,0,none⟩) f).trans O;have a6:=λo=>aL o L;have b0:=λo=>gJ o L a5)
   have M:w'.heap.size≠w.heap.size:=aa;refine⟨((oO k).trans ((KeepsOthers.alloc _ _).trans (gH _ _ _))).from _,⟨rfl,pre,x,w'.heap.size,rfl,F,HX.out,by have:=d.size;omega,iA _ _ _ (by rw[a6];rfl),?_,?_⟩,?_⟩
   .rw[bN _ _ _ _ (λe=>M e.symm)];simp
   .rw[HC.out,bN _ _ _ _ (λe=>M e.symm)];simp
   .exact(d.trans (k.mono d.size)).alloc (by have:=d.size;omega) _|>.setCell aG _
 case done=>
  rintro D ys W hD rfl ⟨⟨F,a7,b1⟩,d⟩ v
  gi_wp2
  have z:=(gH W ⟨w.heap.size,0,none⟩ aU).same D _ v rfl;refine⟨aG,.inl ⟨_,_,rfl,run_takeDeferred z,?_⟩⟩;have C:=cell_kept (iA W ⟨w.heap.size,0,none⟩ aU (by rw[a7];rfl)) (grownBy_putObj' _ D (.deferred none)) (λr e=>by cases e;exact⟨_,z,rfl⟩);refine⟨aU,?_,.inl ⟨F,rfl⟩,(d.setCell (p:=⟨w.heap.size,0,none⟩) aG _).trans (belowK_b (w:=w) ay _ D _ _ (by simp at hD;omega) z rfl rfl)⟩;simp[results,results326,go_sem,C]
 case stop=>
  rintro D c pre W hD N ⟨⟨rfl,q,x,m,rfl,J,U,V,X,Y,Z⟩,d⟩ v
  gi_wp2
  refine⟨aG,.inl ⟨_,_,rfl,run_takeDeferred v,?_⟩⟩;have g:∀r,some D=some r->∃o:Obj,W.heap[r]? =some o/\o.isCells=false:=λr e=>by cases e;exact⟨_,v,rfl⟩
  have i:=grownBy_putObj' W D (.deferred none);have C:=cell_kept X i g;obtain⟨r,a8⟩:=N;refine⟨_,?_,.inr ⟨q,x,r,m,by rw[<- a8];simp,J,U,V,rfl,cell_kept Y i g,cell_kept Z i g⟩,d.trans (belowK_b (w:=w) ay W D _ _ (by simp at hD;omega) v rfl rfl)⟩;simp[results,results326,go_sem,C]
end
section
open Go.RowKit Go.Shelf
abbrev pv (p:Pt):au:=.agg #[ag p.x.n,ag p.x.d,ag p.y.n,ag p.y.d]
abbrev zA:Array au:=#[ag 0,ag 0,ag 0,ag 0,ag 0,ag 0,ag 0,ag 0,ag 0,ag 0,ag 0,ag 0]
abbrev zL:List au:=[ag 0,ag 0,ag 0,ag 0,ag 0,ag 0,ag 0,ag 0,ag 0,ag 0,ag 0,ag 0]
abbrev oA:Array au:=#[ag 1,ag 1,ag 0,ag 1,ag 0,ag 1,ag 1,ag 1,ag 0,ag 1,ag 0,ag 1]
abbrev oL:List au:=[ag 1,ag 1,ag 0,ag 1,ag 0,ag 1,ag 1,ag 1,ag 0,ag 1,ag 0,ag 1]
abbrev mA (m:Mv):Array au:=#[ag m.a.n,ag m.a.d,ag m.b.n,ag m.b.d,ag m.c.n,ag m.c.d,ag m.d.n,ag m.d.d,ag m.e.n,ag m.e.d,ag m.f.n,ag m.f.d]
abbrev mL (m:Mv):List au:=[ag m.a.n,ag m.a.d,ag m.b.n,ag m.b.d,ag m.c.n,ag m.c.d,ag m.d.n,ag m.d.d,ag m.e.n,ag m.e.d,ag m.f.n,ag m.f.d]
abbrev mv (m:Mv):au:=.agg #[ag m.a.n,ag m.a.d,ag m.b.n,ag m.b.d,ag m.c.n,ag m.c.d,ag m.d.n,ag m.d.d,ag m.e.n,ag m.e.d,ag m.f.n,ag m.f.d]
def Fr.i64 (x:Fr):Prop:=kS x.n/\kS x.d
def Pt.i64 (p:Pt):Prop:=p.x.i64/\p.y.i64
def Mv.i64 (m:Mv):Prop:=m.a.i64/\m.b.i64/\m.c.i64/\m.d.i64/\m.e.i64/\m.f.i64
def bJ:Nat->List Fr->Nat×Nat
 |_,[]=>(0,0)
 |i,x::r=>if fH x.n x.d=0 then bJ (i+1) r else(fH x.n x.d,i)
theorem nT:∀(l:List Fr) (i:Nat),(∀y∈l,fH y.n y.d=0)->bJ i l=(0,0)
 |[],_,_=>rfl
 |x::r,i,h=>by unfold bJ;rw[if_pos (h x aG)];exact nT r (i+1) (λy a=>h y (by simp[a]))
theorem xW:∀(q:List Fr) (x:Fr) (r:List Fr) (i:Nat),(∀y∈q,fH y.n y.d=0)->fH x.n x.d≠0->bJ i (q++x::r)=(fH x.n x.d,i+q.length)
 |[],x,r,i,_,h=>by unfold bJ;simp[h]
 |y::q,x,r,i,a,h=>by
  rw[fV,bJ,if_pos (a y aG),xW q x r (i+1) (λz b=>a z (by simp[b])) h];simp;omega
def Told (aB aS aZ:Addr)(B:Nat)(r:Nat×Nat)(v:au)(W:ah):Prop:=
 (r.1=0/\v=aU)\/
 (r.1≠0/\(r.1=2\/r.1=3)/\∃a,B<=a/\v=aP 67 (aI a)/\W.cell? (aH a 0)=some (ag r.2)/\W.cell? (aH a 1)=some (er aB aS aZ r.1))
theorem Told.mono {aB aS aZ:Addr}{B B':Nat}{r:Nat×Nat}{v:au}{W:ah}(h:Told aB aS aZ B r v W)(a:B'<=B):Told aB aS aZ B' r v W:=by
 rcases h with h|⟨b,c,d,e,f⟩
 .exact .inl h
 .exact .inr ⟨b,c,d,bu a e,f⟩
theorem a5q {aB aS aZ:Addr}{w:ah}{a:List Item}{e:Ending}{W:ah}{b:Nat}(hi:∀j (h:j<a.length),a[j].i=b+j)(h:VF aB aS aZ w a e W):∃v,e=ax v/\Told aB aS aZ w.heap.size (bJ b (a.map (·.x))) v W:=by
 rcases h with⟨f,g⟩|⟨q,x,r,i,rfl,k,c,l,m,o,n⟩
 .rw[nT _ _ (by simpa using f)];exact⟨_,g,.inl ⟨rfl,rfl⟩⟩
 .have d:=hi q.length aG;rw[List.getElem_append_right ay] at d;simp only[Nat.sub_self,List.getElem_cons_zero] at d;rw[iG,nI,xW _ _ _ _ (by simpa using k) c];refine⟨_,m,.inr ⟨c,by have:=gZ x.x.n x.x.d;simp only;omega,i,l,rfl,?_,n⟩⟩;grind
theorem tQ (b:Int)(s:au)(a:Option Addr)(n c:Nat)(hs:s=aj a n c)(W:ah):
  aJ 349 #[ag b,s] W λe w'=>e=ax (.func (.func 366) #[] #[.pointer (some ⟨W.heap.size+1,0,none⟩),aI W.heap.size])/\w'=(W.alloc (ai #[ag b] 3)).alloc (ai #[s] 402):=by
 subst hs;go_enter func349,ntmps349;go_wp2;go_ret;exact⟨rfl,rfl⟩
def Mv.items (m:Mv)(h:m.i64):List Item:=
 [⟨0,m.a,h.1.1,h.1.2⟩,⟨1,m.b,h.2.1.1,h.2.1.2⟩,⟨2,m.c,h.2.2.1.1,h.2.2.1.2⟩,⟨3,m.d,h.2.2.2.1.1,h.2.2.2.1.2⟩,⟨4,m.e,h.2.2.2.2.1.1,h.2.2.2.2.1.2⟩,⟨5,m.f,h.2.2.2.2.2.1,h.2.2.2.2.2.2⟩]
def Mv.list (m:Mv):List Fr:=[m.a,m.b,m.c,m.d,m.e,m.f]
def Pt.items (p:Pt)(h:p.i64):List Item:=[⟨6,p.x,h.1.1,h.1.2⟩,⟨7,p.y,h.2.1,h.2.2⟩]
def Pt.list (p:Pt):List Fr:=[p.x,p.y]
theorem dG {W:ah}{cs:Array au}{t:TypeId}{B k:Nat}{v:au}(a:B=W.heap.size)(h:cs[k]? =some v):(W.alloc (ai cs t)).cell? (aH B k)=some v:=by
 subst a;simp[h]
theorem Bg {j:Nat}(h:j<6):j=0\/j=1\/j=2\/j=3\/j=4\/j=5:=aa
theorem Bh {j:Nat}(h:j<2):j=0\/j=1:=aa
theorem a0M (m:Mv)(h:m.i64)(W:ah)(t c b:TypeId):
  zH (((W.alloc (ai #[ag m.a.n,ag m.a.d,ag m.b.n,ag m.b.d,ag m.c.n,ag m.c.d,ag m.d.n,ag m.d.d,ag m.e.n,ag m.e.d,ag m.f.n,ag m.f.d] t)).alloc (ai #[ag 0] c)).alloc (ai #[aj (some ⟨W.heap.size,0,none⟩) 6 6] b)) (W.heap.size+3) (W.heap.size+2) (W.heap.size+1) W.heap.size 6 0 (m.items h) where
 lb:=aa
 lf:=aa
 ls:=aa
 l:=dG aG rfl
 f:=aL _ (dG aG rfl)
 c0:=λj a=>by rcases Bg a with rfl|rfl|rfl|rfl|rfl|rfl<;>exact aL _ (aL _ (dG rfl rfl))
 c1:=λj a=>by rcases Bg a with rfl|rfl|rfl|rfl|rfl|rfl<;>exact aL _ (aL _ (dG rfl rfl))
 i:=λj a=>by rcases Bg a with rfl|rfl|rfl|rfl|rfl|rfl<;>rfl
 len:=by simp[Mv.items]
 fr:=aa
theorem a0N (p:Pt)(h:p.i64)(W:ah)(t c b:TypeId):
  zH (((W.alloc (ai #[ag p.x.n,ag p.x.d,ag p.y.n,ag p.y.d] t)).alloc (ai #[ag 6] c)).alloc (ai #[aj (some ⟨W.heap.size,0,none⟩) 2 2] b)) (W.heap.size+3) (W.heap.size+2) (W.heap.size+1) W.heap.size 2 6 (p.items h) where
 lb:=aa
 lf:=aa
 ls:=aa
 l:=dG aG rfl
 f:=aL _ (dG aG rfl)
 c0:=λj a=>by rcases Bh a with rfl|rfl<;>exact aL _ (aL _ (dG rfl rfl))
 c1:=λj a=>by rcases Bh a with rfl|rfl<;>exact aL _ (aL _ (dG rfl rfl))
 i:=λj a=>by rcases Bh a with rfl|rfl<;>rfl
 len:=by simp[Pt.items]
 fr:=aa
theorem XM (m:Mv)(h:m.i64)(W:ah):
  aJ 327 #[mv m] W λe w'=>e=ax (.func (.func 366) #[] #[.pointer (some ⟨W.heap.size+3,0,none⟩),.pointer (some ⟨W.heap.size+2,0,none⟩)])/\aD W w'/\w'.heap.size=W.heap.size+4/\zH w' (W.heap.size+4) (W.heap.size+3) (W.heap.size+2) (W.heap.size+1) 6 0 (m.items h):=by
 have b:=tQ;have a:=a0M m h;generalize m.items h=q at a⊢;clear h;obtain⟨⟨c,d⟩,⟨f,g⟩,⟨i,j⟩,⟨k,l⟩,⟨n,d5⟩,⟨o,p⟩⟩:=m;dsimp only[mv] at a⊢;go_enter func327,ntmps327;go_wp2_with(go_at_call 349;refine(b 0 (aj (some ⟨W.heap.size+1,0,none⟩) 6 6) _ _ _ rfl _).mono ?_;rintro e w' ⟨rfl,rfl⟩);go_ret;refine⟨rfl,?_,aG,?_⟩
 .exact((((aQ _ W).alloc ay _).alloc aG _).alloc aX _).alloc aX _
 .have:=a (W.alloc (ai #[ag c,ag d,ag f,ag g,ag i,ag j,ag k,ag l,ag n,ag d5,ag o,ag p] 165)) 163 3 402;simpa using this
theorem xX (aB aS aZ:Addr)(Bl c b a d:Nat)(f:List Item)(w:ah)(h:zH w w.heap.size Bl c b a d f)(hE:E3 aB aS aZ w):
  aJ 326 #[.func (.func 366) #[] #[aI Bl,aI c]] w λe W=>(∃v,e=ax v/\Told aB aS aZ w.heap.size (bJ d (f.map (·.x))) v W)/\aD w W:=
 (callsIn_wide.1 (O7 aB aS aZ Bl c b a d f w h hE)).mono λ_ _ g=>⟨a5q h.i g.1,g.2⟩
theorem Cz (aB aS aZ:Addr)(m:Mv)(h:m.i64)(W:ah)(hE:E3 aB aS aZ W):
  aJ 264 #[mv m] W λe w'=>(∃v,e=ax v/\Told aB aS aZ W.heap.size (bJ 0 m.list) v w')/\aD W w':=by
 have c:=XM m h;have n:=xX aB aS aZ;have d:(m.items h).map (·.x)=m.list:=rfl;generalize m.items h=q at c d;generalize m.list=l at d⊢;subst d;clear h;obtain⟨⟨r,s⟩,⟨t,u⟩,⟨w,x⟩,⟨y,z⟩,⟨A,d5⟩,⟨B,C⟩⟩:=m;dsimp only[mv] at c⊢;go_enter func264,ntmps264;go_wp2_with(first|(go_at_call 326;refine b.mono ?_;rintro e D ⟨⟨v,rfl,o⟩,f⟩)|(go_at_call 327;refine(c _).mono ?_;rintro e p ⟨rfl,a,g,k⟩;have i:=(hE.alloc _).below a ay;rw[<- g] at k;have b:=n _ _ _ _ _ _ p k i;simp only[dK] at b));go_ret;have j:=a.size;rw[dK] at j;exact⟨⟨v,rfl,o.mono aa⟩,(((aQ _ W).alloc ay _).trans (a.mono aG)).trans (f.mono aa)⟩
end
open Go.RowKit
structure fo (b:Nat)(W w':ah):Prop where
 size:W.heap.size<=w'.heap.size
 block:∀k,k<W.heap.size->k≠b->w'.heap[k]? =W.heap[k]?
theorem fo.trans {b:Nat}{A B C:ah}(h:fo b A B)(k:fo b B C):fo b A C:=
 ⟨bu h.size k.size,λi a c=>(k.block i (dP a h.size) c).trans (h.block i a c)⟩
theorem fo.of_below {b:Nat}{A B:ah}(h:aD A B):fo b A B:=⟨h.size,λi a _=>h.block i a⟩
theorem fo.cell {b:Nat}{A B:ah}(h:fo b A B){p:Addr}{v:au}(hp:A.cell? p=some v)(a:p.block≠b):B.cell? p=some v:=
 (qg (h.block p.block (aR hp) a)).trans hp
theorem fo.frozen {b:Nat}{A B:ah}(h:fo b A B){p:Addr}{v:au}(hp:A.cell? p=some v)(a:A.frozen? p=false)(c:p.block≠b):B.frozen? p=false:=
 (World.frozen?_of_block (h.block p.block (aR hp) c)).trans a
structure Wk (aB aS aZ:Addr)(w0:ah)(b:Nat)(c:Nat)(W:ah):Prop where
 e3:E3 aB aS aZ w0
 hb:aD w0 W
 lo:w0.heap.size<=b
 cell:W.cell? (aH b 0)=some (er aB aS aZ c)
 eY:W.frozen? ⟨b,0,none⟩=false
theorem Wk.at {aB aS aZ:Addr}{w0:ah}{b c:Nat}{W:ah}(h:Wk aB aS aZ w0 b c W):E3 aB aS aZ W:=h.e3.below h.hb ay
theorem Wk.alloc {aB aS aZ:Addr}{w0:ah}{b c:Nat}{W:ah}(h:Wk aB aS aZ w0 b c W)(o:Obj):Wk aB aS aZ w0 b c (W.alloc o):=
 ⟨h.e3,h.hb.alloc h.hb.size o,h.lo,aL o h.cell,gJ o h.cell h.eY⟩
theorem Wk.below {aB aS aZ:Addr}{w0:ah}{b c:Nat}{W d:ah}(h:Wk aB aS aZ w0 b c W)(a:aD W d):Wk aB aS aZ w0 b c d:=
 ⟨h.e3,h.hb.trans (a.mono h.hb.size),h.lo,(a.cell (p:=⟨b,0,none⟩) (aR h.cell)).trans h.cell,(a.frozen (p:=⟨b,0,none⟩) (aR h.cell)).trans h.eY⟩
theorem Wk.drew {aB aS aZ:Addr}{w0:ah}{b c:Nat}{W:ah}(h:Wk aB aS aZ w0 b c W)(k:Nat):Wk aB aS aZ w0 b c (W.drewN k):=h.below (below_drewN (aQ _ W) k)
theorem a0O (aB aS aZ:Addr):er aB aS aZ 2=aP 453 (.pointer (some aB)):=rfl
theorem aa3 {aB aS aZ:Addr}{w0 W g:ah}{b c R:Nat}{o:Obj}{v p q:au}(h:Wk aB aS aZ w0 b 0 g)(i:fo b W g)(m:W.heap.size<=R)(a:w0.heap.size<=R)(d:b≠R)(j:v=er aB aS aZ c):
  Wk aB aS aZ w0 b c ((((g.alloc o).setCell ⟨b,0,none⟩ v).setCell ⟨R,0,none⟩ p).setCell ⟨R,1,none⟩ q)/\fo b W ((((g.alloc o).setCell ⟨b,0,none⟩ v).setCell ⟨R,0,none⟩ p).setCell ⟨R,1,none⟩ q):=by
 have n:=i.size;refine⟨⟨h.e3,(((h.hb.alloc h.hb.size o).setCell h.lo v).setCell a p).setCell a q,h.lo,?_,?_⟩,?_,?_⟩
 .rw[bN _ _ _ _ (λe=>d e.symm),bN _ _ _ _ (λe=>d e.symm),iA _ _ _ (by rw[aL o h.cell];rfl),j]
 .rw[jK,jK,jK];exact gJ o h.cell h.eY
 .simp;omega
 .intro k l f;rw[bY _ _ _ k aX,bY _ _ _ k aX,bY _ _ _ k f,Below.heap_alloc _ _ k aa];exact i.block k l f
theorem a0P (aB aS aZ:Addr)(w0:ah)(b F:Nat)(x y:Fr)(W:ah)(h:Wk aB aS aZ w0 b 2 W):
  aJ 328 #[aI b,.func (.func F) #[] #[],.agg #[ag x.n,ag x.d],.agg #[ag y.n,ag y.d]] W λe w'=>e=ax (.agg #[ag 0,ag 0])/\aD W w':=by
 have a:=((h.alloc (ai #[ag x.n,ag x.d] 163)).alloc (ai #[ag y.n,ag y.d] 163)).alloc (ai #[ag 0,ag 0] 163);have c:=a.cell;have d:=a.eY;rw[a0O] at c;clear a;go_enter func328,ntmps328;go_wp2;refine bodyPost_ret (v:=.agg #[ag 0,ag 0]) (by simp[results,results328,go_sem]) rfl ⟨rfl,?_⟩;exact(((aQ _ W).alloc ay _).alloc aG _).alloc aX _
theorem a8X (aB aS aZ:Addr)(w0:ah)(b F:Nat)(z:∀(m:Array au) (w:ah),Sem.run prog (callFunc F m) w=.ok (.enter F m) w)(x y:Fr)(r:R3)(W:ah)(n:r.c=0\/r.c=2)(h:Wk aB aS aZ w0 b 0 W)
  (d:∀V,E3 aB aS aZ V->aJ F #[.agg #[ag x.n,ag x.d],.agg #[ag y.n,ag y.d]] V λe w'=>e=ax (aF #[.agg #[ag r.n,ag r.d],er aB aS aZ r.c])/\aD V w'):
  aJ 328 #[aI b,.func (.func F) #[] #[],.agg #[ag x.n,ag x.d],.agg #[ag y.n,ag y.d]] W λe w'=>e=ax (.agg #[ag r.n,ag r.d])/\Wk aB aS aZ w0 b r.c w'/\fo b W w':=by
 have f:=((h.alloc (ai #[ag x.n,ag x.d] 163)).alloc (ai #[ag y.n,ag y.d] 163)).alloc (ai #[ag 0,ag 0] 163);have A:=f.cell;have I:=f.eY;rw[vG] at A;replace d:=d _ f.at;obtain⟨p,q,c⟩:=r;have g:=aR h.cell;simp only at g n d;rcases n with rfl|rfl
 all_goals
  first|simp only[vG] at d|simp only[a0O] at d
  go_enter func328,ntmps328;go_wp2_with fail;refine d.mono ?_;rintro e i ⟨rfl,a⟩;have j:=f.below a;have s:=j.cell;have B:=j.eY;have J:=λo=>aL o s;have K:=λo=>gJ o s B;have C:=a.size;simp only[dK] at C;have L:¬b=i.heap.size:=aa;have D:¬b=W.heap.size+1+1:=aa;have M:¬i.heap.size=W.heap.size+1+1:=aa;have N:¬W.heap.size+1+1=i.heap.size:=aa;obtain⟨k,l,t,u⟩:=(Two.new ((W.alloc (ai #[ag x.n,ag x.d] 163)).alloc (ai #[ag y.n,ag y.d] 163)) (ag 0) (ag 0) 163).below a ay;simp only[dK] at k l t u;have E:=λo=>aL o k;have H:=λo=>aL o l;have O:=λo=>gJ o k t;have P:=λo=>gJ o l u;go_wp2;refine bodyPost_ret (v:=.agg #[ag p,ag q]) (by simp[results,results328,go_sem,E,H]) rfl ⟨rfl,?_⟩;exact aa3 j ((fo.of_below ((((aQ _ W).alloc ay _).alloc aG _).alloc aX _)).trans (fo.of_below a)) aa (by have:=h.hb.size;omega) D rfl
theorem rT (f:Nat)(a:Func)(c:prog.funcs[f]? =some a)(d:(a.name=="runtime.NumGoroutine")=false)(e:a.body.isNone=false)(b:Array au)(w:ah):Sem.run prog (callFunc f b) w=.ok (.enter f b) w:=by
 unfold callFunc;simp only[Sem.run_bind,run_program,Result.andThen_ok,c,d,e];rfl
theorem fo.alloc {b:Nat}{A B:ah}(h:fo b A B)(o:Obj):fo b A (B.alloc o):=h.trans (fo.of_below ((aQ _ B).alloc ay o))
theorem fo.refl (b:Nat)(A:ah):fo b A A:=fo.of_below (aQ _ A)
theorem fo.drew (b:Nat)(A:ah)(k:Nat):fo b A (A.drewN k):=fo.of_below (below_drewN (aQ _ A) k)
theorem fo.store {b R:Nat}{A w:ah}(c:fo b A w)(e:A.heap.size<=R)(o:Nat)(v:au):fo b A (w.setCell ⟨R,o,none⟩ v):=
 ⟨by simpa using c.size,λk d a=>(bY _ _ _ k aX).trans (c.block k d a)⟩
theorem Wk.store {aB aS aZ:Addr}{w0 w:ah}{b c R:Nat}(h:Wk aB aS aZ w0 b c w)(a:w0.heap.size<=R)(d:R≠b)(o:Nat)(v:au):Wk aB aS aZ w0 b c (w.setCell ⟨R,o,none⟩ v):=
 ⟨h.e3,h.hb.setCell a v,h.lo,(bN _ _ _ _ d).trans h.cell,by rw[jK];exact h.eY⟩
theorem Two.upto {b R:Nat}{A B:ah}{x y:au}(h:Two A R x y)(a:fo b A B)(c:R≠b):Two B R x y:=
 ⟨a.cell h.c0 c,a.cell h.c1 c,a.frozen h.c0 h.f0 c,a.frozen h.c1 h.f1 c⟩
theorem Two.store {R:Nat}{w:ah}{x y:au}(a:Two w R x y)(p q:au):Two ((w.setCell ⟨R,0,none⟩ p).setCell ⟨R,1,none⟩ q) R p q:=by
 have b:(w.setCell ⟨R,0,none⟩ p).cell? (aH R 1)=some y:=by rw[World.cell?_setCell_other _ _ _ _ aG];exact a.c1
 refine⟨?_,iA _ _ _ (by rw[b];rfl),?_,?_⟩
 .have:(w.setCell ⟨R,0,none⟩ p).cell? (aH R 0)=some p:=iA _ _ _ (by rw[a.c0];rfl);rw[World.cell?_setCell_other _ _ _ _ aG];exact this
 .rw[jK,jK];exact a.f0
 .rw[jK,jK];exact a.f1
theorem pI {W:ah}{cs:Array au}{t:TypeId}{B k:Nat}(a:B=W.heap.size):(W.alloc (ai cs t)).frozen? ⟨B,k,none⟩=false:=by subst a;simp
theorem Wk.ne {aB aS aZ:Addr}{w0:ah}{b c:Nat}{V:ah}(h:Wk aB aS aZ w0 b c V):V.heap.size≠b:=by
 have:=aR h.cell;simp only at this;omega
theorem fo.lo {b a:Nat}{A w:ah}(c:fo b A w)(h:a<=A.heap.size):a<=w.heap.size:=bu h c.size
theorem rU {a:Nat}{A:ah}{o:Obj}(h:a<=A.heap.size):a<=(A.alloc o).heap.size:=by rw[dK];omega
structure Own2 (lo b:Nat)(w:ah)(R:Nat)(x y:au):Prop where
 t:Two w R x y
 ne:R≠b
 lo:lo<=R
theorem Own2.upto {a b R:Nat}{A B:ah}{x y:au}(h:Own2 a b A R x y)(c:fo b A B):Own2 a b B R x y:=⟨h.t.upto c h.ne,h.ne,h.lo⟩
theorem Own2.new {aB aS aZ:Addr}{w0:ah}{d b c:Nat}{V B:ah}{x y:au}{t:TypeId}(h:Wk aB aS aZ w0 b c V)(a:d<=V.heap.size)(e:fo b (V.alloc (ai #[x,y] t)) B):Own2 d b B V.heap.size x y:=⟨(Two.new V x y t).upto e h.ne,h.ne,a⟩
theorem Own2.last {aB aS aZ:Addr}{w0:ah}{d b c:Nat}{V:ah}{x y:au}{t:TypeId}(h:Wk aB aS aZ w0 b c V)(a:d<=V.heap.size):Own2 d b (V.alloc (ai #[x,y] t)) V.heap.size x y:=⟨Two.new V x y t,h.ne,a⟩
theorem Own2.store {a b R:Nat}{w:ah}{x y:au}(h:Own2 a b w R x y)(p q:au):Own2 a b ((w.setCell ⟨R,0,none⟩ p).setCell ⟨R,1,none⟩ q) R p q:=⟨h.t.store p q,h.ne,h.lo⟩
theorem Own2.aeo {aB aS aZ:Addr}{w0:ah}{d b c:Nat}{V B:ah}{x y:au}{t:TypeId}(h:Wk aB aS aZ w0 b c V)(a:d<=V.heap.size)(e:fo b (V.alloc (ai #[x,y] t)).drew B):Own2 d b B V.heap.size x y:=⟨((Two.new V x y t).drewN 1).upto e h.ne,h.ne,a⟩
def XN (aB aS aZ:Addr)(w0:ah)(b:Nat)(k:Nat)(c:Nat)(x y z:Fr)(d:Nat):Prop:=
 ∀W,Wk aB aS aZ w0 b c W->aJ 328 #[aI b,.func (.func k) #[] #[],.agg #[ag x.n,ag x.d],.agg #[ag y.n,ag y.d]] W λe a=>e=ax (.agg #[ag z.n,ag z.d])/\Wk aB aS aZ w0 b d a/\fo b W a
theorem LJ {aB aS aZ:Addr}{w0:ah}{b c:Nat}{x y:Fr}(hc:c=0\/c=2)(a:x.i64)(d:y.i64)(e:c=0->(add x.n x.d y.n y.d).c=0\/(add x.n x.d y.n y.d).c=2):XN aB aS aZ w0 b 320 c x y (xV add c x y).1 (xV add c x y).2:=λW h=>by
 rcases hc with rfl|rfl
 .exact a8X aB aS aZ w0 b _ (rT _ _ func320 az az) x y _ W (e rfl) h λV f=>Fe aB aS aZ x.n x.d y.n y.d V a.1 a.2 d.1 d.2 f
 .exact(a0P aB aS aZ w0 b _ x y W h).mono λ_ _ k=>⟨k.1,h.below k.2,fo.of_below k.2⟩
theorem VG {aB aS aZ:Addr}{w0:ah}{b c:Nat}{x y:Fr}(hc:c=0\/c=2)(a:x.i64)(d:y.i64)(e:c=0->(mul x.n x.d y.n y.d).c=0\/(mul x.n x.d y.n y.d).c=2):XN aB aS aZ w0 b 329 c x y (xV mul c x y).1 (xV mul c x y).2:=λW h=>by
 rcases hc with rfl|rfl
 .exact a8X aB aS aZ w0 b _ (rT _ _ func329 az az) x y _ W (e rfl) h λV f=>a5o aB aS aZ x.n x.d y.n y.d V a.1 a.2 d.1 d.2 f
 .exact(a0P aB aS aZ w0 b _ x y W h).mono λ_ _ k=>⟨k.1,h.below k.2,fo.of_below k.2⟩
structure Head (W:ah)(m:Mv)(p:Pt)(V:ah):Prop where
 c0:V.cell? ⟨W.heap.size,0,none⟩=some (ag m.a.n)
 c1:V.cell? ⟨W.heap.size,1,none⟩=some (ag m.a.d)
 c2:V.cell? ⟨W.heap.size,2,none⟩=some (ag m.b.n)
 c3:V.cell? ⟨W.heap.size,3,none⟩=some (ag m.b.d)
 c4:V.cell? ⟨W.heap.size,4,none⟩=some (ag m.c.n)
 c5:V.cell? ⟨W.heap.size,5,none⟩=some (ag m.c.d)
 c6:V.cell? ⟨W.heap.size,6,none⟩=some (ag m.d.n)
 c7:V.cell? ⟨W.heap.size,7,none⟩=some (ag m.d.d)
 c8:V.cell? ⟨W.heap.size,8,none⟩=some (ag m.e.n)
 c9:V.cell? ⟨W.heap.size,9,none⟩=some (ag m.e.d)
 c10:V.cell? ⟨W.heap.size,10,none⟩=some (ag m.f.n)
 c11:V.cell? ⟨W.heap.size,11,none⟩=some (ag m.f.d)
 c12:V.cell? ⟨W.heap.size+1,0,none⟩=some (ag p.x.n)
 c13:V.cell? ⟨W.heap.size+1,1,none⟩=some (ag p.x.d)
 c14:V.cell? ⟨W.heap.size+1,2,none⟩=some (ag p.y.n)
 c15:V.cell? ⟨W.heap.size+1,3,none⟩=some (ag p.y.d)
 r0:V.cell? ⟨W.heap.size+1+1,0,none⟩=some (ag 0)
 f0:V.frozen? ⟨W.heap.size+1+1,0,none⟩=false
 r1:V.cell? ⟨W.heap.size+1+1,1,none⟩=some (ag 0)
 f1:V.frozen? ⟨W.heap.size+1+1,1,none⟩=false
 r2:V.cell? ⟨W.heap.size+1+1,2,none⟩=some (ag 0)
 f2:V.frozen? ⟨W.heap.size+1+1,2,none⟩=false
 r3:V.cell? ⟨W.heap.size+1+1,3,none⟩=some (ag 0)
 f3:V.frozen? ⟨W.heap.size+1+1,3,none⟩=false
 sz:W.heap.size+3<=V.heap.size
theorem Head.new (W:ah)(m:Mv)(p:Pt):Head W m p (((W.alloc (ai (mA m) 165)).alloc (ai #[ag p.x.n,ag p.x.d,ag p.y.n,ag p.y.d] 233)).alloc (ai #[ag 0,ag 0,ag 0,ag 0] 233)) where
 c0:=aL _ (aL _ (dG rfl rfl))
 c1:=aL _ (aL _ (dG rfl rfl))
 c2:=aL _ (aL _ (dG rfl rfl))
 c3:=aL _ (aL _ (dG rfl rfl))
 c4:=aL _ (aL _ (dG rfl rfl))
 c5:=aL _ (aL _ (dG rfl rfl))
 c6:=aL _ (aL _ (dG rfl rfl))
 c7:=aL _ (aL _ (dG rfl rfl))
 c8:=aL _ (aL _ (dG rfl rfl))
 c9:=aL _ (aL _ (dG rfl rfl))
 c10:=aL _ (aL _ (dG rfl rfl))
 c11:=aL _ (aL _ (dG rfl rfl))
 c12:=aL _ (dG aG rfl)
 c13:=aL _ (dG aG rfl)
 c14:=aL _ (dG aG rfl)
 c15:=aL _ (dG aG rfl)
 r0:=dG aG rfl
 f0:=pI aG
 r1:=dG aG rfl
 f1:=pI aG
 r2:=dG aG rfl
 f2:=pI aG
 r3:=dG aG rfl
 f3:=pI aG
 sz:=aG
theorem Head.upto {b:Nat}{W A B:ah}{m:Mv}{p:Pt}(h:Head W m p A)(a:fo b A B)(c:b<W.heap.size):Head W m p B where
 c0:=a.cell h.c0 aX
 c1:=a.cell h.c1 aX
 c2:=a.cell h.c2 aX
 c3:=a.cell h.c3 aX
 c4:=a.cell h.c4 aX
 c5:=a.cell h.c5 aX
 c6:=a.cell h.c6 aX
 c7:=a.cell h.c7 aX
 c8:=a.cell h.c8 aX
 c9:=a.cell h.c9 aX
 c10:=a.cell h.c10 aX
 c11:=a.cell h.c11 aX
 c12:=a.cell h.c12 aX
 c13:=a.cell h.c13 aX
 c14:=a.cell h.c14 aX
 c15:=a.cell h.c15 aX
 r0:=a.cell h.r0 aX
 f0:=a.frozen h.r0 h.f0 aX
 r1:=a.cell h.r1 aX
 f1:=a.frozen h.r1 h.f1 aX
 r2:=a.cell h.r2 aX
 f2:=a.frozen h.r2 h.f2 aX
 r3:=a.cell h.r3 aX
 f3:=a.frozen h.r3 h.f3 aX
 sz:=bu h.sz a.size
theorem a0Q {W V:ah}{R:Nat}{m:Mv}{p:Pt}(a:Head W m p V)(h:V.heap.size<=R):R≠W.heap.size/\R≠W.heap.size+1:=by have:=a.sz;omega
theorem aa4 {W w:ah}{m:Mv}{p:Pt}{R:Nat}{u v:au}(h:(λw'=>w'.cell? ⟨W.heap.size,0,none⟩=some (ag m.a.n)/\w'.cell? ⟨W.heap.size,1,none⟩=some (ag m.a.d)/\w'.cell? ⟨W.heap.size+1,0,none⟩=some (ag p.x.n)/\w'.cell? ⟨W.heap.size+1,1,none⟩=some (ag p.x.d)/\w'.cell? ⟨W.heap.size,4,none⟩=some (ag m.c.n)/\w'.cell? ⟨W.heap.size,5,none⟩=some (ag m.c.d)/\w'.cell? ⟨W.heap.size+1,2,none⟩=some (ag p.y.n)/\w'.cell? ⟨W.heap.size+1,3,none⟩=some (ag p.y.d)) w)(a:R≠W.heap.size)(b:R≠W.heap.size+1):(λw'=>w'.cell? ⟨W.heap.size,0,none⟩=some (ag m.a.n)/\w'.cell? ⟨W.heap.size,1,none⟩=some (ag m.a.d)/\w'.cell? ⟨W.heap.size+1,0,none⟩=some (ag p.x.n)/\w'.cell? ⟨W.heap.size+1,1,none⟩=some (ag p.x.d)/\w'.cell? ⟨W.heap.size,4,none⟩=some (ag m.c.n)/\w'.cell? ⟨W.heap.size,5,none⟩=some (ag m.c.d)/\w'.cell? ⟨W.heap.size+1,2,none⟩=some (ag p.y.n)/\w'.cell? ⟨W.heap.size+1,3,none⟩=some (ag p.y.d)) ((w.setCell ⟨R,0,none⟩ u).setCell ⟨R,1,none⟩ v):=by
 obtain⟨c,d,e,f,g,i,j,k⟩:=h;exact⟨(bN _ _ _ _ a).trans ((bN _ _ _ _ a).trans c),(bN _ _ _ _ a).trans ((bN _ _ _ _ a).trans d),(bN _ _ _ _ b).trans ((bN _ _ _ _ b).trans e),(bN _ _ _ _ b).trans ((bN _ _ _ _ b).trans f),(bN _ _ _ _ a).trans ((bN _ _ _ _ a).trans g),(bN _ _ _ _ a).trans ((bN _ _ _ _ a).trans i),(bN _ _ _ _ b).trans ((bN _ _ _ _ b).trans j),(bN _ _ _ _ b).trans ((bN _ _ _ _ b).trans k)⟩
theorem aa5 {W w:ah}{m:Mv}{p:Pt}{R:Nat}{u v:au}(h:(λw'=>w'.cell? ⟨W.heap.size,2,none⟩=some (ag m.b.n)/\w'.cell? ⟨W.heap.size,3,none⟩=some (ag m.b.d)/\w'.cell? ⟨W.heap.size+1,0,none⟩=some (ag p.x.n)/\w'.cell? ⟨W.heap.size+1,1,none⟩=some (ag p.x.d)/\w'.cell? ⟨W.heap.size,6,none⟩=some (ag m.d.n)/\w'.cell? ⟨W.heap.size,7,none⟩=some (ag m.d.d)/\w'.cell? ⟨W.heap.size+1,2,none⟩=some (ag p.y.n)/\w'.cell? ⟨W.heap.size+1,3,none⟩=some (ag p.y.d)) w)(a:R≠W.heap.size)(b:R≠W.heap.size+1):(λw'=>w'.cell? ⟨W.heap.size,2,none⟩=some (ag m.b.n)/\w'.cell? ⟨W.heap.size,3,none⟩=some (ag m.b.d)/\w'.cell? ⟨W.heap.size+1,0,none⟩=some (ag p.x.n)/\w'.cell? ⟨W.heap.size+1,1,none⟩=some (ag p.x.d)/\w'.cell? ⟨W.heap.size,6,none⟩=some (ag m.d.n)/\w'.cell? ⟨W.heap.size,7,none⟩=some (ag m.d.d)/\w'.cell? ⟨W.heap.size+1,2,none⟩=some (ag p.y.n)/\w'.cell? ⟨W.heap.size+1,3,none⟩=some (ag p.y.d)) ((w.setCell ⟨R,0,none⟩ u).setCell ⟨R,1,none⟩ v):=by
 obtain⟨c,d,e,f,g,i,j,k⟩:=h;exact⟨(bN _ _ _ _ a).trans ((bN _ _ _ _ a).trans c),(bN _ _ _ _ a).trans ((bN _ _ _ _ a).trans d),(bN _ _ _ _ b).trans ((bN _ _ _ _ b).trans e),(bN _ _ _ _ b).trans ((bN _ _ _ _ b).trans f),(bN _ _ _ _ a).trans ((bN _ _ _ _ a).trans g),(bN _ _ _ _ a).trans ((bN _ _ _ _ a).trans i),(bN _ _ _ _ b).trans ((bN _ _ _ _ b).trans j),(bN _ _ _ _ b).trans ((bN _ _ _ _ b).trans k)⟩
theorem a0R {b:Nat}{W A B:ah}{m:Mv}{p:Pt}(a:fo b A B)(c:W.heap.size≠b)(d:W.heap.size+1≠b)(h:(λw'=>w'.cell? ⟨W.heap.size,0,none⟩=some (ag m.a.n)/\w'.cell? ⟨W.heap.size,1,none⟩=some (ag m.a.d)/\w'.cell? ⟨W.heap.size+1,0,none⟩=some (ag p.x.n)/\w'.cell? ⟨W.heap.size+1,1,none⟩=some (ag p.x.d)/\w'.cell? ⟨W.heap.size,4,none⟩=some (ag m.c.n)/\w'.cell? ⟨W.heap.size,5,none⟩=some (ag m.c.d)/\w'.cell? ⟨W.heap.size+1,2,none⟩=some (ag p.y.n)/\w'.cell? ⟨W.heap.size+1,3,none⟩=some (ag p.y.d)) A):(λw'=>w'.cell? ⟨W.heap.size,0,none⟩=some (ag m.a.n)/\w'.cell? ⟨W.heap.size,1,none⟩=some (ag m.a.d)/\w'.cell? ⟨W.heap.size+1,0,none⟩=some (ag p.x.n)/\w'.cell? ⟨W.heap.size+1,1,none⟩=some (ag p.x.d)/\w'.cell? ⟨W.heap.size,4,none⟩=some (ag m.c.n)/\w'.cell? ⟨W.heap.size,5,none⟩=some (ag m.c.d)/\w'.cell? ⟨W.heap.size+1,2,none⟩=some (ag p.y.n)/\w'.cell? ⟨W.heap.size+1,3,none⟩=some (ag p.y.d)) B:=by
 obtain⟨e,f,g,i,j,k,l,n⟩:=h;exact⟨a.cell e c,a.cell f c,a.cell g d,a.cell i d,a.cell j c,a.cell k c,a.cell l d,a.cell n d⟩
theorem rV {b:Nat}{W A B:ah}{m:Mv}{p:Pt}(a:fo b A B)(c:W.heap.size≠b)(d:W.heap.size+1≠b)(h:(λw'=>w'.cell? ⟨W.heap.size,2,none⟩=some (ag m.b.n)/\w'.cell? ⟨W.heap.size,3,none⟩=some (ag m.b.d)/\w'.cell? ⟨W.heap.size+1,0,none⟩=some (ag p.x.n)/\w'.cell? ⟨W.heap.size+1,1,none⟩=some (ag p.x.d)/\w'.cell? ⟨W.heap.size,6,none⟩=some (ag m.d.n)/\w'.cell? ⟨W.heap.size,7,none⟩=some (ag m.d.d)/\w'.cell? ⟨W.heap.size+1,2,none⟩=some (ag p.y.n)/\w'.cell? ⟨W.heap.size+1,3,none⟩=some (ag p.y.d)) A):(λw'=>w'.cell? ⟨W.heap.size,2,none⟩=some (ag m.b.n)/\w'.cell? ⟨W.heap.size,3,none⟩=some (ag m.b.d)/\w'.cell? ⟨W.heap.size+1,0,none⟩=some (ag p.x.n)/\w'.cell? ⟨W.heap.size+1,1,none⟩=some (ag p.x.d)/\w'.cell? ⟨W.heap.size,6,none⟩=some (ag m.d.n)/\w'.cell? ⟨W.heap.size,7,none⟩=some (ag m.d.d)/\w'.cell? ⟨W.heap.size+1,2,none⟩=some (ag p.y.n)/\w'.cell? ⟨W.heap.size+1,3,none⟩=some (ag p.y.d)) B:=by
 obtain⟨e,f,g,i,j,k,l,n⟩:=h;exact⟨a.cell e c,a.cell f c,a.cell g d,a.cell i d,a.cell j c,a.cell k c,a.cell l d,a.cell n d⟩
theorem aa6 {W A:ah}{m:Mv}{p:Pt}{o:Obj}(h:(λw'=>w'.cell? ⟨W.heap.size,0,none⟩=some (ag m.a.n)/\w'.cell? ⟨W.heap.size,1,none⟩=some (ag m.a.d)/\w'.cell? ⟨W.heap.size+1,0,none⟩=some (ag p.x.n)/\w'.cell? ⟨W.heap.size+1,1,none⟩=some (ag p.x.d)/\w'.cell? ⟨W.heap.size,4,none⟩=some (ag m.c.n)/\w'.cell? ⟨W.heap.size,5,none⟩=some (ag m.c.d)/\w'.cell? ⟨W.heap.size+1,2,none⟩=some (ag p.y.n)/\w'.cell? ⟨W.heap.size+1,3,none⟩=some (ag p.y.d)) A):(λw'=>w'.cell? ⟨W.heap.size,0,none⟩=some (ag m.a.n)/\w'.cell? ⟨W.heap.size,1,none⟩=some (ag m.a.d)/\w'.cell? ⟨W.heap.size+1,0,none⟩=some (ag p.x.n)/\w'.cell? ⟨W.heap.size+1,1,none⟩=some (ag p.x.d)/\w'.cell? ⟨W.heap.size,4,none⟩=some (ag m.c.n)/\w'.cell? ⟨W.heap.size,5,none⟩=some (ag m.c.d)/\w'.cell? ⟨W.heap.size+1,2,none⟩=some (ag p.y.n)/\w'.cell? ⟨W.heap.size+1,3,none⟩=some (ag p.y.d)) (A.alloc o):=by
 obtain⟨a,b,c,d,e,f,g,i⟩:=h;exact⟨aL _ a,aL _ b,aL _ c,aL _ d,aL _ e,aL _ f,aL _ g,aL _ i⟩
theorem aa7 {W A:ah}{m:Mv}{p:Pt}{o:Obj}(h:(λw'=>w'.cell? ⟨W.heap.size,2,none⟩=some (ag m.b.n)/\w'.cell? ⟨W.heap.size,3,none⟩=some (ag m.b.d)/\w'.cell? ⟨W.heap.size+1,0,none⟩=some (ag p.x.n)/\w'.cell? ⟨W.heap.size+1,1,none⟩=some (ag p.x.d)/\w'.cell? ⟨W.heap.size,6,none⟩=some (ag m.d.n)/\w'.cell? ⟨W.heap.size,7,none⟩=some (ag m.d.d)/\w'.cell? ⟨W.heap.size+1,2,none⟩=some (ag p.y.n)/\w'.cell? ⟨W.heap.size+1,3,none⟩=some (ag p.y.d)) A):(λw'=>w'.cell? ⟨W.heap.size,2,none⟩=some (ag m.b.n)/\w'.cell? ⟨W.heap.size,3,none⟩=some (ag m.b.d)/\w'.cell? ⟨W.heap.size+1,0,none⟩=some (ag p.x.n)/\w'.cell? ⟨W.heap.size+1,1,none⟩=some (ag p.x.d)/\w'.cell? ⟨W.heap.size,6,none⟩=some (ag m.d.n)/\w'.cell? ⟨W.heap.size,7,none⟩=some (ag m.d.d)/\w'.cell? ⟨W.heap.size+1,2,none⟩=some (ag p.y.n)/\w'.cell? ⟨W.heap.size+1,3,none⟩=some (ag p.y.d)) (A.alloc o):=by
 obtain⟨a,b,c,d,e,f,g,i⟩:=h;exact⟨aL _ a,aL _ b,aL _ c,aL _ d,aL _ e,aL _ f,aL _ g,aL _ i⟩
theorem aep {W V:ah}{m:Mv}{p:Pt}(h:Head W m p V):(λw'=>w'.cell? ⟨W.heap.size,0,none⟩=some (ag m.a.n)/\w'.cell? ⟨W.heap.size,1,none⟩=some (ag m.a.d)/\w'.cell? ⟨W.heap.size+1,0,none⟩=some (ag p.x.n)/\w'.cell? ⟨W.heap.size+1,1,none⟩=some (ag p.x.d)/\w'.cell? ⟨W.heap.size,4,none⟩=some (ag m.c.n)/\w'.cell? ⟨W.heap.size,5,none⟩=some (ag m.c.d)/\w'.cell? ⟨W.heap.size+1,2,none⟩=some (ag p.y.n)/\w'.cell? ⟨W.heap.size+1,3,none⟩=some (ag p.y.d)) (V.drewN 1):=⟨h.c0,h.c1,h.c12,h.c13,h.c4,h.c5,h.c14,h.c15⟩
theorem aeq {W V:ah}{m:Mv}{p:Pt}(h:Head W m p V):(λw'=>w'.cell? ⟨W.heap.size,2,none⟩=some (ag m.b.n)/\w'.cell? ⟨W.heap.size,3,none⟩=some (ag m.b.d)/\w'.cell? ⟨W.heap.size+1,0,none⟩=some (ag p.x.n)/\w'.cell? ⟨W.heap.size+1,1,none⟩=some (ag p.x.d)/\w'.cell? ⟨W.heap.size,6,none⟩=some (ag m.d.n)/\w'.cell? ⟨W.heap.size,7,none⟩=some (ag m.d.d)/\w'.cell? ⟨W.heap.size+1,2,none⟩=some (ag p.y.n)/\w'.cell? ⟨W.heap.size+1,3,none⟩=some (ag p.y.d)) (V.drewN 1):=⟨h.c2,h.c3,h.c12,h.c13,h.c6,h.c7,h.c14,h.c15⟩
theorem Tf (aB aS aZ:Addr)(w0:ah)(b:Nat)(m:Mv)(p:Pt)(Q x2 y S y2 z:Fr)(c c1 c2 T c4 c5 U:Nat)(W:ah)(h:Wk aB aS aZ w0 b c W)
  (D1:XN aB aS aZ w0 b 329 c m.a p.x Q c1) (D2:XN aB aS aZ w0 b 329 c1 m.c p.y x2 c2) (D3:XN aB aS aZ w0 b 320 c2 Q x2 y T)
  (D4:XN aB aS aZ w0 b 329 T m.b p.x S c4) (D5:XN aB aS aZ w0 b 329 c4 m.d p.y y2 c5) (D6:XN aB aS aZ w0 b 320 c5 S y2 z U):
  aJ 265 #[aI b,mv m,pv p] W λe w'=>e=ax (.agg #[ag y.n,ag y.d,ag z.n,ag z.d])/\Wk aB aS aZ w0 b U w'/\fo b W w':=by
 have A:=aR h.cell;simp only at A;have r:W.heap.size≠b:=aa;have t:W.heap.size+1≠b:=aa;have hF:∃V,(((W.alloc (ai (mA m) 165)).alloc (ai #[ag p.x.n,ag p.x.d,ag p.y.n,ag p.y.d] 233)).alloc (ai #[ag 0,ag 0,ag 0,ag 0] 233))=V/\Head W m p V/\Wk aB aS aZ w0 b c V/\fo b W V:=⟨_,rfl,Head.new W m p,((h.alloc _).alloc _).alloc _,(((fo.refl b W).alloc _).alloc _).alloc _⟩;go_enter func265,ntmps265;go_upto_region 1 with fail;obtain⟨V,hV,B,j,X⟩:=hF;rw[hV];have b0:=h.hb.size;clear hV h;go_upto_region 1 with fail
 go_cut [7] (λs C=>∃R,s=aI R/\Own2 V.heap.size b C R (ag y.n) (ag y.d)/\Wk aB aS aZ w0 b T C/\fo b V C)
 case first=>
  have hS:=aep B;have k:=j.drew 1;have D:V.heap.size<=(V.drewN 1).heap.size:=Nat.le_refl _;have I:fo b V (V.drewN 1):=fo.drew b _ 1
  go_region_held3 (λw'=>w'.cell? ⟨W.heap.size,0,none⟩=some (ag m.a.n)/\w'.cell? ⟨W.heap.size,1,none⟩=some (ag m.a.d)/\w'.cell? ⟨W.heap.size+1,0,none⟩=some (ag p.x.n)/\w'.cell? ⟨W.heap.size+1,1,none⟩=some (ag p.x.d)/\w'.cell? ⟨W.heap.size,4,none⟩=some (ag m.c.n)/\w'.cell? ⟨W.heap.size,5,none⟩=some (ag m.c.d)/\w'.cell? ⟨W.heap.size+1,2,none⟩=some (ag p.y.n)/\w'.cell? ⟨W.heap.size+1,3,none⟩=some (ag p.y.d)) (first|assumption|exact aa4 fC Y Z|exact aa6 fC|exact ahg fC|go_keep) (first|(go_at_call_of 328 Q.n;refine(D3 _ ?_).mono ?_;(first|exact l|exact l.alloc _|exact j.mV _);rintro e J ⟨rfl,n,a⟩;have a4:=a0R a r t fC;have z3:V.heap.size<=J.heap.size:=(by first|exact a.lo E|exact a.lo (rU E)|exact a.lo (qp ay));have K:fo b V J:=(by first|exact L.trans a|exact(L.alloc _).trans a|exact((fo.refl b V).mV _).trans a);(try have g:=Own2.new l E a);(try have g:=Own2.upto g a);(try(obtain⟨⟨q0,q1,q2,q3⟩,F,u⟩:=g;obtain⟨Y,Z⟩:=a0Q B u)))|(go_at_call_of 328 m.c.n;refine(D2 _ ?_).mono ?_;(first|exact o|exact o.alloc _|exact j.mV _);rintro e M ⟨rfl,l,d⟩;have a5:=a0R d r t fC;have E:V.heap.size<=M.heap.size:=(by first|exact d.lo H|exact d.lo (rU H)|exact d.lo (qp ay));have L:fo b V M:=(by first|exact N.trans d|exact(N.alloc _).trans d|exact((fo.refl b V).mV _).trans d);(try have g:=Own2.new o H d);(try have g:=Own2.upto g d))|(go_at_call_of 328 m.a.n;refine(D1 _ ?_).mono ?_;(first|exact k|exact k.alloc _|exact j.mV _);rintro e O ⟨rfl,o,f⟩;have a6:=a0R f r t fC;have H:V.heap.size<=O.heap.size:=(by first|exact f.lo D|exact f.lo (rU D)|exact f.lo (qp ay));have N:fo b V O:=(by first|exact I.trans f|exact(I.alloc _).trans f|exact((fo.refl b V).mV _).trans f);(try have g:=Own2.new k D f);(try have g:=Own2.aeo j ay f)))
  all_goals(go_wp2_with fail;go_meet;first|exact⟨_,rfl,Own2.last n z3,n.alloc _,K.alloc _⟩|exact⟨_,rfl,(Own2.mk (Two.mk q0 q1 q2 q3) F u).store _ _,(n.store (bu j.hb.size u) F _ _).store (bu j.hb.size u) F _ _,(K.store u _ _).store u _ _⟩)
 case rest=>
  obtain⟨R,rfl,hR,w,q⟩:=hcut;replace B:=B.upto q A;replace X:=X.trans q;clear j q;have j:=w;clear w;go_upto_region 2 with fail
  go_cut [8] (λs C=>∃R,s=aI R/\Own2 wc.heap.size b C R (ag z.n) (ag z.d)/\Wk aB aS aZ w0 b U C/\fo b wc C)
  case first=>
   have hS:=aeq B;have k:=j.drew 1;have D:wc.heap.size<=(wc.drewN 1).heap.size:=Nat.le_refl _;have I:fo b wc (wc.drewN 1):=fo.drew b _ 1
   go_region_held3 (λw'=>w'.cell? ⟨W.heap.size,2,none⟩=some (ag m.b.n)/\w'.cell? ⟨W.heap.size,3,none⟩=some (ag m.b.d)/\w'.cell? ⟨W.heap.size+1,0,none⟩=some (ag p.x.n)/\w'.cell? ⟨W.heap.size+1,1,none⟩=some (ag p.x.d)/\w'.cell? ⟨W.heap.size,6,none⟩=some (ag m.d.n)/\w'.cell? ⟨W.heap.size,7,none⟩=some (ag m.d.d)/\w'.cell? ⟨W.heap.size+1,2,none⟩=some (ag p.y.n)/\w'.cell? ⟨W.heap.size+1,3,none⟩=some (ag p.y.d)) (first|assumption|exact aa5 fC Y Z|exact aa7 fC|exact ahi fC|go_keep) (first|(go_at_call_of 328 S.n;refine(D6 _ ?_).mono ?_;(first|exact l|exact l.alloc _|exact j.mV _);rintro e J ⟨rfl,n,a⟩;have a4:=rV a r t fC;have z3:wc.heap.size<=J.heap.size:=(by first|exact a.lo E|exact a.lo (rU E)|exact a.lo (qp ay));have K:fo b wc J:=(by first|exact L.trans a|exact(L.alloc _).trans a|exact((fo.refl b wc).mV _).trans a);(try have g:=Own2.new l E a);(try have g:=Own2.upto g a);(try(obtain⟨⟨q0,q1,q2,q3⟩,F,u⟩:=g;obtain⟨Y,Z⟩:=a0Q B u)))|(go_at_call_of 328 m.d.n;refine(D5 _ ?_).mono ?_;(first|exact o|exact o.alloc _|exact j.mV _);rintro e M ⟨rfl,l,d⟩;have a5:=rV d r t fC;have E:wc.heap.size<=M.heap.size:=(by first|exact d.lo H|exact d.lo (rU H)|exact d.lo (qp ay));have L:fo b wc M:=(by first|exact N.trans d|exact(N.alloc _).trans d|exact((fo.refl b wc).mV _).trans d);(try have g:=Own2.new o H d);(try have g:=Own2.upto g d))|(go_at_call_of 328 m.b.n;refine(D4 _ ?_).mono ?_;(first|exact k|exact k.alloc _|exact j.mV _);rintro e O ⟨rfl,o,f⟩;have a6:=rV f r t fC;have H:wc.heap.size<=O.heap.size:=(by first|exact f.lo D|exact f.lo (rU D)|exact f.lo (qp ay));have N:fo b wc O:=(by first|exact I.trans f|exact(I.alloc _).trans f|exact((fo.refl b wc).mV _).trans f);(try have g:=Own2.new k D f);(try have g:=Own2.aeo j ay f)))
   all_goals(go_wp2_with fail;go_meet;first|exact⟨_,rfl,Own2.last n z3,n.alloc _,K.alloc _⟩|exact⟨_,rfl,(Own2.mk (Two.mk q0 q1 q2 q3) F u).store _ _,(n.store (bu j.hb.size u) F _ _).store (bu j.hb.size u) F _ _,(K.store u _ _).store u _ _⟩)
  case rest=>
   obtain⟨R2,rfl,a7,w,q⟩:=hcut;have i:=B.upto q A;have a8:=X.trans q;have a9:=hR.t.upto q hR.ne;obtain⟨a0,a1,a2,a3⟩:=a9;obtain⟨d0,d1,d2,d3⟩:=a7.t;obtain⟨e0,e1,e2,e3⟩:=And.intro i.r0 (And.intro i.r1 (And.intro i.r2 i.r3));obtain⟨f0,f1,f2,f3⟩:=And.intro i.f0 (And.intro i.f1 (And.intro i.f2 i.f3));go_wp2;refine bodyPost_ret (v:=.agg #[ag y.n,ag y.d,ag z.n,ag z.d]) (by simp[results,results265,go_sem,e0,e1,e2,e3]) rfl ⟨rfl,?_,?_⟩
   .have x:w0.heap.size<=W.heap.size+1+1:=aa;have P:W.heap.size+1+1≠b:=aa;exact(((w.store x P _ _).store x P _ _).store x P _ _).store x P _ _
   .have x:W.heap.size<=W.heap.size+1+1:=aa;exact(((a8.store x _ _).store x _ _).store x _ _).store x _ _

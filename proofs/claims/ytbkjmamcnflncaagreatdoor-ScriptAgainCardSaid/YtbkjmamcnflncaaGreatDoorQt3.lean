import Derived.Test.YtbkjmamcnflncaaGreatDoorQt2
import Derived.RangeFuncNested
import Derived.RangeFuncBound
import Derived.Shelf.RegionOpen
import Derived.OwnWalkIn
import Derived.LoopNIn
import Derived.LoopIn
import Derived.Deep.DeepCutAuto
namespace Go.Proofs.YtbkjmamcnflncaaGreatDoor
open Go.Proofs.Tryz
set_option maxHeartbeats 8000000
variable{c b R:Nat}{W E B w A w0 V:ai}{aB aS aZ:Addr}{v x y:ax}{t:TypeId}{o:Obj}
section
structure Fr where
 n:Int
 d:Int
deriving DecidableEq
structure Pt where
 x:Fr
 y:Fr
deriving DecidableEq
structure Mv where
 a:Fr
 b:Fr
 c:Fr
 d:Fr
 e:Fr
 f:Fr
deriving DecidableEq
def Fr.zero:Fr:=⟨0,0⟩
def Pt.zero:Pt:=⟨.zero,.zero⟩
def Mv.zero:Mv:=⟨.zero,.zero,.zero,.zero,.zero,.zero⟩
def Fr.whole (n:Int):Fr:=⟨n,1⟩
def Mv.one:Mv:=⟨.whole 1,.whole 0,.whole 0,.whole 1,.whole 0,.whole 0⟩
def Fr.ok (x:Fr):Prop:=fV x.n x.d=0
def Pt.ok (p:Pt):Prop:=p.x.ok/\p.y.ok
def Mv.ok (m:Mv):Prop:=m.a.ok/\m.b.ok/\m.c.ok/\m.d.ok/\m.e.ok/\m.f.ok
abbrev Op4:=Int->Int->Int->Int->R3
def yJ (a:Op4)(c:Nat)(x y:Fr):Fr×Nat:=
 if c=0 then(⟨(a x.n x.d y.n y.d).n,(a x.n x.d y.n y.d).d⟩,(a x.n x.d y.n y.d).c) else(.zero,c)
def Ca (c:Nat)(a x b y:Fr):Fr×Nat:=
 yJ add (yJ mul (yJ mul c a x).2 b y).2 (yJ mul c a x).1 (yJ mul (yJ mul c a x).2 b y).1
def eO (c:Nat)(m:Mv)(p:Pt):Pt×Nat:=
 (⟨(Ca c m.a p.x m.c p.y).1,(Ca (Ca c m.a p.x m.c p.y).2 m.b p.x m.d p.y).1⟩,(Ca (Ca c m.a p.x m.c p.y).2 m.b p.x m.d p.y).2)
def fH (c:Nat)(m:Mv)(p:Pt):Pt×Nat:=
 (⟨(yJ add (eO c m p).2 (eO c m p).1.x m.e).1,(yJ add (yJ add (eO c m p).2 (eO c m p).1.x m.e).2 (eO c m p).1.y m.f).1⟩,
  (yJ add (yJ add (eO c m p).2 (eO c m p).1.x m.e).2 (eO c m p).1.y m.f).2)
def thenS (m n:Mv):Mv×Nat:=
 (⟨(eO 0 n ⟨m.a,m.b⟩).1.x,(eO 0 n ⟨m.a,m.b⟩).1.y,
  (eO (eO 0 n ⟨m.a,m.b⟩).2 n ⟨m.c,m.d⟩).1.x,(eO (eO 0 n ⟨m.a,m.b⟩).2 n ⟨m.c,m.d⟩).1.y,
  (fH (eO (eO 0 n ⟨m.a,m.b⟩).2 n ⟨m.c,m.d⟩).2 n ⟨m.e,m.f⟩).1.x,(fH (eO (eO 0 n ⟨m.a,m.b⟩).2 n ⟨m.c,m.d⟩).2 n ⟨m.e,m.f⟩).1.y⟩,
  (fH (eO (eO 0 n ⟨m.a,m.b⟩).2 n ⟨m.c,m.d⟩).2 n ⟨m.e,m.f⟩).2)
def Fr.val (x:Fr):Rat:=(x.n:Rat)/(x.d:Rat)
theorem Fr.Cb {x:Fr}(h:x.ok):x.d≠0:=by have:=(gU.1 h).1;omega
structure Good (op:Op4)(F:Rat->Rat->Rat):Prop where
 two:∀x y:Fr,x.ok->y.ok->(op x.n x.d y.n y.d).c=0\/op x.n x.d y.n y.d=⟨0,0,2⟩
 val:∀x y:Fr,∀p q,op x.n x.d y.n y.d=⟨p,q,0⟩->x.ok/\y.ok/\Fr.ok ⟨p,q⟩/\Fr.val ⟨p,q⟩=F x.val y.val
theorem nD:Good add (·+·) where
 two x y hx hy:=by
  unfold add;unfold Fr.ok at hx hy;rw[aG (by simp[hx]),aG (by simp[hy])];rcases C8 (n:=x.n*y.d+y.n*x.d) (d:=x.d*y.d) with h|h
  .exact .inr h
  .exact .inl h
 val x y p q h:=by
  obtain⟨a,b,c,e⟩:=FY.1 h;refine⟨a,b,c,?_⟩;have f:(x.d:Rat)≠0:=by simpa using Fr.Cb a
  have g:(y.d:Rat)≠0:=by simpa using Fr.Cb b
  have i:(q:Rat)≠0:=by simpa using Fr.Cb (x:=⟨p,q⟩) c
  have j:(p:Rat)*(x.d*y.d)=(x.n*y.d+y.n*x.d)*q:=by exact_mod_cast e
  unfold Fr.val;simp only;grind
theorem jP:Good mul (·* ·) where
 two x y hx hy:=by
  unfold mul;unfold Fr.ok at hx hy;rw[aG (by simp[hx]),aG (by simp[hy])];rcases C8 (n:=x.n*y.n) (d:=x.d*y.d) with h|h
  .exact .inr h
  .exact .inl h
 val x y p q h:=by
  obtain⟨a,b,c,e⟩:=a1u.1 h;refine⟨a,b,c,?_⟩;have f:(x.d:Rat)≠0:=by simpa using Fr.Cb a
  have g:(y.d:Rat)≠0:=by simpa using Fr.Cb b
  have i:(q:Rat)≠0:=by simpa using Fr.Cb (x:=⟨p,q⟩) c
  have j:(p:Rat)*(x.d*y.d)=(x.n*y.n)*q:=by exact_mod_cast e
  unfold Fr.val;simp only;grind
theorem Good.step {a:Op4}{F:Rat->Rat->Rat}(g:Good a F){c:Nat}{x y:Fr}(hc:c=0\/c=2)(b:c=0->x.ok)(d:c=0->y.ok):
  ((yJ a c x y).2=0\/(yJ a c x y).2=2)/\((yJ a c x y).2=0->c=0/\(yJ a c x y).1.ok/\(yJ a c x y).1.val=F x.val y.val):=by
 rcases hc with rfl|rfl
 .rcases g.two x y (b rfl) (d rfl) with h|h
  .have:=g.val x y (a x.n x.d y.n y.d).n (a x.n x.d y.n y.d).d (by rw[<- h]);simp only[yJ,aR,h];grind
  .simp[yJ,h]
 .simp[yJ]
theorem Ah {a x b y:Fr}(hc:c=0\/c=2)(g:a.ok)(h:x.ok)(i:b.ok)(j:y.ok):
  ((Ca c a x b y).2=0\/(Ca c a x b y).2=2)/\((Ca c a x b y).2=0->c=0/\(Ca c a x b y).1.ok/\(Ca c a x b y).1.val=a.val*x.val+b.val*y.val):=by
 obtain⟨k,f⟩:=jP.step hc (λ_=>g) (λ_=>h);obtain⟨l,d⟩:=jP.step k (λ_=>i) (λ_=>j);obtain⟨m,n⟩:=nD.step l (x:=(yJ mul c a x).1) (y:=(yJ mul (yJ mul c a x).2 b y).1) (λe=>(f (d e).1).2.1) (λe=>(d e).2.1);refine⟨m,λe=>?_⟩;obtain⟨o,p,q⟩:=n e;obtain⟨r,_,s⟩:=d o;obtain⟨t,_,u⟩:=f r;exact⟨t,p,by rw[Ca,q,s,u]⟩
theorem mJ {c:Nat}{m:Mv}{p:Pt}(hc:c=0\/c=2)(a:m.ok)(hp:p.ok):
  ((eO c m p).2=0\/(eO c m p).2=2)/\((eO c m p).2=0->c=0/\(eO c m p).1.ok/\
   (eO c m p).1.x.val=m.a.val*p.x.val+m.c.val*p.y.val/\(eO c m p).1.y.val=m.b.val*p.x.val+m.d.val*p.y.val):=by
 obtain⟨b,d⟩:=Ah hc a.1 hp.1 a.2.2.1 hp.2;obtain⟨f,g⟩:=Ah b a.2.1 hp.1 a.2.2.2.1 hp.2;refine⟨f,λe=>?_⟩;obtain⟨h,i,j⟩:=g e;obtain⟨k,l,n⟩:=d h;exact⟨k,⟨l,i⟩,n,j⟩
theorem zl {c:Nat}{m:Mv}{p:Pt}(hc:c=0\/c=2)(b:m.ok)(hp:p.ok):
  ((fH c m p).2=0\/(fH c m p).2=2)/\((fH c m p).2=0->c=0/\(fH c m p).1.ok/\
   (fH c m p).1.x.val=m.a.val*p.x.val+m.c.val*p.y.val+m.e.val/\(fH c m p).1.y.val=m.b.val*p.x.val+m.d.val*p.y.val+m.f.val):=by
 obtain⟨f,a⟩:=mJ hc b hp;unfold fH;generalize eO c m p=t at f a⊢;obtain⟨g,d⟩:=nD.step f (x:=t.1.x) (y:=m.e) (λe=>(a e).2.1.1) (λ_=>b.2.2.2.2.1);generalize yJ add t.2 t.1.x m.e=u at g d⊢;obtain⟨h,i⟩:=nD.step g (x:=t.1.y) (y:=m.f) (λe=>(a (d e).1).2.1.2) (λ_=>b.2.2.2.2.2);generalize yJ add u.2 t.1.y m.f=v at h i⊢;refine⟨h,λe=>?_⟩;obtain⟨j,k,l⟩:=i e;obtain⟨n,o,q⟩:=d j;obtain⟨r,_,s,w⟩:=a n;exact⟨r,⟨o,k⟩,q.trans (by rw[s]),l.trans (by rw[w])⟩
theorem Cc {m n:Mv}(a:m.ok)(b:n.ok):
  ((thenS m n).2=0\/(thenS m n).2=2)/\((thenS m n).2=0->(thenS m n).1.ok/\
   (thenS m n).1.a.val=n.a.val*m.a.val+n.c.val*m.b.val/\(thenS m n).1.b.val=n.b.val*m.a.val+n.d.val*m.b.val/\
   (thenS m n).1.c.val=n.a.val*m.c.val+n.c.val*m.d.val/\(thenS m n).1.d.val=n.b.val*m.c.val+n.d.val*m.d.val/\
   (thenS m n).1.e.val=n.a.val*m.e.val+n.c.val*m.f.val+n.e.val/\(thenS m n).1.f.val=n.b.val*m.e.val+n.d.val*m.f.val+n.f.val):=by
 obtain⟨d,f⟩:=mJ (c:=0) (m:=n) (p:=⟨m.a,m.b⟩) (.inl rfl) b ⟨a.1,a.2.1⟩;unfold thenS;generalize eO 0 n ⟨m.a,m.b⟩=t at d f⊢;obtain⟨g,h⟩:=mJ (m:=n) (p:=⟨m.c,m.d⟩) d b ⟨a.2.2.1,a.2.2.2.1⟩;generalize eO t.2 n ⟨m.c,m.d⟩=u at g h⊢;obtain⟨i,j⟩:=zl (m:=n) (p:=⟨m.e,m.f⟩) g b ⟨a.2.2.2.2.1,a.2.2.2.2.2⟩;generalize fH u.2 n ⟨m.e,m.f⟩=v at i j⊢;refine⟨i,λe=>?_⟩;obtain⟨q,k,r,s⟩:=j e;obtain⟨w,l,x,y⟩:=h q;obtain⟨_,o,z,A⟩:=f w;exact⟨⟨o.1,o.2,l.1,l.2,k.1,k.2⟩,z,A,x,y,r,s⟩
end
section
open Go.RowKit Go.Shelf
set_option maxRecDepth 100000
attribute [local go_sem] Oper.semAt_some
structure Item where
 i:Int
 x:Fr
 h1:kU x.n
 h2:kU x.d
abbrev fv (x:Fr):ax:=.agg #[ag x.n,ag x.d]
abbrev af6 (x:Item):Array ax:=#[ag x.i,.agg #[ag x.x.n,ag x.x.d]]
theorem U7 {α:Type}(a:List α)(k:Nat)(h:k<a.length):a.take (k+1)=a.take k++[a[k]]:=by
 rw[eX,fD h];rfl
theorem MC (F:Fence)(n:Nat)(S:F.fn 366)(A:F.round=none)(hn:1<=n)(l Bl q a b c B:Nat)(C:Nat)(d:List Item)(hx:d.length=c)(M:c<=1000)(T:C<=1000)(N:b<a)(r:q<a)(J O:List Item->ai->Prop)
    (U:∀s W E,J s W->W.grownBy E none->J s E)
    (V:∀pre x W,J pre W->pre.length<c->YieldAt F (n-1) prog l #[ag x.i,.agg #[ag x.x.n,ag x.x.d]] W λe E=>
      (e=ay (.bool true)/\J (pre++[x]) E/\Below a W E)\/(e=ay (.bool false)/\O (pre++[x]) E))
    (W:ai) (m:a<=W.heap.size) (X:W.cell? (aJ Bl 0)=some (aj (some ⟨b,0,none⟩) c B)) (D:W.cell? (aJ q 0)=some (ag C))
    (H:∀j (h:j<d.length),W.cell? (aJ b (j*2))=some (ag d[j].x.n)) (I:∀j (h:j<d.length),W.cell? (aJ b (j*2+1))=some (ag d[j].x.d))
    (hi:∀j (h:j<d.length),d[j].i=C+j) (Y:J [] W):
    CallsIn F n prog 366 #[.func (.yield l) #[] #[],aK Bl,aK q] W λe E=>(∃v,e=ay v)/\
      ((∃P,P=d/\J P E)\/(∃pre,pre<+:d/\O pre E)):=by
  refine callsIn_of_wp func366 rfl S ?_ A;simp only[ntmps366,jw,eZ,iT,Nat.reduceAdd,Nat.reduceSub,jV,jU,jX,jW,gK,gH]
  gi_wp2
  gi_loopw [8] (λi wr=>∃k:Nat,k<=c/\i=ag k/\J (d.take k) wr/\Below a W wr)
    (λi _=>c-(intOf i).toNat)
  case atStart=>exact⟨0,bA _,rfl,Y,aW _ _⟩
  case round=>
    obtain⟨k,hk,rfl,t,f⟩:=hrel;by_cases Z:k<c
    . have g:k<d.length:=aa
      have c0:=(f.cell (p:=⟨b,k*2,none⟩) N).trans (H k g);have c1:=(f.cell (p:=⟨b,k*2+1,none⟩) N).trans (I k g);have cf:=(f.cell (p:=⟨q,0,none⟩) r).trans D;have u:=hi k g;have o:=U7 d k g;generalize d[k]=x at c0 c1 u o;have hg:wr.grownBy (wr.alloc (ak #[ag x.x.n,ag x.x.d] 163)) none:=rZ wr _ none;have w:=(aW a wr).alloc (bO m f.size) (ak #[ag x.x.n,ag x.x.d] 163);have a4:=(w.cell (p:=⟨q,0,none⟩) r).trans cf;obtain⟨fn,Q,z,R,hy,hR⟩:=V (d.take k) x (wr.alloc (ak #[ag x.x.n,ag x.x.d] 163)) (U _ _ _ t hg) (by rw[iR];omega);rw[u] at hy
      gi_wp2
      refine hR.mono ?_;rintro e W3 (⟨rfl,K,L⟩|⟨rfl,y⟩)
      . gi_wp2
        go_roundw
        case rel=>exact⟨k+1,aa,aI,by rw[o];exact K,f.trans (w.trans L)⟩
        case measure=>simp[intOf];omega
      . gi_wp2
        refine bg (results_none rfl _ _ _) rfl ?_;exact⟨⟨_,rfl⟩,.inr ⟨_,by rw[<- o];exact List.take_prefix _ _,y⟩⟩
    . obtain rfl:k=c:=aa
      gi_wp2
      go_end0
      exact⟨⟨_,rfl⟩,.inl ⟨_,by rw[jH aa],t⟩⟩
end
section
open Go.RowKit Go.Shelf
set_option maxRecDepth 100000
attribute [local go_sem] Oper.semAt_some
theorem pW (h:aD W E):KeepsOthers W E:=
 ⟨h.size,λk _ a _=>(h.block k (eY.1 a).1).trans a⟩
theorem U8 (W:ai)(v:ax)(t:TypeId):(W.alloc (ak #[v] t)).cell? ⟨W.heap.size,0,none⟩=some v/\(W.alloc (ak #[v] t)).frozen? ⟨W.heap.size,0,none⟩=false:=⟨aI,aI⟩
theorem aN {W:ai}{a:Addr}{v:ax}(o:Obj)(h:W.cell? a=some v):(W.alloc o).cell? a=some v:=cell_kept h (rZ W o none) (λr e=>by cases e)
theorem gV {a:Addr}{v:ax}(o:Obj)(h:W.cell? a=some v)(b:W.frozen? a=false):(W.alloc o).frozen? a=false:=(frozen_kept h (rZ W o none) (λr e=>by cases e)).trans b
structure Ai (W:ai)(n₀ Bl Bf b cap fr:Nat)(xs:List Item):Prop where
 lb:Bl<n₀
 lf:Bf<n₀
 ls:b<n₀
 l:W.cell? (aJ Bl 0)=some (aj (some ⟨b,0,none⟩) xs.length cap)
 f:W.cell? (aJ Bf 0)=some (ag fr)
 c0:∀j (h:j<xs.length),W.cell? (aJ b (j*2))=some (ag xs[j].x.n)
 c1:∀j (h:j<xs.length),W.cell? (aJ b (j*2+1))=some (ag xs[j].x.d)
 i:∀j (h:j<xs.length),xs[j].i=fr+j
 len:xs.length<=1000
 fr:fr<=1000
theorem Ai.below {a Bl e c g:Nat}{i:List Item}(h:Ai W a Bl e b c g i)(d:Below a W E):Ai E a Bl e b c g i:=
 ⟨h.lb,h.lf,h.ls,(d.cell (p:=⟨Bl,0,none⟩) h.lb).trans h.l,(d.cell (p:=⟨e,0,none⟩) h.lf).trans h.f,λj f=>(d.cell (p:=⟨b,j*2,none⟩) h.ls).trans (h.c0 j f),λj f=>(d.cell (p:=⟨b,j*2+1,none⟩) h.ls).trans (h.c1 j f),h.i,h.len,h.fr⟩
theorem Ga (F:Fence)(n:Nat)(o:F.fn 366)(i:F.round=none)(p:1<=n)(Bl j a b f k:Nat)(d:List Item)(w:ai)(c:a<=w.heap.size)(h:Ai w a Bl j b f k d):
  SeqStopsK F n prog 366 #[aK Bl,aK j] af6 (Below a) (λq=>q=d) (λpre=>pre<+:d) d.length w:=λl J t W m u _ v x=>by
 have g:=h.below (m.mono c);exact MC F n o i p l Bl j a b d.length f k d rfl h.len h.fr h.ls h.lf J t (λs A B y z=>u s A B none y z (λr e=>by cases e)) v W (bO c m.size) g.l g.f g.c0 g.c1 g.i x
theorem a6i {β:Type}(B:Nat)(x y:ax):Own (λ(_:β) W=>Two W B x y):=λ_ _ _ _ a b c=>
 ⟨cell_kept a.c0 b c,cell_kept a.c1 b c,(frozen_kept a.c0 b c).trans a.f0,(frozen_kept a.c1 b c).trans a.f1⟩
def Wz (aB aS aZ:Addr)(w:ai)(b:List Item)(e:Ending)(W:ai):Prop:=
 ((∀y∈b,fV y.x.n y.x.d=0)/\e=ay aY)\/
 (∃q x r a,b=q++x::r/\(∀y∈q,fV y.x.n y.x.d=0)/\fV x.x.n x.x.d≠0/\w.heap.size<=a/\e=ay (aU 67 (aK a))/\W.cell? (aJ a 0)=some (ag x.i)/\W.cell? (aJ a 1)=some (er aB aS aZ (fV x.x.n x.x.d)))
theorem OQ (aB aS aZ:Addr)(Bl E b H fr:Nat)(R:List Item)(w:ai)(h:Ai w w.heap.size Bl E b H fr R)(hE:E3 aB aS aZ w):
  CallsIn Fence.wide 9 prog 326 #[.func (.func 366) #[] #[aK Bl,aK E]] w λe W=>Wz aB aS aZ w R e W/\aD w W:=by
 refine callsIn_of_wp_marks func326 rfl trivial ?_ rfl;simp only[ntmps326,jw,eZ,iT,Nat.reduceAdd,Nat.reduceSub,jV,jU,jX,jW,gK,gH]
 gi_wp2
 have c0:=U8 w aY 25;have I:aD w (w.alloc (ak #[aY] 25)):=(aW _ w).alloc az _;refine wpIn_rangeFunc_ownH rfl aa (gf:=366) (lb:=#[aK Bl,aK E]) rfl trivial (enters_of func366 aA rfl)
  (Ga Fence.wide _ trivial rfl aa Bl E w.heap.size b H fr R _ aI (h.below I)) belowK_t (belowK_b aI) (aW _ _) (λ_=>rfl)
  (λpre W=>((∀y∈pre,fV y.x.n y.x.d=0)/\W.cell? ⟨w.heap.size,0,none⟩=some aY/\W.frozen? ⟨w.heap.size,0,none⟩=false)/\aD w W)
  (λc pre W=>(c=.ret/\∃q x m,pre=q++[x]/\(∀y∈q,fV y.x.n y.x.d=0)/\fV x.x.n x.x.d≠0/\w.heap.size<=m/\W.cell? ⟨w.heap.size,0,none⟩=some (aU 67 (aK m))/\W.cell? (aJ m 0)=some (ag x.i)/\W.cell? (aJ m 1)=some (er aB aS aZ (fV x.x.n x.x.d)))/\aD w W)
  (OwnFrom.and (Own.from (λs A B n j i g=>⟨j.1,cell_kept j.2.1 i g,(frozen_kept j.2.1 i g).trans j.2.2⟩) _) (ownFrom_below az aI))
  (λc=>OwnFrom.and (Own.from (λs A B n j i g=>by obtain⟨S,q,x,m,T,J,U,V,X,Y,Z⟩:=j;exact⟨S,q,x,m,T,J,U,V,cell_kept X i g,cell_kept Y i g,cell_kept Z i g⟩) _) (ownFrom_below az aI))
  ⟨⟨aI,c0.1,c0.2⟩,I⟩
  (λx a' W=>∃t,w.heap.size<t/\Two W t (ag x.x.n) (ag x.x.d)/\a'={tmps:=#[.func (.func 366) #[] #[aK Bl,aK E],undef,aK w.heap.size,ag x.i,aK t,undef,.func (.func 366) #[] #[aK Bl,aK E],ag x.i,.agg #[ag x.x.n,ag x.x.d],undef,undef,undef,undef,undef,undef,undef,undef,undef],defers:=[]})
  (λx a' s A B n j i g=>by obtain⟨t,S,T,J⟩:=j;exact⟨t,S,(a6i t _ _) () A B n T i (λr e=>(g r e).2),J⟩)
  ?assign ?body ?done ?stop
 case assign=>
  rintro l pre x W K ⟨⟨F,u,O⟩,d⟩ v
  gi_wp2
  have j:=d.size;have f:=aX u;exact v _ _ ((KeepsOthers.alloc _ _).from _) ((aW _ W).alloc j _) ⟨⟨F,aN _ u,gV _ u O⟩,d.alloc j _⟩ ⟨W.heap.size,f,Two.new W _ _ _,rfl⟩
 case body=>
  rintro l pre x a' W hl g ⟨⟨F,u,O⟩,d⟩ ⟨t,a9,⟨k1,k2,k3,k4⟩,rfl⟩ f;have f:=aX u;have a4:=hE.below d az;have P:=kZ aB aS aZ x.x.n x.x.d W x.h1 x.h2 a4;by_cases Q:fV x.x.n x.x.d=0
  .rw[Q] at P
   gi_wp2_with (refine⟨trivial,?_⟩;gi_at_call 185;refine(CallsIn.inRound l (dM.2 P)).mono ?_;rintro e w' ⟨rfl,k⟩;simp only[wF])
   exact⟨(pW k).from _,k.mono d.size,⟨λy hy=>(iw.1 hy).elim (F y) (λe=>by simp at e;subst e;exact Q),(k.cell (p:=⟨w.heap.size,0,none⟩) f).trans u,(k.frozen (p:=⟨w.heap.size,0,none⟩) f).trans O⟩,d.trans (k.mono d.size)⟩
  .obtain⟨a,ha⟩:=jy aB aS aZ (show fV x.x.n x.x.d=2\/fV x.x.n x.x.d=3 by have:=iD x.x.n x.x.d;omega);have HC:=aF ha;have HX:=aF Q;rw[ha] at P;clear ha Q
   gi_wp2_with (refine⟨trivial,?_⟩;gi_at_call 185;refine(CallsIn.inRound l (dM.2 P)).mono ?_;rintro e w' ⟨rfl,k⟩;have hz:=k.size;have L:=(k.cell (p:=⟨w.heap.size,0,none⟩) f).trans u;have a5:=(k.frozen (p:=⟨w.heap.size,0,none⟩) f).trans O;have a6:=λo=>aN o L;have b0:=λo=>gV o L a5)
   have M:w'.heap.size≠w.heap.size:=aa;refine⟨((pW k).trans ((KeepsOthers.alloc _ _).trans (gT _ _ _))).from _,⟨rfl,pre,x,w'.heap.size,rfl,F,HX.out,by have:=d.size;omega,iJ _ _ _ (by rw[a6];rfl),?_,?_⟩,?_⟩
   .rw[dh _ _ _ _ (λe=>M e.symm)];simp
   .rw[HC.out,dh _ _ _ _ (λe=>M e.symm)];simp
   .exact(d.trans (k.mono d.size)).alloc (by have:=d.size;omega) _|>.setCell aI _
 case done=>
  rintro D ys W hD rfl ⟨⟨F,a7,b1⟩,d⟩ v
  gi_wp2
  have z:=(gT W ⟨w.heap.size,0,none⟩ aY).same D _ v rfl;refine⟨aI,.inl ⟨_,_,rfl,run_takeDeferred z,?_⟩⟩;have C:=cell_kept (iJ W ⟨w.heap.size,0,none⟩ aY (by rw[a7];rfl)) (grownBy_putObj' _ D (.deferred none)) (λr e=>by cases e;exact⟨_,z,rfl⟩);refine⟨aY,?_,.inl ⟨F,rfl⟩,(d.setCell (p:=⟨w.heap.size,0,none⟩) aI _).trans (belowK_b (w:=w) az _ D _ _ (by simp at hD;omega) z rfl rfl)⟩;simp[results,results326,go_sem,C]
 case stop=>
  rintro D c pre W hD N ⟨⟨rfl,q,x,m,rfl,J,U,V,X,Y,Z⟩,d⟩ v
  gi_wp2
  refine⟨aI,.inl ⟨_,_,rfl,run_takeDeferred v,?_⟩⟩;have g:∀r,some D=some r->∃o:Obj,W.heap[r]? =some o/\o.isCells=false:=λr e=>by cases e;exact⟨_,v,rfl⟩
  have i:=grownBy_putObj' W D (.deferred none);have C:=cell_kept X i g;obtain⟨r,a8⟩:=N;refine⟨_,?_,.inr ⟨q,x,r,m,by rw[<- a8];simp,J,U,V,rfl,cell_kept Y i g,cell_kept Z i g⟩,d.trans (belowK_b (w:=w) az W D _ _ (by simp at hD;omega) v rfl rfl)⟩;simp[results,results326,go_sem,C]
end
section
open Go.RowKit Go.Shelf
abbrev pv (p:Pt):ax:=.agg #[ag p.x.n,ag p.x.d,ag p.y.n,ag p.y.d]
abbrev zA:Array ax:=#[ag 0,ag 0,ag 0,ag 0,ag 0,ag 0,ag 0,ag 0,ag 0,ag 0,ag 0,ag 0]
abbrev zL:List ax:=[ag 0,ag 0,ag 0,ag 0,ag 0,ag 0,ag 0,ag 0,ag 0,ag 0,ag 0,ag 0]
abbrev oA:Array ax:=#[ag 1,ag 1,ag 0,ag 1,ag 0,ag 1,ag 1,ag 1,ag 0,ag 1,ag 0,ag 1]
abbrev oL:List ax:=[ag 1,ag 1,ag 0,ag 1,ag 0,ag 1,ag 1,ag 1,ag 0,ag 1,ag 0,ag 1]
abbrev mA (m:Mv):Array ax:=#[ag m.a.n,ag m.a.d,ag m.b.n,ag m.b.d,ag m.c.n,ag m.c.d,ag m.d.n,ag m.d.d,ag m.e.n,ag m.e.d,ag m.f.n,ag m.f.d]
abbrev mL (m:Mv):List ax:=[ag m.a.n,ag m.a.d,ag m.b.n,ag m.b.d,ag m.c.n,ag m.c.d,ag m.d.n,ag m.d.d,ag m.e.n,ag m.e.d,ag m.f.n,ag m.f.d]
abbrev mv (m:Mv):ax:=.agg #[ag m.a.n,ag m.a.d,ag m.b.n,ag m.b.d,ag m.c.n,ag m.c.d,ag m.d.n,ag m.d.d,ag m.e.n,ag m.e.d,ag m.f.n,ag m.f.d]
def Fr.i64 (x:Fr):Prop:=kU x.n/\kU x.d
def Pt.i64 (p:Pt):Prop:=p.x.i64/\p.y.i64
def Mv.i64 (m:Mv):Prop:=m.a.i64/\m.b.i64/\m.c.i64/\m.d.i64/\m.e.i64/\m.f.i64
def cZ:Nat->List Fr->Nat×Nat
 |_,[]=>(0,0)
 |i,x::r=>if fV x.n x.d=0 then cZ (i+1) r else(fV x.n x.d,i)
theorem oM:∀(l:List Fr) (i:Nat),(∀y∈l,fV y.n y.d=0)->cZ i l=(0,0)
 |[],_,_=>rfl
 |x::r,i,h=>by unfold cZ;rw[aR (h x aI)];exact oM r (i+1) (λy a=>h y (by simp[a]))
theorem yK:∀(q:List Fr) (x:Fr) (r:List Fr) (i:Nat),(∀y∈q,fV y.n y.d=0)->fV x.n x.d≠0->cZ i (q++x::r)=(fV x.n x.d,i+q.length)
 |[],x,r,i,_,h=>by unfold cZ;simp[h]
 |y::q,x,r,i,a,h=>by
  rw[gH,cZ,aR (a y aI),yK q x r (i+1) (λz b=>a z (by simp[b])) h];simp;omega
def Told (aB aS aZ:Addr)(B:Nat)(r:Nat×Nat)(v:ax)(W:ai):Prop:=
 (r.1=0/\v=aY)\/
 (r.1≠0/\(r.1=2\/r.1=3)/\∃a,B<=a/\v=aU 67 (aK a)/\W.cell? (aJ a 0)=some (ag r.2)/\W.cell? (aJ a 1)=some (er aB aS aZ r.1))
theorem Told.mono {B B':Nat}{r:Nat×Nat}(h:Told aB aS aZ B r v W)(a:B'<=B):Told aB aS aZ B' r v W:=by
 rcases h with h|⟨b,c,d,e,f⟩
 .exact .inl h
 .exact .inr ⟨b,c,d,bO a e,f⟩
theorem a6j {a:List Item}{e:Ending}{b:Nat}(hi:∀j (h:j<a.length),a[j].i=b+j)(h:Wz aB aS aZ w a e W):∃v,e=ay v/\Told aB aS aZ w.heap.size (cZ b (a.map (·.x))) v W:=by
 rcases h with⟨f,g⟩|⟨q,x,r,i,rfl,k,c,l,m,o,n⟩
 .rw[oM _ _ (by simpa using f)];exact⟨_,g,.inl ⟨rfl,rfl⟩⟩
 .have d:=hi q.length aI;rw[List.getElem_append_right az] at d;simp only[Nat.sub_self,List.getElem_cons_zero] at d;rw[iK,ny,yK _ _ _ _ (by simpa using k) c];refine⟨_,m,.inr ⟨c,by have:=iD x.x.n x.x.d;simp only;omega,i,l,rfl,?_,n⟩⟩;grind
theorem uJ (b:Int)(s:ax)(a:Option Addr)(n c:Nat)(hs:s=aj a n c)(W:ai):
  aL 349 #[ag b,s] W λe w'=>e=ay (.func (.func 366) #[] #[.pointer (some ⟨W.heap.size+1,0,none⟩),aK W.heap.size])/\w'=(W.alloc (ak #[ag b] 3)).alloc (ak #[s] 402):=by
 subst hs;go_enter func349,ntmps349;go_wp2;go_ret;exact⟨rfl,rfl⟩
def Mv.items (m:Mv)(h:m.i64):List Item:=
 [⟨0,m.a,h.1.1,h.1.2⟩,⟨1,m.b,h.2.1.1,h.2.1.2⟩,⟨2,m.c,h.2.2.1.1,h.2.2.1.2⟩,⟨3,m.d,h.2.2.2.1.1,h.2.2.2.1.2⟩,⟨4,m.e,h.2.2.2.2.1.1,h.2.2.2.2.1.2⟩,⟨5,m.f,h.2.2.2.2.2.1,h.2.2.2.2.2.2⟩]
def Mv.list (m:Mv):List Fr:=[m.a,m.b,m.c,m.d,m.e,m.f]
def Pt.items (p:Pt)(h:p.i64):List Item:=[⟨6,p.x,h.1.1,h.1.2⟩,⟨7,p.y,h.2.1,h.2.2⟩]
def Pt.list (p:Pt):List Fr:=[p.x,p.y]
theorem dN {cs:Array ax}{B k:Nat}(a:B=W.heap.size)(h:cs[k]? =some v):(W.alloc (ak cs t)).cell? (aJ B k)=some v:=by
 subst a;simp[h]
theorem Ce {j:Nat}(h:j<6):j=0\/j=1\/j=2\/j=3\/j=4\/j=5:=aa
theorem Cf {j:Nat}(h:j<2):j=0\/j=1:=aa
theorem a1v (m:Mv)(h:m.i64)(W:ai)(t c b:TypeId):
  Ai (((W.alloc (ak #[ag m.a.n,ag m.a.d,ag m.b.n,ag m.b.d,ag m.c.n,ag m.c.d,ag m.d.n,ag m.d.d,ag m.e.n,ag m.e.d,ag m.f.n,ag m.f.d] t)).alloc (ak #[ag 0] c)).alloc (ak #[aj (some ⟨W.heap.size,0,none⟩) 6 6] b)) (W.heap.size+3) (W.heap.size+2) (W.heap.size+1) W.heap.size 6 0 (m.items h) where
 lb:=aa
 lf:=aa
 ls:=aa
 l:=dN aI rfl
 f:=aN _ (dN aI rfl)
 c0:=λj a=>by rcases Ce a with rfl|rfl|rfl|rfl|rfl|rfl<;>exact aN _ (aN _ (dN rfl rfl))
 c1:=λj a=>by rcases Ce a with rfl|rfl|rfl|rfl|rfl|rfl<;>exact aN _ (aN _ (dN rfl rfl))
 i:=λj a=>by rcases Ce a with rfl|rfl|rfl|rfl|rfl|rfl<;>rfl
 len:=by simp[Mv.items]
 fr:=aa
theorem a1w (p:Pt)(h:p.i64)(W:ai)(t c b:TypeId):
  Ai (((W.alloc (ak #[ag p.x.n,ag p.x.d,ag p.y.n,ag p.y.d] t)).alloc (ak #[ag 6] c)).alloc (ak #[aj (some ⟨W.heap.size,0,none⟩) 2 2] b)) (W.heap.size+3) (W.heap.size+2) (W.heap.size+1) W.heap.size 2 6 (p.items h) where
 lb:=aa
 lf:=aa
 ls:=aa
 l:=dN aI rfl
 f:=aN _ (dN aI rfl)
 c0:=λj a=>by rcases Cf a with rfl|rfl<;>exact aN _ (aN _ (dN rfl rfl))
 c1:=λj a=>by rcases Cf a with rfl|rfl<;>exact aN _ (aN _ (dN rfl rfl))
 i:=λj a=>by rcases Cf a with rfl|rfl<;>rfl
 len:=by simp[Pt.items]
 fr:=aa
theorem Yu (m:Mv)(h:m.i64)(W:ai):
  aL 327 #[mv m] W λe w'=>e=ay (.func (.func 366) #[] #[.pointer (some ⟨W.heap.size+3,0,none⟩),.pointer (some ⟨W.heap.size+2,0,none⟩)])/\aD W w'/\w'.heap.size=W.heap.size+4/\Ai w' (W.heap.size+4) (W.heap.size+3) (W.heap.size+2) (W.heap.size+1) 6 0 (m.items h):=by
 have b:=uJ;have a:=a1v m h;generalize m.items h=q at a⊢;clear h;obtain⟨⟨c,d⟩,⟨f,g⟩,⟨i,j⟩,⟨k,l⟩,⟨n,d5⟩,⟨o,p⟩⟩:=m;dsimp only[mv] at a⊢;go_enter func327,ntmps327;go_wp2_with(go_at_call 349;refine(b 0 (aj (some ⟨W.heap.size+1,0,none⟩) 6 6) _ _ _ rfl _).mono ?_;rintro e w' ⟨rfl,rfl⟩);go_ret;refine⟨rfl,?_,aI,?_⟩
 .exact((((aW _ W).alloc az _).alloc aI _).alloc bq _).alloc bq _
 .have:=a (W.alloc (ak #[ag c,ag d,ag f,ag g,ag i,ag j,ag k,ag l,ag n,ag d5,ag o,ag p] 165)) 163 3 402;simpa using this
theorem yL (aB aS aZ:Addr)(Bl c b a d:Nat)(f:List Item)(w:ai)(h:Ai w w.heap.size Bl c b a d f)(hE:E3 aB aS aZ w):
  aL 326 #[.func (.func 366) #[] #[aK Bl,aK c]] w λe W=>(∃v,e=ay v/\Told aB aS aZ w.heap.size (cZ d (f.map (·.x))) v W)/\aD w W:=
 (dM.1 (OQ aB aS aZ Bl c b a d f w h hE)).mono λ_ _ g=>⟨a6j h.i g.1,g.2⟩
theorem DI (aB aS aZ:Addr)(m:Mv)(h:m.i64)(W:ai)(hE:E3 aB aS aZ W):
  aL 264 #[mv m] W λe w'=>(∃v,e=ay v/\Told aB aS aZ W.heap.size (cZ 0 m.list) v w')/\aD W w':=by
 have c:=Yu m h;have n:=yL aB aS aZ;have d:(m.items h).map (·.x)=m.list:=rfl;generalize m.items h=q at c d;generalize m.list=l at d⊢;subst d;clear h;obtain⟨⟨r,s⟩,⟨t,u⟩,⟨w,x⟩,⟨y,z⟩,⟨A,d5⟩,⟨B,C⟩⟩:=m;dsimp only[mv] at c⊢;go_enter func264,ntmps264;go_wp2_with(first|(go_at_call 326;refine b.mono ?_;rintro e D ⟨⟨v,rfl,o⟩,f⟩)|(go_at_call 327;refine(c _).mono ?_;rintro e p ⟨rfl,a,g,k⟩;have i:=(hE.alloc _).below a az;rw[<- g] at k;have b:=n _ _ _ _ _ _ p k i;simp only[dV] at b));go_ret;have j:=a.size;rw[dV] at j;exact⟨⟨v,rfl,o.mono aa⟩,(((aW _ W).alloc az _).trans (a.mono aI)).trans (f.mono aa)⟩
end
open Go.RowKit
structure fJ (b:Nat)(W w':ai):Prop where
 size:W.heap.size<=w'.heap.size
 block:∀k,k<W.heap.size->k≠b->w'.heap[k]? =W.heap[k]?
theorem fJ.trans {B C:ai}(h:fJ b A B)(k:fJ b B C):fJ b A C:=
 ⟨bO h.size k.size,λi a c=>(k.block i (fK a h.size) c).trans (h.block i a c)⟩
theorem fJ.of_below (h:aD A B):fJ b A B:=⟨h.size,λi a _=>h.block i a⟩
theorem fJ.cell (h:fJ b A B){p:Addr}{v:ax}(hp:A.cell? p=some v)(a:p.block≠b):B.cell? p=some v:=
 (qL (h.block p.block (aX hp) a)).trans hp
theorem fJ.frozen (h:fJ b A B){p:Addr}{v:ax}(hp:A.cell? p=some v)(a:A.frozen? p=false)(c:p.block≠b):B.frozen? p=false:=
 (World.frozen?_of_block (h.block p.block (aX hp) c)).trans a
structure Wk (aB aS aZ:Addr)(w0:ai)(b:Nat)(c:Nat)(W:ai):Prop where
 e3:E3 aB aS aZ w0
 hb:aD w0 W
 lo:w0.heap.size<=b
 cell:W.cell? (aJ b 0)=some (er aB aS aZ c)
 fG:W.frozen? ⟨b,0,none⟩=false
theorem Wk.at {aB aS aZ:Addr}{w0:ai}{b c:Nat}{W:ai}(h:Wk aB aS aZ w0 b c W):E3 aB aS aZ W:=h.e3.below h.hb az
theorem Wk.alloc (h:Wk aB aS aZ w0 b c W)(o:Obj):Wk aB aS aZ w0 b c (W.alloc o):=
 ⟨h.e3,h.hb.alloc h.hb.size o,h.lo,aN o h.cell,gV o h.cell h.fG⟩
theorem Wk.below {aB aS aZ:Addr}(h:Wk aB aS aZ w0 b c W)(a:aD W E):Wk aB aS aZ w0 b c E:=
 ⟨h.e3,h.hb.trans (a.mono h.hb.size),h.lo,(a.cell (p:=⟨b,0,none⟩) (aX h.cell)).trans h.cell,(a.frozen (p:=⟨b,0,none⟩) (aX h.cell)).trans h.fG⟩
theorem Wk.drew (h:Wk aB aS aZ w0 b c W)(k:Nat):Wk aB aS aZ w0 b c (W.drewN k):=h.below (below_drewN (aW _ W) k)
theorem a1x (aB aS aZ:Addr):er aB aS aZ 2=aU 453 (.pointer (some aB)):=rfl
theorem aaN {g:ai}{p q:ax}(h:Wk aB aS aZ w0 b 0 g)(i:fJ b W g)(m:W.heap.size<=R)(a:w0.heap.size<=R)(d:b≠R)(j:v=er aB aS aZ c):
  Wk aB aS aZ w0 b c ((((g.alloc o).setCell ⟨b,0,none⟩ v).setCell ⟨R,0,none⟩ p).setCell ⟨R,1,none⟩ q)/\fJ b W ((((g.alloc o).setCell ⟨b,0,none⟩ v).setCell ⟨R,0,none⟩ p).setCell ⟨R,1,none⟩ q):=by
 have n:=i.size;refine⟨⟨h.e3,(((h.hb.alloc h.hb.size o).setCell h.lo v).setCell a p).setCell a q,h.lo,?_,?_⟩,?_,?_⟩
 .rw[dh _ _ _ _ (λe=>d e.symm),dh _ _ _ _ (λe=>d e.symm),iJ _ _ _ (by rw[aN o h.cell];rfl),j]
 .rw[jT,jT,jT];exact gV o h.cell h.fG
 .simp;omega
 .intro k l f;rw[dw _ _ _ k bq,dw _ _ _ k bq,dw _ _ _ k f,Below.heap_alloc _ _ k aa];exact i.block k l f
theorem a1y (aB aS aZ:Addr)(w0:ai)(b F:Nat)(x y:Fr)(W:ai)(h:Wk aB aS aZ w0 b 2 W):
  aL 328 #[aK b,.func (.func F) #[] #[],.agg #[ag x.n,ag x.d],.agg #[ag y.n,ag y.d]] W λe w'=>e=ay (.agg #[ag 0,ag 0])/\aD W w':=by
 have a:=((h.alloc (ak #[ag x.n,ag x.d] 163)).alloc (ak #[ag y.n,ag y.d] 163)).alloc (ak #[ag 0,ag 0] 163);have c:=a.cell;have d:=a.fG;rw[a1x] at c;clear a;go_enter func328,ntmps328;go_wp2;refine bg (v:=.agg #[ag 0,ag 0]) (by simp[results,results328,go_sem]) rfl ⟨rfl,?_⟩;exact(((aW _ W).alloc az _).alloc aI _).alloc bq _
theorem a9I (aB aS aZ:Addr)(w0:ai)(b F:Nat)(z:∀(m:Array ax) (w:ai),Sem.run prog (callFunc F m) w=.ok (.enter F m) w)(x y:Fr)(r:R3)(W:ai)(n:r.c=0\/r.c=2)(h:Wk aB aS aZ w0 b 0 W)
  (d:∀V,E3 aB aS aZ V->aL F #[.agg #[ag x.n,ag x.d],.agg #[ag y.n,ag y.d]] V λe w'=>e=ay (aH #[.agg #[ag r.n,ag r.d],er aB aS aZ r.c])/\aD V w'):
  aL 328 #[aK b,.func (.func F) #[] #[],.agg #[ag x.n,ag x.d],.agg #[ag y.n,ag y.d]] W λe w'=>e=ay (.agg #[ag r.n,ag r.d])/\Wk aB aS aZ w0 b r.c w'/\fJ b W w':=by
 have f:=((h.alloc (ak #[ag x.n,ag x.d] 163)).alloc (ak #[ag y.n,ag y.d] 163)).alloc (ak #[ag 0,ag 0] 163);have A:=f.cell;have I:=f.fG;rw[wF] at A;replace d:=d _ f.at;obtain⟨p,q,c⟩:=r;have g:=aX h.cell;simp only at g n d;rcases n with rfl|rfl
 all_goals
  first|simp only[wF] at d|simp only[a1x] at d
  go_enter func328,ntmps328;go_wp2_with fail;refine d.mono ?_;rintro e i ⟨rfl,a⟩;have j:=f.below a;have s:=j.cell;have B:=j.fG;have J:=λo=>aN o s;have K:=λo=>gV o s B;have C:=a.size;simp only[dV] at C;have L:¬b=i.heap.size:=aa;have D:¬b=W.heap.size+1+1:=aa;have M:¬i.heap.size=W.heap.size+1+1:=aa;have N:¬W.heap.size+1+1=i.heap.size:=aa;obtain⟨k,l,t,u⟩:=(Two.new ((W.alloc (ak #[ag x.n,ag x.d] 163)).alloc (ak #[ag y.n,ag y.d] 163)) (ag 0) (ag 0) 163).below a az;simp only[dV] at k l t u;have E:=λo=>aN o k;have H:=λo=>aN o l;have O:=λo=>gV o k t;have P:=λo=>gV o l u;go_wp2;refine bg (v:=.agg #[ag p,ag q]) (by simp[results,results328,go_sem,E,H]) rfl ⟨rfl,?_⟩;exact aaN j ((fJ.of_below ((((aW _ W).alloc az _).alloc aI _).alloc bq _)).trans (fJ.of_below a)) aa (by have:=h.hb.size;omega) D rfl
theorem tH (f:Nat)(a:Func)(c:prog.funcs[f]? =some a)(d:(a.name=="runtime.NumGoroutine")=false)(e:a.body.isNone=false)(b:Array ax)(w:ai):Sem.run prog (callFunc f b) w=.ok (.enter f b) w:=by
 unfold callFunc;simp only[Sem.run_bind,run_program,Result.andThen_ok,c,d,e];rfl
theorem fJ.alloc (h:fJ b A B)(o:Obj):fJ b A (B.alloc o):=h.trans (fJ.of_below ((aW _ B).alloc az o))
theorem fJ.refl (b:Nat)(A:ai):fJ b A A:=fJ.of_below (aW _ A)
theorem fJ.drew (b:Nat)(A:ai)(k:Nat):fJ b A (A.drewN k):=fJ.of_below (below_drewN (aW _ A) k)
theorem fJ.store (c:fJ b A w)(e:A.heap.size<=R)(o:Nat)(v:ax):fJ b A (w.setCell ⟨R,o,none⟩ v):=
 ⟨by simpa using c.size,λk d a=>(dw _ _ _ k bq).trans (c.block k d a)⟩
theorem Wk.store (h:Wk aB aS aZ w0 b c w)(a:w0.heap.size<=R)(d:R≠b)(o:Nat)(v:ax):Wk aB aS aZ w0 b c (w.setCell ⟨R,o,none⟩ v):=
 ⟨h.e3,h.hb.setCell a v,h.lo,(dh _ _ _ _ d).trans h.cell,by rw[jT];exact h.fG⟩
theorem Two.upto (h:Two A R x y)(a:fJ b A B)(c:R≠b):Two B R x y:=
 ⟨a.cell h.c0 c,a.cell h.c1 c,a.frozen h.c0 h.f0 c,a.frozen h.c1 h.f1 c⟩
theorem Two.store (a:Two w R x y)(p q:ax):Two ((w.setCell ⟨R,0,none⟩ p).setCell ⟨R,1,none⟩ q) R p q:=by
 have b:(w.setCell ⟨R,0,none⟩ p).cell? (aJ R 1)=some y:=by rw[World.cell?_setCell_other _ _ _ _ aI];exact a.c1
 refine⟨?_,iJ _ _ _ (by rw[b];rfl),?_,?_⟩
 .have:(w.setCell ⟨R,0,none⟩ p).cell? (aJ R 0)=some p:=iJ _ _ _ (by rw[a.c0];rfl);rw[World.cell?_setCell_other _ _ _ _ aI];exact this
 .rw[jT,jT];exact a.f0
 .rw[jT,jT];exact a.f1
theorem qC {cs:Array ax}{B k:Nat}(a:B=W.heap.size):(W.alloc (ak cs t)).frozen? ⟨B,k,none⟩=false:=by subst a;simp
theorem Wk.ne (h:Wk aB aS aZ w0 b c V):V.heap.size≠b:=by
 have:=aX h.cell;simp only at this;omega
theorem fJ.lo {a:Nat}(c:fJ b A w)(h:a<=A.heap.size):a<=w.heap.size:=bO h c.size
theorem tJ {a:Nat}(h:a<=A.heap.size):a<=(A.alloc o).heap.size:=by rw[dV];omega
structure Own2 (lo b:Nat)(w:ai)(R:Nat)(x y:ax):Prop where
 t:Two w R x y
 ne:R≠b
 lo:lo<=R
theorem Own2.upto {a:Nat}(h:Own2 a b A R x y)(c:fJ b A B):Own2 a b B R x y:=⟨h.t.upto c h.ne,h.ne,h.lo⟩
theorem Own2.new {d:Nat}(h:Wk aB aS aZ w0 b c V)(a:d<=V.heap.size)(e:fJ b (V.alloc (ak #[x,y] t)) B):Own2 d b B V.heap.size x y:=⟨(Two.new V x y t).upto e h.ne,h.ne,a⟩
theorem Own2.last {d:Nat}(h:Wk aB aS aZ w0 b c V)(a:d<=V.heap.size):Own2 d b (V.alloc (ak #[x,y] t)) V.heap.size x y:=⟨Two.new V x y t,h.ne,a⟩
theorem Own2.store {a:Nat}(h:Own2 a b w R x y)(p q:ax):Own2 a b ((w.setCell ⟨R,0,none⟩ p).setCell ⟨R,1,none⟩ q) R p q:=⟨h.t.store p q,h.ne,h.lo⟩
theorem Own2.af8 {d:Nat}(h:Wk aB aS aZ w0 b c V)(a:d<=V.heap.size)(e:fJ b (V.alloc (ak #[x,y] t)).drew B):Own2 d b B V.heap.size x y:=⟨((Two.new V x y t).drewN 1).upto e h.ne,h.ne,a⟩
def Yv (aB aS aZ:Addr)(w0:ai)(b:Nat)(k:Nat)(c:Nat)(x y z:Fr)(d:Nat):Prop:=
 ∀W,Wk aB aS aZ w0 b c W->aL 328 #[aK b,.func (.func k) #[] #[],.agg #[ag x.n,ag x.d],.agg #[ag y.n,ag y.d]] W λe a=>e=ay (.agg #[ag z.n,ag z.d])/\Wk aB aS aZ w0 b d a/\fJ b W a
theorem MF {x y:Fr}(hc:c=0\/c=2)(a:x.i64)(d:y.i64)(e:c=0->(add x.n x.d y.n y.d).c=0\/(add x.n x.d y.n y.d).c=2):Yv aB aS aZ w0 b 320 c x y (yJ add c x y).1 (yJ add c x y).2:=λW h=>by
 rcases hc with rfl|rfl
 .exact a9I aB aS aZ w0 b _ (tH _ _ func320 aA aA) x y _ W (e rfl) h λV f=>G9 aB aS aZ x.n x.d y.n y.d V a.1 a.2 d.1 d.2 f
 .exact(a1y aB aS aZ w0 b _ x y W h).mono λ_ _ k=>⟨k.1,h.below k.2,fJ.of_below k.2⟩
theorem WC {x y:Fr}(hc:c=0\/c=2)(a:x.i64)(d:y.i64)(e:c=0->(mul x.n x.d y.n y.d).c=0\/(mul x.n x.d y.n y.d).c=2):Yv aB aS aZ w0 b 329 c x y (yJ mul c x y).1 (yJ mul c x y).2:=λW h=>by
 rcases hc with rfl|rfl
 .exact a9I aB aS aZ w0 b _ (tH _ _ func329 aA aA) x y _ W (e rfl) h λV f=>a6h aB aS aZ x.n x.d y.n y.d V a.1 a.2 d.1 d.2 f
 .exact(a1y aB aS aZ w0 b _ x y W h).mono λ_ _ k=>⟨k.1,h.below k.2,fJ.of_below k.2⟩
structure Head (W:ai)(m:Mv)(p:Pt)(V:ai):Prop where
 c0:V.cell? ⟨W.heap.size,0,none⟩=some (ag m.a.n)
 c1:V.cell? ⟨W.heap.size,1,none⟩=some (ag m.a.d)
 c2:V.cell? ⟨W.heap.size,2,none⟩=some (ag m.b.n)
 c3:V.cell? ⟨W.heap.size,3,none⟩=some (ag m.b.d)
 c4:V.cell? ⟨W.heap.size,4,none⟩=some (ag m.c.n)
 c5:V.cell? ⟨W.heap.size,5,none⟩=some (ag m.c.d)
 c6:V.cell? ⟨W.heap.size,6,none⟩=some (ag m.d.n)
 c7:V.cell? ⟨W.heap.size,7,none⟩=some (ag m.d.d)
 c8:V.cell? ⟨W.heap.size,8,none⟩=some (ag m.e.n)
 c9:V.cell? ⟨W.heap.size,9,none⟩=some (ag m.e.d)
 c10:V.cell? ⟨W.heap.size,10,none⟩=some (ag m.f.n)
 c11:V.cell? ⟨W.heap.size,11,none⟩=some (ag m.f.d)
 c12:V.cell? ⟨W.heap.size+1,0,none⟩=some (ag p.x.n)
 c13:V.cell? ⟨W.heap.size+1,1,none⟩=some (ag p.x.d)
 c14:V.cell? ⟨W.heap.size+1,2,none⟩=some (ag p.y.n)
 c15:V.cell? ⟨W.heap.size+1,3,none⟩=some (ag p.y.d)
 r0:V.cell? ⟨W.heap.size+1+1,0,none⟩=some (ag 0)
 f0:V.frozen? ⟨W.heap.size+1+1,0,none⟩=false
 r1:V.cell? ⟨W.heap.size+1+1,1,none⟩=some (ag 0)
 f1:V.frozen? ⟨W.heap.size+1+1,1,none⟩=false
 r2:V.cell? ⟨W.heap.size+1+1,2,none⟩=some (ag 0)
 f2:V.frozen? ⟨W.heap.size+1+1,2,none⟩=false
 r3:V.cell? ⟨W.heap.size+1+1,3,none⟩=some (ag 0)
 f3:V.frozen? ⟨W.heap.size+1+1,3,none⟩=false
 sz:W.heap.size+3<=V.heap.size
theorem Head.new (W:ai)(m:Mv)(p:Pt):Head W m p (((W.alloc (ak (mA m) 165)).alloc (ak #[ag p.x.n,ag p.x.d,ag p.y.n,ag p.y.d] 233)).alloc (ak #[ag 0,ag 0,ag 0,ag 0] 233)) where
 c0:=aN _ (aN _ (dN rfl rfl))
 c1:=aN _ (aN _ (dN rfl rfl))
 c2:=aN _ (aN _ (dN rfl rfl))
 c3:=aN _ (aN _ (dN rfl rfl))
 c4:=aN _ (aN _ (dN rfl rfl))
 c5:=aN _ (aN _ (dN rfl rfl))
 c6:=aN _ (aN _ (dN rfl rfl))
 c7:=aN _ (aN _ (dN rfl rfl))
 c8:=aN _ (aN _ (dN rfl rfl))
 c9:=aN _ (aN _ (dN rfl rfl))
 c10:=aN _ (aN _ (dN rfl rfl))
 c11:=aN _ (aN _ (dN rfl rfl))
 c12:=aN _ (dN aI rfl)
 c13:=aN _ (dN aI rfl)
 c14:=aN _ (dN aI rfl)
 c15:=aN _ (dN aI rfl)
 r0:=dN aI rfl
 f0:=qC aI
 r1:=dN aI rfl
 f1:=qC aI
 r2:=dN aI rfl
 f2:=qC aI
 r3:=dN aI rfl
 f3:=qC aI
 sz:=aI
theorem Head.upto {m:Mv}{p:Pt}(h:Head W m p A)(a:fJ b A B)(c:b<W.heap.size):Head W m p B where
 c0:=a.cell h.c0 bq
 c1:=a.cell h.c1 bq
 c2:=a.cell h.c2 bq
 c3:=a.cell h.c3 bq
 c4:=a.cell h.c4 bq
 c5:=a.cell h.c5 bq
 c6:=a.cell h.c6 bq
 c7:=a.cell h.c7 bq
 c8:=a.cell h.c8 bq
 c9:=a.cell h.c9 bq
 c10:=a.cell h.c10 bq
 c11:=a.cell h.c11 bq
 c12:=a.cell h.c12 bq
 c13:=a.cell h.c13 bq
 c14:=a.cell h.c14 bq
 c15:=a.cell h.c15 bq
 r0:=a.cell h.r0 bq
 f0:=a.frozen h.r0 h.f0 bq
 r1:=a.cell h.r1 bq
 f1:=a.frozen h.r1 h.f1 bq
 r2:=a.cell h.r2 bq
 f2:=a.frozen h.r2 h.f2 bq
 r3:=a.cell h.r3 bq
 f3:=a.frozen h.r3 h.f3 bq
 sz:=bO h.sz a.size
theorem a1z {m:Mv}{p:Pt}(a:Head W m p V)(h:V.heap.size<=R):R≠W.heap.size/\R≠W.heap.size+1:=by have:=a.sz;omega
theorem aaO {m:Mv}{p:Pt}{u:ax}(h:(λw'=>w'.cell? ⟨W.heap.size,0,none⟩=some (ag m.a.n)/\w'.cell? ⟨W.heap.size,1,none⟩=some (ag m.a.d)/\w'.cell? ⟨W.heap.size+1,0,none⟩=some (ag p.x.n)/\w'.cell? ⟨W.heap.size+1,1,none⟩=some (ag p.x.d)/\w'.cell? ⟨W.heap.size,4,none⟩=some (ag m.c.n)/\w'.cell? ⟨W.heap.size,5,none⟩=some (ag m.c.d)/\w'.cell? ⟨W.heap.size+1,2,none⟩=some (ag p.y.n)/\w'.cell? ⟨W.heap.size+1,3,none⟩=some (ag p.y.d)) w)(a:R≠W.heap.size)(b:R≠W.heap.size+1):(λw'=>w'.cell? ⟨W.heap.size,0,none⟩=some (ag m.a.n)/\w'.cell? ⟨W.heap.size,1,none⟩=some (ag m.a.d)/\w'.cell? ⟨W.heap.size+1,0,none⟩=some (ag p.x.n)/\w'.cell? ⟨W.heap.size+1,1,none⟩=some (ag p.x.d)/\w'.cell? ⟨W.heap.size,4,none⟩=some (ag m.c.n)/\w'.cell? ⟨W.heap.size,5,none⟩=some (ag m.c.d)/\w'.cell? ⟨W.heap.size+1,2,none⟩=some (ag p.y.n)/\w'.cell? ⟨W.heap.size+1,3,none⟩=some (ag p.y.d)) ((w.setCell ⟨R,0,none⟩ u).setCell ⟨R,1,none⟩ v):=by
 obtain⟨c,d,e,f,g,i,j,k⟩:=h;exact⟨(dh _ _ _ _ a).trans ((dh _ _ _ _ a).trans c),(dh _ _ _ _ a).trans ((dh _ _ _ _ a).trans d),(dh _ _ _ _ b).trans ((dh _ _ _ _ b).trans e),(dh _ _ _ _ b).trans ((dh _ _ _ _ b).trans f),(dh _ _ _ _ a).trans ((dh _ _ _ _ a).trans g),(dh _ _ _ _ a).trans ((dh _ _ _ _ a).trans i),(dh _ _ _ _ b).trans ((dh _ _ _ _ b).trans j),(dh _ _ _ _ b).trans ((dh _ _ _ _ b).trans k)⟩
theorem aaP {m:Mv}{p:Pt}{u:ax}(h:(λw'=>w'.cell? ⟨W.heap.size,2,none⟩=some (ag m.b.n)/\w'.cell? ⟨W.heap.size,3,none⟩=some (ag m.b.d)/\w'.cell? ⟨W.heap.size+1,0,none⟩=some (ag p.x.n)/\w'.cell? ⟨W.heap.size+1,1,none⟩=some (ag p.x.d)/\w'.cell? ⟨W.heap.size,6,none⟩=some (ag m.d.n)/\w'.cell? ⟨W.heap.size,7,none⟩=some (ag m.d.d)/\w'.cell? ⟨W.heap.size+1,2,none⟩=some (ag p.y.n)/\w'.cell? ⟨W.heap.size+1,3,none⟩=some (ag p.y.d)) w)(a:R≠W.heap.size)(b:R≠W.heap.size+1):(λw'=>w'.cell? ⟨W.heap.size,2,none⟩=some (ag m.b.n)/\w'.cell? ⟨W.heap.size,3,none⟩=some (ag m.b.d)/\w'.cell? ⟨W.heap.size+1,0,none⟩=some (ag p.x.n)/\w'.cell? ⟨W.heap.size+1,1,none⟩=some (ag p.x.d)/\w'.cell? ⟨W.heap.size,6,none⟩=some (ag m.d.n)/\w'.cell? ⟨W.heap.size,7,none⟩=some (ag m.d.d)/\w'.cell? ⟨W.heap.size+1,2,none⟩=some (ag p.y.n)/\w'.cell? ⟨W.heap.size+1,3,none⟩=some (ag p.y.d)) ((w.setCell ⟨R,0,none⟩ u).setCell ⟨R,1,none⟩ v):=by
 obtain⟨c,d,e,f,g,i,j,k⟩:=h;exact⟨(dh _ _ _ _ a).trans ((dh _ _ _ _ a).trans c),(dh _ _ _ _ a).trans ((dh _ _ _ _ a).trans d),(dh _ _ _ _ b).trans ((dh _ _ _ _ b).trans e),(dh _ _ _ _ b).trans ((dh _ _ _ _ b).trans f),(dh _ _ _ _ a).trans ((dh _ _ _ _ a).trans g),(dh _ _ _ _ a).trans ((dh _ _ _ _ a).trans i),(dh _ _ _ _ b).trans ((dh _ _ _ _ b).trans j),(dh _ _ _ _ b).trans ((dh _ _ _ _ b).trans k)⟩
theorem a1A {m:Mv}{p:Pt}(a:fJ b A B)(c:W.heap.size≠b)(d:W.heap.size+1≠b)(h:(λw'=>w'.cell? ⟨W.heap.size,0,none⟩=some (ag m.a.n)/\w'.cell? ⟨W.heap.size,1,none⟩=some (ag m.a.d)/\w'.cell? ⟨W.heap.size+1,0,none⟩=some (ag p.x.n)/\w'.cell? ⟨W.heap.size+1,1,none⟩=some (ag p.x.d)/\w'.cell? ⟨W.heap.size,4,none⟩=some (ag m.c.n)/\w'.cell? ⟨W.heap.size,5,none⟩=some (ag m.c.d)/\w'.cell? ⟨W.heap.size+1,2,none⟩=some (ag p.y.n)/\w'.cell? ⟨W.heap.size+1,3,none⟩=some (ag p.y.d)) A):(λw'=>w'.cell? ⟨W.heap.size,0,none⟩=some (ag m.a.n)/\w'.cell? ⟨W.heap.size,1,none⟩=some (ag m.a.d)/\w'.cell? ⟨W.heap.size+1,0,none⟩=some (ag p.x.n)/\w'.cell? ⟨W.heap.size+1,1,none⟩=some (ag p.x.d)/\w'.cell? ⟨W.heap.size,4,none⟩=some (ag m.c.n)/\w'.cell? ⟨W.heap.size,5,none⟩=some (ag m.c.d)/\w'.cell? ⟨W.heap.size+1,2,none⟩=some (ag p.y.n)/\w'.cell? ⟨W.heap.size+1,3,none⟩=some (ag p.y.d)) B:=by
 obtain⟨e,f,g,i,j,k,l,n⟩:=h;exact⟨a.cell e c,a.cell f c,a.cell g d,a.cell i d,a.cell j c,a.cell k c,a.cell l d,a.cell n d⟩
theorem tK {m:Mv}{p:Pt}(a:fJ b A B)(c:W.heap.size≠b)(d:W.heap.size+1≠b)(h:(λw'=>w'.cell? ⟨W.heap.size,2,none⟩=some (ag m.b.n)/\w'.cell? ⟨W.heap.size,3,none⟩=some (ag m.b.d)/\w'.cell? ⟨W.heap.size+1,0,none⟩=some (ag p.x.n)/\w'.cell? ⟨W.heap.size+1,1,none⟩=some (ag p.x.d)/\w'.cell? ⟨W.heap.size,6,none⟩=some (ag m.d.n)/\w'.cell? ⟨W.heap.size,7,none⟩=some (ag m.d.d)/\w'.cell? ⟨W.heap.size+1,2,none⟩=some (ag p.y.n)/\w'.cell? ⟨W.heap.size+1,3,none⟩=some (ag p.y.d)) A):(λw'=>w'.cell? ⟨W.heap.size,2,none⟩=some (ag m.b.n)/\w'.cell? ⟨W.heap.size,3,none⟩=some (ag m.b.d)/\w'.cell? ⟨W.heap.size+1,0,none⟩=some (ag p.x.n)/\w'.cell? ⟨W.heap.size+1,1,none⟩=some (ag p.x.d)/\w'.cell? ⟨W.heap.size,6,none⟩=some (ag m.d.n)/\w'.cell? ⟨W.heap.size,7,none⟩=some (ag m.d.d)/\w'.cell? ⟨W.heap.size+1,2,none⟩=some (ag p.y.n)/\w'.cell? ⟨W.heap.size+1,3,none⟩=some (ag p.y.d)) B:=by
 obtain⟨e,f,g,i,j,k,l,n⟩:=h;exact⟨a.cell e c,a.cell f c,a.cell g d,a.cell i d,a.cell j c,a.cell k c,a.cell l d,a.cell n d⟩
theorem aaQ {m:Mv}{p:Pt}(h:(λw'=>w'.cell? ⟨W.heap.size,0,none⟩=some (ag m.a.n)/\w'.cell? ⟨W.heap.size,1,none⟩=some (ag m.a.d)/\w'.cell? ⟨W.heap.size+1,0,none⟩=some (ag p.x.n)/\w'.cell? ⟨W.heap.size+1,1,none⟩=some (ag p.x.d)/\w'.cell? ⟨W.heap.size,4,none⟩=some (ag m.c.n)/\w'.cell? ⟨W.heap.size,5,none⟩=some (ag m.c.d)/\w'.cell? ⟨W.heap.size+1,2,none⟩=some (ag p.y.n)/\w'.cell? ⟨W.heap.size+1,3,none⟩=some (ag p.y.d)) A):(λw'=>w'.cell? ⟨W.heap.size,0,none⟩=some (ag m.a.n)/\w'.cell? ⟨W.heap.size,1,none⟩=some (ag m.a.d)/\w'.cell? ⟨W.heap.size+1,0,none⟩=some (ag p.x.n)/\w'.cell? ⟨W.heap.size+1,1,none⟩=some (ag p.x.d)/\w'.cell? ⟨W.heap.size,4,none⟩=some (ag m.c.n)/\w'.cell? ⟨W.heap.size,5,none⟩=some (ag m.c.d)/\w'.cell? ⟨W.heap.size+1,2,none⟩=some (ag p.y.n)/\w'.cell? ⟨W.heap.size+1,3,none⟩=some (ag p.y.d)) (A.alloc o):=by
 obtain⟨a,b,c,d,e,f,g,i⟩:=h;exact⟨aN _ a,aN _ b,aN _ c,aN _ d,aN _ e,aN _ f,aN _ g,aN _ i⟩
theorem aaR {m:Mv}{p:Pt}(h:(λw'=>w'.cell? ⟨W.heap.size,2,none⟩=some (ag m.b.n)/\w'.cell? ⟨W.heap.size,3,none⟩=some (ag m.b.d)/\w'.cell? ⟨W.heap.size+1,0,none⟩=some (ag p.x.n)/\w'.cell? ⟨W.heap.size+1,1,none⟩=some (ag p.x.d)/\w'.cell? ⟨W.heap.size,6,none⟩=some (ag m.d.n)/\w'.cell? ⟨W.heap.size,7,none⟩=some (ag m.d.d)/\w'.cell? ⟨W.heap.size+1,2,none⟩=some (ag p.y.n)/\w'.cell? ⟨W.heap.size+1,3,none⟩=some (ag p.y.d)) A):(λw'=>w'.cell? ⟨W.heap.size,2,none⟩=some (ag m.b.n)/\w'.cell? ⟨W.heap.size,3,none⟩=some (ag m.b.d)/\w'.cell? ⟨W.heap.size+1,0,none⟩=some (ag p.x.n)/\w'.cell? ⟨W.heap.size+1,1,none⟩=some (ag p.x.d)/\w'.cell? ⟨W.heap.size,6,none⟩=some (ag m.d.n)/\w'.cell? ⟨W.heap.size,7,none⟩=some (ag m.d.d)/\w'.cell? ⟨W.heap.size+1,2,none⟩=some (ag p.y.n)/\w'.cell? ⟨W.heap.size+1,3,none⟩=some (ag p.y.d)) (A.alloc o):=by
 obtain⟨a,b,c,d,e,f,g,i⟩:=h;exact⟨aN _ a,aN _ b,aN _ c,aN _ d,aN _ e,aN _ f,aN _ g,aN _ i⟩
theorem af9 {m:Mv}{p:Pt}(h:Head W m p V):(λw'=>w'.cell? ⟨W.heap.size,0,none⟩=some (ag m.a.n)/\w'.cell? ⟨W.heap.size,1,none⟩=some (ag m.a.d)/\w'.cell? ⟨W.heap.size+1,0,none⟩=some (ag p.x.n)/\w'.cell? ⟨W.heap.size+1,1,none⟩=some (ag p.x.d)/\w'.cell? ⟨W.heap.size,4,none⟩=some (ag m.c.n)/\w'.cell? ⟨W.heap.size,5,none⟩=some (ag m.c.d)/\w'.cell? ⟨W.heap.size+1,2,none⟩=some (ag p.y.n)/\w'.cell? ⟨W.heap.size+1,3,none⟩=some (ag p.y.d)) (V.drewN 1):=⟨h.c0,h.c1,h.c12,h.c13,h.c4,h.c5,h.c14,h.c15⟩
theorem afa {m:Mv}{p:Pt}(h:Head W m p V):(λw'=>w'.cell? ⟨W.heap.size,2,none⟩=some (ag m.b.n)/\w'.cell? ⟨W.heap.size,3,none⟩=some (ag m.b.d)/\w'.cell? ⟨W.heap.size+1,0,none⟩=some (ag p.x.n)/\w'.cell? ⟨W.heap.size+1,1,none⟩=some (ag p.x.d)/\w'.cell? ⟨W.heap.size,6,none⟩=some (ag m.d.n)/\w'.cell? ⟨W.heap.size,7,none⟩=some (ag m.d.d)/\w'.cell? ⟨W.heap.size+1,2,none⟩=some (ag p.y.n)/\w'.cell? ⟨W.heap.size+1,3,none⟩=some (ag p.y.d)) (V.drewN 1):=⟨h.c2,h.c3,h.c12,h.c13,h.c6,h.c7,h.c14,h.c15⟩
theorem U9 (aB aS aZ:Addr)(w0:ai)(b:Nat)(m:Mv)(p:Pt)(Q x2 y S y2 z:Fr)(c c1 c2 T c4 c5 U:Nat)(W:ai)(h:Wk aB aS aZ w0 b c W)
  (D1:Yv aB aS aZ w0 b 329 c m.a p.x Q c1) (D2:Yv aB aS aZ w0 b 329 c1 m.c p.y x2 c2) (D3:Yv aB aS aZ w0 b 320 c2 Q x2 y T)
  (D4:Yv aB aS aZ w0 b 329 T m.b p.x S c4) (D5:Yv aB aS aZ w0 b 329 c4 m.d p.y y2 c5) (D6:Yv aB aS aZ w0 b 320 c5 S y2 z U):
  aL 265 #[aK b,mv m,pv p] W λe w'=>e=ay (.agg #[ag y.n,ag y.d,ag z.n,ag z.d])/\Wk aB aS aZ w0 b U w'/\fJ b W w':=by
 have A:=aX h.cell;simp only at A;have r:W.heap.size≠b:=aa;have t:W.heap.size+1≠b:=aa;have hF:∃V,(((W.alloc (ak (mA m) 165)).alloc (ak #[ag p.x.n,ag p.x.d,ag p.y.n,ag p.y.d] 233)).alloc (ak #[ag 0,ag 0,ag 0,ag 0] 233))=V/\Head W m p V/\Wk aB aS aZ w0 b c V/\fJ b W V:=⟨_,rfl,Head.new W m p,((h.alloc _).alloc _).alloc _,(((fJ.refl b W).alloc _).alloc _).alloc _⟩;go_enter func265,ntmps265;go_upto_region 1 with fail;obtain⟨V,hV,B,j,X⟩:=hF;rw[hV];have b0:=h.hb.size;clear hV h;go_upto_region 1 with fail
 go_cut [7] (λs C=>∃R,s=aK R/\Own2 V.heap.size b C R (ag y.n) (ag y.d)/\Wk aB aS aZ w0 b T C/\fJ b V C)
 case first=>
  have hS:=af9 B;have k:=j.drew 1;have D:V.heap.size<=(V.drewN 1).heap.size:=bJ _;have I:fJ b V (V.drewN 1):=fJ.drew b _ 1
  go_region_held3 (λw'=>w'.cell? ⟨W.heap.size,0,none⟩=some (ag m.a.n)/\w'.cell? ⟨W.heap.size,1,none⟩=some (ag m.a.d)/\w'.cell? ⟨W.heap.size+1,0,none⟩=some (ag p.x.n)/\w'.cell? ⟨W.heap.size+1,1,none⟩=some (ag p.x.d)/\w'.cell? ⟨W.heap.size,4,none⟩=some (ag m.c.n)/\w'.cell? ⟨W.heap.size,5,none⟩=some (ag m.c.d)/\w'.cell? ⟨W.heap.size+1,2,none⟩=some (ag p.y.n)/\w'.cell? ⟨W.heap.size+1,3,none⟩=some (ag p.y.d)) (first|assumption|exact aaO gm Y Z|exact aaQ gm|exact ai0 gm|go_keep) (first|(go_at_call_of 328 Q.n;refine(D3 _ ?_).mono ?_;(first|exact l|exact l.alloc _|exact j.nG _);rintro e J ⟨rfl,n,a⟩;have a4:=a1A a r t gm;have z3:V.heap.size<=J.heap.size:=(by first|exact a.lo E|exact a.lo (tJ E)|exact a.lo (qR az));have K:fJ b V J:=(by first|exact L.trans a|exact(L.alloc _).trans a|exact((fJ.refl b V).nG _).trans a);(try have g:=Own2.new l E a);(try have g:=Own2.upto g a);(try(obtain⟨⟨q0,q1,q2,q3⟩,F,u⟩:=g;obtain⟨Y,Z⟩:=a1z B u)))|(go_at_call_of 328 m.c.n;refine(D2 _ ?_).mono ?_;(first|exact o|exact o.alloc _|exact j.nG _);rintro e M ⟨rfl,l,d⟩;have a5:=a1A d r t gm;have E:V.heap.size<=M.heap.size:=(by first|exact d.lo H|exact d.lo (tJ H)|exact d.lo (qR az));have L:fJ b V M:=(by first|exact N.trans d|exact(N.alloc _).trans d|exact((fJ.refl b V).nG _).trans d);(try have g:=Own2.new o H d);(try have g:=Own2.upto g d))|(go_at_call_of 328 m.a.n;refine(D1 _ ?_).mono ?_;(first|exact k|exact k.alloc _|exact j.nG _);rintro e O ⟨rfl,o,f⟩;have a6:=a1A f r t gm;have H:V.heap.size<=O.heap.size:=(by first|exact f.lo D|exact f.lo (tJ D)|exact f.lo (qR az));have N:fJ b V O:=(by first|exact I.trans f|exact(I.alloc _).trans f|exact((fJ.refl b V).nG _).trans f);(try have g:=Own2.new k D f);(try have g:=Own2.af8 j az f)))
  all_goals(go_wp2_with fail;go_meet;first|exact⟨_,rfl,Own2.last n z3,n.alloc _,K.alloc _⟩|exact⟨_,rfl,(Own2.mk (Two.mk q0 q1 q2 q3) F u).store _ _,(n.store (bO j.hb.size u) F _ _).store (bO j.hb.size u) F _ _,(K.store u _ _).store u _ _⟩)
 case rest=>
  obtain⟨R,rfl,hR,w,q⟩:=hcut;replace B:=B.upto q A;replace X:=X.trans q;clear j q;have j:=w;clear w;go_upto_region 2 with fail
  go_cut [8] (λs C=>∃R,s=aK R/\Own2 wc.heap.size b C R (ag z.n) (ag z.d)/\Wk aB aS aZ w0 b U C/\fJ b wc C)
  case first=>
   have hS:=afa B;have k:=j.drew 1;have D:wc.heap.size<=(wc.drewN 1).heap.size:=bJ _;have I:fJ b wc (wc.drewN 1):=fJ.drew b _ 1
   go_region_held3 (λw'=>w'.cell? ⟨W.heap.size,2,none⟩=some (ag m.b.n)/\w'.cell? ⟨W.heap.size,3,none⟩=some (ag m.b.d)/\w'.cell? ⟨W.heap.size+1,0,none⟩=some (ag p.x.n)/\w'.cell? ⟨W.heap.size+1,1,none⟩=some (ag p.x.d)/\w'.cell? ⟨W.heap.size,6,none⟩=some (ag m.d.n)/\w'.cell? ⟨W.heap.size,7,none⟩=some (ag m.d.d)/\w'.cell? ⟨W.heap.size+1,2,none⟩=some (ag p.y.n)/\w'.cell? ⟨W.heap.size+1,3,none⟩=some (ag p.y.d)) (first|assumption|exact aaP gm Y Z|exact aaR gm|exact ai2 gm|go_keep) (first|(go_at_call_of 328 S.n;refine(D6 _ ?_).mono ?_;(first|exact l|exact l.alloc _|exact j.nG _);rintro e J ⟨rfl,n,a⟩;have a4:=tK a r t gm;have z3:wc.heap.size<=J.heap.size:=(by first|exact a.lo E|exact a.lo (tJ E)|exact a.lo (qR az));have K:fJ b wc J:=(by first|exact L.trans a|exact(L.alloc _).trans a|exact((fJ.refl b wc).nG _).trans a);(try have g:=Own2.new l E a);(try have g:=Own2.upto g a);(try(obtain⟨⟨q0,q1,q2,q3⟩,F,u⟩:=g;obtain⟨Y,Z⟩:=a1z B u)))|(go_at_call_of 328 m.d.n;refine(D5 _ ?_).mono ?_;(first|exact o|exact o.alloc _|exact j.nG _);rintro e M ⟨rfl,l,d⟩;have a5:=tK d r t gm;have E:wc.heap.size<=M.heap.size:=(by first|exact d.lo H|exact d.lo (tJ H)|exact d.lo (qR az));have L:fJ b wc M:=(by first|exact N.trans d|exact(N.alloc _).trans d|exact((fJ.refl b wc).nG _).trans d);(try have g:=Own2.new o H d);(try have g:=Own2.upto g d))|(go_at_call_of 328 m.b.n;refine(D4 _ ?_).mono ?_;(first|exact k|exact k.alloc _|exact j.nG _);rintro e O ⟨rfl,o,f⟩;have a6:=tK f r t gm;have H:wc.heap.size<=O.heap.size:=(by first|exact f.lo D|exact f.lo (tJ D)|exact f.lo (qR az));have N:fJ b wc O:=(by first|exact I.trans f|exact(I.alloc _).trans f|exact((fJ.refl b wc).nG _).trans f);(try have g:=Own2.new k D f);(try have g:=Own2.af8 j az f)))
   all_goals(go_wp2_with fail;go_meet;first|exact⟨_,rfl,Own2.last n z3,n.alloc _,K.alloc _⟩|exact⟨_,rfl,(Own2.mk (Two.mk q0 q1 q2 q3) F u).store _ _,(n.store (bO j.hb.size u) F _ _).store (bO j.hb.size u) F _ _,(K.store u _ _).store u _ _⟩)
  case rest=>
   obtain⟨R2,rfl,a7,w,q⟩:=hcut;have i:=B.upto q A;have a8:=X.trans q;have a9:=hR.t.upto q hR.ne;obtain⟨a0,a1,a2,a3⟩:=a9;obtain⟨d0,d1,d2,d3⟩:=a7.t;obtain⟨e0,e1,e2,e3⟩:=And.intro i.r0 (And.intro i.r1 (And.intro i.r2 i.r3));obtain⟨f0,f1,f2,f3⟩:=And.intro i.f0 (And.intro i.f1 (And.intro i.f2 i.f3));go_wp2;refine bg (v:=.agg #[ag y.n,ag y.d,ag z.n,ag z.d]) (by simp[results,results265,go_sem,e0,e1,e2,e3]) rfl ⟨rfl,?_,?_⟩
   .have x:w0.heap.size<=W.heap.size+1+1:=aa;have P:W.heap.size+1+1≠b:=aa;exact(((w.store x P _ _).store x P _ _).store x P _ _).store x P _ _
   .have x:W.heap.size<=W.heap.size+1+1:=aa;exact(((a8.store x _ _).store x _ _).store x _ _).store x _ _

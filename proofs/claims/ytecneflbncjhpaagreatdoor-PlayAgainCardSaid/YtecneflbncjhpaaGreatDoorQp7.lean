/- Parts of the proof. -/
import Derived.Test.YtecneflbncjhpaaGreatDoorQp4
import Derived.Deep.DeepCutAuto
namespace Go.Proofs.YtecneflbncjhpaaGreatDoor
open Go.Proofs.Tryz
set_option maxHeartbeats 8000000
section
structure Fr where
 n:Int
 d:Int
deriving DecidableEq
structure Pt where
 x:Fr
 y:Fr
deriving DecidableEq
structure Mv where
 a:Fr
 b:Fr
 c:Fr
 d:Fr
 e:Fr
 f:Fr
deriving DecidableEq
def Fr.zero:Fr:=⟨0,0⟩
def Pt.zero:Pt:=⟨.zero,.zero⟩
def Mv.zero:Mv:=⟨.zero,.zero,.zero,.zero,.zero,.zero⟩
def Fr.whole (n:Int):Fr:=⟨n,1⟩
def Mv.one:Mv:=⟨.whole 1,.whole 0,.whole 0,.whole 1,.whole 0,.whole 0⟩
def Fr.ok (x:Fr):Prop:=dH x.n x.d=0
def Pt.ok (p:Pt):Prop:=p.x.ok/\p.y.ok
def Mv.ok (m:Mv):Prop:=m.a.ok/\m.b.ok/\m.c.ok/\m.d.ok/\m.e.ok/\m.f.ok
abbrev Op4:=Int->Int->Int->Int->R3
def um (op:Op4)(c:Nat)(x y:Fr):Fr×Nat:=
 if c=0 then(⟨(op x.n x.d y.n y.d).n,(op x.n x.d y.n y.d).d⟩,(op x.n x.d y.n y.d).c) else(.zero,c)
def xK (c:Nat)(a x b y:Fr):Fr×Nat:=
 um add (um mul (um mul c a x).2 b y).2 (um mul c a x).1 (um mul (um mul c a x).2 b y).1
def bN (c:Nat)(m:Mv)(p:Pt):Pt×Nat:=
 (⟨(xK c m.a p.x m.c p.y).1,(xK (xK c m.a p.x m.c p.y).2 m.b p.x m.d p.y).1⟩,(xK (xK c m.a p.x m.c p.y).2 m.b p.x m.d p.y).2)
def dm (c:Nat)(m:Mv)(p:Pt):Pt×Nat:=
 (⟨(um add (bN c m p).2 (bN c m p).1.x m.e).1,(um add (um add (bN c m p).2 (bN c m p).1.x m.e).2 (bN c m p).1.y m.f).1⟩,
  (um add (um add (bN c m p).2 (bN c m p).1.x m.e).2 (bN c m p).1.y m.f).2)
def thenS (m n:Mv):Mv×Nat:=
 (⟨(bN 0 n ⟨m.a,m.b⟩).1.x,(bN 0 n ⟨m.a,m.b⟩).1.y,
  (bN (bN 0 n ⟨m.a,m.b⟩).2 n ⟨m.c,m.d⟩).1.x,(bN (bN 0 n ⟨m.a,m.b⟩).2 n ⟨m.c,m.d⟩).1.y,
  (dm (bN (bN 0 n ⟨m.a,m.b⟩).2 n ⟨m.c,m.d⟩).2 n ⟨m.e,m.f⟩).1.x,(dm (bN (bN 0 n ⟨m.a,m.b⟩).2 n ⟨m.c,m.d⟩).2 n ⟨m.e,m.f⟩).1.y⟩,
  (dm (bN (bN 0 n ⟨m.a,m.b⟩).2 n ⟨m.c,m.d⟩).2 n ⟨m.e,m.f⟩).2)
def Fr.val (x:Fr):Rat:=(x.n:Rat)/(x.d:Rat)
theorem Fr.xL {x:Fr}(h:x.ok):x.d≠0:=by have:=(eO.1 h).1;omega
structure Good (op:Op4)(F:Rat->Rat->Rat):Prop where
 two:∀x y:Fr,x.ok->y.ok->(op x.n x.d y.n y.d).c=0\/op x.n x.d y.n y.d=⟨0,0,2⟩
 val:∀x y:Fr,∀p q,op x.n x.d y.n y.d=⟨p,q,0⟩->x.ok/\y.ok/\Fr.ok ⟨p,q⟩/\Fr.val ⟨p,q⟩=F x.val y.val
theorem jM:Good add (·+·) where
 two x y hx hy:=by
  unfold add;unfold Fr.ok at hx hy;rw[if_neg (by simp[hx]),if_neg (by simp[hy])];rcases xx (n:=x.n*y.d+y.n*x.d) (d:=x.d*y.d) with h|h
  ·exact .inr h
  ·exact .inl h
 val x y p q h:=by
  obtain⟨h1,h2,h3,h4⟩:=Al.1 h;refine⟨h1,h2,h3,?_⟩;have e1:(x.d:Rat)≠0:=by simpa using Fr.xL h1
  have e2:(y.d:Rat)≠0:=by simpa using Fr.xL h2
  have e3:(q:Rat)≠0:=by simpa using Fr.xL (x:=⟨p,q⟩) h3
  have e4:(p:Rat)*(x.d*y.d)=(x.n*y.d+y.n*x.d)*q:=by exact_mod_cast h4
  unfold Fr.val;simp only;grind
theorem iy:Good mul (·* ·) where
 two x y hx hy:=by
  unfold mul;unfold Fr.ok at hx hy;rw[if_neg (by simp[hx]),if_neg (by simp[hy])];rcases xx (n:=x.n*y.n) (d:=x.d*y.d) with h|h
  ·exact .inr h
  ·exact .inl h
 val x y p q h:=by
  obtain⟨h1,h2,h3,h4⟩:=VJ.1 h;refine⟨h1,h2,h3,?_⟩;have e1:(x.d:Rat)≠0:=by simpa using Fr.xL h1
  have e2:(y.d:Rat)≠0:=by simpa using Fr.xL h2
  have e3:(q:Rat)≠0:=by simpa using Fr.xL (x:=⟨p,q⟩) h3
  have e4:(p:Rat)*(x.d*y.d)=(x.n*y.n)*q:=by exact_mod_cast h4
  unfold Fr.val;simp only;grind
theorem Good.step {op:Op4}{F:Rat->Rat->Rat}(g:Good op F){c:Nat}{x y:Fr}(hc:c=0\/c=2)(hx:c=0->x.ok)(hy:c=0->y.ok):
  ((um op c x y).2=0\/(um op c x y).2=2)/\((um op c x y).2=0->c=0/\(um op c x y).1.ok/\(um op c x y).1.val=F x.val y.val):=by
 rcases hc with rfl|rfl
 ·rcases g.two x y (hx rfl) (hy rfl) with h|h
  ·have:=g.val x y (op x.n x.d y.n y.d).n (op x.n x.d y.n y.d).d (by rw[<- h]);simp only[um,if_pos,h];exact⟨.inl trivial,fun _=>⟨trivial,this.2.2.1,this.2.2.2⟩⟩
  ·simp[um,h]
 ·simp[um]
theorem wC {c:Nat}{a x b y:Fr}(hc:c=0\/c=2)(ha:a.ok)(hx:x.ok)(hb:b.ok)(hy:y.ok):
  ((xK c a x b y).2=0\/(xK c a x b y).2=2)/\((xK c a x b y).2=0->c=0/\(xK c a x b y).1.ok/\(xK c a x b y).1.val=a.val*x.val+b.val*y.val):=by
 obtain⟨h1,k1⟩:=iy.step hc (fun _=>ha) (fun _=>hx);obtain⟨h2,k2⟩:=iy.step h1 (fun _=>hb) (fun _=>hy);obtain⟨h3,k3⟩:=jM.step h2 (x:=(um mul c a x).1) (y:=(um mul (um mul c a x).2 b y).1) (fun e=>(k1 (k2 e).1).2.1) (fun e=>(k2 e).2.1);refine⟨h3,fun e=>?_⟩;obtain⟨e2,o3,v3⟩:=k3 e;obtain⟨e1,_,v2⟩:=k2 e2;obtain⟨e0,_,v1⟩:=k1 e1;exact⟨e0,o3,by rw[xK,v3,v2,v1]⟩
theorem jA {c:Nat}{m:Mv}{p:Pt}(hc:c=0\/c=2)(hm:m.ok)(hp:p.ok):
  ((bN c m p).2=0\/(bN c m p).2=2)/\((bN c m p).2=0->c=0/\(bN c m p).1.ok/\
   (bN c m p).1.x.val=m.a.val*p.x.val+m.c.val*p.y.val/\(bN c m p).1.y.val=m.b.val*p.x.val+m.d.val*p.y.val):=by
 obtain⟨h1,k1⟩:=wC hc hm.1 hp.1 hm.2.2.1 hp.2;obtain⟨h2,k2⟩:=wC h1 hm.2.1 hp.1 hm.2.2.2.1 hp.2;refine⟨h2,fun e=>?_⟩;obtain⟨e1,o2,v2⟩:=k2 e;obtain⟨e0,o1,v1⟩:=k1 e1;exact⟨e0,⟨o1,o2⟩,v1,v2⟩
theorem uX {c:Nat}{m:Mv}{p:Pt}(hc:c=0\/c=2)(hm:m.ok)(hp:p.ok):
  ((dm c m p).2=0\/(dm c m p).2=2)/\((dm c m p).2=0->c=0/\(dm c m p).1.ok/\
   (dm c m p).1.x.val=m.a.val*p.x.val+m.c.val*p.y.val+m.e.val/\(dm c m p).1.y.val=m.b.val*p.x.val+m.d.val*p.y.val+m.f.val):=by
 obtain⟨h1,k1⟩:=jA hc hm hp;unfold dm;generalize bN c m p=t at h1 k1⊢;obtain⟨h2,k2⟩:=jM.step h1 (x:=t.1.x) (y:=m.e) (fun e=>(k1 e).2.1.1) (fun _=>hm.2.2.2.2.1);generalize um add t.2 t.1.x m.e=u at h2 k2⊢;obtain⟨h3,k3⟩:=jM.step h2 (x:=t.1.y) (y:=m.f) (fun e=>(k1 (k2 e).1).2.1.2) (fun _=>hm.2.2.2.2.2);generalize um add u.2 t.1.y m.f=v at h3 k3⊢;refine⟨h3,fun e=>?_⟩;obtain⟨e2,o3,v3⟩:=k3 e;obtain⟨e1,o2,v2⟩:=k2 e2;obtain⟨e0,_,v0,v1⟩:=k1 e1;exact⟨e0,⟨o2,o3⟩,v2.trans (by rw[v0]),v3.trans (by rw[v1])⟩
theorem xM {m n:Mv}(hm:m.ok)(hn:n.ok):
  ((thenS m n).2=0\/(thenS m n).2=2)/\((thenS m n).2=0->(thenS m n).1.ok/\
   (thenS m n).1.a.val=n.a.val*m.a.val+n.c.val*m.b.val/\(thenS m n).1.b.val=n.b.val*m.a.val+n.d.val*m.b.val/\
   (thenS m n).1.c.val=n.a.val*m.c.val+n.c.val*m.d.val/\(thenS m n).1.d.val=n.b.val*m.c.val+n.d.val*m.d.val/\
   (thenS m n).1.e.val=n.a.val*m.e.val+n.c.val*m.f.val+n.e.val/\(thenS m n).1.f.val=n.b.val*m.e.val+n.d.val*m.f.val+n.f.val):=by
 obtain⟨h1,k1⟩:=jA (c:=0) (m:=n) (p:=⟨m.a,m.b⟩) (.inl rfl) hn ⟨hm.1,hm.2.1⟩;unfold thenS;generalize bN 0 n ⟨m.a,m.b⟩=t at h1 k1⊢;obtain⟨h2,k2⟩:=jA (m:=n) (p:=⟨m.c,m.d⟩) h1 hn ⟨hm.2.2.1,hm.2.2.2.1⟩;generalize bN t.2 n ⟨m.c,m.d⟩=u at h2 k2⊢;obtain⟨h3,k3⟩:=uX (m:=n) (p:=⟨m.e,m.f⟩) h2 hn ⟨hm.2.2.2.2.1,hm.2.2.2.2.2⟩;generalize dm u.2 n ⟨m.e,m.f⟩=v at h3 k3⊢;refine⟨h3,fun e=>?_⟩;obtain⟨e2,o3,v3,w3⟩:=k3 e;obtain⟨e1,o2,v2,w2⟩:=k2 e2;obtain⟨_,o1,v1,w1⟩:=k1 e1;exact⟨⟨o1.1,o1.2,o2.1,o2.2,o3.1,o3.2⟩,v1,w1,v2,w2,v3,w3⟩
end
section
open Go.RowKit Go.Shelf
set_option maxRecDepth 100000
attribute [local go_sem] Oper.semAt_some
structure Item where
 i:Int
 x:Fr
 h1:jH x.n
 h2:jH x.d
abbrev fv (x:Fr):ah:=.agg #[aa x.n,aa x.d]
abbrev a8V (x:Item):Array ah:=#[aa x.i,.agg #[aa x.x.n,aa x.x.d]]
theorem NY {α:Type}(xs:List α)(k:Nat)(h:k<xs.length):xs.take (k+1)=xs.take k++[xs[k]]:=by
 rw[List.take_add_one,dK h];rfl
theorem GR (F:Fence)(n:Nat)(hf:F.fn 291)(hro:F.round=none)(hn:1<=n)(l Bl Bf n₀ b len cap:Nat)(fr:Nat)(xs:List Item)(hx:xs.length=len)(hlen:len<=1000)(hfr:fr<=1000)(hb:b<n₀)(a8W:Bf<n₀)(J Jx:List Item->ag->Prop)
    (hJ:∀s W W',J s W->W.grownBy W' none->J s W')
    (hY:∀pre x W,J pre W->pre.length<len->YieldAt F (n-1) prog l #[aa x.i,.agg #[aa x.x.n,aa x.x.d]] W fun e W'=>
      (e=.returned (.bool true)/\J (pre++[x]) W'/\Below n₀ W W')\/(e=.returned (.bool false)/\Jx (pre++[x]) W'))
    (W:ag) (hn₀:n₀<=W.heap.size) (hBl:W.cell? (ak Bl 0)=some (.slice (some ⟨b,0,none⟩) len cap)) (hBf:W.cell? (ak Bf 0)=some (aa fr))
    (hc0:∀j (h:j<xs.length),W.cell? (ak b (j*2))=some (aa xs[j].x.n)) (hc1:∀j (h:j<xs.length),W.cell? (ak b (j*2+1))=some (aa xs[j].x.d))
    (hi:∀j (h:j<xs.length),xs[j].i=fr+j) (h0:J [] W):
    CallsIn F n prog 291 #[.func (.yield l) #[] #[],ay Bl,ay Bf] W fun e W'=>(∃v,e=.returned v)/\
      ((∃ys,ys=xs/\J ys W')\/(∃pre,pre<+:xs/\Jx pre W')):=by
  refine callsIn_of_wp func291 rfl hf ?_ hro;simp only[ntmps291,List.size_toArray,List.length_cons,List.length_nil,Nat.reduceAdd,Nat.reduceSub,Array.replicate_succ,Array.replicate_zero,List.push_toArray,List.append_toArray,List.nil_append,List.cons_append]
  gi_wp2
  gi_loopw [8] (fun i wr=>∃k:Nat,k<=len/\i=aa k/\J (xs.take k) wr/\Below n₀ W wr)
    (fun i _=>len-(intOf i).toNat)
  case atStart=>exact⟨0,aP _,rfl,h0,aG _ _⟩
  case round=>
    obtain⟨k,hk,rfl,hJs,hnx⟩:=hrel;by_cases hlt:k<len
    · have hkx:k<xs.length:=by omega
      have c0:=(hnx.cell (p:=⟨b,k*2,none⟩) hb).trans (hc0 k hkx);have c1:=(hnx.cell (p:=⟨b,k*2+1,none⟩) hb).trans (hc1 k hkx);have cf:=(hnx.cell (p:=⟨Bf,0,none⟩) a8W).trans hBf;have hii:=hi k hkx;have hts:=NY xs k hkx;generalize xs[k]=x at c0 c1 hii hts;have hg:wr.grownBy (wr.alloc (.cells #[aa x.x.n,aa x.x.d] 123)) none:=World.grownBy_alloc wr _ none;have hal:=(aG n₀ wr).alloc (aJ hn₀ hnx.size) (.cells #[aa x.x.n,aa x.x.d] 123);have cfa:=(hal.cell (p:=⟨Bf,0,none⟩) a8W).trans cf;obtain⟨fn,tmps,assign,body,hy,hR⟩:=hY (xs.take k) x (wr.alloc (.cells #[aa x.x.n,aa x.x.d] 123)) (hJ _ _ _ hJs hg) (by rw[List.length_take];omega);rw[hii] at hy
      gi_wp2
      refine hR.mono ?_;rintro e W3 (⟨rfl,hJ3,hk3⟩|⟨rfl,hJx3⟩)
      · gi_wp2
        go_roundw
        case rel=>exact⟨k+1,by omega,by simp,by rw[hts];exact hJ3,hnx.trans (hal.trans hk3)⟩
        case measure=>simp[intOf];omega
      · gi_wp2
        refine bodyPost_ret (results_none rfl _ _ _) rfl ?_;exact⟨⟨_,rfl⟩,.inr ⟨_,by rw[<- hts];exact List.take_prefix _ _,hJx3⟩⟩
    · obtain rfl:k=len:=by omega
      gi_wp2
      go_end0
      exact⟨⟨_,rfl⟩,.inl ⟨_,by rw[List.take_of_length_le (by omega)],hJs⟩⟩
end
section
open Go.RowKit Go.Shelf
set_option maxRecDepth 100000
attribute [local go_sem] Oper.semAt_some
theorem lq {W W':ag}(h:Below W.heap.size W W'):KeepsOthers W W':=
 ⟨h.size,fun k _ hk _=>(h.block k (cZ.1 hk).1).trans hk⟩
theorem NZ (W:ag)(v:ah)(t:TypeId):(W.alloc (.cells #[v] t)).cell? ⟨W.heap.size,0,none⟩=some v/\(W.alloc (.cells #[v] t)).frozen? ⟨W.heap.size,0,none⟩=false:=⟨by simp,by simp⟩
theorem ax {W:ag}{a:Addr}{v:ah}(o:Obj)(h:W.cell? a=some v):(W.alloc o).cell? a=some v:=cell_kept h (World.grownBy_alloc W o none) (fun r e=>by cases e)
theorem eP {W:ag}{a:Addr}{v:ah}(o:Obj)(h:W.cell? a=some v)(hf:W.frozen? a=false):(W.alloc o).frozen? a=false:=(frozen_kept h (World.grownBy_alloc W o none) (fun r e=>by cases e)).trans hf
structure wD (W:ag)(n₀ Bl Bf b cap fr:Nat)(xs:List Item):Prop where
 lb:Bl<n₀
 lf:Bf<n₀
 ls:b<n₀
 l:W.cell? (ak Bl 0)=some (.slice (some ⟨b,0,none⟩) xs.length cap)
 f:W.cell? (ak Bf 0)=some (aa fr)
 c0:∀j (h:j<xs.length),W.cell? (ak b (j*2))=some (aa xs[j].x.n)
 c1:∀j (h:j<xs.length),W.cell? (ak b (j*2+1))=some (aa xs[j].x.d)
 i:∀j (h:j<xs.length),xs[j].i=fr+j
 len:xs.length<=1000
 fr:fr<=1000
theorem wD.below {W W':ag}{n₀ Bl Bf b cap fr:Nat}{xs:List Item}(h:wD W n₀ Bl Bf b cap fr xs)(hb:Below n₀ W W'):wD W' n₀ Bl Bf b cap fr xs:=
 ⟨h.lb,h.lf,h.ls,(hb.cell (p:=⟨Bl,0,none⟩) h.lb).trans h.l,(hb.cell (p:=⟨Bf,0,none⟩) h.lf).trans h.f,fun j hj=>(hb.cell (p:=⟨b,j*2,none⟩) h.ls).trans (h.c0 j hj),fun j hj=>(hb.cell (p:=⟨b,j*2+1,none⟩) h.ls).trans (h.c1 j hj),h.i,h.len,h.fr⟩
theorem Bt (F:Fence)(n:Nat)(hf:F.fn 291)(hro:F.round=none)(hn:1<=n)(Bl Bf n₀ b cap fr:Nat)(xs:List Item)(w:ag)(hn₀:n₀<=w.heap.size)(h:wD w n₀ Bl Bf b cap fr xs):
  SeqStopsK F n prog 291 #[ay Bl,ay Bf] a8V (Below n₀) (fun ys=>ys=xs) (fun pre=>pre<+:xs) xs.length w:=fun l J Jx W hW hJ _ hY h0=>by
 have h':=h.below (hW.mono hn₀);exact GR F n hf hro hn l Bl Bf n₀ b xs.length cap fr xs rfl h.len h.fr h.ls h.lf J Jx (fun s A B hs hg=>hJ s A B none hs hg (fun r e=>by cases e)) hY W (aJ hn₀ hW.size) h'.l h'.f h'.c0 h'.c1 h'.i h0
theorem a0O {β:Type}(B:Nat)(x y:ah):Own (fun(_:β) W=>Two W B x y):=fun _ _ _ _ hs hg hr=>
 ⟨cell_kept hs.c0 hg hr,cell_kept hs.c1 hg hr,(frozen_kept hs.c0 hg hr).trans hs.f0,(frozen_kept hs.c1 hg hr).trans hs.f1⟩
def Qq (aB aS aZ:Addr)(w:ag)(xs:List Item)(e:Ending)(W:ag):Prop:=
 ((∀y∈xs,dH y.x.n y.x.d=0)/\e=.returned .nilIface)\/
 (∃q x r pb,xs=q++x::r/\(∀y∈q,dH y.x.n y.x.d=0)/\dH x.x.n x.x.d≠0/\w.heap.size<=pb/\e=.returned (.iface 90 (ay pb))/\W.cell? (ak pb 0)=some (aa x.i)/\W.cell? (ak pb 1)=some (er aB aS aZ (dH x.x.n x.x.d)))
theorem JP (aB aS aZ:Addr)(Bl Bf b cap fr:Nat)(xs:List Item)(w:ag)(h:wD w w.heap.size Bl Bf b cap fr xs)(hE:E3 aB aS aZ w):
  CallsIn Fence.wide 9 prog 245 #[.func (.func 291) #[] #[ay Bl,ay Bf]] w fun e W=>Qq aB aS aZ w xs e W/\Below w.heap.size w W:=by
 refine callsIn_of_wp_marks func245 rfl trivial ?_ rfl;simp only[ntmps245,List.size_toArray,List.length_cons,List.length_nil,Nat.reduceAdd,Nat.reduceSub,Array.replicate_succ,Array.replicate_zero,List.push_toArray,List.append_toArray,List.nil_append,List.cons_append]
 gi_wp2
 have c0:=NZ w .nilIface 26;have hB0:Below w.heap.size w (w.alloc (.cells #[.nilIface] 26)):=(aG _ w).alloc ai _;refine wpIn_rangeFunc_ownH rfl (by omega) (gf:=291) (lb:=#[ay Bl,ay Bf]) rfl trivial (enters_of func291 (by kernel_rfl) rfl)
  (Bt Fence.wide _ trivial rfl (by omega) Bl Bf w.heap.size b cap fr xs _ (by simp) (h.below hB0)) belowK_t (belowK_b (by simp)) (aG _ _) (fun _=>rfl)
  (fun pre W=>((∀y∈pre,dH y.x.n y.x.d=0)/\W.cell? ⟨w.heap.size,0,none⟩=some .nilIface/\W.frozen? ⟨w.heap.size,0,none⟩=false)/\Below w.heap.size w W)
  (fun c pre W=>(c=.ret/\∃q x pb,pre=q++[x]/\(∀y∈q,dH y.x.n y.x.d=0)/\dH x.x.n x.x.d≠0/\w.heap.size<=pb/\W.cell? ⟨w.heap.size,0,none⟩=some (.iface 90 (ay pb))/\W.cell? (ak pb 0)=some (aa x.i)/\W.cell? (ak pb 1)=some (er aB aS aZ (dH x.x.n x.x.d)))/\Below w.heap.size w W)
  (OwnFrom.and (Own.from (fun s A B row hs hg hr=>⟨hs.1,cell_kept hs.2.1 hg hr,(frozen_kept hs.2.1 hg hr).trans hs.2.2⟩) _) (ownFrom_below ai (by simp)))
  (fun c=>OwnFrom.and (Own.from (fun s A B row hs hg hr=>by obtain⟨h1,q,x,pb,h2,h3,h4,h5,h6,h7,h8⟩:=hs;exact⟨h1,q,x,pb,h2,h3,h4,h5,cell_kept h6 hg hr,cell_kept h7 hg hr,cell_kept h8 hg hr⟩) _) (ownFrom_below ai (by simp)))
  ⟨⟨by simp,c0.1,c0.2⟩,hB0⟩
  (fun x a' W=>∃Bx,w.heap.size<Bx/\Two W Bx (aa x.x.n) (aa x.x.d)/\a'={tmps:=#[.func (.func 291) #[] #[ay Bl,ay Bf],undef,ay w.heap.size,aa x.i,ay Bx,undef,.func (.func 291) #[] #[ay Bl,ay Bf],aa x.i,.agg #[aa x.x.n,aa x.x.d],undef,undef,undef,undef,undef,undef,undef,undef,undef],defers:=[]})
  (fun x a' s A B row hs hg hr=>by obtain⟨Bx,h1,h2,h3⟩:=hs;exact⟨Bx,h1,(a0O Bx _ _) () A B row h2 hg (fun r e=>(hr r e).2),h3⟩)
  ?assign ?body ?done ?stop
 case assign=>
  rintro l pre x W K ⟨⟨hp,hc,hf⟩,hB⟩ hK
  gi_wp2
  have hs:=hB.size;have hlt:=aF hc;exact hK _ _ ((KeepsOthers.alloc _ _).from _) ((aG _ W).alloc hs _) ⟨⟨hp,ax _ hc,eP _ hc hf⟩,hB.alloc hs _⟩ ⟨W.heap.size,hlt,Two.new W _ _ _,rfl⟩
 case body=>
  rintro l pre x a' W hl hr ⟨⟨hp,hc,hf⟩,hB⟩ ⟨Bx,hBx,⟨k1,k2,k3,k4⟩,rfl⟩ hlt;have hlt:=aF hc;have hEW:=hE.below hB ai;have HK:=iR aB aS aZ x.x.n x.x.d W x.h1 x.h2 hEW;by_cases hx:dH x.x.n x.x.d=0
  ·rw[hx] at HK
   gi_wp2_with (refine⟨trivial,?_⟩;gi_at_call 133;refine(CallsIn.inRound l (callsIn_wide.2 HK)).mono ?_;rintro e w' ⟨rfl,hb⟩;simp only[qM])
   exact⟨(lq hb).from _,hb.mono hB.size,⟨fun y hy=>(List.mem_append.1 hy).elim (hp y) (fun e=>by simp at e;subst e;exact hx),(hb.cell (p:=⟨w.heap.size,0,none⟩) hlt).trans hc,(hb.frozen (p:=⟨w.heap.size,0,none⟩) hlt).trans hf⟩,hB.trans (hb.mono hB.size)⟩
  ·obtain⟨a,ha⟩:=gM aB aS aZ (show dH x.x.n x.x.d=2\/dH x.x.n x.x.d=3 by have:=fC x.x.n x.x.d;omega);have HC:=aj ha;have HX:=aj hx;rw[ha] at HK;clear ha hx
   gi_wp2_with (refine⟨trivial,?_⟩;gi_at_call 133;refine(CallsIn.inRound l (callsIn_wide.2 HK)).mono ?_;rintro e w' ⟨rfl,hb⟩;have hz:=hb.size;have hc2:=(hb.cell (p:=⟨w.heap.size,0,none⟩) hlt).trans hc;have hf2:=(hb.frozen (p:=⟨w.heap.size,0,none⟩) hlt).trans hf;have hc3:=fun o=>ax o hc2;have hf3:=fun o=>eP o hc2 hf2)
   have hne:w'.heap.size≠w.heap.size:=by omega
   refine⟨((lq hb).trans ((KeepsOthers.alloc _ _).trans (eF _ _ _))).from _,⟨rfl,pre,x,w'.heap.size,rfl,hp,HX.out,by have:=hB.size;omega,fM _ _ _ (by rw[hc3];rfl),?_,?_⟩,?_⟩
   ·rw[aO _ _ _ _ (fun e=>hne e.symm)];simp
   ·rw[HC.out,aO _ _ _ _ (fun e=>hne e.symm)];simp
   ·exact(hB.trans (hb.mono hB.size)).alloc (by have:=hB.size;omega) _|>.setCell (by simp) _
 case done=>
  rintro D ys W hD rfl ⟨⟨hp,hcr,hfr⟩,hB⟩ hK
  gi_wp2
  have hK':=(eF W ⟨w.heap.size,0,none⟩ .nilIface).same D _ hK rfl;refine⟨by simp,.inl ⟨_,_,rfl,run_takeDeferred hK',?_⟩⟩;have hc5:=cell_kept (fM W ⟨w.heap.size,0,none⟩ .nilIface (by rw[hcr];rfl)) (grownBy_putObj' _ D (.deferred none)) (fun r e=>by cases e;exact⟨_,hK',rfl⟩);refine⟨.nilIface,?_,.inl ⟨hp,rfl⟩,(hB.setCell (p:=⟨w.heap.size,0,none⟩) (by simp) _).trans (belowK_b (w:=w) ai _ D _ _ (by simp at hD;omega) hK' rfl rfl)⟩;simp[results,results245,go_sem,hc5]
 case stop=>
  rintro D c pre W hD hpre ⟨⟨rfl,q,x,pb,rfl,h3,h4,h5,h6,h7,h8⟩,hB⟩ hK
  gi_wp2
  refine⟨by simp,.inl ⟨_,_,rfl,run_takeDeferred hK,?_⟩⟩;have hr:∀r,some D=some r->∃o:Obj,W.heap[r]? =some o/\o.isCells=false:=fun r e=>by cases e;exact⟨_,hK,rfl⟩
  have hg:=grownBy_putObj' W D (.deferred none);have hc5:=cell_kept h6 hg hr;obtain⟨r,hr'⟩:=hpre;refine⟨_,?_,.inr ⟨q,x,r,pb,by rw[<- hr'];simp,h3,h4,h5,rfl,cell_kept h7 hg hr,cell_kept h8 hg hr⟩,hB.trans (belowK_b (w:=w) ai W D _ _ (by simp at hD;omega) hK rfl rfl)⟩;simp[results,results245,go_sem,hc5]
end
section
open Go.RowKit Go.Shelf
abbrev pv (p:Pt):ah:=.agg #[aa p.x.n,aa p.x.d,aa p.y.n,aa p.y.d]
abbrev zA:Array ah:=#[aa 0,aa 0,aa 0,aa 0,aa 0,aa 0,aa 0,aa 0,aa 0,aa 0,aa 0,aa 0]
abbrev zL:List ah:=[aa 0,aa 0,aa 0,aa 0,aa 0,aa 0,aa 0,aa 0,aa 0,aa 0,aa 0,aa 0]
abbrev oA:Array ah:=#[aa 1,aa 1,aa 0,aa 1,aa 0,aa 1,aa 1,aa 1,aa 0,aa 1,aa 0,aa 1]
abbrev oL:List ah:=[aa 1,aa 1,aa 0,aa 1,aa 0,aa 1,aa 1,aa 1,aa 0,aa 1,aa 0,aa 1]
abbrev mA (m:Mv):Array ah:=#[aa m.a.n,aa m.a.d,aa m.b.n,aa m.b.d,aa m.c.n,aa m.c.d,aa m.d.n,aa m.d.d,aa m.e.n,aa m.e.d,aa m.f.n,aa m.f.d]
abbrev mL (m:Mv):List ah:=[aa m.a.n,aa m.a.d,aa m.b.n,aa m.b.d,aa m.c.n,aa m.c.d,aa m.d.n,aa m.d.d,aa m.e.n,aa m.e.d,aa m.f.n,aa m.f.d]
abbrev mv (m:Mv):ah:=.agg #[aa m.a.n,aa m.a.d,aa m.b.n,aa m.b.d,aa m.c.n,aa m.c.d,aa m.d.n,aa m.d.d,aa m.e.n,aa m.e.d,aa m.f.n,aa m.f.d]
def Fr.i64 (x:Fr):Prop:=jH x.n/\jH x.d
def Pt.i64 (p:Pt):Prop:=p.x.i64/\p.y.i64
def Mv.i64 (m:Mv):Prop:=m.a.i64/\m.b.i64/\m.c.i64/\m.d.i64/\m.e.i64/\m.f.i64
def aL:Nat->List Fr->Nat×Nat
 |_,[]=>(0,0)
 |i,x::r=>if dH x.n x.d=0 then aL (i+1) r else(dH x.n x.d,i)
theorem kG:∀(l:List Fr) (i:Nat),(∀y∈l,dH y.n y.d=0)->aL i l=(0,0)
 |[],_,_=>rfl
 |x::r,i,h=>by unfold aL;rw[if_pos (h x (by simp))];exact kG r (i+1) (fun y hy=>h y (by simp[hy]))
theorem uo:∀(q:List Fr) (x:Fr) (r:List Fr) (i:Nat),(∀y∈q,dH y.n y.d=0)->dH x.n x.d≠0->aL i (q++x::r)=(dH x.n x.d,i+q.length)
 |[],x,r,i,_,h=>by unfold aL;simp[h]
 |y::q,x,r,i,hq,h=>by
  rw[List.cons_append,aL,if_pos (hq y (by simp)),uo q x r (i+1) (fun z hz=>hq z (by simp[hz])) h];simp;omega
def Told (aB aS aZ:Addr)(B:Nat)(r:Nat×Nat)(v:ah)(W:ag):Prop:=
 (r.1=0/\v=.nilIface)\/
 (r.1≠0/\(r.1=2\/r.1=3)/\∃pb,B<=pb/\v=.iface 90 (ay pb)/\W.cell? (ak pb 0)=some (aa r.2)/\W.cell? (ak pb 1)=some (er aB aS aZ r.1))
theorem Told.mono {aB aS aZ:Addr}{B B':Nat}{r:Nat×Nat}{v:ah}{W:ag}(h:Told aB aS aZ B r v W)(hB:B'<=B):Told aB aS aZ B' r v W:=by
 rcases h with h|⟨h1,h2,pb,h3,h4⟩
 ·exact .inl h
 ·exact .inr ⟨h1,h2,pb,aJ hB h3,h4⟩
theorem a0P {aB aS aZ:Addr}{w:ag}{xs:List Item}{e:Ending}{W:ag}{fr:Nat}(hi:∀j (h:j<xs.length),xs[j].i=fr+j)(h:Qq aB aS aZ w xs e W):∃v,e=.returned v/\Told aB aS aZ w.heap.size (aL fr (xs.map (·.x))) v W:=by
 rcases h with⟨h1,h2⟩|⟨q,x,r,pb,rfl,h3,h4,h5,h6,h7,h8⟩
 ·rw[kG _ _ (by simpa using h1)];exact⟨_,h2,.inl ⟨rfl,rfl⟩⟩
 ·have hx:=hi q.length (by simp);rw[List.getElem_append_right ai] at hx;simp only[Nat.sub_self,List.getElem_cons_zero] at hx;rw[List.map_append,List.map_cons,uo _ _ _ _ (by simpa using h3) h4];refine⟨_,h6,.inr ⟨h4,by have:=fC x.x.n x.x.d;simp only;omega,pb,h5,rfl,?_,h8⟩⟩;rw[h7,hx];simp
theorem pF (fr:Int)(s:ah)(a:Option Addr)(n c:Nat)(hs:s=.slice a n c)(W:ag):
  au 269 #[aa fr,s] W fun e w'=>e=.returned (.func (.func 291) #[] #[.pointer (some ⟨W.heap.size+1,0,none⟩),ay W.heap.size])/\w'=(W.alloc (.cells #[aa fr] 3)).alloc (.cells #[s] 328):=by
 subst hs;go_enter func269,ntmps269;go_wp2;go_ret;exact⟨rfl,rfl⟩
def Mv.items (m:Mv)(h:m.i64):List Item:=
 [⟨0,m.a,h.1.1,h.1.2⟩,⟨1,m.b,h.2.1.1,h.2.1.2⟩,⟨2,m.c,h.2.2.1.1,h.2.2.1.2⟩,⟨3,m.d,h.2.2.2.1.1,h.2.2.2.1.2⟩,⟨4,m.e,h.2.2.2.2.1.1,h.2.2.2.2.1.2⟩,⟨5,m.f,h.2.2.2.2.2.1,h.2.2.2.2.2.2⟩]
def Mv.list (m:Mv):List Fr:=[m.a,m.b,m.c,m.d,m.e,m.f]
def Pt.items (p:Pt)(h:p.i64):List Item:=[⟨6,p.x,h.1.1,h.1.2⟩,⟨7,p.y,h.2.1,h.2.2⟩]
def Pt.list (p:Pt):List Fr:=[p.x,p.y]
theorem bD {W:ag}{cs:Array ah}{t:TypeId}{B k:Nat}{v:ah}(hB:B=W.heap.size)(h:cs[k]? =some v):(W.alloc (.cells cs t)).cell? (ak B k)=some v:=by
 subst hB;simp[h]
theorem xN {j:Nat}(h:j<6):j=0\/j=1\/j=2\/j=3\/j=4\/j=5:=by omega
theorem xO {j:Nat}(h:j<2):j=0\/j=1:=by omega
theorem WL (m:Mv)(h:m.i64)(W:ag)(t t' t'':TypeId):
  wD (((W.alloc (.cells #[aa m.a.n,aa m.a.d,aa m.b.n,aa m.b.d,aa m.c.n,aa m.c.d,aa m.d.n,aa m.d.d,aa m.e.n,aa m.e.d,aa m.f.n,aa m.f.d] t)).alloc (.cells #[aa 0] t')).alloc (.cells #[.slice (some ⟨W.heap.size,0,none⟩) 6 6] t'')) (W.heap.size+3) (W.heap.size+2) (W.heap.size+1) W.heap.size 6 0 (m.items h) where
 lb:=by omega
 lf:=by omega
 ls:=by omega
 l:=bD (by simp) rfl
 f:=ax _ (bD (by simp) rfl)
 c0:=fun j hj=>by rcases xN hj with rfl|rfl|rfl|rfl|rfl|rfl<;>exact ax _ (ax _ (bD rfl rfl))
 c1:=fun j hj=>by rcases xN hj with rfl|rfl|rfl|rfl|rfl|rfl<;>exact ax _ (ax _ (bD rfl rfl))
 i:=fun j hj=>by rcases xN hj with rfl|rfl|rfl|rfl|rfl|rfl<;>rfl
 len:=by simp[Mv.items]
 fr:=by omega
theorem WM (p:Pt)(h:p.i64)(W:ag)(t t' t'':TypeId):
  wD (((W.alloc (.cells #[aa p.x.n,aa p.x.d,aa p.y.n,aa p.y.d] t)).alloc (.cells #[aa 6] t')).alloc (.cells #[.slice (some ⟨W.heap.size,0,none⟩) 2 2] t'')) (W.heap.size+3) (W.heap.size+2) (W.heap.size+1) W.heap.size 2 6 (p.items h) where
 lb:=by omega
 lf:=by omega
 ls:=by omega
 l:=bD (by simp) rfl
 f:=ax _ (bD (by simp) rfl)
 c0:=fun j hj=>by rcases xO hj with rfl|rfl<;>exact ax _ (ax _ (bD rfl rfl))
 c1:=fun j hj=>by rcases xO hj with rfl|rfl<;>exact ax _ (ax _ (bD rfl rfl))
 i:=fun j hj=>by rcases xO hj with rfl|rfl<;>rfl
 len:=by simp[Pt.items]
 fr:=by omega
theorem Tj (m:Mv)(h:m.i64)(W:ag):
  au 246 #[mv m] W fun e w'=>e=.returned (.func (.func 291) #[] #[.pointer (some ⟨W.heap.size+3,0,none⟩),.pointer (some ⟨W.heap.size+2,0,none⟩)])/\Below W.heap.size W w'/\w'.heap.size=W.heap.size+4/\wD w' (W.heap.size+4) (W.heap.size+3) (W.heap.size+2) (W.heap.size+1) 6 0 (m.items h):=by
 have HN:=pF;have HR:=WL m h;generalize m.items h=xs at HR⊢;clear h;obtain⟨⟨n1,d1⟩,⟨n2,d2⟩,⟨n3,d3⟩,⟨n4,d4⟩,⟨n5,d5⟩,⟨n6,d6⟩⟩:=m;dsimp only[mv] at HR⊢;go_enter func246,ntmps246;go_wp2_with(go_at_call 269;refine(HN 0 (.slice (some ⟨W.heap.size+1,0,none⟩) 6 6) _ _ _ rfl _).mono ?_;rintro e w' ⟨rfl,rfl⟩);go_ret;refine⟨rfl,?_,by simp,?_⟩
 ·exact((((aG _ W).alloc ai _).alloc (by simp) _).alloc (by simp;omega) _).alloc (by simp;omega) _
 ·have:=HR (W.alloc (.cells #[aa n1,aa d1,aa n2,aa d2,aa n3,aa d3,aa n4,aa d4,aa n5,aa d5,aa n6,aa d6] 125)) 123 3 328;simpa using this
theorem uq (aB aS aZ:Addr)(Bl Bf b cap fr:Nat)(xs:List Item)(w:ag)(h:wD w w.heap.size Bl Bf b cap fr xs)(hE:E3 aB aS aZ w):
  au 245 #[.func (.func 291) #[] #[ay Bl,ay Bf]] w fun e W=>(∃v,e=.returned v/\Told aB aS aZ w.heap.size (aL fr (xs.map (·.x))) v W)/\Below w.heap.size w W:=
 (callsIn_wide.1 (JP aB aS aZ Bl Bf b cap fr xs w h hE)).mono fun _ _ hx=>⟨a0P h.i hx.1,hx.2⟩
theorem za (aB aS aZ:Addr)(m:Mv)(h:m.i64)(W:ag)(hE:E3 aB aS aZ W):
  au 200 #[mv m] W fun e w'=>(∃v,e=.returned v/\Told aB aS aZ W.heap.size (aL 0 m.list) v w')/\Below W.heap.size W w':=by
 have HP:=Tj m h;have HC:=uq aB aS aZ;have hl:(m.items h).map (·.x)=m.list:=rfl;generalize m.items h=xs at HP hl;generalize m.list=l at hl⊢;subst hl;clear h;obtain⟨⟨n1,d1⟩,⟨n2,d2⟩,⟨n3,d3⟩,⟨n4,d4⟩,⟨n5,d5⟩,⟨n6,d6⟩⟩:=m;dsimp only[mv] at HP⊢;go_enter func200,ntmps200;go_wp2_with(first|(go_at_call 245;refine HC1.mono ?_;rintro e w2 ⟨⟨v,rfl,ht⟩,hb2⟩)|(go_at_call 246;refine(HP _).mono ?_;rintro e w1 ⟨rfl,hb1,hz1,hR⟩;have hE1:=(hE.alloc _).below hb1 ai;rw[<- hz1] at hR;have HC1:=HC _ _ _ _ _ _ w1 hR hE1;simp only[dB] at HC1));go_ret;have hs1:=hb1.size;rw[dB] at hs1;exact⟨⟨v,rfl,ht.mono (by omega)⟩,(((aG _ W).alloc ai _).trans (hb1.mono (by simp))).trans (hb2.mono (by omega))⟩
end
section
open Go.RowKit
structure dA (b:Nat)(W w':ag):Prop where
 size:W.heap.size<=w'.heap.size
 block:∀k,k<W.heap.size->k≠b->w'.heap[k]? =W.heap[k]?
theorem dA.trans {b:Nat}{A B C:ag}(h:dA b A B)(k:dA b B C):dA b A C:=
 ⟨aJ h.size k.size,fun i hi hb=>(k.block i (bI hi h.size) hb).trans (h.block i hi hb)⟩
theorem dA.of_below {b:Nat}{A B:ag}(h:Below A.heap.size A B):dA b A B:=⟨h.size,fun i hi _=>h.block i hi⟩
theorem dA.cell {b:Nat}{A B:ag}(h:dA b A B){p:Addr}{v:ah}(hp:A.cell? p=some v)(hb:p.block≠b):B.cell? p=some v:=
 (World.cell?_of_block (h.block p.block (aF hp) hb)).trans hp
theorem dA.frozen {b:Nat}{A B:ag}(h:dA b A B){p:Addr}{v:ah}(hp:A.cell? p=some v)(hf:A.frozen? p=false)(hb:p.block≠b):B.frozen? p=false:=
 (World.frozen?_of_block (h.block p.block (aF hp) hb)).trans hf
structure Wk (aB aS aZ:Addr)(w0:ag)(b:Nat)(c:Nat)(W:ag):Prop where
 e3:E3 aB aS aZ w0
 hb:Below w0.heap.size w0 W
 lo:w0.heap.size<=b
 cell:W.cell? (ak b 0)=some (er aB aS aZ c)
 di:W.frozen? ⟨b,0,none⟩=false
theorem Wk.at {aB aS aZ:Addr}{w0:ag}{b c:Nat}{W:ag}(h:Wk aB aS aZ w0 b c W):E3 aB aS aZ W:=h.e3.below h.hb ai
theorem Wk.alloc {aB aS aZ:Addr}{w0:ag}{b c:Nat}{W:ag}(h:Wk aB aS aZ w0 b c W)(o:Obj):Wk aB aS aZ w0 b c (W.alloc o):=
 ⟨h.e3,h.hb.alloc h.hb.size o,h.lo,ax o h.cell,eP o h.cell h.di⟩
theorem Wk.below {aB aS aZ:Addr}{w0:ag}{b c:Nat}{W W':ag}(h:Wk aB aS aZ w0 b c W)(hb:Below W.heap.size W W'):Wk aB aS aZ w0 b c W':=
 ⟨h.e3,h.hb.trans (hb.mono h.hb.size),h.lo,(hb.cell (p:=⟨b,0,none⟩) (aF h.cell)).trans h.cell,(hb.frozen (p:=⟨b,0,none⟩) (aF h.cell)).trans h.di⟩
theorem Wk.drew {aB aS aZ:Addr}{w0:ag}{b c:Nat}{W:ag}(h:Wk aB aS aZ w0 b c W)(k:Nat):Wk aB aS aZ w0 b c (W.drewN k):=h.below (below_drewN (aG _ W) k)
theorem WN (aB aS aZ:Addr):er aB aS aZ 2=.iface 401 (.pointer (some aB)):=rfl
theorem a4S {aB aS aZ:Addr}{w0 W w1:ag}{b c R:Nat}{o:Obj}{v p q:ah}(h:Wk aB aS aZ w0 b 0 w1)(hu:dA b W w1)(hR:W.heap.size<=R)(hR':w0.heap.size<=R)(hbR:b≠R)(hv:v=er aB aS aZ c):
  Wk aB aS aZ w0 b c ((((w1.alloc o).setCell ⟨b,0,none⟩ v).setCell ⟨R,0,none⟩ p).setCell ⟨R,1,none⟩ q)/\dA b W ((((w1.alloc o).setCell ⟨b,0,none⟩ v).setCell ⟨R,0,none⟩ p).setCell ⟨R,1,none⟩ q):=by
 have hw:=hu.size;refine⟨⟨h.e3,(((h.hb.alloc h.hb.size o).setCell h.lo v).setCell hR' p).setCell hR' q,h.lo,?_,?_⟩,?_,?_⟩
 ·rw[aO _ _ _ _ (fun e=>hbR e.symm),aO _ _ _ _ (fun e=>hbR e.symm),fM _ _ _ (by rw[ax o h.cell];rfl),hv]
 ·rw[World.frozen?_setCell,World.frozen?_setCell,World.frozen?_setCell];exact eP o h.cell h.di
 ·simp;omega
 ·intro k hk hkb;rw[aY _ _ _ k (by simp;omega),aY _ _ _ k (by simp;omega),aY _ _ _ k hkb,Below.heap_alloc _ _ k (by omega)];exact hu.block k hk hkb
theorem WQ (aB aS aZ:Addr)(w0:ag)(b F:Nat)(x y:Fr)(W:ag)(h:Wk aB aS aZ w0 b 2 W):
  au 247 #[ay b,.func (.func F) #[] #[],.agg #[aa x.n,aa x.d],.agg #[aa y.n,aa y.d]] W fun e w'=>e=.returned (.agg #[aa 0,aa 0])/\Below W.heap.size W w':=by
 have k1:=((h.alloc (.cells #[aa x.n,aa x.d] 123)).alloc (.cells #[aa y.n,aa y.d] 123)).alloc (.cells #[aa 0,aa 0] 123);have k2:=k1.cell;have k3:=k1.di;rw[WN] at k2;clear k1;go_enter func247,ntmps247;go_wp2;refine bodyPost_ret (v:=.agg #[aa 0,aa 0]) (by simp[results,results247,go_sem]) rfl ⟨rfl,?_⟩;exact(((aG _ W).alloc ai _).alloc (by simp) _).alloc (by simp;omega) _
theorem a3K (aB aS aZ:Addr)(w0:ag)(b F:Nat)(hcf:∀(av:Array ah) (w:ag),Sem.run prog (callFunc F av) w=.ok (.enter F av) w)(x y:Fr)(r:R3)(W:ag)(hr:r.c=0\/r.c=2)(h:Wk aB aS aZ w0 b 0 W)
  (HO:∀V,E3 aB aS aZ V->au F #[.agg #[aa x.n,aa x.d],.agg #[aa y.n,aa y.d]] V fun e w'=>e=.returned (.tuple #[.agg #[aa r.n,aa r.d],er aB aS aZ r.c])/\Below V.heap.size V w'):
  au 247 #[ay b,.func (.func F) #[] #[],.agg #[aa x.n,aa x.d],.agg #[aa y.n,aa y.d]] W fun e w'=>e=.returned (.agg #[aa r.n,aa r.d])/\Wk aB aS aZ w0 b r.c w'/\dA b W w':=by
 have k1:=((h.alloc (.cells #[aa x.n,aa x.d] 123)).alloc (.cells #[aa y.n,aa y.d] 123)).alloc (.cells #[aa 0,aa 0] 123);have k2:=k1.cell;have k3:=k1.di;rw[qM] at k2;replace HO:=HO _ k1.at;obtain⟨p,q,c⟩:=r;have hlt:=aF h.cell;simp only at hlt hr HO;rcases hr with rfl|rfl
 all_goals
  first|simp only[qM] at HO|simp only[WN] at HO
  go_enter func247,ntmps247;go_wp2_with fail;refine HO.mono ?_;rintro e w1 ⟨rfl,hb1⟩;have k4:=k1.below hb1;have k5:=k4.cell;have k6:=k4.di;have k7:=fun o=>ax o k5;have k8:=fun o=>eP o k5 k6;have hz:=hb1.size;simp only[dB] at hz;have n1:¬b=w1.heap.size:=by omega
  have n2:¬b=W.heap.size+1+1:=by omega
  have n3:¬w1.heap.size=W.heap.size+1+1:=by omega
  have n4:¬W.heap.size+1+1=w1.heap.size:=by omega
  obtain⟨t0,t1,t2,t3⟩:=(Two.new ((W.alloc (.cells #[aa x.n,aa x.d] 123)).alloc (.cells #[aa y.n,aa y.d] 123)) (aa 0) (aa 0) 123).below hb1 ai;simp only[dB] at t0 t1 t2 t3;have t4:=fun o=>ax o t0;have t5:=fun o=>ax o t1;have t6:=fun o=>eP o t0 t2;have t7:=fun o=>eP o t1 t3;go_wp2;refine bodyPost_ret (v:=.agg #[aa p,aa q]) (by simp[results,results247,go_sem,t4,t5]) rfl ⟨rfl,?_⟩;exact a4S k4 ((dA.of_below ((((aG _ W).alloc ai _).alloc (by simp) _).alloc (by simp;omega) _)).trans (dA.of_below hb1)) (by omega) (by have:=h.hb.size;omega) n2 rfl
theorem dA.alloc {b:Nat}{A B:ag}(h:dA b A B)(o:Obj):dA b A (B.alloc o):=h.trans (dA.of_below ((aG _ B).alloc ai o))
theorem dA.refl (b:Nat)(A:ag):dA b A A:=dA.of_below (aG _ A)
theorem dA.drew (b:Nat)(A:ag)(k:Nat):dA b A (A.drewN k):=dA.of_below (below_drewN (aG _ A) k)
theorem dA.store {b R:Nat}{A w:ag}(hu:dA b A w)(hR:A.heap.size<=R)(o:Nat)(v:ah):dA b A (w.setCell ⟨R,o,none⟩ v):=
 ⟨by simpa using hu.size,fun k hk hkb=>(aY _ _ _ k (by simp;omega)).trans (hu.block k hk hkb)⟩
theorem Wk.store {aB aS aZ:Addr}{w0 w:ag}{b c R:Nat}(h:Wk aB aS aZ w0 b c w)(hR:w0.heap.size<=R)(hb:R≠b)(o:Nat)(v:ah):Wk aB aS aZ w0 b c (w.setCell ⟨R,o,none⟩ v):=
 ⟨h.e3,h.hb.setCell hR v,h.lo,(aO _ _ _ _ hb).trans h.cell,by rw[World.frozen?_setCell];exact h.di⟩
theorem Two.upto {b R:Nat}{A B:ag}{x y:ah}(h:Two A R x y)(hu:dA b A B)(hR:R≠b):Two B R x y:=
 ⟨hu.cell h.c0 hR,hu.cell h.c1 hR,hu.frozen h.c0 h.f0 hR,hu.frozen h.c1 h.f1 hR⟩
theorem Two.store {R:Nat}{w:ag}{x y:ah}(hT:Two w R x y)(p q:ah):Two ((w.setCell ⟨R,0,none⟩ p).setCell ⟨R,1,none⟩ q) R p q:=by
 have c1:(w.setCell ⟨R,0,none⟩ p).cell? (ak R 1)=some y:=by rw[World.cell?_setCell_other _ _ _ _ (by simp)];exact hT.c1
 refine⟨?_,fM _ _ _ (by rw[c1];rfl),?_,?_⟩
 ·have:(w.setCell ⟨R,0,none⟩ p).cell? (ak R 0)=some p:=fM _ _ _ (by rw[hT.c0];rfl);rw[World.cell?_setCell_other _ _ _ _ (by simp)];exact this
 ·rw[World.frozen?_setCell,World.frozen?_setCell];exact hT.f0
 ·rw[World.frozen?_setCell,World.frozen?_setCell];exact hT.f1
theorem lJ {W:ag}{cs:Array ah}{t:TypeId}{B k:Nat}(hB:B=W.heap.size):(W.alloc (.cells cs t)).frozen? ⟨B,k,none⟩=false:=by subst hB;simp
theorem Wk.ne {aB aS aZ:Addr}{w0:ag}{b c:Nat}{V:ag}(h:Wk aB aS aZ w0 b c V):V.heap.size≠b:=by
 have:=aF h.cell;simp only at this;omega
theorem dA.lo {b lo:Nat}{A w:ag}(hu:dA b A w)(h:lo<=A.heap.size):lo<=w.heap.size:=aJ h hu.size
theorem mg {lo:Nat}{A:ag}{o:Obj}(h:lo<=A.heap.size):lo<=(A.alloc o).heap.size:=by rw[dB];omega
structure Own2 (lo b:Nat)(w:ag)(R:Nat)(x y:ah):Prop where
 t:Two w R x y
 ne:R≠b
 lo:lo<=R
theorem Own2.upto {lo b R:Nat}{A B:ag}{x y:ah}(h:Own2 lo b A R x y)(hu:dA b A B):Own2 lo b B R x y:=⟨h.t.upto hu h.ne,h.ne,h.lo⟩
theorem Own2.new {aB aS aZ:Addr}{w0:ag}{lo b c:Nat}{V B:ag}{x y:ah}{t:TypeId}(h:Wk aB aS aZ w0 b c V)(hlo:lo<=V.heap.size)(hu:dA b (V.alloc (.cells #[x,y] t)) B):Own2 lo b B V.heap.size x y:=⟨(Two.new V x y t).upto hu h.ne,h.ne,hlo⟩
theorem Own2.last {aB aS aZ:Addr}{w0:ag}{lo b c:Nat}{V:ag}{x y:ah}{t:TypeId}(h:Wk aB aS aZ w0 b c V)(hlo:lo<=V.heap.size):Own2 lo b (V.alloc (.cells #[x,y] t)) V.heap.size x y:=⟨Two.new V x y t,h.ne,hlo⟩
theorem Own2.store {lo b R:Nat}{w:ag}{x y:ah}(h:Own2 lo b w R x y)(p q:ah):Own2 lo b ((w.setCell ⟨R,0,none⟩ p).setCell ⟨R,1,none⟩ q) R p q:=⟨h.t.store p q,h.ne,h.lo⟩
theorem jZ {lo:Nat}{A:ag}{o:Obj}(h:lo<=A.heap.size):lo<=(A.alloc o).drew.heap.size:=mg h
theorem Own2.a8X {aB aS aZ:Addr}{w0:ag}{lo b c:Nat}{V B:ag}{x y:ah}{t:TypeId}(h:Wk aB aS aZ w0 b c V)(hlo:lo<=V.heap.size)(hu:dA b (V.alloc (.cells #[x,y] t)).drew B):Own2 lo b B V.heap.size x y:=⟨((Two.new V x y t).drewN 1).upto hu h.ne,h.ne,hlo⟩
def Tk (aB aS aZ:Addr)(w0:ag)(b:Nat)(k:Nat)(c:Nat)(x y z:Fr)(c':Nat):Prop:=
 ∀W,Wk aB aS aZ w0 b c W->au 247 #[ay b,.func (.func k) #[] #[],.agg #[aa x.n,aa x.d],.agg #[aa y.n,aa y.d]] W fun e w'=>e=.returned (.agg #[aa z.n,aa z.d])/\Wk aB aS aZ w0 b c' w'/\dA b W w'
theorem GU {aB aS aZ:Addr}{w0:ag}{b c:Nat}{x y:Fr}(hc:c=0\/c=2)(hx:x.i64)(hy:y.i64)(hr:c=0->(add x.n x.d y.n y.d).c=0\/(add x.n x.d y.n y.d).c=2):Tk aB aS aZ w0 b 237 c x y (um add c x y).1 (um add c x y).2:=fun W h=>by
 rcases hc with rfl|rfl
 ·exact a3K aB aS aZ w0 b _ (qR _ _ func237 (by kernel_rfl) (by kernel_rfl)) x y _ W (hr rfl) h fun V hV=>Ap aB aS aZ x.n x.d y.n y.d V hx.1 hx.2 hy.1 hy.2 hV
 ·exact(WQ aB aS aZ w0 b _ x y W h).mono fun _ _ k=>⟨k.1,h.below k.2,dA.of_below k.2⟩
theorem Qr {aB aS aZ:Addr}{w0:ag}{b c:Nat}{x y:Fr}(hc:c=0\/c=2)(hx:x.i64)(hy:y.i64)(hr:c=0->(mul x.n x.d y.n y.d).c=0\/(mul x.n x.d y.n y.d).c=2):Tk aB aS aZ w0 b 248 c x y (um mul c x y).1 (um mul c x y).2:=fun W h=>by
 rcases hc with rfl|rfl
 ·exact a3K aB aS aZ w0 b _ (qR _ _ func248 (by kernel_rfl) (by kernel_rfl)) x y _ W (hr rfl) h fun V hV=>a0u aB aS aZ x.n x.d y.n y.d V hx.1 hx.2 hy.1 hy.2 hV
 ·exact(WQ aB aS aZ w0 b _ x y W h).mono fun _ _ k=>⟨k.1,h.below k.2,dA.of_below k.2⟩
structure Head (W:ag)(m:Mv)(p:Pt)(V:ag):Prop where
 c0:V.cell? ⟨W.heap.size,0,none⟩=some (aa m.a.n)
 c1:V.cell? ⟨W.heap.size,1,none⟩=some (aa m.a.d)
 c2:V.cell? ⟨W.heap.size,2,none⟩=some (aa m.b.n)
 c3:V.cell? ⟨W.heap.size,3,none⟩=some (aa m.b.d)
 c4:V.cell? ⟨W.heap.size,4,none⟩=some (aa m.c.n)
 c5:V.cell? ⟨W.heap.size,5,none⟩=some (aa m.c.d)
 c6:V.cell? ⟨W.heap.size,6,none⟩=some (aa m.d.n)
 c7:V.cell? ⟨W.heap.size,7,none⟩=some (aa m.d.d)
 c8:V.cell? ⟨W.heap.size,8,none⟩=some (aa m.e.n)
 c9:V.cell? ⟨W.heap.size,9,none⟩=some (aa m.e.d)
 c10:V.cell? ⟨W.heap.size,10,none⟩=some (aa m.f.n)
 c11:V.cell? ⟨W.heap.size,11,none⟩=some (aa m.f.d)
 c12:V.cell? ⟨W.heap.size+1,0,none⟩=some (aa p.x.n)
 c13:V.cell? ⟨W.heap.size+1,1,none⟩=some (aa p.x.d)
 c14:V.cell? ⟨W.heap.size+1,2,none⟩=some (aa p.y.n)
 c15:V.cell? ⟨W.heap.size+1,3,none⟩=some (aa p.y.d)
 r0:V.cell? ⟨W.heap.size+1+1,0,none⟩=some (aa 0)
 f0:V.frozen? ⟨W.heap.size+1+1,0,none⟩=false
 r1:V.cell? ⟨W.heap.size+1+1,1,none⟩=some (aa 0)
 f1:V.frozen? ⟨W.heap.size+1+1,1,none⟩=false
 r2:V.cell? ⟨W.heap.size+1+1,2,none⟩=some (aa 0)
 f2:V.frozen? ⟨W.heap.size+1+1,2,none⟩=false
 r3:V.cell? ⟨W.heap.size+1+1,3,none⟩=some (aa 0)
 f3:V.frozen? ⟨W.heap.size+1+1,3,none⟩=false
 sz:W.heap.size+3<=V.heap.size
theorem Head.new (W:ag)(m:Mv)(p:Pt):Head W m p (((W.alloc (.cells (mA m) 125)).alloc (.cells #[aa p.x.n,aa p.x.d,aa p.y.n,aa p.y.d] 168)).alloc (.cells #[aa 0,aa 0,aa 0,aa 0] 168)) where
 c0:=ax _ (ax _ (bD rfl rfl))
 c1:=ax _ (ax _ (bD rfl rfl))
 c2:=ax _ (ax _ (bD rfl rfl))
 c3:=ax _ (ax _ (bD rfl rfl))
 c4:=ax _ (ax _ (bD rfl rfl))
 c5:=ax _ (ax _ (bD rfl rfl))
 c6:=ax _ (ax _ (bD rfl rfl))
 c7:=ax _ (ax _ (bD rfl rfl))
 c8:=ax _ (ax _ (bD rfl rfl))
 c9:=ax _ (ax _ (bD rfl rfl))
 c10:=ax _ (ax _ (bD rfl rfl))
 c11:=ax _ (ax _ (bD rfl rfl))
 c12:=ax _ (bD (by simp) rfl)
 c13:=ax _ (bD (by simp) rfl)
 c14:=ax _ (bD (by simp) rfl)
 c15:=ax _ (bD (by simp) rfl)
 r0:=bD (by simp) rfl
 f0:=lJ (by simp)
 r1:=bD (by simp) rfl
 f1:=lJ (by simp)
 r2:=bD (by simp) rfl
 f2:=lJ (by simp)
 r3:=bD (by simp) rfl
 f3:=lJ (by simp)
 sz:=by simp
theorem Head.upto {b:Nat}{W A B:ag}{m:Mv}{p:Pt}(h:Head W m p A)(hu:dA b A B)(hb:b<W.heap.size):Head W m p B where
 c0:=hu.cell h.c0 (by simp;omega)
 c1:=hu.cell h.c1 (by simp;omega)
 c2:=hu.cell h.c2 (by simp;omega)
 c3:=hu.cell h.c3 (by simp;omega)
 c4:=hu.cell h.c4 (by simp;omega)
 c5:=hu.cell h.c5 (by simp;omega)
 c6:=hu.cell h.c6 (by simp;omega)
 c7:=hu.cell h.c7 (by simp;omega)
 c8:=hu.cell h.c8 (by simp;omega)
 c9:=hu.cell h.c9 (by simp;omega)
 c10:=hu.cell h.c10 (by simp;omega)
 c11:=hu.cell h.c11 (by simp;omega)
 c12:=hu.cell h.c12 (by simp;omega)
 c13:=hu.cell h.c13 (by simp;omega)
 c14:=hu.cell h.c14 (by simp;omega)
 c15:=hu.cell h.c15 (by simp;omega)
 r0:=hu.cell h.r0 (by simp;omega)
 f0:=hu.frozen h.r0 h.f0 (by simp;omega)
 r1:=hu.cell h.r1 (by simp;omega)
 f1:=hu.frozen h.r1 h.f1 (by simp;omega)
 r2:=hu.cell h.r2 (by simp;omega)
 f2:=hu.frozen h.r2 h.f2 (by simp;omega)
 r3:=hu.cell h.r3 (by simp;omega)
 f3:=hu.frozen h.r3 h.f3 (by simp;omega)
 sz:=aJ h.sz hu.size
theorem WS {W V:ag}{R:Nat}{m:Mv}{p:Pt}(hd:Head W m p V)(h:V.heap.size<=R):R≠W.heap.size/\R≠W.heap.size+1:=by have:=hd.sz;omega
theorem a4T {W w:ag}{m:Mv}{p:Pt}{R:Nat}{u v:ah}(h:(fun w'=>w'.cell? ⟨W.heap.size,0,none⟩=some (aa m.a.n)/\w'.cell? ⟨W.heap.size,1,none⟩=some (aa m.a.d)/\w'.cell? ⟨W.heap.size+1,0,none⟩=some (aa p.x.n)/\w'.cell? ⟨W.heap.size+1,1,none⟩=some (aa p.x.d)/\w'.cell? ⟨W.heap.size,4,none⟩=some (aa m.c.n)/\w'.cell? ⟨W.heap.size,5,none⟩=some (aa m.c.d)/\w'.cell? ⟨W.heap.size+1,2,none⟩=some (aa p.y.n)/\w'.cell? ⟨W.heap.size+1,3,none⟩=some (aa p.y.d)) w)(e1:R≠W.heap.size)(e2:R≠W.heap.size+1):(fun w'=>w'.cell? ⟨W.heap.size,0,none⟩=some (aa m.a.n)/\w'.cell? ⟨W.heap.size,1,none⟩=some (aa m.a.d)/\w'.cell? ⟨W.heap.size+1,0,none⟩=some (aa p.x.n)/\w'.cell? ⟨W.heap.size+1,1,none⟩=some (aa p.x.d)/\w'.cell? ⟨W.heap.size,4,none⟩=some (aa m.c.n)/\w'.cell? ⟨W.heap.size,5,none⟩=some (aa m.c.d)/\w'.cell? ⟨W.heap.size+1,2,none⟩=some (aa p.y.n)/\w'.cell? ⟨W.heap.size+1,3,none⟩=some (aa p.y.d)) ((w.setCell ⟨R,0,none⟩ u).setCell ⟨R,1,none⟩ v):=by
 obtain⟨k0,k1,k2,k3,k4,k5,k6,k7⟩:=h;exact⟨(aO _ _ _ _ e1).trans ((aO _ _ _ _ e1).trans k0),(aO _ _ _ _ e1).trans ((aO _ _ _ _ e1).trans k1),(aO _ _ _ _ e2).trans ((aO _ _ _ _ e2).trans k2),(aO _ _ _ _ e2).trans ((aO _ _ _ _ e2).trans k3),(aO _ _ _ _ e1).trans ((aO _ _ _ _ e1).trans k4),(aO _ _ _ _ e1).trans ((aO _ _ _ _ e1).trans k5),(aO _ _ _ _ e2).trans ((aO _ _ _ _ e2).trans k6),(aO _ _ _ _ e2).trans ((aO _ _ _ _ e2).trans k7)⟩
theorem a4U {W w:ag}{m:Mv}{p:Pt}{R:Nat}{u v:ah}(h:(fun w'=>w'.cell? ⟨W.heap.size,2,none⟩=some (aa m.b.n)/\w'.cell? ⟨W.heap.size,3,none⟩=some (aa m.b.d)/\w'.cell? ⟨W.heap.size+1,0,none⟩=some (aa p.x.n)/\w'.cell? ⟨W.heap.size+1,1,none⟩=some (aa p.x.d)/\w'.cell? ⟨W.heap.size,6,none⟩=some (aa m.d.n)/\w'.cell? ⟨W.heap.size,7,none⟩=some (aa m.d.d)/\w'.cell? ⟨W.heap.size+1,2,none⟩=some (aa p.y.n)/\w'.cell? ⟨W.heap.size+1,3,none⟩=some (aa p.y.d)) w)(e1:R≠W.heap.size)(e2:R≠W.heap.size+1):(fun w'=>w'.cell? ⟨W.heap.size,2,none⟩=some (aa m.b.n)/\w'.cell? ⟨W.heap.size,3,none⟩=some (aa m.b.d)/\w'.cell? ⟨W.heap.size+1,0,none⟩=some (aa p.x.n)/\w'.cell? ⟨W.heap.size+1,1,none⟩=some (aa p.x.d)/\w'.cell? ⟨W.heap.size,6,none⟩=some (aa m.d.n)/\w'.cell? ⟨W.heap.size,7,none⟩=some (aa m.d.d)/\w'.cell? ⟨W.heap.size+1,2,none⟩=some (aa p.y.n)/\w'.cell? ⟨W.heap.size+1,3,none⟩=some (aa p.y.d)) ((w.setCell ⟨R,0,none⟩ u).setCell ⟨R,1,none⟩ v):=by
 obtain⟨k0,k1,k2,k3,k4,k5,k6,k7⟩:=h;exact⟨(aO _ _ _ _ e1).trans ((aO _ _ _ _ e1).trans k0),(aO _ _ _ _ e1).trans ((aO _ _ _ _ e1).trans k1),(aO _ _ _ _ e2).trans ((aO _ _ _ _ e2).trans k2),(aO _ _ _ _ e2).trans ((aO _ _ _ _ e2).trans k3),(aO _ _ _ _ e1).trans ((aO _ _ _ _ e1).trans k4),(aO _ _ _ _ e1).trans ((aO _ _ _ _ e1).trans k5),(aO _ _ _ _ e2).trans ((aO _ _ _ _ e2).trans k6),(aO _ _ _ _ e2).trans ((aO _ _ _ _ e2).trans k7)⟩
theorem WU {b:Nat}{W A B:ag}{m:Mv}{p:Pt}(hu:dA b A B)(h1:W.heap.size≠b)(h2:W.heap.size+1≠b)(h:(fun w'=>w'.cell? ⟨W.heap.size,0,none⟩=some (aa m.a.n)/\w'.cell? ⟨W.heap.size,1,none⟩=some (aa m.a.d)/\w'.cell? ⟨W.heap.size+1,0,none⟩=some (aa p.x.n)/\w'.cell? ⟨W.heap.size+1,1,none⟩=some (aa p.x.d)/\w'.cell? ⟨W.heap.size,4,none⟩=some (aa m.c.n)/\w'.cell? ⟨W.heap.size,5,none⟩=some (aa m.c.d)/\w'.cell? ⟨W.heap.size+1,2,none⟩=some (aa p.y.n)/\w'.cell? ⟨W.heap.size+1,3,none⟩=some (aa p.y.d)) A):(fun w'=>w'.cell? ⟨W.heap.size,0,none⟩=some (aa m.a.n)/\w'.cell? ⟨W.heap.size,1,none⟩=some (aa m.a.d)/\w'.cell? ⟨W.heap.size+1,0,none⟩=some (aa p.x.n)/\w'.cell? ⟨W.heap.size+1,1,none⟩=some (aa p.x.d)/\w'.cell? ⟨W.heap.size,4,none⟩=some (aa m.c.n)/\w'.cell? ⟨W.heap.size,5,none⟩=some (aa m.c.d)/\w'.cell? ⟨W.heap.size+1,2,none⟩=some (aa p.y.n)/\w'.cell? ⟨W.heap.size+1,3,none⟩=some (aa p.y.d)) B:=by
 obtain⟨k0,k1,k2,k3,k4,k5,k6,k7⟩:=h;exact⟨hu.cell k0 h1,hu.cell k1 h1,hu.cell k2 h2,hu.cell k3 h2,hu.cell k4 h1,hu.cell k5 h1,hu.cell k6 h2,hu.cell k7 h2⟩
theorem nS {b:Nat}{W A B:ag}{m:Mv}{p:Pt}(hu:dA b A B)(h1:W.heap.size≠b)(h2:W.heap.size+1≠b)(h:(fun w'=>w'.cell? ⟨W.heap.size,2,none⟩=some (aa m.b.n)/\w'.cell? ⟨W.heap.size,3,none⟩=some (aa m.b.d)/\w'.cell? ⟨W.heap.size+1,0,none⟩=some (aa p.x.n)/\w'.cell? ⟨W.heap.size+1,1,none⟩=some (aa p.x.d)/\w'.cell? ⟨W.heap.size,6,none⟩=some (aa m.d.n)/\w'.cell? ⟨W.heap.size,7,none⟩=some (aa m.d.d)/\w'.cell? ⟨W.heap.size+1,2,none⟩=some (aa p.y.n)/\w'.cell? ⟨W.heap.size+1,3,none⟩=some (aa p.y.d)) A):(fun w'=>w'.cell? ⟨W.heap.size,2,none⟩=some (aa m.b.n)/\w'.cell? ⟨W.heap.size,3,none⟩=some (aa m.b.d)/\w'.cell? ⟨W.heap.size+1,0,none⟩=some (aa p.x.n)/\w'.cell? ⟨W.heap.size+1,1,none⟩=some (aa p.x.d)/\w'.cell? ⟨W.heap.size,6,none⟩=some (aa m.d.n)/\w'.cell? ⟨W.heap.size,7,none⟩=some (aa m.d.d)/\w'.cell? ⟨W.heap.size+1,2,none⟩=some (aa p.y.n)/\w'.cell? ⟨W.heap.size+1,3,none⟩=some (aa p.y.d)) B:=by
 obtain⟨k0,k1,k2,k3,k4,k5,k6,k7⟩:=h;exact⟨hu.cell k0 h1,hu.cell k1 h1,hu.cell k2 h2,hu.cell k3 h2,hu.cell k4 h1,hu.cell k5 h1,hu.cell k6 h2,hu.cell k7 h2⟩
theorem WV {W A:ag}{m:Mv}{p:Pt}{o:Obj}(h:(fun w'=>w'.cell? ⟨W.heap.size,0,none⟩=some (aa m.a.n)/\w'.cell? ⟨W.heap.size,1,none⟩=some (aa m.a.d)/\w'.cell? ⟨W.heap.size+1,0,none⟩=some (aa p.x.n)/\w'.cell? ⟨W.heap.size+1,1,none⟩=some (aa p.x.d)/\w'.cell? ⟨W.heap.size,4,none⟩=some (aa m.c.n)/\w'.cell? ⟨W.heap.size,5,none⟩=some (aa m.c.d)/\w'.cell? ⟨W.heap.size+1,2,none⟩=some (aa p.y.n)/\w'.cell? ⟨W.heap.size+1,3,none⟩=some (aa p.y.d)) A):(fun w'=>w'.cell? ⟨W.heap.size,0,none⟩=some (aa m.a.n)/\w'.cell? ⟨W.heap.size,1,none⟩=some (aa m.a.d)/\w'.cell? ⟨W.heap.size+1,0,none⟩=some (aa p.x.n)/\w'.cell? ⟨W.heap.size+1,1,none⟩=some (aa p.x.d)/\w'.cell? ⟨W.heap.size,4,none⟩=some (aa m.c.n)/\w'.cell? ⟨W.heap.size,5,none⟩=some (aa m.c.d)/\w'.cell? ⟨W.heap.size+1,2,none⟩=some (aa p.y.n)/\w'.cell? ⟨W.heap.size+1,3,none⟩=some (aa p.y.d)) (A.alloc o):=by
 obtain⟨k0,k1,k2,k3,k4,k5,k6,k7⟩:=h;exact⟨ax _ k0,ax _ k1,ax _ k2,ax _ k3,ax _ k4,ax _ k5,ax _ k6,ax _ k7⟩
theorem a0Q {W A:ag}{m:Mv}{p:Pt}{o:Obj}(h:(fun w'=>w'.cell? ⟨W.heap.size,0,none⟩=some (aa m.a.n)/\w'.cell? ⟨W.heap.size,1,none⟩=some (aa m.a.d)/\w'.cell? ⟨W.heap.size+1,0,none⟩=some (aa p.x.n)/\w'.cell? ⟨W.heap.size+1,1,none⟩=some (aa p.x.d)/\w'.cell? ⟨W.heap.size,4,none⟩=some (aa m.c.n)/\w'.cell? ⟨W.heap.size,5,none⟩=some (aa m.c.d)/\w'.cell? ⟨W.heap.size+1,2,none⟩=some (aa p.y.n)/\w'.cell? ⟨W.heap.size+1,3,none⟩=some (aa p.y.d)) A.drew):(fun w'=>w'.cell? ⟨W.heap.size,0,none⟩=some (aa m.a.n)/\w'.cell? ⟨W.heap.size,1,none⟩=some (aa m.a.d)/\w'.cell? ⟨W.heap.size+1,0,none⟩=some (aa p.x.n)/\w'.cell? ⟨W.heap.size+1,1,none⟩=some (aa p.x.d)/\w'.cell? ⟨W.heap.size,4,none⟩=some (aa m.c.n)/\w'.cell? ⟨W.heap.size,5,none⟩=some (aa m.c.d)/\w'.cell? ⟨W.heap.size+1,2,none⟩=some (aa p.y.n)/\w'.cell? ⟨W.heap.size+1,3,none⟩=some (aa p.y.d)) (A.alloc o).drew:=WV (A:=A) h
theorem WW {W A:ag}{m:Mv}{p:Pt}{o:Obj}(h:(fun w'=>w'.cell? ⟨W.heap.size,2,none⟩=some (aa m.b.n)/\w'.cell? ⟨W.heap.size,3,none⟩=some (aa m.b.d)/\w'.cell? ⟨W.heap.size+1,0,none⟩=some (aa p.x.n)/\w'.cell? ⟨W.heap.size+1,1,none⟩=some (aa p.x.d)/\w'.cell? ⟨W.heap.size,6,none⟩=some (aa m.d.n)/\w'.cell? ⟨W.heap.size,7,none⟩=some (aa m.d.d)/\w'.cell? ⟨W.heap.size+1,2,none⟩=some (aa p.y.n)/\w'.cell? ⟨W.heap.size+1,3,none⟩=some (aa p.y.d)) A):(fun w'=>w'.cell? ⟨W.heap.size,2,none⟩=some (aa m.b.n)/\w'.cell? ⟨W.heap.size,3,none⟩=some (aa m.b.d)/\w'.cell? ⟨W.heap.size+1,0,none⟩=some (aa p.x.n)/\w'.cell? ⟨W.heap.size+1,1,none⟩=some (aa p.x.d)/\w'.cell? ⟨W.heap.size,6,none⟩=some (aa m.d.n)/\w'.cell? ⟨W.heap.size,7,none⟩=some (aa m.d.d)/\w'.cell? ⟨W.heap.size+1,2,none⟩=some (aa p.y.n)/\w'.cell? ⟨W.heap.size+1,3,none⟩=some (aa p.y.d)) (A.alloc o):=by
 obtain⟨k0,k1,k2,k3,k4,k5,k6,k7⟩:=h;exact⟨ax _ k0,ax _ k1,ax _ k2,ax _ k3,ax _ k4,ax _ k5,ax _ k6,ax _ k7⟩
theorem a0R {W A:ag}{m:Mv}{p:Pt}{o:Obj}(h:(fun w'=>w'.cell? ⟨W.heap.size,2,none⟩=some (aa m.b.n)/\w'.cell? ⟨W.heap.size,3,none⟩=some (aa m.b.d)/\w'.cell? ⟨W.heap.size+1,0,none⟩=some (aa p.x.n)/\w'.cell? ⟨W.heap.size+1,1,none⟩=some (aa p.x.d)/\w'.cell? ⟨W.heap.size,6,none⟩=some (aa m.d.n)/\w'.cell? ⟨W.heap.size,7,none⟩=some (aa m.d.d)/\w'.cell? ⟨W.heap.size+1,2,none⟩=some (aa p.y.n)/\w'.cell? ⟨W.heap.size+1,3,none⟩=some (aa p.y.d)) A.drew):(fun w'=>w'.cell? ⟨W.heap.size,2,none⟩=some (aa m.b.n)/\w'.cell? ⟨W.heap.size,3,none⟩=some (aa m.b.d)/\w'.cell? ⟨W.heap.size+1,0,none⟩=some (aa p.x.n)/\w'.cell? ⟨W.heap.size+1,1,none⟩=some (aa p.x.d)/\w'.cell? ⟨W.heap.size,6,none⟩=some (aa m.d.n)/\w'.cell? ⟨W.heap.size,7,none⟩=some (aa m.d.d)/\w'.cell? ⟨W.heap.size+1,2,none⟩=some (aa p.y.n)/\w'.cell? ⟨W.heap.size+1,3,none⟩=some (aa p.y.d)) (A.alloc o).drew:=WW (A:=A) h
theorem a8Y {W V:ag}{m:Mv}{p:Pt}(h:Head W m p V):(fun w'=>w'.cell? ⟨W.heap.size,0,none⟩=some (aa m.a.n)/\w'.cell? ⟨W.heap.size,1,none⟩=some (aa m.a.d)/\w'.cell? ⟨W.heap.size+1,0,none⟩=some (aa p.x.n)/\w'.cell? ⟨W.heap.size+1,1,none⟩=some (aa p.x.d)/\w'.cell? ⟨W.heap.size,4,none⟩=some (aa m.c.n)/\w'.cell? ⟨W.heap.size,5,none⟩=some (aa m.c.d)/\w'.cell? ⟨W.heap.size+1,2,none⟩=some (aa p.y.n)/\w'.cell? ⟨W.heap.size+1,3,none⟩=some (aa p.y.d)) (V.drewN 1):=⟨h.c0,h.c1,h.c12,h.c13,h.c4,h.c5,h.c14,h.c15⟩
theorem a8Z {W V:ag}{m:Mv}{p:Pt}(h:Head W m p V):(fun w'=>w'.cell? ⟨W.heap.size,2,none⟩=some (aa m.b.n)/\w'.cell? ⟨W.heap.size,3,none⟩=some (aa m.b.d)/\w'.cell? ⟨W.heap.size+1,0,none⟩=some (aa p.x.n)/\w'.cell? ⟨W.heap.size+1,1,none⟩=some (aa p.x.d)/\w'.cell? ⟨W.heap.size,6,none⟩=some (aa m.d.n)/\w'.cell? ⟨W.heap.size,7,none⟩=some (aa m.d.d)/\w'.cell? ⟨W.heap.size+1,2,none⟩=some (aa p.y.n)/\w'.cell? ⟨W.heap.size+1,3,none⟩=some (aa p.y.d)) (V.drewN 1):=⟨h.c2,h.c3,h.c12,h.c13,h.c6,h.c7,h.c14,h.c15⟩
theorem O0 (aB aS aZ:Addr)(w0:ag)(b:Nat)(m:Mv)(p:Pt)(x1 x2 x3 y1 y2 y3:Fr)(c c1 c2 c3 c4 c5 c6:Nat)(W:ag)(h:Wk aB aS aZ w0 b c W)
  (D1:Tk aB aS aZ w0 b 248 c m.a p.x x1 c1) (D2:Tk aB aS aZ w0 b 248 c1 m.c p.y x2 c2) (D3:Tk aB aS aZ w0 b 237 c2 x1 x2 x3 c3)
  (D4:Tk aB aS aZ w0 b 248 c3 m.b p.x y1 c4) (D5:Tk aB aS aZ w0 b 248 c4 m.d p.y y2 c5) (D6:Tk aB aS aZ w0 b 237 c5 y1 y2 y3 c6):
  au 201 #[ay b,mv m,pv p] W fun e w'=>e=.returned (.agg #[aa x3.n,aa x3.d,aa y3.n,aa y3.d])/\Wk aB aS aZ w0 b c6 w'/\dA b W w':=by
 have hlt:=aF h.cell;simp only at hlt;have nb0:W.heap.size≠b:=by omega
 have nb1:W.heap.size+1≠b:=by omega
 have hF:∃V,(((W.alloc (.cells (mA m) 125)).alloc (.cells #[aa p.x.n,aa p.x.d,aa p.y.n,aa p.y.d] 168)).alloc (.cells #[aa 0,aa 0,aa 0,aa 0] 168))=V/\Head W m p V/\Wk aB aS aZ w0 b c V/\dA b W V:=⟨_,rfl,Head.new W m p,((h.alloc _).alloc _).alloc _,(((dA.refl b W).alloc _).alloc _).alloc _⟩;go_enter func201,ntmps201;go_upto_region 1 with fail;obtain⟨V,hV,hH,HK,HU⟩:=hF;rw[hV];have hw0:=h.hb.size;clear hV h;go_upto_region 1 with fail
 go_cut [7] (fun s wx=>∃R,s=ay R/\Own2 V.heap.size b wx R (aa x3.n) (aa x3.d)/\Wk aB aS aZ w0 b c3 wx/\dA b V wx)
 case first=>
  have hS:=a8Y hH;have hk0:=HK.drew 1;have z0:V.heap.size<=(V.drewN 1).heap.size:=Nat.le_refl _;have U0:dA b V (V.drewN 1):=dA.drew b _ 1
  go_region_held3 (fun w'=>w'.cell? ⟨W.heap.size,0,none⟩=some (aa m.a.n)/\w'.cell? ⟨W.heap.size,1,none⟩=some (aa m.a.d)/\w'.cell? ⟨W.heap.size+1,0,none⟩=some (aa p.x.n)/\w'.cell? ⟨W.heap.size+1,1,none⟩=some (aa p.x.d)/\w'.cell? ⟨W.heap.size,4,none⟩=some (aa m.c.n)/\w'.cell? ⟨W.heap.size,5,none⟩=some (aa m.c.d)/\w'.cell? ⟨W.heap.size+1,2,none⟩=some (aa p.y.n)/\w'.cell? ⟨W.heap.size+1,3,none⟩=some (aa p.y.d)) (first|assumption|exact a4T (by assumption) q6 q7|exact WV (by assumption)|exact a0Q (by assumption)|go_keep) (first|(go_at_call_of 247 x1.n;refine(D3 _ ?_).mono ?_;(first|exact hk2|exact hk2.alloc _|exact HK.jN _);rintro e w3 ⟨rfl,hk3,hu3⟩;have hs3:=WU hu3 nb0 nb1 (by assumption);have z3:V.heap.size<=w3.heap.size:=(by first|exact hu3.lo z2|exact hu3.lo (mg z2)|exact hu3.lo (jZ ai));have U3:dA b V w3:=(by first|exact U2.trans hu3|exact(U2.alloc _).trans hu3|exact((dA.refl b V).jN _).trans hu3);(try have hT:=Own2.new hk2 z2 hu3);(try have hT:=Own2.upto hT hu3);(try(obtain⟨⟨q0,q1,q2,q3⟩,q4,q5⟩:=hT;obtain⟨q6,q7⟩:=WS hH q5)))|(go_at_call_of 247 m.c.n;refine(D2 _ ?_).mono ?_;(first|exact hk1|exact hk1.alloc _|exact HK.jN _);rintro e w2 ⟨rfl,hk2,hu2⟩;have hs2:=WU hu2 nb0 nb1 (by assumption);have z2:V.heap.size<=w2.heap.size:=(by first|exact hu2.lo z1|exact hu2.lo (mg z1)|exact hu2.lo (jZ ai));have U2:dA b V w2:=(by first|exact U1.trans hu2|exact(U1.alloc _).trans hu2|exact((dA.refl b V).jN _).trans hu2);(try have hT:=Own2.new hk1 z1 hu2);(try have hT:=Own2.upto hT hu2))|(go_at_call_of 247 m.a.n;refine(D1 _ ?_).mono ?_;(first|exact hk0|exact hk0.alloc _|exact HK.jN _);rintro e w1 ⟨rfl,hk1,hu1⟩;have hs1:=WU hu1 nb0 nb1 (by assumption);have z1:V.heap.size<=w1.heap.size:=(by first|exact hu1.lo z0|exact hu1.lo (mg z0)|exact hu1.lo (jZ ai));have U1:dA b V w1:=(by first|exact U0.trans hu1|exact(U0.alloc _).trans hu1|exact((dA.refl b V).jN _).trans hu1);(try have hT:=Own2.new hk0 z0 hu1);(try have hT:=Own2.a8X HK ai hu1)))
  all_goals(go_wp2_with fail;go_meet;first|exact⟨_,rfl,Own2.last hk3 z3,hk3.alloc _,U3.alloc _⟩|exact⟨_,rfl,(Own2.mk (Two.mk q0 q1 q2 q3) q4 q5).store _ _,(hk3.store (aJ HK.hb.size q5) q4 _ _).store (aJ HK.hb.size q5) q4 _ _,(U3.store q5 _ _).store q5 _ _⟩)
 case rest=>
  obtain⟨R,rfl,hR,HK2,HU2⟩:=hcut;replace hH:=hH.upto HU2 hlt;replace HU:=HU.trans HU2;clear HK HU2;have HK:=HK2;clear HK2;go_upto_region 2 with fail
  go_cut [8] (fun s wx=>∃R,s=ay R/\Own2 wc.heap.size b wx R (aa y3.n) (aa y3.d)/\Wk aB aS aZ w0 b c6 wx/\dA b wc wx)
  case first=>
   have hS:=a8Z hH;have hk0:=HK.drew 1;have z0:wc.heap.size<=(wc.drewN 1).heap.size:=Nat.le_refl _;have U0:dA b wc (wc.drewN 1):=dA.drew b _ 1
   go_region_held3 (fun w'=>w'.cell? ⟨W.heap.size,2,none⟩=some (aa m.b.n)/\w'.cell? ⟨W.heap.size,3,none⟩=some (aa m.b.d)/\w'.cell? ⟨W.heap.size+1,0,none⟩=some (aa p.x.n)/\w'.cell? ⟨W.heap.size+1,1,none⟩=some (aa p.x.d)/\w'.cell? ⟨W.heap.size,6,none⟩=some (aa m.d.n)/\w'.cell? ⟨W.heap.size,7,none⟩=some (aa m.d.d)/\w'.cell? ⟨W.heap.size+1,2,none⟩=some (aa p.y.n)/\w'.cell? ⟨W.heap.size+1,3,none⟩=some (aa p.y.d)) (first|assumption|exact a4U (by assumption) q6 q7|exact WW (by assumption)|exact a0R (by assumption)|go_keep) (first|(go_at_call_of 247 y1.n;refine(D6 _ ?_).mono ?_;(first|exact hk2|exact hk2.alloc _|exact HK.jN _);rintro e w3 ⟨rfl,hk3,hu3⟩;have hs3:=nS hu3 nb0 nb1 (by assumption);have z3:wc.heap.size<=w3.heap.size:=(by first|exact hu3.lo z2|exact hu3.lo (mg z2)|exact hu3.lo (jZ ai));have U3:dA b wc w3:=(by first|exact U2.trans hu3|exact(U2.alloc _).trans hu3|exact((dA.refl b wc).jN _).trans hu3);(try have hT:=Own2.new hk2 z2 hu3);(try have hT:=Own2.upto hT hu3);(try(obtain⟨⟨q0,q1,q2,q3⟩,q4,q5⟩:=hT;obtain⟨q6,q7⟩:=WS hH q5)))|(go_at_call_of 247 m.d.n;refine(D5 _ ?_).mono ?_;(first|exact hk1|exact hk1.alloc _|exact HK.jN _);rintro e w2 ⟨rfl,hk2,hu2⟩;have hs2:=nS hu2 nb0 nb1 (by assumption);have z2:wc.heap.size<=w2.heap.size:=(by first|exact hu2.lo z1|exact hu2.lo (mg z1)|exact hu2.lo (jZ ai));have U2:dA b wc w2:=(by first|exact U1.trans hu2|exact(U1.alloc _).trans hu2|exact((dA.refl b wc).jN _).trans hu2);(try have hT:=Own2.new hk1 z1 hu2);(try have hT:=Own2.upto hT hu2))|(go_at_call_of 247 m.b.n;refine(D4 _ ?_).mono ?_;(first|exact hk0|exact hk0.alloc _|exact HK.jN _);rintro e w1 ⟨rfl,hk1,hu1⟩;have hs1:=nS hu1 nb0 nb1 (by assumption);have z1:wc.heap.size<=w1.heap.size:=(by first|exact hu1.lo z0|exact hu1.lo (mg z0)|exact hu1.lo (jZ ai));have U1:dA b wc w1:=(by first|exact U0.trans hu1|exact(U0.alloc _).trans hu1|exact((dA.refl b wc).jN _).trans hu1);(try have hT:=Own2.new hk0 z0 hu1);(try have hT:=Own2.a8X HK ai hu1)))
   all_goals(go_wp2_with fail;go_meet;first|exact⟨_,rfl,Own2.last hk3 z3,hk3.alloc _,U3.alloc _⟩|exact⟨_,rfl,(Own2.mk (Two.mk q0 q1 q2 q3) q4 q5).store _ _,(hk3.store (aJ HK.hb.size q5) q4 _ _).store (aJ HK.hb.size q5) q4 _ _,(U3.store q5 _ _).store q5 _ _⟩)
  case rest=>
   obtain⟨R2,rfl,hR2,HK2,HU2⟩:=hcut;have hH2:=hH.upto HU2 hlt;have HU3:=HU.trans HU2;have hT1:=hR.t.upto HU2 hR.ne;obtain⟨a0,a1,a2,a3⟩:=hT1;obtain⟨d0,d1,d2,d3⟩:=hR2.t;obtain⟨e0,e1,e2,e3⟩:=And.intro hH2.r0 (And.intro hH2.r1 (And.intro hH2.r2 hH2.r3));obtain⟨f0,f1,f2,f3⟩:=And.intro hH2.f0 (And.intro hH2.f1 (And.intro hH2.f2 hH2.f3));go_wp2;refine bodyPost_ret (v:=.agg #[aa x3.n,aa x3.d,aa y3.n,aa y3.d]) (by simp[results,results201,go_sem,e0,e1,e2,e3]) rfl ⟨rfl,?_,?_⟩
   ·have hq:w0.heap.size<=W.heap.size+1+1:=by omega
    have hn:W.heap.size+1+1≠b:=by omega
    exact(((HK2.store hq hn _ _).store hq hn _ _).store hq hn _ _).store hq hn _ _
   ·have hq:W.heap.size<=W.heap.size+1+1:=by omega
    exact(((HU3.store hq _ _).store hq _ _).store hq _ _).store hq _ _
end
end Go.Proofs.YtecneflbncjhpaaGreatDoor

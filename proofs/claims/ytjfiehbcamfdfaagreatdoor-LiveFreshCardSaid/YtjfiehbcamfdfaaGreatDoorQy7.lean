/-
  Parts of the proof.
-/
import Derived.Test.YtjfiehbcamfdfaaGreatDoorQy0
import Derived.RangeFuncNested
import Derived.RangeFuncBound
import Derived.Shelf.RegionOpen
import Derived.OwnWalkIn
import Derived.LoopNIn
import Derived.LoopIn
import Derived.Deep.DeepCutAuto
namespace Go.Proofs.YtjfiehbcamfdfaaGreatDoor
open Go.Proofs.Tryz
section
structure Fr where
  n:Int
  d:Int
deriving DecidableEq
structure Pt where
  x:Fr
  y:Fr
deriving DecidableEq
structure Mv where
  a:Fr
  b:Fr
  c:Fr
  d:Fr
  e:Fr
  f:Fr
deriving DecidableEq
def Fr.zero:Fr:=⟨0,0⟩
def Pt.zero:Pt:=⟨.zero,.zero⟩
def Mv.zero:Mv:=⟨.zero,.zero,.zero,.zero,.zero,.zero⟩
def Fr.whole (n:Int):Fr:=⟨n,1⟩
def Mv.one:Mv:=⟨.whole 1,.whole 0,.whole 0,.whole 1,.whole 0,.whole 0⟩
def Fr.ok (x:Fr):Prop:=bK x.n x.d=0
def Pt.ok (p:Pt):Prop:=p.x.ok/\p.y.ok
def Mv.ok (m:Mv):Prop:=m.a.ok/\m.b.ok/\m.c.ok/\m.d.ok/\m.e.ok/\m.f.ok
abbrev Op4:=Int->Int->Int->Int->R3
def sN (op:Op4)(c:Nat)(x y:Fr):Fr×Nat:=
  if c=0 then(⟨(op x.n x.d y.n y.d).n,(op x.n x.d y.n y.d).d⟩,(op x.n x.d y.n y.d).c) else(.zero,c)
def wK (c:Nat)(a x b y:Fr):Fr×Nat:=
  sN add (sN mul (sN mul c a x).2 b y).2 (sN mul c a x).1 (sN mul (sN mul c a x).2 b y).1
def aX (c:Nat)(m:Mv)(p:Pt):Pt×Nat:=
  (⟨(wK c m.a p.x m.c p.y).1,(wK (wK c m.a p.x m.c p.y).2 m.b p.x m.d p.y).1⟩,(wK (wK c m.a p.x m.c p.y).2 m.b p.x m.d p.y).2)
def bD (c:Nat)(m:Mv)(p:Pt):Pt×Nat:=
  (⟨(sN add (aX c m p).2 (aX c m p).1.x m.e).1,(sN add (sN add (aX c m p).2 (aX c m p).1.x m.e).2 (aX c m p).1.y m.f).1⟩,
   (sN add (sN add (aX c m p).2 (aX c m p).1.x m.e).2 (aX c m p).1.y m.f).2)
def thenS (m n:Mv):Mv×Nat:=
  (⟨(aX 0 n ⟨m.a,m.b⟩).1.x,(aX 0 n ⟨m.a,m.b⟩).1.y,
    (aX (aX 0 n ⟨m.a,m.b⟩).2 n ⟨m.c,m.d⟩).1.x,(aX (aX 0 n ⟨m.a,m.b⟩).2 n ⟨m.c,m.d⟩).1.y,
    (bD (aX (aX 0 n ⟨m.a,m.b⟩).2 n ⟨m.c,m.d⟩).2 n ⟨m.e,m.f⟩).1.x,(bD (aX (aX 0 n ⟨m.a,m.b⟩).2 n ⟨m.c,m.d⟩).2 n ⟨m.e,m.f⟩).1.y⟩,
   (bD (aX (aX 0 n ⟨m.a,m.b⟩).2 n ⟨m.c,m.d⟩).2 n ⟨m.e,m.f⟩).2)
def Fr.val (x:Fr):Rat:=(x.n:Rat)/(x.d:Rat)
theorem Fr.wL {x:Fr}(h:x.ok):x.d≠0:=by have:=(dA.1 h).1;omega
structure Good (op:Op4)(F:Rat->Rat->Rat):Prop where
  two:∀x y:Fr,x.ok->y.ok->(op x.n x.d y.n y.d).c=0\/op x.n x.d y.n y.d=⟨0,0,2⟩
  val:∀x y:Fr,∀p q,op x.n x.d y.n y.d=⟨p,q,0⟩->x.ok/\y.ok/\Fr.ok ⟨p,q⟩/\Fr.val ⟨p,q⟩=F x.val y.val
theorem j6:Good add (·+·) where
  two x y hx hy:=by
    unfold add;unfold Fr.ok at hx hy;rw[if_neg (by simp[hx]),if_neg (by simp[hy])];rcases a0Z (n:=x.n*y.d+y.n*x.d) (d:=x.d*y.d) with h|h
    · exact .inr h
    · exact .inl h
  val x y p q h:=by
    obtain⟨h1,h2,h3,h4⟩:=zo.1 h;refine⟨h1,h2,h3,?_⟩;have e1:(x.d:Rat)≠0:=by simpa using Fr.wL h1
    have e2:(y.d:Rat)≠0:=by simpa using Fr.wL h2
    have e3:(q:Rat)≠0:=by simpa using Fr.wL (x:=⟨p,q⟩) h3
    have e4:(p:Rat)*(x.d*y.d)=(x.n*y.d+y.n*x.d)*q:=by exact_mod_cast h4
    unfold Fr.val;simp only;grind
theorem fO:Good mul (·* ·) where
  two x y hx hy:=by
    unfold mul;unfold Fr.ok at hx hy;rw[if_neg (by simp[hx]),if_neg (by simp[hy])];rcases a0Z (n:=x.n*y.n) (d:=x.d*y.d) with h|h
    · exact .inr h
    · exact .inl h
  val x y p q h:=by
    obtain⟨h1,h2,h3,h4⟩:=TE.1 h;refine⟨h1,h2,h3,?_⟩;have e1:(x.d:Rat)≠0:=by simpa using Fr.wL h1
    have e2:(y.d:Rat)≠0:=by simpa using Fr.wL h2
    have e3:(q:Rat)≠0:=by simpa using Fr.wL (x:=⟨p,q⟩) h3
    have e4:(p:Rat)*(x.d*y.d)=(x.n*y.n)*q:=by exact_mod_cast h4
    unfold Fr.val;simp only;grind
theorem Good.step {op:Op4}{F:Rat->Rat->Rat}(g:Good op F){c:Nat}{x y:Fr}(hc:c=0\/c=2)(hx:c=0->x.ok)(hy:c=0->y.ok):
    ((sN op c x y).2=0\/(sN op c x y).2=2)/\((sN op c x y).2=0->c=0/\(sN op c x y).1.ok/\(sN op c x y).1.val=F x.val y.val):=by
  rcases hc with rfl|rfl
  · rcases g.two x y (hx rfl) (hy rfl) with h|h
    · have:=g.val x y (op x.n x.d y.n y.d).n (op x.n x.d y.n y.d).d (by rw[<- h])
      simp only[sN,if_pos,h];exact⟨.inl trivial,fun _=>⟨trivial,this.2.2.1,this.2.2.2⟩⟩
    · simp[sN,h]
  · simp[sN]
theorem uS {c:Nat}{a x b y:Fr}(hc:c=0\/c=2)(ha:a.ok)(hx:x.ok)(hb:b.ok)(hy:y.ok):
    ((wK c a x b y).2=0\/(wK c a x b y).2=2)/\((wK c a x b y).2=0->c=0/\(wK c a x b y).1.ok/\(wK c a x b y).1.val=a.val*x.val+b.val*y.val):=by
  obtain⟨h1,k1⟩:=fO.step hc (fun _=>ha) (fun _=>hx);obtain⟨h2,k2⟩:=fO.step h1 (fun _=>hb) (fun _=>hy);obtain⟨h3,k3⟩:=j6.step h2 (x:=(sN mul c a x).1) (y:=(sN mul (sN mul c a x).2 b y).1) (fun e=>(k1 (k2 e).1).2.1) (fun e=>(k2 e).2.1);refine⟨h3,fun e=>?_⟩;obtain⟨e2,o3,v3⟩:=k3 e;obtain⟨e1,_,v2⟩:=k2 e2;obtain⟨e0,_,v1⟩:=k1 e1;exact⟨e0,o3,by rw[wK,v3,v2,v1]⟩
theorem iP {c:Nat}{m:Mv}{p:Pt}(hc:c=0\/c=2)(hm:m.ok)(hp:p.ok):
    ((aX c m p).2=0\/(aX c m p).2=2)/\((aX c m p).2=0->c=0/\(aX c m p).1.ok/\
      (aX c m p).1.x.val=m.a.val*p.x.val+m.c.val*p.y.val/\(aX c m p).1.y.val=m.b.val*p.x.val+m.d.val*p.y.val):=by
  obtain⟨h1,k1⟩:=uS hc hm.1 hp.1 hm.2.2.1 hp.2;obtain⟨h2,k2⟩:=uS h1 hm.2.1 hp.1 hm.2.2.2.1 hp.2;refine⟨h2,fun e=>?_⟩;obtain⟨e1,o2,v2⟩:=k2 e;obtain⟨e0,o1,v1⟩:=k1 e1;exact⟨e0,⟨o1,o2⟩,v1,v2⟩
theorem uj {c:Nat}{m:Mv}{p:Pt}(hc:c=0\/c=2)(hm:m.ok)(hp:p.ok):
    ((bD c m p).2=0\/(bD c m p).2=2)/\((bD c m p).2=0->c=0/\(bD c m p).1.ok/\
      (bD c m p).1.x.val=m.a.val*p.x.val+m.c.val*p.y.val+m.e.val/\(bD c m p).1.y.val=m.b.val*p.x.val+m.d.val*p.y.val+m.f.val):=by
  obtain⟨h1,k1⟩:=iP hc hm hp;unfold bD;generalize aX c m p=t at h1 k1⊢;obtain⟨h2,k2⟩:=j6.step h1 (x:=t.1.x) (y:=m.e) (fun e=>(k1 e).2.1.1) (fun _=>hm.2.2.2.2.1);generalize sN add t.2 t.1.x m.e=u at h2 k2⊢;obtain⟨h3,k3⟩:=j6.step h2 (x:=t.1.y) (y:=m.f) (fun e=>(k1 (k2 e).1).2.1.2) (fun _=>hm.2.2.2.2.2);generalize sN add u.2 t.1.y m.f=v at h3 k3⊢;refine⟨h3,fun e=>?_⟩;obtain⟨e2,o3,v3⟩:=k3 e;obtain⟨e1,o2,v2⟩:=k2 e2;obtain⟨e0,_,v0,v1⟩:=k1 e1;exact⟨e0,⟨o2,o3⟩,v2.trans (by rw[v0]),v3.trans (by rw[v1])⟩
theorem wM {m n:Mv}(hm:m.ok)(hn:n.ok):
    ((thenS m n).2=0\/(thenS m n).2=2)/\((thenS m n).2=0->(thenS m n).1.ok/\
      (thenS m n).1.a.val=n.a.val*m.a.val+n.c.val*m.b.val/\(thenS m n).1.b.val=n.b.val*m.a.val+n.d.val*m.b.val/\
      (thenS m n).1.c.val=n.a.val*m.c.val+n.c.val*m.d.val/\(thenS m n).1.d.val=n.b.val*m.c.val+n.d.val*m.d.val/\
      (thenS m n).1.e.val=n.a.val*m.e.val+n.c.val*m.f.val+n.e.val/\(thenS m n).1.f.val=n.b.val*m.e.val+n.d.val*m.f.val+n.f.val):=by
  obtain⟨h1,k1⟩:=iP (c:=0) (m:=n) (p:=⟨m.a,m.b⟩) (.inl rfl) hn ⟨hm.1,hm.2.1⟩;unfold thenS;generalize aX 0 n ⟨m.a,m.b⟩=t at h1 k1⊢;obtain⟨h2,k2⟩:=iP (m:=n) (p:=⟨m.c,m.d⟩) h1 hn ⟨hm.2.2.1,hm.2.2.2.1⟩;generalize aX t.2 n ⟨m.c,m.d⟩=u at h2 k2⊢;obtain⟨h3,k3⟩:=uj (m:=n) (p:=⟨m.e,m.f⟩) h2 hn ⟨hm.2.2.2.2.1,hm.2.2.2.2.2⟩;generalize bD u.2 n ⟨m.e,m.f⟩=v at h3 k3⊢;refine⟨h3,fun e=>?_⟩;obtain⟨e2,o3,v3,w3⟩:=k3 e;obtain⟨e1,o2,v2,w2⟩:=k2 e2;obtain⟨_,o1,v1,w1⟩:=k1 e1;exact⟨⟨o1.1,o1.2,o2.1,o2.2,o3.1,o3.2⟩,v1,w1,v2,w2,v3,w3⟩
end
section
open Go.RowKit Go.Shelf
set_option maxHeartbeats 2000000
set_option maxRecDepth 100000
attribute [local go_sem] Oper.semAt_some
structure Item where
  i:Int
  x:Fr
  h1:lH x.n
  h2:lH x.d
abbrev fv (x:Fr):Value:=.agg #[aa x.n,aa x.d]
abbrev a6A (x:Item):Array Value:=#[aa x.i,.agg #[aa x.x.n,aa x.x.d]]
theorem LP {α:Type}(xs:List α)(k:Nat)(h:k<xs.length):xs.take (k+1)=xs.take k++[xs[k]]:=by
  rw[List.take_add_one,List.getElem?_eq_getElem h];rfl
theorem F6 (F:Fence)(n:Nat)(hf:F.fn 274)(hro:F.round=none)(hn:1<=n)(l Bl Bf n₀ b len cap:Nat)(fr:Nat)(xs:List Item)(hx:xs.length=len)(hlen:len<=1000)(hfr:fr<=1000)(hb:b<n₀)(a6B:Bf<n₀)(J Jx:List Item->World->Prop)
    (hJ:∀s W W',J s W->W.grownBy W' none->J s W')
    (hY:∀pre x W,J pre W->pre.length<len->YieldAt F (n-1) prog l #[aa x.i,.agg #[aa x.x.n,aa x.x.d]] W fun e W'=>
      (e=.returned (.bool true)/\J (pre++[x]) W'/\Below n₀ W W')\/(e=.returned (.bool false)/\Jx (pre++[x]) W'))
    (W:World) (hn₀:n₀<=W.heap.size) (hBl:W.cell? (ag Bl 0)=some (.slice (some ⟨b,0,none⟩) len cap)) (hBf:W.cell? (ag Bf 0)=some (aa fr))
    (hc0:∀j (h:j<xs.length),W.cell? (ag b (j*2))=some (aa xs[j].x.n)) (hc1:∀j (h:j<xs.length),W.cell? (ag b (j*2+1))=some (aa xs[j].x.d))
    (hi:∀j (h:j<xs.length),xs[j].i=fr+j) (h0:J [] W):
    CallsIn F n prog 274 #[.func (.yield l) #[] #[],aj Bl,aj Bf] W fun e W'=>(∃v,e=.returned v)/\
      ((∃ys,ys=xs/\J ys W')\/(∃pre,pre<+:xs/\Jx pre W')):=by
  refine callsIn_of_wp func274 rfl hf ?_ hro;simp only[ntmps274,List.size_toArray,List.length_cons,List.length_nil,Nat.reduceAdd,Nat.reduceSub,Array.replicate_succ,Array.replicate_zero,List.push_toArray,List.append_toArray,List.nil_append,List.cons_append]
  gi_wp2
  gi_loopw [8] (fun i wr=>∃k:Nat,k<=len/\i=aa k/\J (xs.take k) wr/\Below n₀ W wr)
    (fun i _=>len-(intOf i).toNat)
  case atStart=>exact⟨0,Nat.zero_le _,rfl,h0,Below.refl _ _⟩
  case round=>
    obtain⟨k,hk,rfl,hJs,hnx⟩:=hrel;by_cases hlt:k<len
    · have hkx:k<xs.length:=by omega
      have c0:=(hnx.cell (p:=⟨b,k*2,none⟩) hb).trans (hc0 k hkx);have c1:=(hnx.cell (p:=⟨b,k*2+1,none⟩) hb).trans (hc1 k hkx);have cf:=(hnx.cell (p:=⟨Bf,0,none⟩) a6B).trans hBf;have hii:=hi k hkx;have hts:=LP xs k hkx;generalize xs[k]=x at c0 c1 hii hts;have hg:wr.grownBy (wr.alloc (.cells #[aa x.x.n,aa x.x.d] 127)) none:=World.grownBy_alloc wr _ none;have hal:=(Below.refl n₀ wr).alloc (Nat.le_trans hn₀ hnx.size) (.cells #[aa x.x.n,aa x.x.d] 127);have cfa:=(hal.cell (p:=⟨Bf,0,none⟩) a6B).trans cf;obtain⟨fn,tmps,assign,body,hy,hR⟩:=hY (xs.take k) x (wr.alloc (.cells #[aa x.x.n,aa x.x.d] 127)) (hJ _ _ _ hJs hg) (by rw[List.length_take];omega);rw[hii] at hy
      gi_wp2
      refine hR.mono ?_;rintro e W3 (⟨rfl,hJ3,hk3⟩|⟨rfl,hJx3⟩)
      · gi_wp2
        go_roundw
        case rel=>exact⟨k+1,by omega,by simp,by rw[hts];exact hJ3,hnx.trans (hal.trans hk3)⟩
        case measure=>simp[intOf];omega
      · gi_wp2
        refine bodyPost_ret (results_none rfl _ _ _) rfl ?_;exact⟨⟨_,rfl⟩,.inr ⟨_,by rw[<- hts];exact List.take_prefix _ _,hJx3⟩⟩
    · obtain rfl:k=len:=by omega
      gi_wp2
      go_end0
      exact⟨⟨_,rfl⟩,.inl ⟨_,by rw[List.take_of_length_le (by omega)],hJs⟩⟩
end
section
open Go.RowKit Go.Shelf
set_option maxHeartbeats 4000000
set_option maxRecDepth 100000
attribute [local go_sem] Oper.semAt_some
theorem kz {W W':World}(h:Below W.heap.size W W'):KeepsOthers W W':=
 ⟨h.size,fun k _ hk _=>(h.block k (Array.getElem?_eq_some_iff.1 hk).1).trans hk⟩
theorem LQ (W:World)(v:Value)(t:TypeId):(W.alloc (.cells #[v] t)).cell? ⟨W.heap.size,0,none⟩=some v/\(W.alloc (.cells #[v] t)).frozen? ⟨W.heap.size,0,none⟩=false:=⟨by simp,by simp⟩
theorem ah {W:World}{a:Addr}{v:Value}(o:Obj)(h:W.cell? a=some v):(W.alloc o).cell? a=some v:=cell_kept h (World.grownBy_alloc W o none) (fun r e=>by cases e)
theorem bI {W:World}{a:Addr}{v:Value}(o:Obj)(h:W.cell? a=some v)(hf:W.frozen? a=false):(W.alloc o).frozen? a=false:=(frozen_kept h (World.grownBy_alloc W o none) (fun r e=>by cases e)).trans hf
structure uT (W:World)(n₀ Bl Bf b cap fr:Nat)(xs:List Item):Prop where
 lb:Bl<n₀
 lf:Bf<n₀
 ls:b<n₀
 l:W.cell? (ag Bl 0)=some (.slice (some ⟨b,0,none⟩) xs.length cap)
 f:W.cell? (ag Bf 0)=some (aa fr)
 c0:∀j (h:j<xs.length),W.cell? (ag b (j*2))=some (aa xs[j].x.n)
 c1:∀j (h:j<xs.length),W.cell? (ag b (j*2+1))=some (aa xs[j].x.d)
 i:∀j (h:j<xs.length),xs[j].i=fr+j
 len:xs.length<=1000
 fr:fr<=1000
theorem uT.below {W W':World}{n₀ Bl Bf b cap fr:Nat}{xs:List Item}(h:uT W n₀ Bl Bf b cap fr xs)(hb:Below n₀ W W'):uT W' n₀ Bl Bf b cap fr xs:=
 ⟨h.lb,h.lf,h.ls,(hb.cell (p:=⟨Bl,0,none⟩) h.lb).trans h.l,(hb.cell (p:=⟨Bf,0,none⟩) h.lf).trans h.f,fun j hj=>(hb.cell (p:=⟨b,j*2,none⟩) h.ls).trans (h.c0 j hj),fun j hj=>(hb.cell (p:=⟨b,j*2+1,none⟩) h.ls).trans (h.c1 j hj),h.i,h.len,h.fr⟩
theorem A8 (F:Fence)(n:Nat)(hf:F.fn 274)(hro:F.round=none)(hn:1<=n)(Bl Bf n₀ b cap fr:Nat)(xs:List Item)(w:World)(hn₀:n₀<=w.heap.size)(h:uT w n₀ Bl Bf b cap fr xs):
  SeqStopsK F n prog 274 #[aj Bl,aj Bf] a6A (Below n₀) (fun ys=>ys=xs) (fun pre=>pre<+:xs) xs.length w:=fun l J Jx W hW hJ _ hY h0=>by
 have h':=h.below (hW.mono hn₀);exact F6 F n hf hro hn l Bl Bf n₀ b xs.length cap fr xs rfl h.len h.fr h.ls h.lf J Jx (fun s A B hs hg=>hJ s A B none hs hg (fun r e=>by cases e)) hY W (Nat.le_trans hn₀ hW.size) h'.l h'.f h'.c0 h'.c1 h'.i h0
theorem YV {β:Type}(B:Nat)(x y:Value):Own (fun(_:β) W=>Two W B x y):=fun _ _ _ _ hs hg hr=>
 ⟨cell_kept hs.c0 hg hr,cell_kept hs.c1 hg hr,(frozen_kept hs.c0 hg hr).trans hs.f0,(frozen_kept hs.c1 hg hr).trans hs.f1⟩
def Og (aB aS aZ:Addr)(w:World)(xs:List Item)(e:Ending)(W:World):Prop:=
 ((∀y∈xs,bK y.x.n y.x.d=0)/\e=.returned .nilIface)\/
 (∃q x r pb,xs=q++x::r/\(∀y∈q,bK y.x.n y.x.d=0)/\bK x.x.n x.x.d≠0/\w.heap.size<=pb/\e=.returned (.iface 113 (aj pb))/\W.cell? (ag pb 0)=some (aa x.i)/\W.cell? (ag pb 1)=some (er aB aS aZ (bK x.x.n x.x.d)))
theorem Ii (aB aS aZ:Addr)(Bl Bf b cap fr:Nat)(xs:List Item)(w:World)(h:uT w w.heap.size Bl Bf b cap fr xs)(hE:E3 aB aS aZ w):
  CallsIn Fence.wide 9 prog 241 #[.func (.func 274) #[] #[aj Bl,aj Bf]] w fun e W=>Og aB aS aZ w xs e W/\Below w.heap.size w W:=by
 refine callsIn_of_wp_marks func241 rfl trivial ?_ rfl;simp only[ntmps241,List.size_toArray,List.length_cons,List.length_nil,Nat.reduceAdd,Nat.reduceSub,Array.replicate_succ,Array.replicate_zero,List.push_toArray,List.append_toArray,List.nil_append,List.cons_append]
 gi_wp2
 have c0:=LQ w .nilIface 33;have hB0:Below w.heap.size w (w.alloc (.cells #[.nilIface] 33)):=(Below.refl _ w).alloc eU _;refine wpIn_rangeFunc_ownH rfl (by omega) (gf:=274) (lb:=#[aj Bl,aj Bf]) rfl trivial (enters_of func274 (by kernel_rfl) rfl)
  (A8 Fence.wide _ trivial rfl (by omega) Bl Bf w.heap.size b cap fr xs _ (by simp) (h.below hB0)) belowK_t (belowK_b (by simp)) (Below.refl _ _) (fun _=>rfl)
  (fun pre W=>((∀y∈pre,bK y.x.n y.x.d=0)/\W.cell? ⟨w.heap.size,0,none⟩=some .nilIface/\W.frozen? ⟨w.heap.size,0,none⟩=false)/\Below w.heap.size w W)
  (fun c pre W=>(c=.ret/\∃q x pb,pre=q++[x]/\(∀y∈q,bK y.x.n y.x.d=0)/\bK x.x.n x.x.d≠0/\w.heap.size<=pb/\W.cell? ⟨w.heap.size,0,none⟩=some (.iface 113 (aj pb))/\W.cell? (ag pb 0)=some (aa x.i)/\W.cell? (ag pb 1)=some (er aB aS aZ (bK x.x.n x.x.d)))/\Below w.heap.size w W)
  (OwnFrom.and (Own.from (fun s A B row hs hg hr=>⟨hs.1,cell_kept hs.2.1 hg hr,(frozen_kept hs.2.1 hg hr).trans hs.2.2⟩) _) (ownFrom_below eU (by simp)))
  (fun c=>OwnFrom.and (Own.from (fun s A B row hs hg hr=>by obtain⟨h1,q,x,pb,h2,h3,h4,h5,h6,h7,h8⟩:=hs;exact⟨h1,q,x,pb,h2,h3,h4,h5,cell_kept h6 hg hr,cell_kept h7 hg hr,cell_kept h8 hg hr⟩) _) (ownFrom_below eU (by simp)))
  ⟨⟨by simp,c0.1,c0.2⟩,hB0⟩
  (fun x a' W=>∃Bx,w.heap.size<Bx/\Two W Bx (aa x.x.n) (aa x.x.d)/\a'={tmps:=#[.func (.func 274) #[] #[aj Bl,aj Bf],undef,aj w.heap.size,aa x.i,aj Bx,undef,.func (.func 274) #[] #[aj Bl,aj Bf],aa x.i,.agg #[aa x.x.n,aa x.x.d],undef,undef,undef,undef,undef,undef,undef,undef,undef],defers:=[]})
  (fun x a' s A B row hs hg hr=>by obtain⟨Bx,h1,h2,h3⟩:=hs;exact⟨Bx,h1,(YV Bx _ _) () A B row h2 hg (fun r e=>(hr r e).2),h3⟩)
  ?assign ?body ?done ?stop
 case assign=>
  rintro l pre x W K ⟨⟨hp,hc,hf⟩,hB⟩ hK
  gi_wp2
  have hs:=hB.size;have hlt:=ay hc;exact hK _ _ ((KeepsOthers.alloc _ _).from _) ((Below.refl _ W).alloc hs _) ⟨⟨hp,ah _ hc,bI _ hc hf⟩,hB.alloc hs _⟩ ⟨W.heap.size,hlt,Two.new W _ _ _,rfl⟩
 case body=>
  rintro l pre x a' W hl hr ⟨⟨hp,hc,hf⟩,hB⟩ ⟨Bx,hBx,⟨k1,k2,k3,k4⟩,rfl⟩ hlt;have hlt:=ay hc;have hEW:=hE.below hB eU;have HK:=gU aB aS aZ x.x.n x.x.d W x.h1 x.h2 hEW;by_cases hx:bK x.x.n x.x.d=0
  ·rw[hx] at HK
   gi_wp2_with (refine⟨trivial,?_⟩;gi_at_call 132;refine(CallsIn.inRound l (callsIn_wide.2 HK)).mono ?_;rintro e w' ⟨rfl,hb⟩;simp only[nZ])
   exact⟨(kz hb).from _,hb.mono hB.size,⟨fun y hy=>(List.mem_append.1 hy).elim (hp y) (fun e=>by simp at e;subst e;exact hx),(hb.cell (p:=⟨w.heap.size,0,none⟩) hlt).trans hc,(hb.frozen (p:=⟨w.heap.size,0,none⟩) hlt).trans hf⟩,hB.trans (hb.mono hB.size)⟩
  ·obtain⟨a,ha⟩:=eT aB aS aZ (show bK x.x.n x.x.d=2\/bK x.x.n x.x.d=3 by have:=dL x.x.n x.x.d;omega);have HC:Hid (er aB aS aZ (bK x.x.n x.x.d)=.iface 390 (.pointer (some a))):=ha;have HX:Hid (¬bK x.x.n x.x.d=0):=hx;rw[ha] at HK;clear ha hx
   gi_wp2_with (refine⟨trivial,?_⟩;gi_at_call 132;refine(CallsIn.inRound l (callsIn_wide.2 HK)).mono ?_;rintro e w' ⟨rfl,hb⟩;have hz:=hb.size;have hc2:=(hb.cell (p:=⟨w.heap.size,0,none⟩) hlt).trans hc;have hf2:=(hb.frozen (p:=⟨w.heap.size,0,none⟩) hlt).trans hf;have hc3:=fun o=>ah o hc2;have hf3:=fun o=>bI o hc2 hf2)
   have hne:w'.heap.size≠w.heap.size:=by omega
   refine⟨((kz hb).trans ((KeepsOthers.alloc _ _).trans (KeepsOthers.setCell _ _ _))).from _,⟨rfl,pre,x,w'.heap.size,rfl,hp,HX.out,by have:=hB.size;omega,World.cell?_setCell_same' _ _ _ (by rw[hc3];rfl),?_,?_⟩,?_⟩
   ·rw[World.cell?_setCell_far _ _ _ _ (fun e=>hne e.symm)];simp
   ·rw[HC.out,World.cell?_setCell_far _ _ _ _ (fun e=>hne e.symm)];simp
   ·exact(hB.trans (hb.mono hB.size)).alloc (by have:=hB.size;omega) _|>.setCell (by simp) _
 case done=>
  rintro D ys W hD rfl ⟨⟨hp,hcr,hfr⟩,hB⟩ hK
  gi_wp2
  have hK':=(KeepsOthers.setCell W ⟨w.heap.size,0,none⟩ .nilIface).same D _ hK rfl;refine⟨by simp,.inl ⟨_,_,rfl,run_takeDeferred hK',?_⟩⟩;have hc5:=cell_kept (World.cell?_setCell_same' W ⟨w.heap.size,0,none⟩ .nilIface (by rw[hcr];rfl)) (grownBy_putObj' _ D (.deferred none)) (fun r e=>by cases e;exact⟨_,hK',rfl⟩);refine⟨.nilIface,?_,.inl ⟨hp,rfl⟩,(hB.setCell (p:=⟨w.heap.size,0,none⟩) (by simp) _).trans (belowK_b (w:=w) eU _ D _ _ (by simp at hD;omega) hK' rfl rfl)⟩;simp[results,results241,go_sem,hc5]
 case stop=>
  rintro D c pre W hD hpre ⟨⟨rfl,q,x,pb,rfl,h3,h4,h5,h6,h7,h8⟩,hB⟩ hK
  gi_wp2
  refine⟨by simp,.inl ⟨_,_,rfl,run_takeDeferred hK,?_⟩⟩;have hr:∀r,some D=some r->∃o:Obj,W.heap[r]? =some o/\o.isCells=false:=fun r e=>by cases e;exact⟨_,hK,rfl⟩
  have hg:=grownBy_putObj' W D (.deferred none);have hc5:=cell_kept h6 hg hr;obtain⟨r,hr'⟩:=hpre;refine⟨_,?_,.inr ⟨q,x,r,pb,by rw[<- hr'];simp,h3,h4,h5,rfl,cell_kept h7 hg hr,cell_kept h8 hg hr⟩,hB.trans (belowK_b (w:=w) eU W D _ _ (by simp at hD;omega) hK rfl rfl)⟩;simp[results,results241,go_sem,hc5]
end
section
open Go.RowKit Go.Shelf
set_option maxHeartbeats 2000000
abbrev pv (p:Pt):Value:=.agg #[aa p.x.n,aa p.x.d,aa p.y.n,aa p.y.d]
abbrev zA:Array Value:=#[aa 0,aa 0,aa 0,aa 0,aa 0,aa 0,aa 0,aa 0,aa 0,aa 0,aa 0,aa 0]
abbrev zL:List Value:=[aa 0,aa 0,aa 0,aa 0,aa 0,aa 0,aa 0,aa 0,aa 0,aa 0,aa 0,aa 0]
abbrev oA:Array Value:=#[aa 1,aa 1,aa 0,aa 1,aa 0,aa 1,aa 1,aa 1,aa 0,aa 1,aa 0,aa 1]
abbrev oL:List Value:=[aa 1,aa 1,aa 0,aa 1,aa 0,aa 1,aa 1,aa 1,aa 0,aa 1,aa 0,aa 1]
abbrev mA (m:Mv):Array Value:=#[aa m.a.n,aa m.a.d,aa m.b.n,aa m.b.d,aa m.c.n,aa m.c.d,aa m.d.n,aa m.d.d,aa m.e.n,aa m.e.d,aa m.f.n,aa m.f.d]
abbrev mL (m:Mv):List Value:=[aa m.a.n,aa m.a.d,aa m.b.n,aa m.b.d,aa m.c.n,aa m.c.d,aa m.d.n,aa m.d.d,aa m.e.n,aa m.e.d,aa m.f.n,aa m.f.d]
abbrev mv (m:Mv):Value:=.agg #[aa m.a.n,aa m.a.d,aa m.b.n,aa m.b.d,aa m.c.n,aa m.c.d,aa m.d.n,aa m.d.d,aa m.e.n,aa m.e.d,aa m.f.n,aa m.f.d]
def Fr.i64 (x:Fr):Prop:=lH x.n/\lH x.d
def Pt.i64 (p:Pt):Prop:=p.x.i64/\p.y.i64
def Mv.i64 (m:Mv):Prop:=m.a.i64/\m.b.i64/\m.c.i64/\m.d.i64/\m.e.i64/\m.f.i64
def aH:Nat->List Fr->Nat×Nat
 |_,[]=>(0,0)
 |i,x::r=>if bK x.n x.d=0 then aH (i+1) r else(bK x.n x.d,i)
theorem jH:∀(l:List Fr) (i:Nat),(∀y∈l,bK y.n y.d=0)->aH i l=(0,0)
 |[],_,_=>rfl
 |x::r,i,h=>by unfold aH;rw[if_pos (h x (by simp))];exact jH r (i+1) (fun y hy=>h y (by simp[hy]))
theorem sO:∀(q:List Fr) (x:Fr) (r:List Fr) (i:Nat),(∀y∈q,bK y.n y.d=0)->bK x.n x.d≠0->aH i (q++x::r)=(bK x.n x.d,i+q.length)
 |[],x,r,i,_,h=>by unfold aH;simp[h]
 |y::q,x,r,i,hq,h=>by
  rw[List.cons_append,aH,if_pos (hq y (by simp)),sO q x r (i+1) (fun z hz=>hq z (by simp[hz])) h];simp;omega
def Told (aB aS aZ:Addr)(B:Nat)(r:Nat×Nat)(v:Value)(W:World):Prop:=
 (r.1=0/\v=.nilIface)\/
 (r.1≠0/\(r.1=2\/r.1=3)/\∃pb,B<=pb/\v=.iface 113 (aj pb)/\W.cell? (ag pb 0)=some (aa r.2)/\W.cell? (ag pb 1)=some (er aB aS aZ r.1))
theorem Told.mono {aB aS aZ:Addr}{B B':Nat}{r:Nat×Nat}{v:Value}{W:World}(h:Told aB aS aZ B r v W)(hB:B'<=B):Told aB aS aZ B' r v W:=by
 rcases h with h|⟨h1,h2,pb,h3,h4⟩
 ·exact .inl h
 ·exact .inr ⟨h1,h2,pb,Nat.le_trans hB h3,h4⟩
theorem YW {aB aS aZ:Addr}{w:World}{xs:List Item}{e:Ending}{W:World}{fr:Nat}(hi:∀j (h:j<xs.length),xs[j].i=fr+j)(h:Og aB aS aZ w xs e W):∃v,e=.returned v/\Told aB aS aZ w.heap.size (aH fr (xs.map (·.x))) v W:=by
 rcases h with⟨h1,h2⟩|⟨q,x,r,pb,rfl,h3,h4,h5,h6,h7,h8⟩
 ·rw[jH _ _ (by simpa using h1)];exact⟨_,h2,.inl ⟨rfl,rfl⟩⟩
 ·have hx:=hi q.length (by simp);rw[List.getElem_append_right eU] at hx;simp only[Nat.sub_self,List.getElem_cons_zero] at hx;rw[List.map_append,List.map_cons,sO _ _ _ _ (by simpa using h3) h4];refine⟨_,h6,.inr ⟨h4,by have:=dL x.x.n x.x.d;simp only;omega,pb,h5,rfl,?_,h8⟩⟩;rw[h7,hx];simp
theorem kC (fr:Int)(s:Value)(a:Option Addr)(n c:Nat)(hs:s=.slice a n c)(W:World):
  ak 256 #[aa fr,s] W fun e w'=>e=.returned (.func (.func 274) #[] #[.pointer (some ⟨W.heap.size+1,0,none⟩),aj W.heap.size])/\w'=(W.alloc (.cells #[aa fr] 3)).alloc (.cells #[s] 322):=by
 subst hs;have hmf:∀(fn:Fn) (first cap:Array Value) (w:World),(Instr.makeFunc fn first cap).run prog w=.ok (.func fn first cap) w:=fun _ _ _ _=>rfl;go_enter func256,ntmps256;go_wp2;go_ret;exact⟨rfl,rfl⟩
def Mv.items (m:Mv)(h:m.i64):List Item:=
 [⟨0,m.a,h.1.1,h.1.2⟩,⟨1,m.b,h.2.1.1,h.2.1.2⟩,⟨2,m.c,h.2.2.1.1,h.2.2.1.2⟩,⟨3,m.d,h.2.2.2.1.1,h.2.2.2.1.2⟩,⟨4,m.e,h.2.2.2.2.1.1,h.2.2.2.2.1.2⟩,⟨5,m.f,h.2.2.2.2.2.1,h.2.2.2.2.2.2⟩]
def Mv.list (m:Mv):List Fr:=[m.a,m.b,m.c,m.d,m.e,m.f]
def Pt.items (p:Pt)(h:p.i64):List Item:=[⟨6,p.x,h.1.1,h.1.2⟩,⟨7,p.y,h.2.1,h.2.2⟩]
def Pt.list (p:Pt):List Fr:=[p.x,p.y]
theorem aM {W:World}{cs:Array Value}{t:TypeId}{B k:Nat}{v:Value}(hB:B=W.heap.size)(h:cs[k]? =some v):(W.alloc (.cells cs t)).cell? (ag B k)=some v:=by
 subst hB;simp[h]
theorem wN {j:Nat}(h:j<6):j=0\/j=1\/j=2\/j=3\/j=4\/j=5:=by omega
theorem wO {j:Nat}(h:j<2):j=0\/j=1:=by omega
theorem Um (m:Mv)(h:m.i64)(W:World)(t t' t'':TypeId):
  uT (((W.alloc (.cells #[aa m.a.n,aa m.a.d,aa m.b.n,aa m.b.d,aa m.c.n,aa m.c.d,aa m.d.n,aa m.d.d,aa m.e.n,aa m.e.d,aa m.f.n,aa m.f.d] t)).alloc (.cells #[aa 0] t')).alloc (.cells #[.slice (some ⟨W.heap.size,0,none⟩) 6 6] t'')) (W.heap.size+3) (W.heap.size+2) (W.heap.size+1) W.heap.size 6 0 (m.items h) where
 lb:=by omega
 lf:=by omega
 ls:=by omega
 l:=aM (by simp) rfl
 f:=ah _ (aM (by simp) rfl)
 c0:=fun j hj=>by rcases wN hj with rfl|rfl|rfl|rfl|rfl|rfl<;>exact ah _ (ah _ (aM rfl rfl))
 c1:=fun j hj=>by rcases wN hj with rfl|rfl|rfl|rfl|rfl|rfl<;>exact ah _ (ah _ (aM rfl rfl))
 i:=fun j hj=>by rcases wN hj with rfl|rfl|rfl|rfl|rfl|rfl<;>rfl
 len:=by simp[Mv.items]
 fr:=by omega
theorem Un (p:Pt)(h:p.i64)(W:World)(t t' t'':TypeId):
  uT (((W.alloc (.cells #[aa p.x.n,aa p.x.d,aa p.y.n,aa p.y.d] t)).alloc (.cells #[aa 6] t')).alloc (.cells #[.slice (some ⟨W.heap.size,0,none⟩) 2 2] t'')) (W.heap.size+3) (W.heap.size+2) (W.heap.size+1) W.heap.size 2 6 (p.items h) where
 lb:=by omega
 lf:=by omega
 ls:=by omega
 l:=aM (by simp) rfl
 f:=ah _ (aM (by simp) rfl)
 c0:=fun j hj=>by rcases wO hj with rfl|rfl<;>exact ah _ (ah _ (aM rfl rfl))
 c1:=fun j hj=>by rcases wO hj with rfl|rfl<;>exact ah _ (ah _ (aM rfl rfl))
 i:=fun j hj=>by rcases wO hj with rfl|rfl<;>rfl
 len:=by simp[Pt.items]
 fr:=by omega
theorem Qi (m:Mv)(h:m.i64)(W:World):
  ak 242 #[mv m] W fun e w'=>e=.returned (.func (.func 274) #[] #[.pointer (some ⟨W.heap.size+3,0,none⟩),.pointer (some ⟨W.heap.size+2,0,none⟩)])/\Below W.heap.size W w'/\w'.heap.size=W.heap.size+4/\uT w' (W.heap.size+4) (W.heap.size+3) (W.heap.size+2) (W.heap.size+1) 6 0 (m.items h):=by
 have HN:=kC;have HR:=Um m h;generalize m.items h=xs at HR⊢;clear h;obtain⟨⟨n1,d1⟩,⟨n2,d2⟩,⟨n3,d3⟩,⟨n4,d4⟩,⟨n5,d5⟩,⟨n6,d6⟩⟩:=m;dsimp only[mv] at HR⊢;go_enter func242,ntmps242;go_wp2_with(go_at_call 256;refine(HN 0 (.slice (some ⟨W.heap.size+1,0,none⟩) 6 6) _ _ _ rfl _).mono ?_;rintro e w' ⟨rfl,rfl⟩);go_ret;refine⟨rfl,?_,by simp,?_⟩
 ·exact((((Below.refl _ W).alloc eU _).alloc (by simp) _).alloc (by simp;omega) _).alloc (by simp;omega) _
 ·have:=HR (W.alloc (.cells #[aa n1,aa d1,aa n2,aa d2,aa n3,aa d3,aa n4,aa d4,aa n5,aa d5,aa n6,aa d6] 129)) 127 3 322;simpa using this
theorem sQ (aB aS aZ:Addr)(Bl Bf b cap fr:Nat)(xs:List Item)(w:World)(h:uT w w.heap.size Bl Bf b cap fr xs)(hE:E3 aB aS aZ w):
  ak 241 #[.func (.func 274) #[] #[aj Bl,aj Bf]] w fun e W=>(∃v,e=.returned v/\Told aB aS aZ w.heap.size (aH fr (xs.map (·.x))) v W)/\Below w.heap.size w W:=
 (callsIn_wide.1 (Ii aB aS aZ Bl Bf b cap fr xs w h hE)).mono fun _ _ hx=>⟨YW h.i hx.1,hx.2⟩
theorem xQ (aB aS aZ:Addr)(m:Mv)(h:m.i64)(W:World)(hE:E3 aB aS aZ W):
  ak 200 #[mv m] W fun e w'=>(∃v,e=.returned v/\Told aB aS aZ W.heap.size (aH 0 m.list) v w')/\Below W.heap.size W w':=by
 have HP:=Qi m h;have HC:=sQ aB aS aZ;have hl:(m.items h).map (·.x)=m.list:=rfl;generalize m.items h=xs at HP hl;generalize m.list=l at hl⊢;subst hl;clear h;obtain⟨⟨n1,d1⟩,⟨n2,d2⟩,⟨n3,d3⟩,⟨n4,d4⟩,⟨n5,d5⟩,⟨n6,d6⟩⟩:=m;dsimp only[mv] at HP⊢;go_enter func200,ntmps200;go_wp2_with(first|(go_at_call 241;refine HC1.mono ?_;rintro e w2 ⟨⟨v,rfl,ht⟩,hb2⟩)|(go_at_call 242;refine(HP _).mono ?_;rintro e w1 ⟨rfl,hb1,hz1,hR⟩;have hE1:=(hE.alloc _).below hb1 eU;rw[<- hz1] at hR;have HC1:=HC _ _ _ _ _ _ w1 hR hE1;simp only[World.size_alloc] at HC1));go_ret;have hs1:=hb1.size;rw[World.size_alloc] at hs1;exact⟨⟨v,rfl,ht.mono (by omega)⟩,(((Below.refl _ W).alloc eU _).trans (hb1.mono (by simp))).trans (hb2.mono (by omega))⟩
end
section
open Go.RowKit
set_option maxHeartbeats 4000000
structure bg (b:Nat)(W w':World):Prop where
 size:W.heap.size<=w'.heap.size
 block:∀k,k<W.heap.size->k≠b->w'.heap[k]? =W.heap[k]?
theorem bg.trans {b:Nat}{A B C:World}(h:bg b A B)(k:bg b B C):bg b A C:=
 ⟨Nat.le_trans h.size k.size,fun i hi hb=>(k.block i (Nat.lt_of_lt_of_le hi h.size) hb).trans (h.block i hi hb)⟩
theorem bg.of_below {b:Nat}{A B:World}(h:Below A.heap.size A B):bg b A B:=⟨h.size,fun i hi _=>h.block i hi⟩
theorem bg.cell {b:Nat}{A B:World}(h:bg b A B){p:Addr}{v:Value}(hp:A.cell? p=some v)(hb:p.block≠b):B.cell? p=some v:=
 (World.cell?_of_block (h.block p.block (ay hp) hb)).trans hp
theorem bg.frozen {b:Nat}{A B:World}(h:bg b A B){p:Addr}{v:Value}(hp:A.cell? p=some v)(hf:A.frozen? p=false)(hb:p.block≠b):B.frozen? p=false:=
 (World.frozen?_of_block (h.block p.block (ay hp) hb)).trans hf
structure Wk (aB aS aZ:Addr)(w0:World)(b:Nat)(c:Nat)(W:World):Prop where
 e3:E3 aB aS aZ w0
 hb:Below w0.heap.size w0 W
 lo:w0.heap.size<=b
 cell:W.cell? (ag b 0)=some (er aB aS aZ c)
 bf:W.frozen? ⟨b,0,none⟩=false
theorem Wk.at {aB aS aZ:Addr}{w0:World}{b c:Nat}{W:World}(h:Wk aB aS aZ w0 b c W):E3 aB aS aZ W:=h.e3.below h.hb eU
theorem Wk.alloc {aB aS aZ:Addr}{w0:World}{b c:Nat}{W:World}(h:Wk aB aS aZ w0 b c W)(o:Obj):Wk aB aS aZ w0 b c (W.alloc o):=
 ⟨h.e3,h.hb.alloc h.hb.size o,h.lo,ah o h.cell,bI o h.cell h.bf⟩
theorem Wk.below {aB aS aZ:Addr}{w0:World}{b c:Nat}{W W':World}(h:Wk aB aS aZ w0 b c W)(hb:Below W.heap.size W W'):Wk aB aS aZ w0 b c W':=
 ⟨h.e3,h.hb.trans (hb.mono h.hb.size),h.lo,(hb.cell (p:=⟨b,0,none⟩) (ay h.cell)).trans h.cell,(hb.frozen (p:=⟨b,0,none⟩) (ay h.cell)).trans h.bf⟩
theorem Wk.drew {aB aS aZ:Addr}{w0:World}{b c:Nat}{W:World}(h:Wk aB aS aZ w0 b c W)(k:Nat):Wk aB aS aZ w0 b c (W.drewN k):=h.below (below_drewN (Below.refl _ W) k)
theorem LU (aB aS aZ:Addr):er aB aS aZ 2=.iface 390 (.pointer (some aB)):=rfl
theorem F7 {aB aS aZ:Addr}{w0 W w1:World}{b c R:Nat}{o:Obj}{v p q:Value}(h:Wk aB aS aZ w0 b 0 w1)(hu:bg b W w1)(hR:W.heap.size<=R)(hR':w0.heap.size<=R)(hbR:b≠R)(hv:v=er aB aS aZ c):
  Wk aB aS aZ w0 b c ((((w1.alloc o).setCell ⟨b,0,none⟩ v).setCell ⟨R,0,none⟩ p).setCell ⟨R,1,none⟩ q)/\bg b W ((((w1.alloc o).setCell ⟨b,0,none⟩ v).setCell ⟨R,0,none⟩ p).setCell ⟨R,1,none⟩ q):=by
 have hw:=hu.size;refine⟨⟨h.e3,(((h.hb.alloc h.hb.size o).setCell h.lo v).setCell hR' p).setCell hR' q,h.lo,?_,?_⟩,?_,?_⟩
 ·rw[World.cell?_setCell_far _ _ _ _ (fun e=>hbR e.symm),World.cell?_setCell_far _ _ _ _ (fun e=>hbR e.symm),World.cell?_setCell_same' _ _ _ (by rw[ah o h.cell];rfl),hv]
 ·rw[World.frozen?_setCell,World.frozen?_setCell,World.frozen?_setCell];exact bI o h.cell h.bf
 ·simp;omega
 ·intro k hk hkb;rw[Below.heap_setCell _ _ _ k (by simp;omega),Below.heap_setCell _ _ _ k (by simp;omega),Below.heap_setCell _ _ _ k hkb,Below.heap_alloc _ _ k (by omega)];exact hu.block k hk hkb
theorem LV (aB aS aZ:Addr)(w0:World)(b:Nat)(x y:Fr)(W:World)(h:Wk aB aS aZ w0 b 2 W):
  ak 243 #[aj b,.func (.func 233) #[] #[],.agg #[aa x.n,aa x.d],.agg #[aa y.n,aa y.d]] W fun e w'=>e=.returned (.agg #[aa 0,aa 0])/\Below W.heap.size W w':=by
 have k1:=((h.alloc (.cells #[aa x.n,aa x.d] 127)).alloc (.cells #[aa y.n,aa y.d] 127)).alloc (.cells #[aa 0,aa 0] 127);have k2:=k1.cell;have k3:=k1.bf;rw[LU] at k2;clear k1;go_enter func243,ntmps243;go_wp2;refine bodyPost_ret (v:=.agg #[aa 0,aa 0]) (by simp[results,results243,go_sem]) rfl ⟨rfl,?_⟩;exact(((Below.refl _ W).alloc eU _).alloc (by simp) _).alloc (by simp;omega) _
theorem Qj (aB aS aZ:Addr)(w0:World)(b:Nat)(x y:Fr)(W:World)(hx:x.i64)(hy:y.i64)(hr:(add x.n x.d y.n y.d).c=0\/(add x.n x.d y.n y.d).c=2)(h:Wk aB aS aZ w0 b 0 W):
  ak 243 #[aj b,.func (.func 233) #[] #[],.agg #[aa x.n,aa x.d],.agg #[aa y.n,aa y.d]] W fun e w'=>e=.returned (.agg #[aa (add x.n x.d y.n y.d).n,aa (add x.n x.d y.n y.d).d])/\Wk aB aS aZ w0 b (add x.n x.d y.n y.d).c w'/\bg b W w':=by
 have k1:=((h.alloc (.cells #[aa x.n,aa x.d] 127)).alloc (.cells #[aa y.n,aa y.d] 127)).alloc (.cells #[aa 0,aa 0] 127);have k2:=k1.cell;have k3:=k1.bf;rw[nZ] at k2;have HO:=zy aB aS aZ x.n x.d y.n y.d _ hx.1 hx.2 hy.1 hy.2 k1.at;generalize add x.n x.d y.n y.d=r at HO hr⊢;obtain⟨p,q,c⟩:=r;have hlt:=ay h.cell;simp only at hlt hr;rcases hr with rfl|rfl
 ·simp only[nZ] at HO;go_enter func243,ntmps243;go_wp2_with fail;refine HO.mono ?_;rintro e w1 ⟨rfl,hb1⟩;have k4:=k1.below hb1;have k5:=k4.cell;have k6:=k4.bf;have k7:=fun o=>ah o k5;have k8:=fun o=>bI o k5 k6;have hz:=hb1.size;simp only[World.size_alloc] at hz;have n1:¬b=w1.heap.size:=by omega
  have n2:¬b=W.heap.size+1+1:=by omega
  have n3:¬w1.heap.size=W.heap.size+1+1:=by omega
  have n4:¬W.heap.size+1+1=w1.heap.size:=by omega
  obtain⟨t0,t1,t2,t3⟩:=(Two.new ((W.alloc (.cells #[aa x.n,aa x.d] 127)).alloc (.cells #[aa y.n,aa y.d] 127)) (aa 0) (aa 0) 127).below hb1 eU;simp only[World.size_alloc] at t0 t1 t2 t3;have t4:=fun o=>ah o t0;have t5:=fun o=>ah o t1;have t6:=fun o=>bI o t0 t2;have t7:=fun o=>bI o t1 t3;go_wp2;refine bodyPost_ret (v:=.agg #[aa p,aa q]) (by simp[results,results243,go_sem,t4,t5]) rfl ⟨rfl,?_⟩;exact F7 k4 ((bg.of_below ((((Below.refl _ W).alloc eU _).alloc (by simp) _).alloc (by simp;omega) _)).trans (bg.of_below hb1)) (by omega) (by have:=h.hb.size;omega) n2 rfl
 ·simp only[LU] at HO;go_enter func243,ntmps243;go_wp2_with fail;refine HO.mono ?_;rintro e w1 ⟨rfl,hb1⟩;have k4:=k1.below hb1;have k5:=k4.cell;have k6:=k4.bf;have k7:=fun o=>ah o k5;have k8:=fun o=>bI o k5 k6;have hz:=hb1.size;simp only[World.size_alloc] at hz;have n1:¬b=w1.heap.size:=by omega
  have n2:¬b=W.heap.size+1+1:=by omega
  have n3:¬w1.heap.size=W.heap.size+1+1:=by omega
  have n4:¬W.heap.size+1+1=w1.heap.size:=by omega
  obtain⟨t0,t1,t2,t3⟩:=(Two.new ((W.alloc (.cells #[aa x.n,aa x.d] 127)).alloc (.cells #[aa y.n,aa y.d] 127)) (aa 0) (aa 0) 127).below hb1 eU;simp only[World.size_alloc] at t0 t1 t2 t3;have t4:=fun o=>ah o t0;have t5:=fun o=>ah o t1;have t6:=fun o=>bI o t0 t2;have t7:=fun o=>bI o t1 t3;go_wp2;refine bodyPost_ret (v:=.agg #[aa p,aa q]) (by simp[results,results243,go_sem,t4,t5]) rfl ⟨rfl,?_⟩;exact F7 k4 ((bg.of_below ((((Below.refl _ W).alloc eU _).alloc (by simp) _).alloc (by simp;omega) _)).trans (bg.of_below hb1)) (by omega) (by have:=h.hb.size;omega) n2 rfl
theorem LW (aB aS aZ:Addr)(w0:World)(b:Nat)(x y:Fr)(W:World)(h:Wk aB aS aZ w0 b 2 W):
  ak 243 #[aj b,.func (.func 244) #[] #[],.agg #[aa x.n,aa x.d],.agg #[aa y.n,aa y.d]] W fun e w'=>e=.returned (.agg #[aa 0,aa 0])/\Below W.heap.size W w':=by
 have k1:=((h.alloc (.cells #[aa x.n,aa x.d] 127)).alloc (.cells #[aa y.n,aa y.d] 127)).alloc (.cells #[aa 0,aa 0] 127);have k2:=k1.cell;have k3:=k1.bf;rw[LU] at k2;clear k1;go_enter func243,ntmps243;go_wp2;refine bodyPost_ret (v:=.agg #[aa 0,aa 0]) (by simp[results,results243,go_sem]) rfl ⟨rfl,?_⟩;exact(((Below.refl _ W).alloc eU _).alloc (by simp) _).alloc (by simp;omega) _
theorem Qk (aB aS aZ:Addr)(w0:World)(b:Nat)(x y:Fr)(W:World)(hx:x.i64)(hy:y.i64)(hr:(mul x.n x.d y.n y.d).c=0\/(mul x.n x.d y.n y.d).c=2)(h:Wk aB aS aZ w0 b 0 W):
  ak 243 #[aj b,.func (.func 244) #[] #[],.agg #[aa x.n,aa x.d],.agg #[aa y.n,aa y.d]] W fun e w'=>e=.returned (.agg #[aa (mul x.n x.d y.n y.d).n,aa (mul x.n x.d y.n y.d).d])/\Wk aB aS aZ w0 b (mul x.n x.d y.n y.d).c w'/\bg b W w':=by
 have k1:=((h.alloc (.cells #[aa x.n,aa x.d] 127)).alloc (.cells #[aa y.n,aa y.d] 127)).alloc (.cells #[aa 0,aa 0] 127);have k2:=k1.cell;have k3:=k1.bf;rw[nZ] at k2;have HO:=YE aB aS aZ x.n x.d y.n y.d _ hx.1 hx.2 hy.1 hy.2 k1.at;generalize mul x.n x.d y.n y.d=r at HO hr⊢;obtain⟨p,q,c⟩:=r;have hlt:=ay h.cell;simp only at hlt hr;rcases hr with rfl|rfl
 ·simp only[nZ] at HO;go_enter func243,ntmps243;go_wp2_with fail;refine HO.mono ?_;rintro e w1 ⟨rfl,hb1⟩;have k4:=k1.below hb1;have k5:=k4.cell;have k6:=k4.bf;have k7:=fun o=>ah o k5;have k8:=fun o=>bI o k5 k6;have hz:=hb1.size;simp only[World.size_alloc] at hz;have n1:¬b=w1.heap.size:=by omega
  have n2:¬b=W.heap.size+1+1:=by omega
  have n3:¬w1.heap.size=W.heap.size+1+1:=by omega
  have n4:¬W.heap.size+1+1=w1.heap.size:=by omega
  obtain⟨t0,t1,t2,t3⟩:=(Two.new ((W.alloc (.cells #[aa x.n,aa x.d] 127)).alloc (.cells #[aa y.n,aa y.d] 127)) (aa 0) (aa 0) 127).below hb1 eU;simp only[World.size_alloc] at t0 t1 t2 t3;have t4:=fun o=>ah o t0;have t5:=fun o=>ah o t1;have t6:=fun o=>bI o t0 t2;have t7:=fun o=>bI o t1 t3;go_wp2;refine bodyPost_ret (v:=.agg #[aa p,aa q]) (by simp[results,results243,go_sem,t4,t5]) rfl ⟨rfl,?_⟩;exact F7 k4 ((bg.of_below ((((Below.refl _ W).alloc eU _).alloc (by simp) _).alloc (by simp;omega) _)).trans (bg.of_below hb1)) (by omega) (by have:=h.hb.size;omega) n2 rfl
 ·simp only[LU] at HO;go_enter func243,ntmps243;go_wp2_with fail;refine HO.mono ?_;rintro e w1 ⟨rfl,hb1⟩;have k4:=k1.below hb1;have k5:=k4.cell;have k6:=k4.bf;have k7:=fun o=>ah o k5;have k8:=fun o=>bI o k5 k6;have hz:=hb1.size;simp only[World.size_alloc] at hz;have n1:¬b=w1.heap.size:=by omega
  have n2:¬b=W.heap.size+1+1:=by omega
  have n3:¬w1.heap.size=W.heap.size+1+1:=by omega
  have n4:¬W.heap.size+1+1=w1.heap.size:=by omega
  obtain⟨t0,t1,t2,t3⟩:=(Two.new ((W.alloc (.cells #[aa x.n,aa x.d] 127)).alloc (.cells #[aa y.n,aa y.d] 127)) (aa 0) (aa 0) 127).below hb1 eU;simp only[World.size_alloc] at t0 t1 t2 t3;have t4:=fun o=>ah o t0;have t5:=fun o=>ah o t1;have t6:=fun o=>bI o t0 t2;have t7:=fun o=>bI o t1 t3;go_wp2;refine bodyPost_ret (v:=.agg #[aa p,aa q]) (by simp[results,results243,go_sem,t4,t5]) rfl ⟨rfl,?_⟩;exact F7 k4 ((bg.of_below ((((Below.refl _ W).alloc eU _).alloc (by simp) _).alloc (by simp;omega) _)).trans (bg.of_below hb1)) (by omega) (by have:=h.hb.size;omega) n2 rfl
end
section
open Go.RowKit
theorem bg.alloc {b:Nat}{A B:World}(h:bg b A B)(o:Obj):bg b A (B.alloc o):=h.trans (bg.of_below ((Below.refl _ B).alloc eU o))
theorem bg.refl (b:Nat)(A:World):bg b A A:=bg.of_below (Below.refl _ A)
theorem bg.drew (b:Nat)(A:World)(k:Nat):bg b A (A.drewN k):=bg.of_below (below_drewN (Below.refl _ A) k)
theorem bg.store {b R:Nat}{A w:World}(hu:bg b A w)(hR:A.heap.size<=R)(o:Nat)(v:Value):bg b A (w.setCell ⟨R,o,none⟩ v):=
 ⟨by simpa using hu.size,fun k hk hkb=>(Below.heap_setCell _ _ _ k (by simp;omega)).trans (hu.block k hk hkb)⟩
theorem Wk.store {aB aS aZ:Addr}{w0 w:World}{b c R:Nat}(h:Wk aB aS aZ w0 b c w)(hR:w0.heap.size<=R)(hb:R≠b)(o:Nat)(v:Value):Wk aB aS aZ w0 b c (w.setCell ⟨R,o,none⟩ v):=
 ⟨h.e3,h.hb.setCell hR v,h.lo,(World.cell?_setCell_far _ _ _ _ hb).trans h.cell,by rw[World.frozen?_setCell];exact h.bf⟩
theorem Two.upto {b R:Nat}{A B:World}{x y:Value}(h:Two A R x y)(hu:bg b A B)(hR:R≠b):Two B R x y:=
 ⟨hu.cell h.c0 hR,hu.cell h.c1 hR,hu.frozen h.c0 h.f0 hR,hu.frozen h.c1 h.f1 hR⟩
theorem Two.store {R:Nat}{w:World}{x y:Value}(hT:Two w R x y)(p q:Value):Two ((w.setCell ⟨R,0,none⟩ p).setCell ⟨R,1,none⟩ q) R p q:=by
 have c1:(w.setCell ⟨R,0,none⟩ p).cell? (ag R 1)=some y:=by rw[World.cell?_setCell_other _ _ _ _ (by simp)];exact hT.c1
 refine⟨?_,World.cell?_setCell_same' _ _ _ (by rw[c1];rfl),?_,?_⟩
 ·have:(w.setCell ⟨R,0,none⟩ p).cell? (ag R 0)=some p:=World.cell?_setCell_same' _ _ _ (by rw[hT.c0];rfl);rw[World.cell?_setCell_other _ _ _ _ (by simp)];exact this
 ·rw[World.frozen?_setCell,World.frozen?_setCell];exact hT.f0
 ·rw[World.frozen?_setCell,World.frozen?_setCell];exact hT.f1
theorem iQ {W:World}{cs:Array Value}{t:TypeId}{B k:Nat}(hB:B=W.heap.size):(W.alloc (.cells cs t)).frozen? ⟨B,k,none⟩=false:=by subst hB;simp
theorem Wk.ne {aB aS aZ:Addr}{w0:World}{b c:Nat}{V:World}(h:Wk aB aS aZ w0 b c V):V.heap.size≠b:=by
 have:=ay h.cell;simp only at this;omega
theorem bg.lo {b lo:Nat}{A w:World}(hu:bg b A w)(h:lo<=A.heap.size):lo<=w.heap.size:=Nat.le_trans h hu.size
theorem kT {lo:Nat}{A:World}{o:Obj}(h:lo<=A.heap.size):lo<=(A.alloc o).heap.size:=by rw[World.size_alloc];omega
structure Own2 (lo b:Nat)(w:World)(R:Nat)(x y:Value):Prop where
 t:Two w R x y
 ne:R≠b
 lo:lo<=R
theorem Own2.upto {lo b R:Nat}{A B:World}{x y:Value}(h:Own2 lo b A R x y)(hu:bg b A B):Own2 lo b B R x y:=⟨h.t.upto hu h.ne,h.ne,h.lo⟩
theorem Own2.new {aB aS aZ:Addr}{w0:World}{lo b c:Nat}{V B:World}{x y:Value}{t:TypeId}(h:Wk aB aS aZ w0 b c V)(hlo:lo<=V.heap.size)(hu:bg b (V.alloc (.cells #[x,y] t)) B):Own2 lo b B V.heap.size x y:=⟨(Two.new V x y t).upto hu h.ne,h.ne,hlo⟩
theorem Own2.last {aB aS aZ:Addr}{w0:World}{lo b c:Nat}{V:World}{x y:Value}{t:TypeId}(h:Wk aB aS aZ w0 b c V)(hlo:lo<=V.heap.size):Own2 lo b (V.alloc (.cells #[x,y] t)) V.heap.size x y:=⟨Two.new V x y t,h.ne,hlo⟩
theorem Own2.store {lo b R:Nat}{w:World}{x y:Value}(h:Own2 lo b w R x y)(p q:Value):Own2 lo b ((w.setCell ⟨R,0,none⟩ p).setCell ⟨R,1,none⟩ q) R p q:=⟨h.t.store p q,h.ne,h.lo⟩
theorem jA {lo:Nat}{A:World}{o:Obj}(h:lo<=A.heap.size):lo<=(A.alloc o).drew.heap.size:=kT h
theorem Own2.a6C {aB aS aZ:Addr}{w0:World}{lo b c:Nat}{V B:World}{x y:Value}{t:TypeId}(h:Wk aB aS aZ w0 b c V)(hlo:lo<=V.heap.size)(hu:bg b (V.alloc (.cells #[x,y] t)).drew B):Own2 lo b B V.heap.size x y:=⟨((Two.new V x y t).drewN 1).upto hu h.ne,h.ne,hlo⟩
def Ql (aB aS aZ:Addr)(w0:World)(b:Nat)(k:Nat)(c:Nat)(x y z:Fr)(c':Nat):Prop:=
 ∀W,Wk aB aS aZ w0 b c W->ak 243 #[aj b,.func (.func k) #[] #[],.agg #[aa x.n,aa x.d],.agg #[aa y.n,aa y.d]] W fun e w'=>e=.returned (.agg #[aa z.n,aa z.d])/\Wk aB aS aZ w0 b c' w'/\bg b W w'
theorem F8 {aB aS aZ:Addr}{w0:World}{b c:Nat}{x y:Fr}(hc:c=0\/c=2)(hx:x.i64)(hy:y.i64)(hr:c=0->(add x.n x.d y.n y.d).c=0\/(add x.n x.d y.n y.d).c=2):Ql aB aS aZ w0 b 233 c x y (sN add c x y).1 (sN add c x y).2:=fun W h=>by
 rcases hc with rfl|rfl
 ·exact Qj aB aS aZ w0 b x y W hx hy (hr rfl) h
 ·exact(LV aB aS aZ w0 b x y W h).mono fun _ _ k=>⟨k.1,h.below k.2,bg.of_below k.2⟩
theorem Oh {aB aS aZ:Addr}{w0:World}{b c:Nat}{x y:Fr}(hc:c=0\/c=2)(hx:x.i64)(hy:y.i64)(hr:c=0->(mul x.n x.d y.n y.d).c=0\/(mul x.n x.d y.n y.d).c=2):Ql aB aS aZ w0 b 244 c x y (sN mul c x y).1 (sN mul c x y).2:=fun W h=>by
 rcases hc with rfl|rfl
 ·exact Qk aB aS aZ w0 b x y W hx hy (hr rfl) h
 ·exact(LW aB aS aZ w0 b x y W h).mono fun _ _ k=>⟨k.1,h.below k.2,bg.of_below k.2⟩
structure Head (W:World)(m:Mv)(p:Pt)(V:World):Prop where
 c0:V.cell? ⟨W.heap.size,0,none⟩=some (aa m.a.n)
 c1:V.cell? ⟨W.heap.size,1,none⟩=some (aa m.a.d)
 c2:V.cell? ⟨W.heap.size,2,none⟩=some (aa m.b.n)
 c3:V.cell? ⟨W.heap.size,3,none⟩=some (aa m.b.d)
 c4:V.cell? ⟨W.heap.size,4,none⟩=some (aa m.c.n)
 c5:V.cell? ⟨W.heap.size,5,none⟩=some (aa m.c.d)
 c6:V.cell? ⟨W.heap.size,6,none⟩=some (aa m.d.n)
 c7:V.cell? ⟨W.heap.size,7,none⟩=some (aa m.d.d)
 c8:V.cell? ⟨W.heap.size,8,none⟩=some (aa m.e.n)
 c9:V.cell? ⟨W.heap.size,9,none⟩=some (aa m.e.d)
 c10:V.cell? ⟨W.heap.size,10,none⟩=some (aa m.f.n)
 c11:V.cell? ⟨W.heap.size,11,none⟩=some (aa m.f.d)
 c12:V.cell? ⟨W.heap.size+1,0,none⟩=some (aa p.x.n)
 c13:V.cell? ⟨W.heap.size+1,1,none⟩=some (aa p.x.d)
 c14:V.cell? ⟨W.heap.size+1,2,none⟩=some (aa p.y.n)
 c15:V.cell? ⟨W.heap.size+1,3,none⟩=some (aa p.y.d)
 r0:V.cell? ⟨W.heap.size+1+1,0,none⟩=some (aa 0)
 f0:V.frozen? ⟨W.heap.size+1+1,0,none⟩=false
 r1:V.cell? ⟨W.heap.size+1+1,1,none⟩=some (aa 0)
 f1:V.frozen? ⟨W.heap.size+1+1,1,none⟩=false
 r2:V.cell? ⟨W.heap.size+1+1,2,none⟩=some (aa 0)
 f2:V.frozen? ⟨W.heap.size+1+1,2,none⟩=false
 r3:V.cell? ⟨W.heap.size+1+1,3,none⟩=some (aa 0)
 f3:V.frozen? ⟨W.heap.size+1+1,3,none⟩=false
 sz:W.heap.size+3<=V.heap.size
theorem Head.new (W:World)(m:Mv)(p:Pt):Head W m p (((W.alloc (.cells (mA m) 129)).alloc (.cells #[aa p.x.n,aa p.x.d,aa p.y.n,aa p.y.d] 177)).alloc (.cells #[aa 0,aa 0,aa 0,aa 0] 177)) where
 c0:=ah _ (ah _ (aM rfl rfl))
 c1:=ah _ (ah _ (aM rfl rfl))
 c2:=ah _ (ah _ (aM rfl rfl))
 c3:=ah _ (ah _ (aM rfl rfl))
 c4:=ah _ (ah _ (aM rfl rfl))
 c5:=ah _ (ah _ (aM rfl rfl))
 c6:=ah _ (ah _ (aM rfl rfl))
 c7:=ah _ (ah _ (aM rfl rfl))
 c8:=ah _ (ah _ (aM rfl rfl))
 c9:=ah _ (ah _ (aM rfl rfl))
 c10:=ah _ (ah _ (aM rfl rfl))
 c11:=ah _ (ah _ (aM rfl rfl))
 c12:=ah _ (aM (by simp) rfl)
 c13:=ah _ (aM (by simp) rfl)
 c14:=ah _ (aM (by simp) rfl)
 c15:=ah _ (aM (by simp) rfl)
 r0:=aM (by simp) rfl
 f0:=iQ (by simp)
 r1:=aM (by simp) rfl
 f1:=iQ (by simp)
 r2:=aM (by simp) rfl
 f2:=iQ (by simp)
 r3:=aM (by simp) rfl
 f3:=iQ (by simp)
 sz:=by simp
theorem Head.upto {b:Nat}{W A B:World}{m:Mv}{p:Pt}(h:Head W m p A)(hu:bg b A B)(hb:b<W.heap.size):Head W m p B where
 c0:=hu.cell h.c0 (by simp;omega)
 c1:=hu.cell h.c1 (by simp;omega)
 c2:=hu.cell h.c2 (by simp;omega)
 c3:=hu.cell h.c3 (by simp;omega)
 c4:=hu.cell h.c4 (by simp;omega)
 c5:=hu.cell h.c5 (by simp;omega)
 c6:=hu.cell h.c6 (by simp;omega)
 c7:=hu.cell h.c7 (by simp;omega)
 c8:=hu.cell h.c8 (by simp;omega)
 c9:=hu.cell h.c9 (by simp;omega)
 c10:=hu.cell h.c10 (by simp;omega)
 c11:=hu.cell h.c11 (by simp;omega)
 c12:=hu.cell h.c12 (by simp;omega)
 c13:=hu.cell h.c13 (by simp;omega)
 c14:=hu.cell h.c14 (by simp;omega)
 c15:=hu.cell h.c15 (by simp;omega)
 r0:=hu.cell h.r0 (by simp;omega)
 f0:=hu.frozen h.r0 h.f0 (by simp;omega)
 r1:=hu.cell h.r1 (by simp;omega)
 f1:=hu.frozen h.r1 h.f1 (by simp;omega)
 r2:=hu.cell h.r2 (by simp;omega)
 f2:=hu.frozen h.r2 h.f2 (by simp;omega)
 r3:=hu.cell h.r3 (by simp;omega)
 f3:=hu.frozen h.r3 h.f3 (by simp;omega)
 sz:=Nat.le_trans h.sz hu.size
theorem Uo {W V:World}{R:Nat}{m:Mv}{p:Pt}(hd:Head W m p V)(h:V.heap.size<=R):R≠W.heap.size/\R≠W.heap.size+1:=by have:=hd.sz;omega
theorem a2s {W w:World}{m:Mv}{p:Pt}{R:Nat}{u v:Value}(h:(fun w'=>w'.cell? ⟨W.heap.size,0,none⟩=some (aa m.a.n)/\w'.cell? ⟨W.heap.size,1,none⟩=some (aa m.a.d)/\w'.cell? ⟨W.heap.size+1,0,none⟩=some (aa p.x.n)/\w'.cell? ⟨W.heap.size+1,1,none⟩=some (aa p.x.d)/\w'.cell? ⟨W.heap.size,4,none⟩=some (aa m.c.n)/\w'.cell? ⟨W.heap.size,5,none⟩=some (aa m.c.d)/\w'.cell? ⟨W.heap.size+1,2,none⟩=some (aa p.y.n)/\w'.cell? ⟨W.heap.size+1,3,none⟩=some (aa p.y.d)) w)(e1:R≠W.heap.size)(e2:R≠W.heap.size+1):(fun w'=>w'.cell? ⟨W.heap.size,0,none⟩=some (aa m.a.n)/\w'.cell? ⟨W.heap.size,1,none⟩=some (aa m.a.d)/\w'.cell? ⟨W.heap.size+1,0,none⟩=some (aa p.x.n)/\w'.cell? ⟨W.heap.size+1,1,none⟩=some (aa p.x.d)/\w'.cell? ⟨W.heap.size,4,none⟩=some (aa m.c.n)/\w'.cell? ⟨W.heap.size,5,none⟩=some (aa m.c.d)/\w'.cell? ⟨W.heap.size+1,2,none⟩=some (aa p.y.n)/\w'.cell? ⟨W.heap.size+1,3,none⟩=some (aa p.y.d)) ((w.setCell ⟨R,0,none⟩ u).setCell ⟨R,1,none⟩ v):=by
 obtain⟨k0,k1,k2,k3,k4,k5,k6,k7⟩:=h;exact⟨(World.cell?_setCell_far _ _ _ _ e1).trans ((World.cell?_setCell_far _ _ _ _ e1).trans k0),(World.cell?_setCell_far _ _ _ _ e1).trans ((World.cell?_setCell_far _ _ _ _ e1).trans k1),(World.cell?_setCell_far _ _ _ _ e2).trans ((World.cell?_setCell_far _ _ _ _ e2).trans k2),(World.cell?_setCell_far _ _ _ _ e2).trans ((World.cell?_setCell_far _ _ _ _ e2).trans k3),(World.cell?_setCell_far _ _ _ _ e1).trans ((World.cell?_setCell_far _ _ _ _ e1).trans k4),(World.cell?_setCell_far _ _ _ _ e1).trans ((World.cell?_setCell_far _ _ _ _ e1).trans k5),(World.cell?_setCell_far _ _ _ _ e2).trans ((World.cell?_setCell_far _ _ _ _ e2).trans k6),(World.cell?_setCell_far _ _ _ _ e2).trans ((World.cell?_setCell_far _ _ _ _ e2).trans k7)⟩
theorem a2t {W w:World}{m:Mv}{p:Pt}{R:Nat}{u v:Value}(h:(fun w'=>w'.cell? ⟨W.heap.size,2,none⟩=some (aa m.b.n)/\w'.cell? ⟨W.heap.size,3,none⟩=some (aa m.b.d)/\w'.cell? ⟨W.heap.size+1,0,none⟩=some (aa p.x.n)/\w'.cell? ⟨W.heap.size+1,1,none⟩=some (aa p.x.d)/\w'.cell? ⟨W.heap.size,6,none⟩=some (aa m.d.n)/\w'.cell? ⟨W.heap.size,7,none⟩=some (aa m.d.d)/\w'.cell? ⟨W.heap.size+1,2,none⟩=some (aa p.y.n)/\w'.cell? ⟨W.heap.size+1,3,none⟩=some (aa p.y.d)) w)(e1:R≠W.heap.size)(e2:R≠W.heap.size+1):(fun w'=>w'.cell? ⟨W.heap.size,2,none⟩=some (aa m.b.n)/\w'.cell? ⟨W.heap.size,3,none⟩=some (aa m.b.d)/\w'.cell? ⟨W.heap.size+1,0,none⟩=some (aa p.x.n)/\w'.cell? ⟨W.heap.size+1,1,none⟩=some (aa p.x.d)/\w'.cell? ⟨W.heap.size,6,none⟩=some (aa m.d.n)/\w'.cell? ⟨W.heap.size,7,none⟩=some (aa m.d.d)/\w'.cell? ⟨W.heap.size+1,2,none⟩=some (aa p.y.n)/\w'.cell? ⟨W.heap.size+1,3,none⟩=some (aa p.y.d)) ((w.setCell ⟨R,0,none⟩ u).setCell ⟨R,1,none⟩ v):=by
 obtain⟨k0,k1,k2,k3,k4,k5,k6,k7⟩:=h;exact⟨(World.cell?_setCell_far _ _ _ _ e1).trans ((World.cell?_setCell_far _ _ _ _ e1).trans k0),(World.cell?_setCell_far _ _ _ _ e1).trans ((World.cell?_setCell_far _ _ _ _ e1).trans k1),(World.cell?_setCell_far _ _ _ _ e2).trans ((World.cell?_setCell_far _ _ _ _ e2).trans k2),(World.cell?_setCell_far _ _ _ _ e2).trans ((World.cell?_setCell_far _ _ _ _ e2).trans k3),(World.cell?_setCell_far _ _ _ _ e1).trans ((World.cell?_setCell_far _ _ _ _ e1).trans k4),(World.cell?_setCell_far _ _ _ _ e1).trans ((World.cell?_setCell_far _ _ _ _ e1).trans k5),(World.cell?_setCell_far _ _ _ _ e2).trans ((World.cell?_setCell_far _ _ _ _ e2).trans k6),(World.cell?_setCell_far _ _ _ _ e2).trans ((World.cell?_setCell_far _ _ _ _ e2).trans k7)⟩
theorem Uq {b:Nat}{W A B:World}{m:Mv}{p:Pt}(hu:bg b A B)(h1:W.heap.size≠b)(h2:W.heap.size+1≠b)(h:(fun w'=>w'.cell? ⟨W.heap.size,0,none⟩=some (aa m.a.n)/\w'.cell? ⟨W.heap.size,1,none⟩=some (aa m.a.d)/\w'.cell? ⟨W.heap.size+1,0,none⟩=some (aa p.x.n)/\w'.cell? ⟨W.heap.size+1,1,none⟩=some (aa p.x.d)/\w'.cell? ⟨W.heap.size,4,none⟩=some (aa m.c.n)/\w'.cell? ⟨W.heap.size,5,none⟩=some (aa m.c.d)/\w'.cell? ⟨W.heap.size+1,2,none⟩=some (aa p.y.n)/\w'.cell? ⟨W.heap.size+1,3,none⟩=some (aa p.y.d)) A):(fun w'=>w'.cell? ⟨W.heap.size,0,none⟩=some (aa m.a.n)/\w'.cell? ⟨W.heap.size,1,none⟩=some (aa m.a.d)/\w'.cell? ⟨W.heap.size+1,0,none⟩=some (aa p.x.n)/\w'.cell? ⟨W.heap.size+1,1,none⟩=some (aa p.x.d)/\w'.cell? ⟨W.heap.size,4,none⟩=some (aa m.c.n)/\w'.cell? ⟨W.heap.size,5,none⟩=some (aa m.c.d)/\w'.cell? ⟨W.heap.size+1,2,none⟩=some (aa p.y.n)/\w'.cell? ⟨W.heap.size+1,3,none⟩=some (aa p.y.d)) B:=by
 obtain⟨k0,k1,k2,k3,k4,k5,k6,k7⟩:=h;exact⟨hu.cell k0 h1,hu.cell k1 h1,hu.cell k2 h2,hu.cell k3 h2,hu.cell k4 h1,hu.cell k5 h1,hu.cell k6 h2,hu.cell k7 h2⟩
theorem ny {b:Nat}{W A B:World}{m:Mv}{p:Pt}(hu:bg b A B)(h1:W.heap.size≠b)(h2:W.heap.size+1≠b)(h:(fun w'=>w'.cell? ⟨W.heap.size,2,none⟩=some (aa m.b.n)/\w'.cell? ⟨W.heap.size,3,none⟩=some (aa m.b.d)/\w'.cell? ⟨W.heap.size+1,0,none⟩=some (aa p.x.n)/\w'.cell? ⟨W.heap.size+1,1,none⟩=some (aa p.x.d)/\w'.cell? ⟨W.heap.size,6,none⟩=some (aa m.d.n)/\w'.cell? ⟨W.heap.size,7,none⟩=some (aa m.d.d)/\w'.cell? ⟨W.heap.size+1,2,none⟩=some (aa p.y.n)/\w'.cell? ⟨W.heap.size+1,3,none⟩=some (aa p.y.d)) A):(fun w'=>w'.cell? ⟨W.heap.size,2,none⟩=some (aa m.b.n)/\w'.cell? ⟨W.heap.size,3,none⟩=some (aa m.b.d)/\w'.cell? ⟨W.heap.size+1,0,none⟩=some (aa p.x.n)/\w'.cell? ⟨W.heap.size+1,1,none⟩=some (aa p.x.d)/\w'.cell? ⟨W.heap.size,6,none⟩=some (aa m.d.n)/\w'.cell? ⟨W.heap.size,7,none⟩=some (aa m.d.d)/\w'.cell? ⟨W.heap.size+1,2,none⟩=some (aa p.y.n)/\w'.cell? ⟨W.heap.size+1,3,none⟩=some (aa p.y.d)) B:=by
 obtain⟨k0,k1,k2,k3,k4,k5,k6,k7⟩:=h;exact⟨hu.cell k0 h1,hu.cell k1 h1,hu.cell k2 h2,hu.cell k3 h2,hu.cell k4 h1,hu.cell k5 h1,hu.cell k6 h2,hu.cell k7 h2⟩
theorem Ur {W A:World}{m:Mv}{p:Pt}{o:Obj}(h:(fun w'=>w'.cell? ⟨W.heap.size,0,none⟩=some (aa m.a.n)/\w'.cell? ⟨W.heap.size,1,none⟩=some (aa m.a.d)/\w'.cell? ⟨W.heap.size+1,0,none⟩=some (aa p.x.n)/\w'.cell? ⟨W.heap.size+1,1,none⟩=some (aa p.x.d)/\w'.cell? ⟨W.heap.size,4,none⟩=some (aa m.c.n)/\w'.cell? ⟨W.heap.size,5,none⟩=some (aa m.c.d)/\w'.cell? ⟨W.heap.size+1,2,none⟩=some (aa p.y.n)/\w'.cell? ⟨W.heap.size+1,3,none⟩=some (aa p.y.d)) A):(fun w'=>w'.cell? ⟨W.heap.size,0,none⟩=some (aa m.a.n)/\w'.cell? ⟨W.heap.size,1,none⟩=some (aa m.a.d)/\w'.cell? ⟨W.heap.size+1,0,none⟩=some (aa p.x.n)/\w'.cell? ⟨W.heap.size+1,1,none⟩=some (aa p.x.d)/\w'.cell? ⟨W.heap.size,4,none⟩=some (aa m.c.n)/\w'.cell? ⟨W.heap.size,5,none⟩=some (aa m.c.d)/\w'.cell? ⟨W.heap.size+1,2,none⟩=some (aa p.y.n)/\w'.cell? ⟨W.heap.size+1,3,none⟩=some (aa p.y.d)) (A.alloc o):=by
 obtain⟨k0,k1,k2,k3,k4,k5,k6,k7⟩:=h;exact⟨ah _ k0,ah _ k1,ah _ k2,ah _ k3,ah _ k4,ah _ k5,ah _ k6,ah _ k7⟩
theorem YX {W A:World}{m:Mv}{p:Pt}{o:Obj}(h:(fun w'=>w'.cell? ⟨W.heap.size,0,none⟩=some (aa m.a.n)/\w'.cell? ⟨W.heap.size,1,none⟩=some (aa m.a.d)/\w'.cell? ⟨W.heap.size+1,0,none⟩=some (aa p.x.n)/\w'.cell? ⟨W.heap.size+1,1,none⟩=some (aa p.x.d)/\w'.cell? ⟨W.heap.size,4,none⟩=some (aa m.c.n)/\w'.cell? ⟨W.heap.size,5,none⟩=some (aa m.c.d)/\w'.cell? ⟨W.heap.size+1,2,none⟩=some (aa p.y.n)/\w'.cell? ⟨W.heap.size+1,3,none⟩=some (aa p.y.d)) A.drew):(fun w'=>w'.cell? ⟨W.heap.size,0,none⟩=some (aa m.a.n)/\w'.cell? ⟨W.heap.size,1,none⟩=some (aa m.a.d)/\w'.cell? ⟨W.heap.size+1,0,none⟩=some (aa p.x.n)/\w'.cell? ⟨W.heap.size+1,1,none⟩=some (aa p.x.d)/\w'.cell? ⟨W.heap.size,4,none⟩=some (aa m.c.n)/\w'.cell? ⟨W.heap.size,5,none⟩=some (aa m.c.d)/\w'.cell? ⟨W.heap.size+1,2,none⟩=some (aa p.y.n)/\w'.cell? ⟨W.heap.size+1,3,none⟩=some (aa p.y.d)) (A.alloc o).drew:=Ur (A:=A) h
theorem Us {W A:World}{m:Mv}{p:Pt}{o:Obj}(h:(fun w'=>w'.cell? ⟨W.heap.size,2,none⟩=some (aa m.b.n)/\w'.cell? ⟨W.heap.size,3,none⟩=some (aa m.b.d)/\w'.cell? ⟨W.heap.size+1,0,none⟩=some (aa p.x.n)/\w'.cell? ⟨W.heap.size+1,1,none⟩=some (aa p.x.d)/\w'.cell? ⟨W.heap.size,6,none⟩=some (aa m.d.n)/\w'.cell? ⟨W.heap.size,7,none⟩=some (aa m.d.d)/\w'.cell? ⟨W.heap.size+1,2,none⟩=some (aa p.y.n)/\w'.cell? ⟨W.heap.size+1,3,none⟩=some (aa p.y.d)) A):(fun w'=>w'.cell? ⟨W.heap.size,2,none⟩=some (aa m.b.n)/\w'.cell? ⟨W.heap.size,3,none⟩=some (aa m.b.d)/\w'.cell? ⟨W.heap.size+1,0,none⟩=some (aa p.x.n)/\w'.cell? ⟨W.heap.size+1,1,none⟩=some (aa p.x.d)/\w'.cell? ⟨W.heap.size,6,none⟩=some (aa m.d.n)/\w'.cell? ⟨W.heap.size,7,none⟩=some (aa m.d.d)/\w'.cell? ⟨W.heap.size+1,2,none⟩=some (aa p.y.n)/\w'.cell? ⟨W.heap.size+1,3,none⟩=some (aa p.y.d)) (A.alloc o):=by
 obtain⟨k0,k1,k2,k3,k4,k5,k6,k7⟩:=h;exact⟨ah _ k0,ah _ k1,ah _ k2,ah _ k3,ah _ k4,ah _ k5,ah _ k6,ah _ k7⟩
theorem YY {W A:World}{m:Mv}{p:Pt}{o:Obj}(h:(fun w'=>w'.cell? ⟨W.heap.size,2,none⟩=some (aa m.b.n)/\w'.cell? ⟨W.heap.size,3,none⟩=some (aa m.b.d)/\w'.cell? ⟨W.heap.size+1,0,none⟩=some (aa p.x.n)/\w'.cell? ⟨W.heap.size+1,1,none⟩=some (aa p.x.d)/\w'.cell? ⟨W.heap.size,6,none⟩=some (aa m.d.n)/\w'.cell? ⟨W.heap.size,7,none⟩=some (aa m.d.d)/\w'.cell? ⟨W.heap.size+1,2,none⟩=some (aa p.y.n)/\w'.cell? ⟨W.heap.size+1,3,none⟩=some (aa p.y.d)) A.drew):(fun w'=>w'.cell? ⟨W.heap.size,2,none⟩=some (aa m.b.n)/\w'.cell? ⟨W.heap.size,3,none⟩=some (aa m.b.d)/\w'.cell? ⟨W.heap.size+1,0,none⟩=some (aa p.x.n)/\w'.cell? ⟨W.heap.size+1,1,none⟩=some (aa p.x.d)/\w'.cell? ⟨W.heap.size,6,none⟩=some (aa m.d.n)/\w'.cell? ⟨W.heap.size,7,none⟩=some (aa m.d.d)/\w'.cell? ⟨W.heap.size+1,2,none⟩=some (aa p.y.n)/\w'.cell? ⟨W.heap.size+1,3,none⟩=some (aa p.y.d)) (A.alloc o).drew:=Us (A:=A) h
theorem a6D {W V:World}{m:Mv}{p:Pt}(h:Head W m p V):(fun w'=>w'.cell? ⟨W.heap.size,0,none⟩=some (aa m.a.n)/\w'.cell? ⟨W.heap.size,1,none⟩=some (aa m.a.d)/\w'.cell? ⟨W.heap.size+1,0,none⟩=some (aa p.x.n)/\w'.cell? ⟨W.heap.size+1,1,none⟩=some (aa p.x.d)/\w'.cell? ⟨W.heap.size,4,none⟩=some (aa m.c.n)/\w'.cell? ⟨W.heap.size,5,none⟩=some (aa m.c.d)/\w'.cell? ⟨W.heap.size+1,2,none⟩=some (aa p.y.n)/\w'.cell? ⟨W.heap.size+1,3,none⟩=some (aa p.y.d)) (V.drewN 1):=⟨h.c0,h.c1,h.c12,h.c13,h.c4,h.c5,h.c14,h.c15⟩
theorem a6E {W V:World}{m:Mv}{p:Pt}(h:Head W m p V):(fun w'=>w'.cell? ⟨W.heap.size,2,none⟩=some (aa m.b.n)/\w'.cell? ⟨W.heap.size,3,none⟩=some (aa m.b.d)/\w'.cell? ⟨W.heap.size+1,0,none⟩=some (aa p.x.n)/\w'.cell? ⟨W.heap.size+1,1,none⟩=some (aa p.x.d)/\w'.cell? ⟨W.heap.size,6,none⟩=some (aa m.d.n)/\w'.cell? ⟨W.heap.size,7,none⟩=some (aa m.d.d)/\w'.cell? ⟨W.heap.size+1,2,none⟩=some (aa p.y.n)/\w'.cell? ⟨W.heap.size+1,3,none⟩=some (aa p.y.d)) (V.drewN 1):=⟨h.c2,h.c3,h.c12,h.c13,h.c6,h.c7,h.c14,h.c15⟩
end
section
open Go.RowKit
set_option maxHeartbeats 8000000
theorem LX (aB aS aZ:Addr)(w0:World)(b:Nat)(m:Mv)(p:Pt)(x1 x2 x3 y1 y2 y3:Fr)(c c1 c2 c3 c4 c5 c6:Nat)(W:World)(h:Wk aB aS aZ w0 b c W)
  (D1:Ql aB aS aZ w0 b 244 c m.a p.x x1 c1) (D2:Ql aB aS aZ w0 b 244 c1 m.c p.y x2 c2) (D3:Ql aB aS aZ w0 b 233 c2 x1 x2 x3 c3)
  (D4:Ql aB aS aZ w0 b 244 c3 m.b p.x y1 c4) (D5:Ql aB aS aZ w0 b 244 c4 m.d p.y y2 c5) (D6:Ql aB aS aZ w0 b 233 c5 y1 y2 y3 c6):
  ak 201 #[aj b,mv m,pv p] W fun e w'=>e=.returned (.agg #[aa x3.n,aa x3.d,aa y3.n,aa y3.d])/\Wk aB aS aZ w0 b c6 w'/\bg b W w':=by
 have hlt:=ay h.cell;simp only at hlt;have YZ:W.heap.size≠b:=by omega
 have nb1:W.heap.size+1≠b:=by omega
 have hF:∃V,(((W.alloc (.cells (mA m) 129)).alloc (.cells #[aa p.x.n,aa p.x.d,aa p.y.n,aa p.y.d] 177)).alloc (.cells #[aa 0,aa 0,aa 0,aa 0] 177))=V/\Head W m p V/\Wk aB aS aZ w0 b c V/\bg b W V:=⟨_,rfl,Head.new W m p,((h.alloc _).alloc _).alloc _,(((bg.refl b W).alloc _).alloc _).alloc _⟩;go_enter func201,ntmps201;go_upto_region 1 with fail;obtain⟨V,hV,hH,HK,HU⟩:=hF;rw[hV];have hw0:=h.hb.size;clear hV h;go_upto_region 1 with fail
 go_cut [7] (fun s wx=>∃R,s=aj R/\Own2 V.heap.size b wx R (aa x3.n) (aa x3.d)/\Wk aB aS aZ w0 b c3 wx/\bg b V wx)
 case first=>
  have hS:=a6D hH;have hk0:=HK.drew 1;have z0:V.heap.size<=(V.drewN 1).heap.size:=Nat.le_refl _;have U0:bg b V (V.drewN 1):=bg.drew b _ 1
  go_region_held3 (fun w'=>w'.cell? ⟨W.heap.size,0,none⟩=some (aa m.a.n)/\w'.cell? ⟨W.heap.size,1,none⟩=some (aa m.a.d)/\w'.cell? ⟨W.heap.size+1,0,none⟩=some (aa p.x.n)/\w'.cell? ⟨W.heap.size+1,1,none⟩=some (aa p.x.d)/\w'.cell? ⟨W.heap.size,4,none⟩=some (aa m.c.n)/\w'.cell? ⟨W.heap.size,5,none⟩=some (aa m.c.d)/\w'.cell? ⟨W.heap.size+1,2,none⟩=some (aa p.y.n)/\w'.cell? ⟨W.heap.size+1,3,none⟩=some (aa p.y.d)) (first|assumption|exact a2s (by assumption) q6 q7|exact Ur (by assumption)|exact YX (by assumption)|go_keep) (first|(go_at_call_of 243 x1.n;refine(D3 _ ?_).mono ?_;(first|exact hk2|exact hk2.alloc _|exact HK.jc _);rintro e w3 ⟨rfl,hk3,hu3⟩;have hs3:=Uq hu3 YZ nb1 (by assumption);have z3:V.heap.size<=w3.heap.size:=(by first|exact hu3.lo z2|exact hu3.lo (kT z2)|exact hu3.lo (jA eU));have U3:bg b V w3:=(by first|exact U2.trans hu3|exact(U2.alloc _).trans hu3|exact((bg.refl b V).jc _).trans hu3);(try have hT:=Own2.new hk2 z2 hu3);(try have hT:=Own2.upto hT hu3);(try(obtain⟨⟨q0,q1,q2,q3⟩,q4,q5⟩:=hT;obtain⟨q6,q7⟩:=Uo hH q5)))|(go_at_call_of 243 m.c.n;refine(D2 _ ?_).mono ?_;(first|exact hk1|exact hk1.alloc _|exact HK.jc _);rintro e w2 ⟨rfl,hk2,hu2⟩;have hs2:=Uq hu2 YZ nb1 (by assumption);have z2:V.heap.size<=w2.heap.size:=(by first|exact hu2.lo z1|exact hu2.lo (kT z1)|exact hu2.lo (jA eU));have U2:bg b V w2:=(by first|exact U1.trans hu2|exact(U1.alloc _).trans hu2|exact((bg.refl b V).jc _).trans hu2);(try have hT:=Own2.new hk1 z1 hu2);(try have hT:=Own2.upto hT hu2))|(go_at_call_of 243 m.a.n;refine(D1 _ ?_).mono ?_;(first|exact hk0|exact hk0.alloc _|exact HK.jc _);rintro e w1 ⟨rfl,hk1,hu1⟩;have hs1:=Uq hu1 YZ nb1 (by assumption);have z1:V.heap.size<=w1.heap.size:=(by first|exact hu1.lo z0|exact hu1.lo (kT z0)|exact hu1.lo (jA eU));have U1:bg b V w1:=(by first|exact U0.trans hu1|exact(U0.alloc _).trans hu1|exact((bg.refl b V).jc _).trans hu1);(try have hT:=Own2.new hk0 z0 hu1);(try have hT:=Own2.a6C HK eU hu1)))
  all_goals(go_wp2_with fail;go_meet;first|exact⟨_,rfl,Own2.last hk3 z3,hk3.alloc _,U3.alloc _⟩|exact⟨_,rfl,(Own2.mk (Two.mk q0 q1 q2 q3) q4 q5).store _ _,(hk3.store (Nat.le_trans HK.hb.size q5) q4 _ _).store (Nat.le_trans HK.hb.size q5) q4 _ _,(U3.store q5 _ _).store q5 _ _⟩)
 case rest=>
  obtain⟨R,rfl,hR,HK2,HU2⟩:=hcut;replace hH:=hH.upto HU2 hlt;replace HU:=HU.trans HU2;clear HK HU2;have HK:=HK2;clear HK2;go_upto_region 2 with fail
  go_cut [8] (fun s wx=>∃R,s=aj R/\Own2 wc.heap.size b wx R (aa y3.n) (aa y3.d)/\Wk aB aS aZ w0 b c6 wx/\bg b wc wx)
  case first=>
   have hS:=a6E hH;have hk0:=HK.drew 1;have z0:wc.heap.size<=(wc.drewN 1).heap.size:=Nat.le_refl _;have U0:bg b wc (wc.drewN 1):=bg.drew b _ 1
   go_region_held3 (fun w'=>w'.cell? ⟨W.heap.size,2,none⟩=some (aa m.b.n)/\w'.cell? ⟨W.heap.size,3,none⟩=some (aa m.b.d)/\w'.cell? ⟨W.heap.size+1,0,none⟩=some (aa p.x.n)/\w'.cell? ⟨W.heap.size+1,1,none⟩=some (aa p.x.d)/\w'.cell? ⟨W.heap.size,6,none⟩=some (aa m.d.n)/\w'.cell? ⟨W.heap.size,7,none⟩=some (aa m.d.d)/\w'.cell? ⟨W.heap.size+1,2,none⟩=some (aa p.y.n)/\w'.cell? ⟨W.heap.size+1,3,none⟩=some (aa p.y.d)) (first|assumption|exact a2t (by assumption) q6 q7|exact Us (by assumption)|exact YY (by assumption)|go_keep) (first|(go_at_call_of 243 y1.n;refine(D6 _ ?_).mono ?_;(first|exact hk2|exact hk2.alloc _|exact HK.jc _);rintro e w3 ⟨rfl,hk3,hu3⟩;have hs3:=ny hu3 YZ nb1 (by assumption);have z3:wc.heap.size<=w3.heap.size:=(by first|exact hu3.lo z2|exact hu3.lo (kT z2)|exact hu3.lo (jA eU));have U3:bg b wc w3:=(by first|exact U2.trans hu3|exact(U2.alloc _).trans hu3|exact((bg.refl b wc).jc _).trans hu3);(try have hT:=Own2.new hk2 z2 hu3);(try have hT:=Own2.upto hT hu3);(try(obtain⟨⟨q0,q1,q2,q3⟩,q4,q5⟩:=hT;obtain⟨q6,q7⟩:=Uo hH q5)))|(go_at_call_of 243 m.d.n;refine(D5 _ ?_).mono ?_;(first|exact hk1|exact hk1.alloc _|exact HK.jc _);rintro e w2 ⟨rfl,hk2,hu2⟩;have hs2:=ny hu2 YZ nb1 (by assumption);have z2:wc.heap.size<=w2.heap.size:=(by first|exact hu2.lo z1|exact hu2.lo (kT z1)|exact hu2.lo (jA eU));have U2:bg b wc w2:=(by first|exact U1.trans hu2|exact(U1.alloc _).trans hu2|exact((bg.refl b wc).jc _).trans hu2);(try have hT:=Own2.new hk1 z1 hu2);(try have hT:=Own2.upto hT hu2))|(go_at_call_of 243 m.b.n;refine(D4 _ ?_).mono ?_;(first|exact hk0|exact hk0.alloc _|exact HK.jc _);rintro e w1 ⟨rfl,hk1,hu1⟩;have hs1:=ny hu1 YZ nb1 (by assumption);have z1:wc.heap.size<=w1.heap.size:=(by first|exact hu1.lo z0|exact hu1.lo (kT z0)|exact hu1.lo (jA eU));have U1:bg b wc w1:=(by first|exact U0.trans hu1|exact(U0.alloc _).trans hu1|exact((bg.refl b wc).jc _).trans hu1);(try have hT:=Own2.new hk0 z0 hu1);(try have hT:=Own2.a6C HK eU hu1)))
   all_goals(go_wp2_with fail;go_meet;first|exact⟨_,rfl,Own2.last hk3 z3,hk3.alloc _,U3.alloc _⟩|exact⟨_,rfl,(Own2.mk (Two.mk q0 q1 q2 q3) q4 q5).store _ _,(hk3.store (Nat.le_trans HK.hb.size q5) q4 _ _).store (Nat.le_trans HK.hb.size q5) q4 _ _,(U3.store q5 _ _).store q5 _ _⟩)
  case rest=>
   obtain⟨R2,rfl,hR2,HK2,HU2⟩:=hcut;have hH2:=hH.upto HU2 hlt;have HU3:=HU.trans HU2;have hT1:=hR.t.upto HU2 hR.ne;obtain⟨a0,a1,a2,a3⟩:=hT1;obtain⟨d0,d1,d2,d3⟩:=hR2.t;obtain⟨e0,e1,e2,e3⟩:=And.intro hH2.r0 (And.intro hH2.r1 (And.intro hH2.r2 hH2.r3));obtain⟨f0,f1,f2,f3⟩:=And.intro hH2.f0 (And.intro hH2.f1 (And.intro hH2.f2 hH2.f3));go_wp2;refine bodyPost_ret (v:=.agg #[aa x3.n,aa x3.d,aa y3.n,aa y3.d]) (by simp[results,results201,go_sem,e0,e1,e2,e3]) rfl ⟨rfl,?_,?_⟩
   ·have hq:w0.heap.size<=W.heap.size+1+1:=by omega
    have hn:W.heap.size+1+1≠b:=by omega
    exact(((HK2.store hq hn _ _).store hq hn _ _).store hq hn _ _).store hq hn _ _
   ·have hq:W.heap.size<=W.heap.size+1+1:=by omega
    exact(((HU3.store hq _ _).store hq _ _).store hq _ _).store hq _ _
end
end Go.Proofs.YtjfiehbcamfdfaaGreatDoor

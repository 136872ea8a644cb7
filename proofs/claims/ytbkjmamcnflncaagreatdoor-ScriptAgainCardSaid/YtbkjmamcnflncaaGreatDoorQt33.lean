import Derived.Test.YtbkjmamcnflncaaGreatDoorQt24
namespace Go.Proofs.YtbkjmamcnflncaaGreatDoor
open Go.Proofs.Tryz
set_option maxHeartbeats 8000000
variable{e:Ending}{m:Mv}{α:Type}
section
open Go
section
variable {P:Program}{A:Array Oper}{Q:Exit->Act->ai->Prop}{C:Region.Mode}{S:ai->Prop}{z:Nat}
def sN (P:Program)(C:Region.Mode)(A:Array Oper)(Q:Exit->Act->ai->Prop)(S:ai->Prop)(z:Nat):Nat->Array Bool->Act->ai->Prop
 |0,b,a,w=>Region.ready C A b=[]/\Q .normal a w
 |c+1,b,a,w=>
  (Region.ready C A b=[]->Q .normal a w)/\
  ∀i∈Region.ready C A b,wpOp P A Q i (λe d=>(i≠z->S d)/\sN P C A Q S z c (b.setIfInBounds i true) e d) a w
theorem Si:∀(fuel:Nat) (b:Array Bool) (a:Act) (w:ai),sN P C A Q S z fuel b a w->wpAny P C A Q fuel b a w
 |0,_,_,_,h=>h
 |fuel+1,_,_,_,h=>⟨h.1,λi c=>wpOp_mono (λd e f=>Si fuel _ d e f.2) (h.2 i c)⟩
def O3 (C:Region.Mode)(A:Array Oper)(z i:Nat):Bool:=match A[z]? with
 |some o=>o.after.any λe=>Region.binds C e && e.on==i
 |none=>false
theorem VC {i:Nat}{a:Array Bool}(h:O3 C A z i=true)(hi:a.getD i true=false):z ∉ Region.ready C A a:=λc=>by
 obtain⟨-,o,d,b⟩:=mem_ready.1 c;unfold O3 at h;grind
theorem a8o {i:Nat}{q:Oper}{v:ax}(hi:A[i]? =some q)(l:∀(j:Nat) (o:Oper) cs b,A[j]? =some o->o.op≠.select cs b)(K:O3 C A z i=true)
  (L:∀c a w,Q (.panic c) (a.put q.dst v) w->Q (.panic c) a w):
  ∀(fuel:Nat) (d:Array Bool) (a:Act) (w:ai),
   (∀j m,A[j]? =some m->j≠i->d.getD j true=false->(∀e∈m.after,Region.binds C e=true->e.on≠i)->q.apart A m=true)->
   i∈Region.ready C A d->YieldsIf P A S q v a->S w->
   sN P C A Q S z fuel (d.setIfInBounds i true) (a.put q.dst v) w->sN P C A Q S z (fuel+1) d a w:=by
 intro fuel
 induction fuel with
 |zero=>
  intro d a w _ n x hS H;refine⟨λh=>(by rw[h] at n;cases n),λj r=>?_⟩;by_cases f:j=i
  .subst f;exact x.wpOp hi hS ⟨λ_=>hS,H⟩
  .have:=ready_mono r f;rw[H.1] at this;cases this
 |succ fuel M=>
  intro d a w g n x hS H;refine⟨λh=>(by rw[h] at n;cases n),λj r=>?_⟩;by_cases f:j=i
  .subst f;exact x.wpOp hi hS ⟨λ_=>hS,H⟩
  .have B:=(mem_ready.1 n).1;have D:j≠z:=λe=>VC K B (e▸r);have N:=H.2 j (ready_mono r f);obtain⟨s,m,p,J⟩:=mem_ready.1 r;have t:∀e∈m.after,Region.binds C e=true->e.on≠i:=λe X Y O=>by grind
   have R:=wpOp_putIf p (g j m p f s t) (λcs b=>l i q cs b hi) (λcs b=>l j m cs b p) L x N;refine wpOp_mono (λT U y=>⟨y.2.1,M (d.setIfInBounds j true) T U (λk V W E u F=>g k V W E ?_ F) (ready_mono n (Ne.symm f)) y.1 (y.2.1 D) ?_⟩) R
   .by_cases I:j=k
    .grind
    .rw[getD_set_ne true I] at u;exact u
   .rw[Array.setIfInBounds_comm _ _ f];exact y.2.2
theorem dQ (i:Nat){d:Oper}{v:ax}{fuel:Nat}{b:Array Bool}{a:Act}{w:ai}(hi:A[i]? =some d)
  (hs:Region.noSelect A=true) (e:O3 C A z i=true) (f:Region.free C A b i=true) (g:(Region.ready C A b).contains i=true)
  (j:∀c a w,Q (.panic c) (a.put d.dst v) w->Q (.panic c) a w) (hS:S w) (k:YieldsIf P A S d v a)
  (h:sN P C A Q S z fuel (b.setIfInBounds i true) (a.put d.dst v) w):sN P C A Q S z (fuel+1) b a w:=
 a8o hi (Region.noSelect_spec hs) e j fuel b a w (Region.free_spec hi f) (by simpa using g) k hS h
theorem nT (i:Nat){o:Oper}{fuel:Nat}{b:Array Bool}{a:Act}{w:ai}(e:Region.ready C A b=[i])(g:A[i]? =some o)
  (h:∀c:Act->ai->Prop,Shut (∀a w,(i≠z->S w)->sN P C A Q S z fuel (b.setIfInBounds i true) a w->c a w)->if Region.wanted o (yielded A a.tmps)=true then Oper.wp P o a w c Q else c (a.put o.dst undef) w):sN P C A Q S z (fuel+1) b a w:=by
 refine⟨λf=>(by rw[e] at f;cases f),λj k=>?_⟩;rw[e] at k;have d:j=i:=by grind
 subst d;exact wpOp_step g (λc l=>h c (λa w hS m=>l a w ⟨hS,m⟩))
theorem VD {b:Array Bool}{a:Act}{w:ai}(c:Region.ready C A b=[])(h:Q .normal a w):∀fuel,sN P C A Q S z fuel b a w
 |0=>⟨c,h⟩
 |_+1=>⟨λ_=>h,by rw[c];simp⟩
theorem J5 {id:Nat}{a:Act}{w:ai}(S:ai->Prop)(z:Nat)(b:P.follows .mixedOrders=true)
  (h:sN P .any A Q S z A.size (Array.replicate A.size false) a w.drew):(Code.region id A true).wp P Q a w:=
 wp_region_any b (Si _ _ _ _ h)
end
end
section
open Go.RowKit Go.Shelf
set_option maxRecDepth 20000
def lZ (E:Nat->Addr)(a g DB:Nat)(h:ax)(v:ax)(V:ai)(x:Except Ft (Nat×List Pc))(e:Ending)(w':ai):Prop:=match x with
 | .error f=>∃u,e=ay u/\FtV E f V.heap.size u w'
 | .ok st=>e=ay aY/\∃d c,d.map fM.pc=st.2/\Sc a g DB h st.1 d c w'/\(c.ownBlock=v.ownBlock\/∀b,c.ownBlock=some b->V.heap.size<=b)
def zP (n:Int)(m:Mv)(x:Except Nat (List Qt))(a d b:Bs)(st:Nat×List Pc):Except Ft (Nat×List Pc):=match x with
 | .error c=>.error ⟨wU c,n⟩
 | .ok q=>match goM m q with
  |none=>.error ⟨2,n⟩
  |some e=>if a=yS then .ok st else .ok (st.1,st.2++[⟨n,e,a,d,JE b⟩])
theorem TM.below {E:Nat->Addr}{c:Nat}{v:ax}{w w':ai}(h:TM E c v w)(d:aD w w'):TM E c v w':=by
 obtain⟨e,f,a⟩:=h;refine⟨e,f,?_⟩;rcases a with a|⟨g,i,a,b⟩
 .exact .inl a
 .exact .inr ⟨g,i,a,(d.cell (aX b)).trans b⟩
theorem rz.below {E:Nat->Addr}{x:Except Nat (List Qt)}{w w':ai}(h:rz E x e w)(d:aD w w'):rz E x e w':=by
 cases x with
 |error k=>
  obtain⟨v,a,b⟩:=h;exact⟨v,a,b.below d⟩
 |ok l=>
  obtain⟨f,a,o,c,b,g⟩:=h;exact⟨f,a,o,c,b,g.below d az⟩
def acG (E:Nat->Addr)(x:Except Nat (List Qt))(V:ai)(b g:ax)(a:ai):Prop:=∃c d e f,b=aK c/\V.heap.size<=c/\a.heap[c]? =some (ak #[aj d e f] 113)/\rz E x (ay (aH #[.agg #[aj d e f],g])) a/\aD V a
theorem a3X {E:Nat->Addr}{x:Except Nat (List Qt)}{V a:ai}{c:Option Addr}{d e:Nat}{f:ax}(h:rz E x (ay (aH #[.agg #[aj c d e],f])) a)(b:aD V a):acG E x V (aK a.heap.size) f (a.alloc (ak #[aj c d e] 113)):=
 ⟨_,c,d,e,rfl,b.size,dY a _ _,rz.below h (dR a _),bf b (dR a _)⟩
theorem a3Y {E:Nat->Addr}{x:Except Nat (List Qt)}{V a:ai}{c:Option Addr}{d e:Nat}{f:ax}(h:rz E x (ay (aH #[.agg #[aj c d e],f])) a)(b:Below (V.alloc (ak #[aj none 0 0] 113)).heap.size (V.alloc (ak #[aj none 0 0] 113)) a):acG E x V (aK V.heap.size) f (a.setCell ⟨V.heap.size,0,none⟩ (aj c d e)):=by
 have K:=dY V #[aj none 0 0] 113;have g:=(b.block _ (dI K)).trans K;refine⟨_,c,d,e,rfl,bJ _,?_,h.far g,(bf (dR V _) b).setCell az _⟩;have:=heap_setCell_same a V.heap.size 0 _ _ (aj c d e) g;grind
theorem FtV.low {E:Nat->Addr}{f:Ft}{b a:Nat}{v:ax}{w:ai}(h:FtV E f b v w)(c:a<=b):FtV E f a v w:=by
 obtain⟨d,e,g,i⟩:=h;exact⟨d,bO c e,g,i⟩
def agZ (E:Nat->Addr)(m:Mv)(l:List Qt)(e:Nat)(V:ai)(f:ax)(a:ai):Prop:=∃b c d,a.heap[e]? =some (ak #[aj b c d] 113)/\ZN E m l V.heap.size (ay (aH #[.agg #[aj b c d],f])) a/\aD V a
theorem ZN.is {E:Nat->Addr}{l:List Qt}{b:Nat}{w:ai}(h:ZN E m l b e w):∃o n c v,e=ay (aH #[.agg #[aj o n c],v]):=by
 unfold ZN at h;cases a:goM m l with
 |none=>rw[a] at h;obtain⟨v,d, -⟩:=h;exact⟨_,_,_,_,d⟩
 |some i=>
  rw[a] at h;obtain⟨v,d,f⟩:=h;obtain⟨o,g,rfl⟩:=bD f;grind
theorem a3Z {E:Nat->Addr}{l:List Qt}{a:Nat}{V wc w2:ai}{x:ax}{c:Option Addr}{d e:Nat}{j:ax}(h:ZN E m l wc.heap.size (ay (aH #[.agg #[aj c d e],j])) w2)(k:wc.heap[a]? =some (ak #[x] 113))(n:aD V wc)(f:V.heap.size<=a)(o:aD wc w2):agZ E m l a V j (w2.setCell ⟨a,0,none⟩ (aj c d e)):=by
 have b:=dI k;have K2:=(o.block _ b).trans k;refine⟨c,d,e,?_,?_,(bf n o).setCell f _⟩
 .have:=heap_setCell_same w2 a 0 _ _ (aj c d e) K2;grind
 .unfold ZN at h⊢;cases p:goM m l with
  |none=>
   rw[p] at h;obtain⟨v,g,i⟩:=h;exact⟨v,g,i.far⟩
  |some q=>
   rw[p] at h;obtain⟨v,g,i⟩:=h;exact⟨v,g,(kS.far i b).low n.size⟩
theorem VE (a:List fM)(x:fM):cellsS (a++[x])=cellsS a++[ag x.nd,Ir x,bV x.fill,bV x.rule,ag x.lv]:=by rw[Iu];rfl
theorem a8p {l c:List Qt}(e:m.ok)(f:qd l)(h:goM m l=some c):∀a∈c,iW a=0:=by
 unfold goM at h;split at h
 .next g=>
  cases h;intro a i;obtain⟨b,d,rfl⟩:=gL.1 i;exact Iq e (f.2 b d) (CG (List.all_eq_true.1 g b d))
 .cases h
theorem a8q:(prog.info? 115).map (λi=>(i.zero,i.size,i.bytes))=some (some (.agg #[ag 0,aj none 0 0,au ⟨#[]⟩,au ⟨#[]⟩,ag 0]),5,72):=aA
def S9 (b a PB c:Nat)(n:Int)(d pv v:ax)(w:ai):Prop:=w.cell? (aJ b 0)=some (aK a)/\w.cell? (aJ a 1)=some d/\w.cell? (aJ PB 0)=some (ag n)/\w.cell? (aJ c 0)=some pv/\w.cell? (aJ a 3)=some v
theorem Sc.app {d i DB:Nat}{w:ax}{k:Nat}{l:List fM}{v:ax}{V t w7:ai}{x:fM}{g c:Nat}(h:Sc d i DB w k l v V)(n:aD V t)(P:kS t d (Ir x) x.pts)(H:∀a∈x.pts,iW a=0)
  (I:w7.ownsRow d 115 5 (aj (some ⟨g,0,none⟩) (l.length+1) c) (l.length+1) (cellsS l++[ag x.nd,Ir x,bV x.fill,bV x.rule,ag x.lv])) (q:t.grownBy w7 v.ownBlock) (u:v.ownBlock=some g\/g=t.heap.size):
  Sc d i DB w k (l++[x]) (aj (some ⟨g,0,none⟩) (l.length+1) c) (w7.setCell ⟨i,3,none⟩ (aj (some ⟨g,0,none⟩) (l.length+1) c))/\Kw i v V (w7.setCell ⟨i,3,none⟩ (aj (some ⟨g,0,none⟩) (l.length+1) c))/\((Value.slice (some ⟨g,0,none⟩) (l.length+1) c).ownBlock=v.ownBlock\/∀b,(Value.slice (some ⟨g,0,none⟩) (l.length+1) c).ownBlock=some b->V.heap.size<=b):=by
 have r:=dI h.wb;have z:v.ownBlock≠some i:=λe=>by
  obtain⟨J,f,m, -⟩:=gy h.own i e;rw[h.wb] at m;cases m
 have K:g≠i:=λe=>by
  rcases u with m|m
  .grind
  .have:=n.size;omega
 have A:w7.heap[i]? =some (ak #[aK DB,w,ag k,v] 159):=by
  rw[q.block i (fK r n.size) (λe=>z e.symm),n.block i r];exact h.wb
 have s:∀b,b≠i->(w7.setCell ⟨i,3,none⟩ (aj (some ⟨g,0,none⟩) (l.length+1) c)).heap[b]? =w7.heap[b]? :=λb B=>dw _ _ _ b B;have C:∀y:fM,kS t d (Ir y) y.pts->kS (w7.setCell ⟨i,3,none⟩ (aj (some ⟨g,0,none⟩) (l.length+1) c)) d (Ir y) y.pts:=λy o=>by
  refine dF o λj D=>?_;obtain⟨J,f,m, -⟩:=gy o j D;have p:=dI m;have L:j≠i:=λe=>by
   subst e;rw[n.block j r,h.wb] at m;cases m
  have M:some j≠v.ownBlock:=λe=>by
   obtain⟨N,Q,R, -⟩:=gy (bY h.own n) j e.symm;grind
  rw[s j L];exact q.block j p M
 have E:(w7.setCell ⟨i,3,none⟩ (aj (some ⟨g,0,none⟩) (l.length+1) c)).heap.size=w7.heap.size:=nu _ _ _;refine⟨⟨?_,?_,?_,?_⟩,⟨?_,?_,?_,?_,?_⟩,?_⟩
 .have:=heap_setCell_same w7 i 3 _ _ (aj (some ⟨g,0,none⟩) (l.length+1) c) A;grind
 .rw[VE,dO];exact dF I λj D=>s j (λe=>K (by cases D;exact e))
 .intro y o;rcases iw.1 o with o|o
  .exact C y ((h.pts y o).keep n)
  .grind
 .intro y o;rcases iw.1 o with o|o
  .exact h.rt y o
  .grind
 .exact q.os.trans n.os
 .exact q.tape.trans n.tape
 .exact q.output.trans n.output
 .rw[E];exact bO n.size q.size
 .intro b p m O;rw[s b m,q.block b (fK p n.size) (λe=>O e.symm),n.block b p]
 .rcases u with m|m
  .exact .inl m.symm
  .exact .inr λb F=>by cases F;rw[m];exact n.size
section
variable {E:Nat->Addr}{D A DB:Nat}{k:Nat}{C:List fM}{v:ax}{V:ai}
theorem O4 (hN:NE E V)(Bd Bl:Nat)(hS:Sc D A DB (yu Bd Bl) k C v V)(PB Br Bw fr:Nat)(h7:∀(av:Array ax) (w:ai),Sem.run prog (callFunc fr av) w=.ok (.enter fr av) w)(n:Int)(q:ax)(m:Mv)(hm:m.ok)(hp:V.heap[PB]? =some (ak (plA n q m) 168))
  (hr:V.cell? (aJ Br 0)=some (.func (.func fr) #[aK A] #[])) (b7:V.heap[Bw]? =some (ak #[aK A] 156)) (x:Except Nat (List Qt)) (g j d:Bs) (e6:d.length<=1000000) (c3:D<=V.heap.size) (h8:C.length<=1000)
  (RD:∀U,aD V U->aL fr #[aK A,ag n] U λe w'=>rz E x e w'/\aD U w')
  (SF:∀U,aD V U->aL 76 #[ag n,bV wD,aK Bd,aK Bl] U λe w'=>e=ay (bV g)/\aD U w')
  (SR:∀U,aD V U->aL 76 #[ag n,bV yG,aK Bd,aK Bl] U λe w'=>e=ay (bV j)/\aD U w')
  (SL:∀U,aD V U->aL 76 #[ag n,bV uH,aK Bd,aK Bl] U λe w'=>e=ay (bV d)/\aD U w'):
  aL 255 #[aK PB,aK Br,aK Bw] V λe w'=>lZ E D A DB (yu Bd Bl) v V (zP n m x g j d (k,C.map fM.pc)) e w'/\Kw A v V w':=by
 have i:=aQ b7 0 _ rfl;have HN:=aF hN;have HS:=aF hS;have HM:Hid m.ok:=hm;have p0:=aQ hp 0 _ rfl;have R1:=RD V.drew (below_drewN (aW _ _) 1);obtain⟨a4,uj⟩:∃a,zP n m x g j d (k,C.map fM.pc)=a:=⟨_,rfl⟩;rw[uj];have HA:=aF uj;clear uj hN hS hm;go_enter func255,ntmps255;go_upto_region 1 with fail
 go_cut [5,6] from 8 to 87 (λb O wx=>acG E x V b O wx)
 case first=>
  have R2:=RD (V.alloc (ak #[aj none 0 0] 113)).drew (below_drewN (dR V _) 1);have KK:∀w1,Below (V.alloc (ak #[aj none 0 0] 113)).drew.heap.size (V.alloc (ak #[aj none 0 0] 113)).drew w1->w1.cell? ⟨V.heap.size,0,none⟩=some (aj none 0 0)/\w1.frozen? ⟨V.heap.size,0,none⟩=false:=λw1 Q=>by
   have K:=dY V #[aj none 0 0] 113;have K1:=(Q.block V.heap.size (dI K)).trans K;exact⟨aQ K1 0 _ rfl,gI K1 0⟩
  have Q1:aL fr #[aK A,ag n] V.drew λe w'=>∃T rn W O,e=ay (aH #[.agg #[aj T rn W],O])/\rz E x (ay (aH #[.agg #[aj T rn W],O])) w'/\Below V.drew.heap.size V.drew w':=R1.mono λe w' ⟨M,Q⟩=>by
   obtain⟨T,rn,W,O,rfl⟩:=M.is;exact⟨T,rn,W,O,rfl,M,Q⟩
  have Q2:aL fr #[aK A,ag n] (V.alloc (ak #[aj none 0 0] 113)).drew λe w'=>∃T rn W O,e=ay (aH #[.agg #[aj T rn W],O])/\rz E x (ay (aH #[.agg #[aj T rn W],O])) w'/\Below (V.alloc (ak #[aj none 0 0] 113)).drew.heap.size (V.alloc (ak #[aj none 0 0] 113)).drew w':=R2.mono λe w' ⟨M,Q⟩=>by
   obtain⟨T,rn,W,O,rfl⟩:=M.is;exact⟨T,rn,W,O,rfl,M,Q⟩
  have ba:=dR V (ak #[aj none 0 0] 113);have i1:=(ba.cell (aX p0)).trans p0;have i2:=(ba.cell (aX hr)).trans hr;clear R1 R2 RD SF SR SL hp ba i
  go_region_with (first|(refine Q1.mono ?_;rintro e w1 ⟨T,rn,W,O,rfl,M,Q⟩)|(refine Q2.mono ?_;rintro e w1 ⟨T,rn,W,O,rfl,M,Q⟩;obtain⟨u0,uf⟩:=KK w1 Q))
  all_goals go_wp2_with fail
  all_goals go_meet
  all_goals first|(have hu:=u0;exact a3Y M ((below_drewN (aW _ _) 1).trans Q))|exact a3X M ((below_drewN (aW _ _) 1).trans Q)
 case rest=>
  obtain⟨BS,T,rn,W,rfl,e7,KB,M,Q⟩:=hcut;have p:=(Q.block _ (dI hp)).trans hp;have e8:=aQ p 0 _ rfl;have NW:=HN.out.below Q;have HX:=aF M;clear M;cases x with
  |error cd=>
   obtain⟨ev,S,a5⟩:=HX.out;have Zj:u6=ev:=by simp at S;exact S.2
   subst Zj;have FO:=xm NW a5 n;have i3:u6≠aY:=by
    rintro rfl;obtain⟨-, -,h|⟨pb,po,h, -⟩⟩:=a5<;>cases h
   have e9:∀f:Except Ft (Nat×List Pc),a4=f->zP n m (.error cd) g j d (k,C.map fM.pc)=f:=λf X=>by rw[<- X];exact HA.out
   have ha:a4=.error ⟨wU cd,n⟩:=HA.out.symm;subst ha;obtain⟨-, -,a7⟩:=a5;clear e9 S HX;rcases a7 with rfl|⟨pb,po,rfl, -⟩
   .go_wp2_with(go_at_call 132;refine FO.mono ?_;rintro e w2 ⟨u,rfl,X,J⟩);go_ret;exact⟨⟨u,rfl,FtV.low X Q.size⟩,Kw.of_below (bf Q J)⟩
   .go_wp2_with(go_at_call 132;refine FO.mono ?_;rintro e w2 ⟨u,rfl,X,J⟩);go_ret;exact⟨⟨u,rfl,FtV.low X Q.size⟩,Kw.of_below (bf Q J)⟩
  |ok l=>
   obtain⟨d4,c4,o1,iC,S,d6⟩:=HX.out;obtain⟨⟨rfl,rfl,rfl⟩,rfl⟩:(T=o1/\rn=l.length/\W=iC)/\u6=aY:=by simp at S;exact⟨⟨S.1.1,S.1.2.1,S.1.2.2⟩,S.2⟩
   have bd:=below_drewN (aW wc.heap.size wc) 1;have MV:=ZO m HM.out l T W wc.drew ((Bo l).1 c4) (d6.below bd az) (NW.below bd);have s0:=aQ KB 0 _ rfl;clear S HX;have HL:=aF c4;have i4:=aF d4;clear c4 d4 d6;have q2:=aQ p 2 _ rfl;have q3:=aQ p 3 _ rfl;have q4:=aQ p 4 _ rfl;have q5:=aQ p 5 _ rfl;have q6:=aQ p 6 _ rfl;have q7:=aQ p 7 _ rfl;have q8:=aQ p 8 _ rfl;have q9:=aQ p 9 _ rfl;have f0:=aQ p 10 _ rfl;have f1:=aQ p 11 _ rfl;have f3:=aQ p 12 _ rfl;have f4:=aQ p 13 _ rfl;go_upto_region 4 with fail
   go_cut [6] from 8 to 87 (λO wx=>agZ E m l BS V O wx)
   case first=>
    have MQ:aL 256 #[.agg #[aj T l.length W],mv m] wc.drew λe w'=>∃o n c O,e=ay (aH #[.agg #[aj o n c],O])/\ZN E m l wc.heap.size (ay (aH #[.agg #[aj o n c],O])) w'/\aD wc w'/\w'.cell? (aJ BS 0)=some (aj T l.length W)/\w'.frozen? ⟨BS,0,none⟩=false:=MV.mono λe w' ⟨M,J⟩=>by
     obtain⟨o,n,c,O,rfl⟩:=M.is;have bb:aD wc w':=⟨J.os,J.tape,J.output,J.size,J.block⟩;have K2:=(bb.block _ (dI KB)).trans KB;exact⟨o,n,c,O,rfl,M,bb,aQ K2 0 _ rfl,gI K2 0⟩
    clear MV RD SF SR SL p hp
    go_region_with (go_at_call 256;refine MQ.mono ?_;rintro e w2 ⟨o2,n2,c2,i5,rfl,h2,J,k2,f2⟩)
    all_goals go_wp2_with fail
    all_goals go_meet
    all_goals exact a3Z h2 KB Q e7 J
   case rest=>
    obtain⟨H,d7,I,b9,h2,J⟩:=hcut;have d8:=(J.block _ (dI hp)).trans hp;have c5:=aQ d8 0 _ rfl;have d9:=HN.out.below J;unfold ZN at h2;cases hg:goM m l with
    |none=>
     rw[hg] at h2;obtain⟨ev,S,a5⟩:=h2;have Zj:u6=ev:=by simp at S;exact S.2
     subst Zj;have FO:=xm d9 a5 n;have ha:a4=.error ⟨2,n⟩:=by
      have:=HA.out;unfold zP at this;simp only[hg] at this;exact this.symm
     subst ha;obtain⟨-, -,a7⟩:=a5;rcases a7 with rfl|⟨pb,po,rfl, -⟩ -- i6
     .go_wp2_with(go_at_call 132;refine FO.mono ?_;rintro e w2 ⟨u,rfl,X,N⟩);go_ret;exact⟨⟨u,rfl,FtV.low X J.size⟩,Kw.of_below (bf J N)⟩
     .go_wp2_with(go_at_call 132;refine FO.mono ?_;rintro e w2 ⟨u,rfl,X,N⟩);go_ret;exact⟨⟨u,rfl,FtV.low X J.size⟩,Kw.of_below (bf J N)⟩
    |some r=>
     rw[hg] at h2;obtain⟨v2,S,Y⟩:=h2;obtain⟨a7,rfl⟩:v2=aj H d7 I/\u6=aY:=by simp at S;exact⟨S.1.symm,S.2⟩
     subst a7;obtain⟨o9,c9,h9⟩:=bD Y;obtain⟨rfl,rfl,rfl⟩:H=o9/\d7=r.length/\I=c9:=by simp at h9;exact h9
     have e0:=aF Y;have uj:Hid (zP n m (.ok l) g j d (k,C.map fM.pc)=if g=yS then .ok (k,C.map fM.pc) else .ok (k,C.map fM.pc++[⟨n,r,g,j,JE d⟩])):=by
      show _=_;unfold zP;simp only[hg]
     have c0:Hid (a4=if g=yS then .ok (k,C.map fM.pc) else .ok (k,C.map fM.pc++[⟨n,r,g,j,JE d⟩])):=HA.out.symm.trans uj.out;have HR:Hid (∀a∈r,iW a=0):=a8p HM.out ((Bo l).1 HL.out) hg;have c6:=(J.cell (aX i)).trans i;have c7:=(J.block _ (dI HS.out.wb)).trans HS.out.wb;have c8:=aQ c7 1 _ rfl;have d0:=aQ c7 3 _ rfl;have d1:=aQ b9 0 _ rfl;have SFd:=SF wc.drew (J.trans (below_drewN (aW _ _) 1));clear uj HA h9 S RD q2 q3 q4 q5 q6 q7 q8 q9 f0 f1 f3 f4 MV;go_upto_region 7 with fail
     go_region_held3 (λw'=>w'.cell? (aJ Bw 0)=some (aK A)/\w'.cell? (aJ A 1)=some (yu Bd Bl)/\w'.cell? (aJ PB 0)=some (ag n)) (go_keep) (first|(go_at_call 76;refine SFd.mono ?_;rintro e R ⟨rfl,N⟩;have x1:=(N.cell (aX (w:=wc.drew) c6)).trans c6;have x2:=(N.cell (aX (w:=wc.drew) c8)).trans c8;have x3:=(N.cell (aX (w:=wc.drew) c5)).trans c5))
     have sM:aD V R:=bf J ⟨N.os,N.tape,N.output,N.size,N.block⟩;have hq:=j5 g yS;by_cases X:g=yS
     .have a8:(g==yS)=true:=by simp[X]
      rw[a8] at hq;unfold yS at hq a8;have ha:a4=.ok (k,C.map fM.pc):=by rw[c0.out,aR X]
      subst ha;clear c0 X;go_wp2_with fail;go_ret;exact⟨⟨rfl,C,v,rfl,HS.out.below sM,.inl rfl⟩,Kw.of_below sM⟩
     .have a8:(g==yS)=false:=by simpa using X
      rw[a8] at hq;unfold yS at hq a8;have ha:a4=.ok (k,C.map fM.pc++[⟨n,r,g,j,JE d⟩]):=by rw[c0.out,aG X]
      subst ha;clear c0 X SFd;have Oq:=sM.size;have y4:R.cell? (aJ BS 0)=some (aj H r.length I):=(N.cell (aX (w:=wc.drew) d1)).trans d1;have y5:R.cell? (aJ A 3)=some v:=(N.cell (aX (w:=wc.drew) d0)).trans d0;obtain⟨ov,kv,QE⟩:=bD HS.out.own;subst QE;obtain⟨i0,hi,f5,f6,f7⟩:=info_parts a8q;have f8:=λU (P:aD R U)=>SR U (bf sM P);have f9:=λU (P:aD R U)=>SL U (bf sM P);have g0:=λU (P:aD R U)=>JZ (HN.out.below (bf sM P)) d e6;have a9:∀U,aD R U->U.cell? (aJ Bw 0)=some (aK A)/\U.cell? (aJ A 1)=some (yu Bd Bl)/\U.cell? (aJ PB 0)=some (ag n)/\U.cell? (aJ BS 0)=some (aj H r.length I)/\U.cell? (aJ A 3)=some (aj ov C.length kv):=λU P=>⟨(P.cell (aX x1)).trans x1,(P.cell (aX x2)).trans x2,(P.cell (aX x3)).trans x3,(P.cell (aX y4)).trans y4,(P.cell (aX y5)).trans y5⟩;have i7:(Value.slice ov C.length kv).ownBlock≠some A:=λe1=>by
       obtain⟨cs,f,M, -⟩:=gy HS.out.own A e1;rw[HS.out.wb] at M;cases M
      have g6:∀U,aD R U->(U.alloc (ak #[ag n,aj H r.length I,bV g,bV j,ag (JE d)] 115)).ownsRow D 115 5 (aj ov C.length kv) C.length (cellsS C):=λU P=>iF (bY HS.out.own (bf sM P)) _;have e2:=(sM.block _ (dI b7)).trans b7;have e3:=(sM.block _ (dI HS.out.wb)).trans HS.out.wb;have e4:=(sM.block _ (dI hp)).trans hp;have e5:R.heap[BS]? =some (ak #[aj H r.length I] 113):=(N.block _ (dI (w:=wc.drew) b9)).trans b9;have b0:∀U,aD R U->∀w7,(U.alloc (ak #[ag n,aj H r.length I,bV g,bV j,ag (JE d)] 115)).grownBy w7 (Value.slice ov C.length kv).ownBlock->∀(b:Nat) (cs:Array ax) (t:TypeId),R.heap[b]? =some (Obj.cells cs t)->t≠115->w7.heap[b]? =some (Obj.cells cs t):=λU P w7 gr b cs t hb ht=>by
       have b8:=bf P (dR U (ak #[ag n,aj H r.length I,bV g,bV j,ag (JE d)] 115));refine(gr.block b (fK (dI hb) b8.size) (λe1=>?_)).trans ((b8.block b (dI hb)).trans hb);obtain⟨i8,f',M, -⟩:=gy (bY HS.out.own sM) b e1.symm;rw[hb] at M;cases M;exact ht rfl
      have A7:∀U,aD R U->∀w7,(U.alloc (ak #[ag n,aj H r.length I,bV g,bV j,ag (JE d)] 115)).grownBy w7 (Value.slice ov C.length kv).ownBlock->S9 Bw A PB BS n (yu Bd Bl) (aj H r.length I) (aj ov C.length kv) w7/\w7.frozen? ⟨A,3,none⟩=false:=λU P w7 gr=>by
       have rW:=b0 U P w7 gr A _ _ e3 aC;exact⟨⟨aQ (b0 U P w7 gr Bw _ _ e2 aC) 0 _ rfl,aQ rW 1 _ rfl,aQ (b0 U P w7 gr PB _ _ e4 aC) 0 _ rfl,aQ (b0 U P w7 gr BS _ _ e5 aC) 0 _ rfl,aQ rW 3 _ rfl⟩,gI rW 3⟩
      have g8:Hid (kS R V.heap.size (aj H r.length I) r):=(e0.out.keep (⟨N.os,N.tape,N.output,N.size,N.block⟩:aD wc R):kS R V.heap.size (aj H r.length I) r);have g9:=aF sM;clear b0 e2 e3 e4 e5 Y e0 b7 d9 NW Q J N sM p d8 KB b9 c7 c8 d0 d1 c5 c6 hr i hp p0 e8 SF SR SL;go_upto_region 9 with fail;refine J5 (S9 Bw A PB BS n (yu Bd Bl) (aj H r.length I) (aj ov C.length kv)) 35 aA ?_;have hS:S9 Bw A PB BS n (yu Bd Bl) (aj H r.length I) (aj ov C.length kv) R.drew:=⟨x1,x2,x3,y4,y5⟩;refine dQ (v:=?v0) 0 rfl aA aA aA aA (λ_ _ _ h=>h) hS (.inl ⟨rfl,λw i=>?hy0⟩) ?hr0
      case hy0=>obtain⟨s,y,z,B,F⟩:=i;go_simp;try with_reducible rfl
      simp only[Act.put,List.setIfInBounds_toArray];refine dQ (v:=?v1) 1 rfl aA aA aA aA (λ_ _ _ h=>h) hS (.inl ⟨rfl,λw i=>?hy1⟩) ?hr1
      case hy1=>obtain⟨s,y,z,B,F⟩:=i;go_simp;try with_reducible rfl
      simp only[Act.put];refine dQ (v:=?v2) 2 rfl aA aA aA aA (λ_ _ _ h=>h) hS (.inl ⟨rfl,λw i=>?hy2⟩) ?hr2
      case hy2=>obtain⟨s,y,z,B,F⟩:=i;go_simp;try with_reducible rfl
      simp only[Act.put];refine dQ (v:=?v3) 3 rfl aA aA aA aA (λ_ _ _ h=>h) hS (.inl ⟨rfl,λw i=>?hy3⟩) ?hr3
      case hy3=>obtain⟨s,y,z,B,F⟩:=i;go_simp;try with_reducible rfl
      simp only[Act.put];refine dQ (v:=?v4) 4 rfl aA aA aA aA (λ_ _ _ h=>h) hS (.inl ⟨rfl,λw i=>?hy4⟩) ?hr4
      case hy4=>obtain⟨s,y,z,B,F⟩:=i;go_simp;try with_reducible rfl
      simp only[Act.put];refine dQ (v:=?v5) 5 rfl aA aA aA aA (λ_ _ _ h=>h) hS (.inl ⟨rfl,λw i=>?hy5⟩) ?hr5
      case hy5=>obtain⟨s,y,z,B,F⟩:=i;go_simp;try with_reducible rfl
      simp only[Act.put];refine dQ (v:=?v6) 6 rfl aA aA aA aA (λ_ _ _ h=>h) hS (.inl ⟨rfl,λw i=>?hy6⟩) ?hr6
      case hy6=>obtain⟨s,y,z,B,F⟩:=i;go_simp;try with_reducible rfl
      simp only[Act.put];refine dQ (v:=?v7) 7 rfl aA aA aA aA (λ_ _ _ h=>h) hS (.inl ⟨rfl,λw i=>?hy7⟩) ?hr7
      case hy7=>obtain⟨s,y,z,B,F⟩:=i;go_simp;try with_reducible rfl
      simp only[Act.put];refine dQ (v:=?v8) 8 rfl aA aA aA aA (λ_ _ _ h=>h) hS (.inl ⟨rfl,λw i=>?hy8⟩) ?hr8
      case hy8=>obtain⟨s,y,z,B,F⟩:=i;go_simp;try with_reducible rfl
      simp only[Act.put];refine dQ (v:=?v9) 9 rfl aA aA aA aA (λ_ _ _ h=>h) hS (.inl ⟨rfl,λw i=>?hy9⟩) ?hr9
      case hy9=>obtain⟨s,y,z,B,F⟩:=i;go_simp;try with_reducible rfl
      simp only[Act.put];refine dQ (v:=?v10) 10 rfl aA aA aA aA (λ_ _ _ h=>h) hS (.inl ⟨rfl,λw i=>?acH⟩) ?alx
      case acH=>obtain⟨s,y,z,B,F⟩:=i;go_simp;try with_reducible rfl
      simp only[Act.put];refine dQ (v:=?v11) 11 rfl aA aA aA aA (λ_ _ _ h=>h) hS (.inl ⟨rfl,λw i=>?acI⟩) ?aly
      case acI=>obtain⟨s,y,z,B,F⟩:=i;go_simp;try with_reducible rfl
      simp only[Act.put];refine dQ (v:=?v12) 12 rfl aA aA aA aA (λ_ _ _ h=>h) hS (.inl ⟨rfl,λw i=>?acJ⟩) ?alz
      case acJ=>obtain⟨s,y,z,B,F⟩:=i;go_simp;try with_reducible rfl
      simp only[Act.put];refine dQ (v:=?v13) 13 rfl aA aA aA aA (λ_ _ _ h=>h) hS (.inl ⟨rfl,λw i=>?alA⟩) ?au1
      case alA=>obtain⟨s,y,z,B,F⟩:=i;go_simp;try with_reducible rfl
      simp only[Act.put];refine dQ (v:=?v14) 14 rfl aA aA aA aA (λ_ _ _ h=>h) hS (.inl ⟨rfl,λw i=>?acK⟩) ?alB
      case acK=>obtain⟨s,y,z,B,F⟩:=i;go_simp;try with_reducible rfl
      simp only[Act.put];refine dQ (v:=?v15) 15 rfl aA aA aA aA (λ_ _ _ h=>h) hS (.inl ⟨rfl,λw i=>?acL⟩) ?alC
      case acL=>obtain⟨s,y,z,B,F⟩:=i;go_simp;try with_reducible rfl
      simp only[Act.put];refine dQ (v:=?v16) 16 rfl aA aA aA aA (λ_ _ _ h=>h) hS (.inl ⟨rfl,λw i=>?acM⟩) ?alD
      case acM=>obtain⟨s,y,z,B,F⟩:=i;go_simp;try with_reducible rfl
      simp only[Act.put];refine dQ (v:=?v17) 17 rfl aA aA aA aA (λ_ _ _ h=>h) hS (.inl ⟨rfl,λw i=>?acN⟩) ?alE
      case acN=>obtain⟨s,y,z,B,F⟩:=i;go_simp;try with_reducible rfl
      simp only[Act.put];refine dQ (v:=?v18) 18 rfl aA aA aA aA (λ_ _ _ h=>h) hS (.inl ⟨rfl,λw i=>?acO⟩) ?alF
      case acO=>obtain⟨s,y,z,B,F⟩:=i;go_simp;try with_reducible rfl
      simp only[Act.put];refine dQ (v:=?v20) 20 rfl aA aA aA aA (λ_ _ _ h=>h) hS (.inl ⟨rfl,λw i=>?acP⟩) ?alG
      case acP=>obtain⟨s,y,z,B,F⟩:=i;go_simp;try with_reducible rfl
      simp only[Act.put];refine dQ (v:=?v21) 21 rfl aA aA aA aA (λ_ _ _ h=>h) hS (.inl ⟨rfl,λw i=>?acQ⟩) ?alH
      case acQ=>obtain⟨s,y,z,B,F⟩:=i;go_simp;try with_reducible rfl
      simp only[Act.put];refine dQ (v:=?v22) 22 rfl aA aA aA aA (λ_ _ _ h=>h) hS (.inl ⟨rfl,λw i=>?alI⟩) ?au2
      case alI=>obtain⟨s,y,z,B,F⟩:=i;go_simp;try with_reducible rfl
      simp only[Act.put];refine dQ (v:=?v23) 23 rfl aA aA aA aA (λ_ _ _ h=>h) hS (.inl ⟨rfl,λw i=>?alJ⟩) ?au3
      case alJ=>obtain⟨s,y,z,B,F⟩:=i;go_simp;try with_reducible rfl
      simp only[Act.put];refine dQ (v:=?v24) 24 rfl aA aA aA aA (λ_ _ _ h=>h) hS (.inl ⟨rfl,λw i=>?hy24⟩) ?au4
      case hy24=>obtain⟨s,y,z,B,F⟩:=i;go_simp;try with_reducible rfl
      simp only[Act.put];refine dQ (v:=?v25) 25 rfl aA aA aA aA (λ_ _ _ h=>h) hS (.inl ⟨rfl,λw i=>?hy25⟩) ?au5
      case hy25=>obtain⟨s,y,z,B,F⟩:=i;go_simp;try with_reducible rfl
      simp only[Act.put];refine dQ (v:=?v26) 26 rfl aA aA aA aA (λ_ _ _ h=>h) hS (.inl ⟨rfl,λw i=>?alK⟩) ?au6
      case alK=>obtain⟨s,y,z,B,F⟩:=i;go_simp;try with_reducible rfl
      simp only[Act.put];refine dQ (v:=?v27) 27 rfl aA aA aA aA (λ_ _ _ h=>h) hS (.inl ⟨rfl,λw i=>?hy27⟩) ?au7
      case hy27=>obtain⟨s,y,z,B,F⟩:=i;go_simp;try with_reducible rfl
      simp only[Act.put];refine nT 19 aA rfl (λK L=>?_);go_simp;go_wp2_with(go_at_call 76;refine(f8 _ (below_drewN (aW _ _) 1)).mono ?_;rintro e w4 ⟨rfl,b4⟩);have d2:aD R w4:=bf (below_drewN (aW R.heap.size R) 1) b4;have h0:S9 Bw A PB BS n (yu Bd Bl) (aj H r.length I) (aj ov C.length kv) w4:=a9 w4 d2;refine L.out _ _ (λ_=>h0) ?_;clear L;refine nT 28 aA rfl (λK L=>?_);go_simp;go_wp2_with(go_at_call 76;refine(f9 _ d2).mono ?_;rintro e w5 ⟨rfl,b5⟩);have d3:=bf d2 b5;have h3:S9 Bw A PB BS n (yu Bd Bl) (aj H r.length I) (aj ov C.length kv) w5:=a9 w5 d3;refine L.out _ _ (λ_=>h3) ?_;clear L;refine nT 29 aA rfl (λK L=>?_);go_simp;go_wp2_with(go_at_call 257;refine(g0 _ d3).mono ?_;rintro e w6 ⟨rfl,b6⟩);have a6:=bf d3 b6;have Z:S9 Bw A PB BS n (yu Bd Bl) (aj H r.length I) (aj ov C.length kv) w6:=a9 w6 a6;refine L.out _ _ (λ_=>Z) ?_;clear L;refine dQ (v:=?v30) 30 rfl aA aA aA aA (λ_ _ _ h=>h) Z (.inl ⟨rfl,λw i=>?alO⟩) ?au8
      case alO=>obtain⟨s,y,z,B,F⟩:=i;go_simp;try with_reducible rfl
      simp only[Act.put];refine nT 31 aA rfl (λK L=>?_);go_simp;have h4:S9 Bw A PB BS n (yu Bd Bl) (aj H r.length I) (aj ov C.length kv) (w6.alloc (ak #[ag n,aj H r.length I,bV g,bV j,ag (JE d)] 115)):=⟨eD _ Z.1,eD _ Z.2.1,eD _ Z.2.2.1,eD _ Z.2.2.2.1,eD _ Z.2.2.2.2⟩;have h5:=g6 w6 a6;have i9:=a6.size;have H0:=dY w6 #[ag n,aj H r.length I,bV g,bV j,ag (JE d)] 115;refine L.out _ _ (λ_=>h4) ?_;clear L;refine nT 32 aA rfl (λK L=>?_);refine step_append_lies _ rfl (.tmp 57) (.tmp 84) 84 rfl D 115 i0 (.agg #[ag 0,aj none 0 0,au ⟨#[]⟩,au ⟨#[]⟩,ag 0]) 5 72 underlying84 hi f5 f6 f7 rfl aC (aj ov C.length kv) C.length (cellsS C) rfl h5 ⟨w6.heap.size,0,none⟩ 1 1 [ag n,aj H r.length I,bV g,bV j,ag (JE d)] rfl rfl (World.news_of_block H0) (λu hu=>by simp at hu;rcases hu with rfl|rfl|rfl|rfl|rfl<;>rfl) aC (by simp only[maxLen];omega) aa bq _ rfl ?_;intro g7 yt w7 kN lJ Ur j0;obtain⟨c1,t6⟩:=A7 w6 a6 w7 lJ;have t5:=c1.2.2.2.2;refine L.out _ _ (λ_=>c1) ?_;clear L;simp only[Act.put];refine nT 33 aA rfl (λK L=>?_);go_simp;refine L.out _ _ (λ_=>c1) ?_;clear L;refine nT 34 aA rfl (λK L=>?_);go_simp;refine L.out _ _ (λ_=>c1) ?_;clear L;refine nT 35 aA rfl (λK L=>?_);go_simp;refine L.out _ _ (λh=>absurd rfl h) ?_;clear L;refine VD aA ?_ _;go_wp2_with fail;go_ret;have h6:=bf g9.out (bf a6 (dR w6 (ak #[ag n,aj H r.length I,bV g,bV j,ag (JE d)] 115)));obtain⟨r1,r2,r3⟩:=Sc.app (x:=⟨n,H,I,r,g,j,JE d⟩) HS.out h6 ((g8.out.keep (bf a6 (dR w6 _))).low c3) HR.out kN lJ Ur;exact⟨⟨rfl,C++[⟨n,H,I,r,g,j,JE d⟩],_,by rw[iK];rfl,r1,r3⟩,r2⟩
end
end
open Go.RowKit Go.Shelf
abbrev fnV (f a:Nat):ax:=.func (.func f) #[aK a] #[]
abbrev shV (a b:Nat):ax:=.func (.func 255) #[] #[aK a,aK b]
def ByR (a f:Nat)(W:ai)(e:Ending)(w':ai):Prop:=∃b c,e=ay (shV b c)/\w'.cell? (aJ b 0)=some (fnV f a)/\w'.heap[c]? =some (ak #[aK a] 156)/\aD W w'
theorem Ev (a f:Nat)(W:ai):aL 189 #[aK a,fnV f a] W λe w'=>ByR a f W e w':=by
 have g:=dR W (ak #[aK a] 156);have b:=dY W #[aK a] 156;have c:=dR (W.alloc (ak #[aK a] 156)) (ak #[fnV f a] 293);have d:=dY (W.alloc (ak #[aK a] 156)) #[fnV f a] 293;have K2:=(c.block _ (dI b)).trans b;rw[dV] at d;have h:Hid (ByR a f W (ay (shV (W.heap.size+1) W.heap.size)) ((W.alloc (ak #[aK a] 156)).alloc (ak #[fnV f a] 293))):=⟨_,_,rfl,aQ d 0 _ rfl,K2,bf g c⟩;clear g b c d K2;go_enter func189,ntmps189;go_wp2;go_ret;exact h.out
section
variable (A:Nat)(W:ai)
theorem a8r:aL 130 #[aK A,bV JQ] W λe w'=>ByR A 190 W e w':=by
 have a:=Ev A 190 W;unfold JQ;go_enter func130,ntmps130;go_wp2_with(go_at_call 189;refine a.mono ?_;rintro e h ⟨b,c,rfl,d,f,g⟩);go_ret;exact⟨b,c,rfl,d,f,g⟩
theorem a4a:aL 130 #[aK A,bV yR] W λe w'=>ByR A 191 W e w':=by
 have a:=Ev A 191 W;unfold yR;go_enter func130,ntmps130;go_wp2_with(go_at_call 189;refine a.mono ?_;rintro e h ⟨b,c,rfl,d,f,g⟩);go_ret;exact⟨b,c,rfl,d,f,g⟩
theorem a09:aL 130 #[aK A,bV sH] W λe w'=>e=ay (fnV 192 A)/\w'=W:=by
 unfold sH;go_enter func130,ntmps130;go_wp2;go_ret;exact⟨rfl,rfl⟩
theorem a8s:aL 130 #[aK A,bV Qy] W λe w'=>e=ay (fnV 193 A)/\w'=W:=by
 unfold Qy;go_enter func130,ntmps130;go_wp2;go_ret;exact⟨rfl,rfl⟩
theorem a4b (nm:Bs)(h:sI nm=false):aL 130 #[aK A,bV nm] W λe w'=>e=ay .nilFunc/\w'=W:=by
 have a:=j5 nm JQ;have b:=j5 nm yR;have c:=j5 nm sH;have d:=j5 nm Qy;have k:(nm==JQ)=false/\(nm==yR)=false/\(nm==sH)=false/\(nm==Qy)=false:=by
  unfold sI at h;simp only[Bool.or_eq_false_iff] at h;exact⟨h.1.1.1,h.1.1.2,h.1.2,h.2⟩
 obtain⟨f,g,i,j⟩:=k;rw[f] at a;rw[g] at b;rw[i] at c;rw[j] at d;unfold JQ at a f;unfold yR at b g;unfold sH at c i;unfold Qy at d j;clear h;go_enter func130,ntmps130;go_wp2;go_ret;exact⟨rfl,rfl⟩
end
structure En (E:Nat->Addr)(B:Nat)(tg:dG)(W0:ai)(DB MB:Nat)(p:Int->Option Nat)(M:Dm)(nx c:Nat)(r:Int->Nat)(l:List Rl)(B0:Nat)(rv:ax):Prop where
 ds:jk B tg W0 DB MB p M nx c r
 ne:NE E W0
 fit:EU M
 sz:SzD M
 ok:∀x∈l,RlG x
 row:W0.ownsRow B0 150 3 rv l.length (fP l)
structure BL (WB DB Bd Bl:Nat)(rv:ax)(W0:ai)(k:Nat)(ps:List fM)(v:ax)(V:ai):Prop where
 low:aD W0 V
 wb:W0.heap.size<=WB
 bd:V.heap[Bd]? =some (ak #[aK DB] 74)
 bl:V.heap[Bl]? =some (ak #[rv] 77)
 sc:Sc W0.heap.size WB DB (yu Bd Bl) k ps v V
section
variable {A DB Bd Bl:Nat}{D:ax}{I:ai}{k R:Nat}{C O:List fM}{v N:ax}{V J:ai}
theorem BL.next (h:BL A DB Bd Bl D I k C v V)(a:Kw A v V J)(hs:Sc I.heap.size A DB (yu Bd Bl) R O N J):BL A DB Bd Bl D I R O N J:=
 ⟨h.low.trans (Sc.low h.sc a h.wb h.low.size),h.wb,h.sc.keep a h.bd aC aC,h.sc.keep a h.bl aC aC,hs⟩
theorem BL.below (h:BL A DB Bd Bl D I k C v V)(a:aD V J):BL A DB Bd Bl D I k C v J:=h.next (Kw.of_below a) (h.sc.below a)
theorem BL.ints (h:BL A DB Bd Bl D I k C v V)(e:Kw A v V J){b n:Nat}{u:ax}{a:List ax}(c:V.ownsRow b 3 1 u n a):J.ownsRow b 3 1 u n a:=
 dF c λg i=>by
  obtain⟨j,f,d, -⟩:=gy c g i;rw[d];exact h.sc.keep e d aC aC
end
theorem fold_at {β a:Type}(g:β->α->Except a β)(l:List α)(s b:β)(j:Nat)(h:(l.take j).foldlM g s=.ok b):l.foldlM g s=(l.drop j).foldlM g b:=by
 conv=>lhs;rw[<- jS j l]
 rw[List.foldlM_append,h];rfl
theorem a0a {β a:Type}(g:β->α->Except a β)(l:List α)(s c b:β)(j:Nat)(x:α)(h:(l.take j).foldlM g s=.ok c)(d:l[j]? =some x)(e:g c x=.ok b):(l.take (j+1)).foldlM g s=.ok b:=by
 rw[eX,d,List.foldlM_append,h];show([x].foldlM g c)=_;rw[List.foldlM_cons,e];rfl
theorem a4c {β a:Type}(g:β->α->Except a β)(l:List α)(s b:β)(j:Nat)(x:α)(e:a)(h:(l.take j).foldlM g s=.ok b)(d:l[j]? =some x)(f:g b x=.error e):l.foldlM g s=.error e:=by
 obtain⟨i,c⟩:=lK.1 d;rw[fold_at g l s b j h,wz i,List.foldlM_cons,c,f];rfl
theorem Db (g:Nat×List Pc->α->Except Ft (Nat×List Pc))(c:∀s x a,g s x=.ok a->s.1<=a.1):∀(l:List α) (s a:Nat×List Pc),l.foldlM g s=.ok a->s.1<=a.1
 |[],s,a,h=>by cases h;exact bJ _
 |x::l,s,a,h=>by
  rw[List.foldlM_cons] at h;cases b:g s x with
  |error e=>rw[b] at h;cases h
  |ok t=>
   rw[b] at h;exact bO (c s x t b) (Db g c l t a h)
theorem Dc (M:Dm)(l:List Rl):∀(f:Nat) (n:Int) (path:List Int) (m:Mv) (st a:Nat×List Pc),gu M l f n path m st=.ok a->st.1<=a.1
 |0,n,path,m,st,a,h=>by
  unfold gu at h;grind
 |f+1,n,path,m,st,a,h=>by
  unfold gu at h;split at h
  .cases h
  split at h
  .cases h
  split at h
  .grind
  have b:∀(c:Mv) (x:Except Nat (List Qt)),kg M l n c x (st.1+1,st.2)=.ok a->st.1<=a.1:=λc x h=>by
   unfold kg at h;grind
  split at h
  .cases h
  .split at h
   .exact b _ _ h
   .split at h
    .exact b _ _ h
    .split at h
     .exact bO (Nat.le_succ _) (Db _ (λs x a h=>Dc M l f x _ _ s a h) _ (st.1+1,st.2) a h)
     .split at h
      .cases h
      .exact bO (Nat.le_succ _) (Dc M l f _ _ _ (st.1+1,st.2) a h)
theorem J6 (g:Nat×List Pc->α->Except Ft (Nat×List Pc))(d:∀s x a,g s x=.ok a->s.2.length<=s.1->a.2.length<=a.1):∀(l:List α) (s a:Nat×List Pc),l.foldlM g s=.ok a->s.2.length<=s.1->a.2.length<=a.1
 |[],s,a,h,b=>by cases h;exact b
 |x::l,s,a,h,b=>by
  rw[List.foldlM_cons] at h;cases c:g s x with
  |error e=>rw[c] at h;cases h
  |ok t=>
   rw[c] at h;exact J6 g d l t a h (d s x t c b)
theorem xC (M:Dm)(l:List Rl):∀(f:Nat) (n:Int) (path:List Int) (m:Mv) (st a:Nat×List Pc),gu M l f n path m st=.ok a->st.2.length<=st.1->a.2.length<=a.1
 |0,n,path,m,st,a,h,_=>by
  unfold gu at h;grind
 |f+1,n,path,m,st,a,h,b=>by
  unfold gu at h;split at h
  .cases h
  split at h
  .cases h
  split at h
  .grind
  have c:∀(d:Mv) (x:Except Nat (List Qt)),kg M l n d x (st.1+1,st.2)=.ok a->a.2.length<=a.1:=λd x h=>by
   unfold kg at h;grind
  split at h
  .cases h
  .split at h
   .exact c _ _ h
   .split at h
    .exact c _ _ h
    .split at h
     .exact J6 _ (λs x a h=>xC M l f x _ _ s a h) _ (st.1+1,st.2) a h (Nat.le_succ_of_le b)
     .split at h
      .cases h
      .exact xC M l f _ _ _ (st.1+1,st.2) a h (Nat.le_succ_of_le b)
theorem a4d {M:Dm}{n:Int}{a:Mv}(b:m.ok)(h:AZ M n m=.ok a):a.ok:=by
 unfold AZ at h;split at h
 .cases h
 .next d=>
  split at h
  .next c=>
   cases h;exact((Cc (Rk aa) b).2 c).1
  .cases h
theorem acT (p:Rl->Bool):∀(l:List Rl),(∀x∈l,EH x)->(JC p l).1.length<=12:=λl=>by
 have d:∀(l:List Rl) (a:Bs×Bool×Nat),(∀x∈l,EH x)->a.1.length<=12->(l.foldl (lI p) a).1.length<=12:=λl=>by
  induction l with
  |nil=>intro a _ b;exact b
  |cons x l h=>
   intro a c b;refine h _ (λy i=>c y (by simp[i])) ?_;have e:=(c x aI).2.2.1;unfold zh at e;simp only[jg,lG] at e;by_cases f:a.2.2<=wtM x.wh
   .cases g:p x with
    |true=>rw[FU f g];exact e.1.2
    |false=>rw[KF g];exact b
   .rw[FT f];exact b
 intro c;exact d l _ c aI
theorem acU {M:Dm}{l:List Rl}(b:SzD M)(c:∀x∈l,EH x)(nm:Bs)(n:Int):(ofM M l nm n).length<=200:=by
 have F:(firstM nm).length<=200:=by
  unfold firstM;grind
 have d:∀(f:Nat) (n:Int),(Mw M l nm f n).length<=200:=λf=>by
  induction f with
  |zero=>intro n;exact F
  |succ f g=>
   intro n;unfold Mw;split
   .exact F
   .split
    .next v a=>
     unfold yH at a;split at a
     .next h e=>cases a;exact Fy b e
     .split at a
      .cases a;exact bO (acT _ l c) aa
      .cases a
    .grind
 unfold ofM;grind
section
variable {E:Nat->Addr}{B:Nat}{I:dG}{D:ai}{DB J:Nat}{p:Int->Option Nat}{M:Dm}{nx c:Nat}{r:Int->Nat}{l:List Rl}{B0:Nat}{C:ax}{A Bd Bl:Nat}
theorem En.style (h:En E B I D DB J p M nx c r l B0 C){k:Nat}{b:List fM}{v:ax}{V:ai}(a:BL A DB Bd Bl C D k b v V)(n:Int)(d:eH n)(nm:Bs):
  aL 76 #[ag n,bV nm,aK Bd,aK Bl] V λe w'=>e=ay (bV (ofM M l nm n))/\aD V w':=
 ZR (h.ds.below a.low).w h.ds.d h.fit l h.ok B0 C (bY h.row a.low) Bd Bl (aQ a.bd 0 _ rfl) (aQ a.bl 0 _ rfl) n d nm
def COME (E:Nat->Addr)(A DB Bd Bl:Nat)(C:ax)(D:ai)(M:Dm)(l:List Rl)(f:Nat):Prop:=∀(k:Nat) (a:List fM) (v:ax) (V:ai) (n b:Int) (m:Mv) (path:List (Int×Mv)) (q:Nat),101<=f+k->a.length<=k->eH n->BL A DB Bd Bl C D k a v V->iM V (some q) ((b,m)::path)->m.ok->
 aL 77 #[aK A,ag n,aK q] V λe c=>lZ E D.heap.size A DB (yu Bd Bl) v V (gu M l f n (b::path.map Prod.fst) m (k,a.map fM.pc)) e c/\Kw A v V c
def GrL (A DB Bd Bl:Nat)(C:ax)(D:ai)(V:ai)(v:ax)(g:Nat×List Pc->Int->Except Ft (Nat×List Pc))(e:List Int)(s:Nat×List Pc)(j:Nat)(wr:ai):Prop:=∃a c,(e.take j).foldlM g s=.ok a/\∃d,d.map fM.pc=a.2/\BL A DB Bd Bl C D a.1 d c wr/\Kw A v V wr/\(c.ownBlock=v.ownBlock\/∀b,c.ownBlock=some b->V.heap.size<=b)
end
set_option maxRecDepth 20000
section
variable {E:Nat->Addr}{B:Nat}{I:dG}{D:ai}{DB J:Nat}{p:Int->Option Nat}{M:Dm}{nx c:Nat}{r:Int->Nat}{l:List Rl}{B0:Nat}{C:ax}{A Bd Bl:Nat}
theorem a8t (h:En E B I D DB J p M nx c r l B0 C)(n:Int):(∀x∈ru M n,eH x)/\(ru M n).length<=100:=by
 unfold ru;cases a:M n with
 |none=>exact⟨λx b=>(by cases b),bA _⟩
 |some e=>exact⟨(h.ds.w.wf n e a).2,h.ds.few a⟩
theorem BB {v c a:ax}{V wr:ai}(h:c.ownBlock=v.ownBlock\/∀b,c.ownBlock=some b->V.heap.size<=b)(d:a.ownBlock=c.ownBlock\/∀b,a.ownBlock=some b->wr.heap.size<=b)(hs:V.heap.size<=wr.heap.size):a.ownBlock=v.ownBlock\/∀b,a.ownBlock=some b->V.heap.size<=b:=by grind
theorem Kk (h:En E B I D DB J p M nx c r l B0 C)(f:Nat)(hC:COME E A DB Bd Bl C D M l f)(k:Nat)(z:List fM)(v:ax)(V:ai)(n:Int)(m:Mv)(path:List (Int×Mv))(q:Nat)(hf:101<=f+k)(b3:z.length<=k)(hn:eH n)(hw:BL A DB Bd Bl C D k z v V)(hp:iM V (some q) ((n,m)::path))(hm:m.ok):
  aL 192 #[aK A,aK q] V λe w'=>lZ E D.heap.size A DB (yu Bd Bl) v V ((gu.Xh M n).foldlM (λs x=>gu M l f x (n::path.map Prod.fst) m s) (k,z.map fM.pc)) e w'/\Kw A v V w':=by
 obtain⟨F,b4⟩:=a8t h n;have a4:=hw.below (below_drewN (aW V.heap.size V) 1);have KD:=QM (h.ds.below a4.low).w n hn aa;have HC:=aF hC;have HW:=aF hw;have HP:=aF hp;have HM:Hid m.ok:=hm;have a5:=aF F;have w0:=aQ hw.sc.wb 0 _ rfl;have q0:V.cell? (aJ q 0)=some (ag n):=by
  obtain⟨b,q',i,o, -⟩:=hp;cases i;exact aQ o 0 _ rfl
 obtain⟨g,hg⟩:∃g:Nat×List Pc->Int->Except Ft (Nat×List Pc),(λs x=>gu M l f x (n::path.map Prod.fst) m s)=g:=⟨_,rfl⟩;rw[hg];have HG:=aF hg;have b5:Hid (∀(L:List Int) (s a:Nat×List Pc),L.foldlM g s=.ok a->s.1<=a.1):=(λL s a h=>Db g (λs x a hs=>Dc M l f x _ m s a (by rw[<- hg] at hs;exact hs)) L s a h:∀(L:List Int) (s a:Nat×List Pc),L.foldlM g s=.ok a->s.1<=a.1);have b6:Hid (∀(L:List Int) (a:Nat×List Pc),L.foldlM g (k,z.map fM.pc)=.ok a->a.2.length<=a.1):=(λL a h=>J6 g (λs x a hs=>xC M l f x _ m s a (by rw[<- hg] at hs;exact hs)) L (k,z.map fM.pc) a h (by simpa using b3):∀(L:List Int) (a:Nat×List Pc),L.foldlM g (k,z.map fM.pc)=.ok a->a.2.length<=a.1);show Calls _ _ _ _ λe w'=>lZ E D.heap.size A DB (yu Bd Bl) v V ((ru M n).foldlM g (k,z.map fM.pc)) e w'/\Kw A v V w';generalize ru M n=H at KD a5 b4⊢;clear F hw hp hm hC hg a4;go_enter func192,ntmps192;go_upto_region 1 with fail
 go_region_held3 (λw'=>w'.cell? (aJ A 0)=some (aK DB)/\w'.cell? (aJ q 0)=some (ag n)) (first|exact⟨w0,q0⟩|exact⟨z1,z2⟩) (first|(go_at_call 47;refine KD.mono ?_;rintro e w1 ⟨ok,kk,rfl,R,d⟩;have z1:=(d.cell (aX (w:=V.drew) w0)).trans w0;have z2:=(d.cell (aX (w:=V.drew) q0)).trans q0))
 all_goals
  have t:aD V w1:=⟨d.os,d.tape,d.output,d.size,d.block⟩;have W1:Hid (BL A DB Bd Bl C D k z v w1):=(HW.out.below t:BL A DB Bd Bl C D k z v w1);have HO:=aF R;clear R d KD w0 q0;have b8:(H.length:Int)<=(kk:Int):=by
   obtain⟨o',c',i,o, -⟩:=eT HO.out;cases i;omega
  clear z1 z2;go_wp2_with fail
  go_loopw [18] (λy wr=>∃j:Nat,j<=H.length/\y=ag j/\GrL A DB Bd Bl C D w1 v g H (k,z.map fM.pc) j wr) (λy _=>H.length-(intOf y).toNat)
  case atStart=>exact⟨0,bA _,rfl,(k,z.map fM.pc),v,rfl,z,rfl,W1.out,Kw.refl _ _ _,.inl rfl⟩
  case round=>
   obtain⟨j,hj,rfl,st,v',a6,qs,a7,a8,F,S⟩:=hrel;have K:=aF a6;have U:=aF a7;have W:=aF a8;have X:=aF F;have HL:=aF S;clear a6 a7 a8 F S;by_cases Y:j<H.length
   .have b9:(j:Int)<(H.length:Int):=aa;obtain⟨x,hx, -⟩:=drop_at Y;have HX:=aF hx;have a9:=W1.out.ints X.out HO.out;obtain⟨gb,c0⟩:∃gb,ok=some ⟨gb,0,none⟩/\wr.cell? (aJ gb j)=some (ag x):=by
     rcases ints_at a9 with⟨i, -⟩|⟨gb,c1,i, -,O⟩
     .rw[i] at Y;simp at Y
     .cases i;exact⟨gb,rfl,O j x hx⟩
    obtain⟨rfl,c0⟩:=c0;clear a9;have T:=b5.out _ _ _ K.out;have b7:qs.length<=st.1:=by
     have:=b6.out _ _ K.out;rw[<- U.out,dP] at this;exact this
    have b0:iM wr (some q) ((n,m)::path):=W1.out.sc.path X.out (HW.out.sc.path (Kw.of_below t) HP.out);have CM:=HC.out st.1 qs v' wr x n m path q (by simp only at T;omega) b7 (a5.out x (ic hx)) W.out b0 HM.out;have b1:(st.1,qs.map fM.pc)=st:=by rw[U.out]
    rw[b1] at CM;obtain⟨P,N⟩:∃P,gu M l f x (n::path.map Prod.fst) m st=P:=⟨_,rfl⟩;rw[N] at CM;have b2:Hid (g st x=P):=by
     have o:g st x=gu M l f x (n::path.map Prod.fst) m st:=by rw[<- HG.out]
     exact o.trans N
    clear N b1 b0 T hx;cases P with
    |error ft=>
     have Z:aL 77 #[aK A,ag x,aK q] wr λe w'=>∃pb,e=ay (aU 67 (aK pb))/\Hid (FtV E ft wr.heap.size (aU 67 (aK pb)) w'/\Kw A v' wr w'):=CM.mono λe w' ⟨⟨u,i,o⟩,O⟩=>by
      obtain⟨pb,h4,rfl,h5⟩:=o;exact⟨pb,i,⟨pb,h4,rfl,h5⟩,O⟩
     clear CM;go_wp2_with(go_at_call 77;refine Z.mono ?_;rintro e w2 ⟨pb,rfl,o⟩);go_ret;obtain⟨o,O⟩:=o.out;have h4:=a4c g H _ _ j x ft K.out HX.out b2.out;rw[h4];have c2:=t.size;have c3:=X.out.size;exact⟨⟨_,rfl,o.low aa⟩,(Kw.of_below t).trans (.inl rfl) (X.out.trans HL.out O)⟩
    |ok s2=>
     have Z:aL 77 #[aK A,ag x,aK q] wr λe w'=>e=ay aY/\Hid ((∃Q v2,Q.map fM.pc=s2.2/\Sc D.heap.size A DB (yu Bd Bl) s2.1 Q v2 w'/\(v2.ownBlock=v'.ownBlock\/∀b,v2.ownBlock=some b->wr.heap.size<=b))/\Kw A v' wr w'):=CM.mono λe w' ⟨⟨i,o⟩,O⟩=>⟨i,o,O⟩;clear CM;go_wp2_with(go_at_call 77;refine Z.mono ?_;rintro e w2 ⟨rfl,o⟩)
     go_roundw
     case rel=>
      obtain⟨⟨Q,v2,O,h4,h5⟩,h6⟩:=o.out;exact⟨j+1,aa,by go_num,s2,v2,a0a g H _ _ _ j x K.out HX.out b2.out,Q,O,W.out.next h6 h4,X.out.trans HL.out h6,BB HL.out h5 X.out.size⟩
     case measure=>simp[intOf];omega
   .obtain rfl:j=H.length:=aa;have c4:¬(H.length:Int)<(H.length:Int):=aa;go_wp2_with fail;go_ret;have i:=K.out;rw[gJ] at i;rw[i];exact⟨⟨rfl,qs,v',U.out,W.out.sc,BB (.inl rfl) HL.out t.size⟩,(Kw.of_below t).trans (.inl rfl) X.out⟩
theorem Sj (h:En E B I D DB J p M nx c r l B0 C)(f:Nat)(L:COME E A DB Bd Bl C D M l f)(k:Nat)(g:List fM)(v:ax)(V:ai)(n:Int)(m:Mv)(path:List (Int×Mv))(q:Nat)(N:101<=f+k)(O:g.length<=k)(Y:eH n)(i:BL A DB Bd Bl C D k g v V)(hp:iM V (some q) ((n,m)::path))(P:m.ok):
  aL 193 #[aK A,aK q] V λe w'=>lZ E D.heap.size A DB (yu Bd Bl) v V (match Ng M n with|none=>.error ⟨10,n⟩|some x=>gu M l f x (n::path.map Prod.fst) m (k,g.map fM.pc)) e w'/\Kw A v V w':=by
 have F:=ZQ (h.ds.below i.low) A (aQ i.sc.wb 0 _ rfl) n Y;have W:V.cell? (aJ q 0)=some (ag n):=by
  obtain⟨b,q',s,Q, -⟩:=hp;cases s;exact aQ Q 0 _ rfl
 have j:∀x,Ng M n=some x->eH x:=λx H=>by
  unfold Ng at H;split at H
  .cases H
  .exact a3E h.ds x (List.mem_of_find?_eq_some H)
 have o:=(h.ne.below i.low).c10;cases t:Ng M n with
 |none=>
  rw[t] at F;have R:∀K,aD V K->K.cell? (aJ 9 0)=some (eV (E 10))/\K.cell? (aJ q 0)=some (ag n):=λK w=>⟨(w.cell (aX o)).trans o,(w.cell (aX W)).trans W⟩;clear L N i hp P h j t;go_enter func193,ntmps193;go_upto_region 3 with(go_at_call 261;refine F.mono ?_;rintro e d ⟨S,a⟩;obtain rfl:e=ay (aH #[ag 0,.bool false]):=S;obtain⟨k1,k2⟩:=R d a);go_region
  all_goals
   go_wp2;go_ret;exact⟨⟨_,rfl,d.heap.size,a.size,rfl,dY _ _ _⟩,Kw.of_below (bf (a.trans (below_drewN (aW _ _) 1)) (dR _ _))⟩
 |some x=>
  rw[t] at F;have X:Hid (∀d,aD V d->aL 77 #[aK A,ag x,aK q] d λe w'=>lZ E D.heap.size A DB (yu Bd Bl) v d (gu M l f x (n::path.map Prod.fst) m (k,g.map fM.pc)) e w'/\Kw A v d w'):=(λd w=>L k g v d x n m path q N O (j x t) (i.below w) (i.sc.path (Kw.of_below w) hp) P:∀d,aD V d->aL 77 #[aK A,ag x,aK q] d λe w'=>lZ E D.heap.size A DB (yu Bd Bl) v d (gu M l f x (n::path.map Prod.fst) m (k,g.map fM.pc)) e w'/\Kw A v d w');clear L N i hp P h j t o;simp only;generalize gu M l f x (n::path.map Prod.fst) m (k,g.map fM.pc)=y at X⊢;go_enter func193,ntmps193;go_wp2_with(first|(go_at_call 261;refine F.mono ?_;rintro e d ⟨S,a⟩;obtain rfl:e=ay (aH #[ag x,.bool true]):=S;have Z:=X.out d a)|(go_at_call 77;refine Z.mono ?_;rintro e w2 ⟨s,Q⟩;obtain⟨u,rfl⟩:∃u,e=ay u:=(by cases y with|error ft=>(obtain⟨u,z, -⟩:=s;exact⟨u,z⟩)|ok s2=>exact⟨_,s.1⟩)));go_ret;refine⟨?_,(Kw.of_below a).trans (.inl rfl) Q⟩;cases y with
  |error ft=>obtain⟨u',z,T⟩:=s;cases z;exact⟨_,rfl,T.low a.size⟩
  |ok s2=>
   obtain⟨z,U,v2,T,h5,h6⟩:=s;exact⟨z,U,v2,T,h5,BB (.inl rfl) h6 a.size⟩
end
theorem a8u (d:Nat)(w:ai):(Op.equalIn (d+1) 235 .nilFunc .nilFunc).run prog w=.ok true w:=by simp[Op.equalIn,run_underlying underlying235]
theorem a4f (d:Nat)(w:ai)(f:Fn)(a b:Array ax):(Op.equalIn (d+1) 235 (.func f a b) .nilFunc).run prog w=.ok false w:=by simp[Op.equalIn,run_underlying underlying235]
theorem a8v (w:ai):(binOp BinOp.eql 235 .nilFunc .nilFunc).run prog w=.ok (.bool true) w:=by
 have h:(Op.equal 235 .nilFunc .nilFunc).run prog w=.ok true w:=a8u 9999 w;simp[binOp,h]
theorem a8w (w:ai)(f:Fn)(a b:Array ax):(binOp BinOp.eql 235 (.func f a b) .nilFunc).run prog w=.ok (.bool false) w:=by
 have h:(Op.equal 235 (.func f a b) .nilFunc).run prog w=.ok false w:=a4f 9999 w f a b;simp[binOp,h]
theorem BL.count {a DB Bd Bl:Nat}{l:ax}{m:ai}{k:Nat}{n:List fM}{v:ax}{V:ai}(h:BL a DB Bd Bl l m k n v V):BL a DB Bd Bl l m (k+1) n v (V.setCell ⟨a,2,none⟩ (ag ((k:Int)+1)))/\Kw a v V (V.setCell ⟨a,2,none⟩ (ag ((k:Int)+1))):=by
 have c:∀b,b≠a->(V.setCell ⟨a,2,none⟩ (ag ((k:Int)+1))).heap[b]? =V.heap[b]? :=λb i=>dw _ _ _ b i;have o:Kw a v V (V.setCell ⟨a,2,none⟩ (ag ((k:Int)+1))):=⟨(Below.setCell (aW a V) (p:=⟨a,2,none⟩) az _).os,(Below.setCell (aW a V) (p:=⟨a,2,none⟩) az _).tape,(Below.setCell (aW a V) (p:=⟨a,2,none⟩) az _).output,Nat.le_of_eq (nu _ _ _).symm,λb _ d _=>c b d⟩;refine⟨h.next o ⟨?_,?_,?_,h.sc.rt⟩,o⟩
 .have:=heap_setCell_same V a 2 _ _ (ag ((k:Int)+1)) h.sc.wb;grind
 .exact dF h.sc.own λg j=>c g (λe=>by
   obtain⟨r,f,d, -⟩:=gy h.sc.own g j;rw[e,h.sc.wb] at d;cases d)
 .intro x q;exact dF (h.sc.pts x q) λg j=>c g (λe=>by
   obtain⟨r,f,d, -⟩:=gy (h.sc.pts x q) g j;rw[e,h.sc.wb] at d;cases d)
theorem lZ.ret {E:Nat->Addr}{a b DB:Nat}{c v:ax}{V:ai}{x:Except Ft (Nat×List Pc)}{w':ai}(h:lZ E a b DB c v V x e w'):∃u,e=ay u:=by
 cases x with
 |error f=>obtain⟨u,d, -⟩:=h;exact⟨u,d⟩
 |ok s=>exact⟨_,h.1⟩
theorem lZ.low {E:Nat->Addr}{a d DB:Nat}{g v:ax}{V i:ai}{x:Except Ft (Nat×List Pc)}{w':ai}(h:lZ E a d DB g v i x e w')(hs:V.heap.size<=i.heap.size):lZ E a d DB g v V x e w':=by
 cases x with
 |error f=>obtain⟨u,b,c⟩:=h;exact⟨u,b,c.low hs⟩
 |ok s=>obtain⟨b,j,k,c,l,m⟩:=h;exact⟨b,j,k,c,l,BB (.inl rfl) m hs⟩
section
variable {E:Nat->Addr}{B:Nat}{I:dG}{D:ai}{DB J:Nat}{p:Int->Option Nat}{M:Dm}{nx c:Nat}{r:Int->Nat}{l:List Rl}{B0:Nat}{C:ax}{A Bd Bl:Nat}
theorem a0b (h:En E B I D DB J p M nx c r l B0 C)(k:Nat)(s:List fM)(v:ax)(V:ai)(n t:Int)(m:Mv)(path:List (Int×Mv))(q:Nat)(N:k<100)(F:eH n)(u:BL A DB Bd Bl C D k s v V)(hp:iM V (some q) ((t,m)::path))(i:n ∉ t::path.map Prod.fst)(j:sI (JD M n)=false):
  aL 77 #[aK A,ag n,aK q] V λe w'=>lZ E D.heap.size A DB (yu Bd Bl) v V (.ok (k+1,s.map fM.pc)) e w'/\Kw A v V w':=by
 have g:=uX V (some q) ((t,m)::path) n hp;have b:decide (n∈((t,m)::path).map Prod.fst)=false:=iU i;unfold WiR at g;rw[b] at g;simp only[pV,Option.map_some] at g;replace g:aL 129 #[aK q,ag n] V λe w'=>e=ay (.bool false)/\V=w':=g.mono λe w' h=>⟨h.1,h.2.symm⟩;obtain⟨a,d⟩:=u.count;have x:=tX (h.ds.below a.low).w n F;have O:=aQ u.sc.wb 2 _ rfl;have P:=gI u.sc.wb 2;have H:(k:Int)<100:=aa;obtain⟨w,f⟩:∃X,V.setCell ⟨A,2,none⟩ (ag ((k:Int)+1))=X:=⟨_,rfl⟩;have o:aL 104 #[aK DB,ag n] (V.setCell ⟨A,2,none⟩ (ag ((k:Int)+1))) λr w'=>r=ay (bV (JD M n))/\w=w':=x.mono λe w' h=>⟨h.1,f.symm.trans h.2.symm⟩;have Q:=aQ a.sc.wb 0 _ rfl;rw[f] at a d;have R:=aQ a.sc.wb 1 _ rfl;have K:=a8v;have y:=a4b A w (JD M n) j;have L:Hid (lZ E D.heap.size A DB (yu Bd Bl) v V (.ok (k+1,s.map fM.pc)) (ay aY) w/\Kw A v V w):=⟨⟨rfl,s,v,rfl,a.sc,.inl rfl⟩,d⟩;generalize JD M n=S at o y;clear x u hp i a d h j b f;go_enter func77,ntmps77;go_wp2_with(first|(go_at_call 129;refine g.mono ?_;rintro e z ⟨rfl,rfl⟩)|(go_at_call 104;refine o.mono ?_;rintro e z ⟨rfl,rfl⟩)|(go_at_call 130;refine y.mono ?_;rintro e z ⟨rfl,rfl⟩));go_ret;exact L.out
def alQ (A F:Nat)(a b:List ax):Prop:=(F=255/\a=[]/\∃x y,b=[x,y])\/(a=[aK A]/\b=[]/\(F=192\/F=193))
def acW (E:Nat->Addr)(D:ai)(A DB Bd Bl:Nat)(C v:ax)(k:Nat)(i:List fM)(n:Int)(path:List (Int×Mv))(d:Mv->Except Ft (Nat×List Pc))(j:ai)(e:Ending)(g:ai):Prop:=∃(F:Nat) (a b:List ax),e=ay (.func (.func F) a.toArray b.toArray)/\aD j g/\alQ A F a b/\∀(f:Mv) (c:ai) (PB:Nat),f.ok->aD g c->BL A DB Bd Bl C D (k+1) i v c->iM c (some PB) ((n,f)::path)->aL F (a++[Value.pointer (some ⟨PB,0,none⟩)]++b).toArray c λe h=>lZ E D.heap.size A DB (yu Bd Bl) v c (d f) e h/\Kw A v c h
theorem a4g (h:En E B I D DB J p M nx c r l B0 C)(k:Nat)(Y:List fM)(v:ax)(V:ai)(n K:Int)(m:Mv)(path:List (Int×Mv))(q:Nat)(hk:k<100)(hn:eH n)(hw:BL A DB Bd Bl C D k Y v V)(hp:iM V (some q) ((K,m)::path))(a8:n ∉ K::path.map Prod.fst)(hm:m.ok)(L:Mv->Except Ft (Nat×List Pc))(WY:∀z,aL 130 #[aK A,bV (JD M n)] z λe j=>acW E D A DB Bd Bl C v k Y n ((K,m)::path) L z e j):
  aL 77 #[aK A,ag n,aK q] V λe w'=>lZ E D.heap.size A DB (yu Bd Bl) v V (if(ofM M l Ad n==kNo)=true then .ok (k+1,Y.map fM.pc) else match AZ M n m with| .error c=>.error ⟨wU c,n⟩| .ok d=>L d) e w'/\Kw A v V w':=by
 have Z:=uX V (some q) ((K,m)::path) n hp;have W:decide (n∈((K,m)::path).map Prod.fst)=false:=iU a8;unfold WiR at Z;rw[W] at Z;simp only[pV,Option.map_some] at Z;replace Z:aL 129 #[aK q,ag n] V λe w'=>e=ay (.bool false)/\V=w':=Z.mono λe w' h=>⟨h.1,h.2.symm⟩;obtain⟨o,Q⟩:=hw.count;have NA:=tX (h.ds.below o.low).w n hn;have c2:=aQ hw.sc.wb 2 _ rfl;have f2:=gI hw.sc.wb 2;have c3:(k:Int)<100:=aa;obtain⟨z,a4⟩:∃X,V.setCell ⟨A,2,none⟩ (ag ((k:Int)+1))=X:=⟨_,rfl⟩;have a5:aL 104 #[aK DB,ag n] (V.setCell ⟨A,2,none⟩ (ag ((k:Int)+1))) λr w'=>r=ay (bV (JD M n))/\z=w':=NA.mono λe w' h=>⟨h.1,a4.symm.trans h.2.symm⟩;have c0:=aQ o.sc.wb 0 _ rfl;rw[a4] at o Q;have c1:=aQ o.sc.wb 1 _ rfl;have c4:=a8w;have WY:=WY z;have ST:=λj (R:aD z j)=>h.style (o.below R) n hn Ad;have g:=aF o;have N:=aF Q;have C1:Hid (∀j,aD z j->j.cell? (aJ A 1)=some (yu Bd Bl)):=(λj R=>(R.cell (aX c1)).trans c1:∀j,aD z j->j.cell? (aJ A 1)=some (yu Bd Bl));have HH:=aF h;have a9:Hid (iM z (some q) ((K,m)::path)):=(hw.sc.path Q hp:iM z (some q) ((K,m)::path));have HM:Hid m.ok:=hm;have hq:=j5 (ofM M l Ad n) kNo;generalize JD M n=nm at a5 WY;clear NA hw hp a8 o Q h W hm a4;generalize ofM M l Ad n=s at ST hq⊢;obtain⟨c5,uj⟩:∃x,(if(s==kNo)=true then(.ok (k+1,Y.map fM.pc):Except Ft (Nat×List Pc)) else match AZ M n m with| .error c=>.error ⟨wU c,n⟩| .ok d=>L d)=x:=⟨_,rfl⟩;rw[uj];have Vk:=aF uj;clear uj;have MO:∀S,aD z S->aL 131 #[aK A,ag n,aK q] S λe w'=>MvR E (AZ M n m) e w'/\aD S w':=λS O=>by
  obtain⟨b,q',H,h2, -⟩:=g.out.sc.path (Kw.of_below O) a9.out;cases H;exact V5 (HH.out.ne.below (g.out.below O).low) (HH.out.ds.below (g.out.below O).low).w HH.out.sz A (aQ (g.out.below O).sc.wb 0 _ rfl) n hn q K (.pointer (q'.map λx=>⟨x,0,none⟩)) m HM.out h2
 unfold Ad at ST;go_enter func77,ntmps77;go_upto_region 7 with(first|(go_at_call 129;refine Z.mono ?_;rintro e j ⟨rfl,rfl⟩)|(go_at_call 104;refine a5.mono ?_;rintro e j ⟨rfl,rfl⟩)|(go_at_call 130;refine WY.mono ?_;rintro e j ⟨F,a,b,rfl,R,LF,SH⟩;have k1:=C1.out _ R;have ST1:=ST _ R));have b0:Hid (∀(d:Mv) (t:ai) (PB:Nat),d.ok->aD j t->BL A DB Bd Bl C D (k+1) Y v t->iM t (some PB) ((n,d)::(K,m)::path)->aL F (a++[Value.pointer (some ⟨PB,0,none⟩)]++b).toArray t λe w'=>∃u,e=ay u/\Hid (lZ E D.heap.size A DB (yu Bd Bl) v t (L d) (ay u) w'/\Kw A v t w')):=(λd t PB g1 g2 g3 g4=>(SH d t PB g1 g2 g3 g4).mono λe w' h=>by
  obtain⟨u,rfl⟩:=h.1.ret;exact⟨u,rfl,h⟩:∀(d:Mv) (t:ai) (PB:Nat),d.ok->aD j t->BL A DB Bd Bl C D (k+1) Y v t->iM t (some PB) ((n,d)::(K,m)::path)->aL F (a++[Value.pointer (some ⟨PB,0,none⟩)]++b).toArray t λe w'=>∃u,e=ay u/\Hid (lZ E D.heap.size A DB (yu Bd Bl) v t (L d) (ay u) w'/\Kw A v t w'))
 have b7:=aF LF;clear SH LF ST WY a5 Z;cases hs:(s==kNo) with
 |true=>
  rw[hs] at hq;have H:=Vk.out;rw[hs,aR rfl] at H;have H1:Hid _:=H;unfold kNo at hq hs;clear H Vk;clear MO;go_wp2_with(go_at_call 76;refine ST1.mono ?_;rintro e S ⟨rfl,O⟩);go_ret;have i:=bf R O;obtain rfl:=H1.out;exact⟨⟨rfl,Y,v,rfl,(g.out.below i).sc,.inl rfl⟩,N.out.trans (.inl rfl) (Kw.of_below i)⟩
 |false=>
  rw[hs] at hq;have H:=Vk.out;rw[hs,aG aI] at H;unfold kNo at hq hs;obtain⟨mo,T⟩:∃x,AZ M n m=x:=⟨_,rfl⟩;rw[T] at MO H;cases mo with
  |error cd=>
   have FO:=λf (hN:NE E f) ev (U:TM E cd ev f)=>xm hN U n;have NN:Hid (∀f,aD z f->NE E f):=(λf b3=>HH.out.ne.below (g.out.below b3).low:∀f,aD z f->NE E f);have H1:Hid _:=H;clear T H Vk;go_upto_region 10 with(first|(go_at_call 76;refine ST1.mono ?_;rintro e S ⟨rfl,O⟩;have i:=bf R O;have a6:=MO S i)|(go_at_call 131;refine a6.mono ?_;rintro e f ⟨⟨ev,rfl,U⟩,b3⟩));have P:=bf i b3;have HV:=U;obtain⟨-, -,b8⟩:=U;rcases b8 with rfl|⟨pb,po,rfl, -⟩<;>
   .go_wp2_with(go_at_call 132;refine(FO _ ?_ _ ?_).mono ?_;exact NN.out _ (bf P (dR _ _));exact HV.below (dR _ _);rintro e w5 ⟨u,rfl,hf,b5⟩);go_ret;have bb:=bf (bf P (dR _ _)) b5;obtain rfl:=H1.out;exact⟨⟨u,rfl,hf.low (bO N.out.size (bf P (dR _ _)).size)⟩,N.out.trans (.inl rfl) (Kw.of_below bb)⟩
  |ok d=>
   have b9:Hid d.ok:=a4d HM.out T;have H1:Hid _:=H;clear T H Vk;go_upto_region 12 with(first|(go_at_call 76;refine ST1.mono ?_;rintro e S ⟨rfl,O⟩;have i:=bf R O;have a6:=MO S i)|(go_at_call 131;refine a6.mono ?_;rintro e f ⟨rfl,b3⟩));have P:=bf i b3;have bU:=dR f (ak (mA d) 165);have KP:=dY (f.alloc (ak (mA d) 165)) (plA n (aK q) d) 168;have bX:=bf bU (dR (f.alloc (ak (mA d) 165)) (ak (plA n (aK q) d) 168));have b5:=bf P bX;have b4:=g.out.below b5;have a7:iM ((f.alloc (ak (mA d) 165)).alloc (ak (plA n (aK q) d) 168)) (some (f.alloc (ak (mA d) 165)).heap.size) ((n,d)::(K,m)::path):=⟨_,some q,rfl,KP,g.out.sc.path (Kw.of_below b5) a9.out⟩;rw[dV] at a7;have w:=b0.out d _ (f.heap.size+1) b9.out (bf (bf O b3) bX) b4 a7;have b6:=aF b5;have m0:=kJ f (mA d) 165;clear bU KP b4 a7 b0 b5 bX;rcases b7.out with⟨rfl,rfl,x,y,rfl⟩|⟨rfl,rfl,rfl|rfl⟩<;>simp only[gK,gH,List.append_nil] at w<;>
   .go_wp2_with(first|(go_at_call 255;refine w.mono ?_;rintro e w6 ⟨u,rfl,h6⟩)|(go_at_call 192;refine w.mono ?_;rintro e w6 ⟨u,rfl,h6⟩)|(go_at_call 193;refine w.mono ?_;rintro e w6 ⟨u,rfl,h6⟩));go_ret;obtain rfl:=H1.out;exact⟨h6.out.1.low (bO N.out.size b6.out.size),N.out.trans (.inl rfl) ((Kw.of_below b6.out).trans (.inl rfl) h6.out.2)⟩
end
variable {E:Nat->Addr}{B:Nat}{I:dG}{D:ai}{DB J:Nat}{p:Int->Option Nat}{M:Dm}{nx c:Nat}{r:Int->Nat}{l:List Rl}{B0:Nat}{C:ax}{A Bd Bl:Nat}
theorem Sk (n:Int)(m:Mv)(x:Except Nat (List Qt))(st:Nat×List Pc):zP n m x (ofM M l wD n) (ofM M l yG n) (ofM M l uH n) st=kg M l n m x st:=rfl
theorem M0 (h:En E B I D DB J p M nx c r l B0 C){k:Nat}{g:List fM}{v:ax}(i:g.length<=1000){n:Int}(j:eH n){rest:List (Int×Mv)}{f:Nat}{x:Except Nat (List Qt)}(m:∀(s:Array ax) (w:ai),Sem.run prog (callFunc f s) w=.ok (.enter f s) w)
  (RD:∀U,BL A DB Bd Bl C D (k+1) g v U->aL f #[aK A,ag n] U λe w'=>rz E x e w'/\aD U w') {t:ai} {e:Ending} {u:ai} (H:ByR A f t e u):acW E D A DB Bd Bl C v k g n rest (λo=>kg M l n o x (k+1,g.map fM.pc)) t e u:=by
 obtain⟨K,L,N,y,z,O⟩:=H;refine⟨_,_,_,N,O,.inl ⟨rfl,rfl,_,_,rfl⟩,λo V PB P F a Q=>?_⟩;obtain⟨b,W,R,S, -⟩:=Q;cases R;have X:=acU h.sz (λx T=>(h.ok x T).1) uH n;have q:=O4 (h.ne.below a.low) Bd Bl a.sc PB K L _ m n _ o P S ((F.cell (aX y)).trans y) ((F.block _ (dI z)).trans z) x _ _ _ aa a.low.size i (λU d=>RD U (a.below d)) (λU d=>h.style (a.below d) n j wD) (λU d=>h.style (a.below d) n j yG) (λU d=>h.style (a.below d) n j uH);rw[Sk] at q;exact q
theorem J7 (h:En E B I D DB J p M nx c r l B0 C)(k:Nat)(i:List fM)(v:ax)(V:ai)(n d:Int)(m:Mv)(path:List (Int×Mv))(q:Nat)(g:BL A DB Bd Bl C D k i v V)(hp:iM V (some q) ((d,m)::path))(b:n∈d::path.map Prod.fst):
  aL 77 #[aK A,ag n,aK q] V λe w'=>lZ E D.heap.size A DB (yu Bd Bl) v V (.error ⟨9,n⟩) e w'/\Kw A v V w':=by
 have f:=uX V (some q) ((d,m)::path) n hp;have a:decide (n∈((d,m)::path).map Prod.fst)=true:=decide_eq_true b;unfold WiR at f;rw[a] at f;simp only[pV,Option.map_some] at f;have j:=(h.ne.below g.low).c9;clear h g hp b a;go_enter func77,ntmps77;go_wp2_with(go_at_call 129;refine f.mono ?_;rintro e o ⟨rfl,rfl⟩);go_ret;exact⟨⟨_,rfl,_,bJ _,rfl,dY _ _ _⟩,Kw.of_below (dR _ _)⟩
theorem M6 (h:En E B I D DB J p M nx c r l B0 C)(k:Nat)(i:List fM)(v:ax)(V:ai)(n d:Int)(m:Mv)(path:List (Int×Mv))(q:Nat)(o:100<=k)(g:BL A DB Bd Bl C D k i v V)(hp:iM V (some q) ((d,m)::path))(b:n ∉ d::path.map Prod.fst):
  aL 77 #[aK A,ag n,aK q] V λe w'=>lZ E D.heap.size A DB (yu Bd Bl) v V (.error ⟨7,n⟩) e w'/\Kw A v V w':=by
 have f:=uX V (some q) ((d,m)::path) n hp;have a:decide (n∈((d,m)::path).map Prod.fst)=false:=iU b;unfold WiR at f;rw[a] at f;simp only[pV,Option.map_some] at f;have s:=(h.ne.below g.low).c7;have t:=aQ g.sc.wb 2 _ rfl;have j:(100:Int)<=(k:Int):=aa;clear h g hp b a;go_enter func77,ntmps77;go_wp2_with(go_at_call 129;refine f.mono ?_;rintro e u ⟨rfl,rfl⟩);go_ret;exact⟨⟨_,rfl,_,bJ _,rfl,dY _ _ _⟩,Kw.of_below (dR _ _)⟩
theorem VF (s:Bs):sI s=false\/s=JQ\/s=yR\/s=sH\/s=Qy:=by
 unfold sI;grind
theorem VG {n:Int}(h:sI (JD M n)=true):(wV M l n=false)↔(ofM M l Ad n==kNo)=true:=by
 unfold wV;grind
theorem Sl (h:En E B I D DB J p M nx c r l B0 C):∀f,COME E A DB Bd Bl C D M l f
 |0=>λk o v V n t m path q hf P w z F Z=>by
  unfold gu;by_cases d:n∈t::path.map Prod.fst
  .rw[aR d];exact J7 h k o v V n t m path q z F d
  .rw[aG d];exact M6 h k o v V n t m path q aa z F d
 |f+1=>λk o v V n t m path q hf P w z F Z=>by
  have IH:=Sl h f;unfold gu;by_cases d:n∈t::path.map Prod.fst
  .rw[aR d];exact J7 h k o v V n t m path q z F d
  rw[aG d];by_cases Q:100<=k
  .rw[aR Q];exact M6 h k o v V n t m path q Q z F d
  rw[aG Q];have N:k<100:=aa;by_cases H:sI (JD M n)=false
  .rw[aR (show wV M l n=false by unfold wV;rw[H];rfl)];exact a0b h k o v V n t m path q N w z F d H
  have L:∀{a b:Bs},JD M n=a->a≠b->¬JD M n=b:=by grind
  obtain⟨y,WY,hr⟩:∃y:Mv->Except Ft (Nat×List Pc),(∀u,aL 130 #[aK A,bV (JD M n)] u λe O=>acW E D A DB Bd Bl C v k o n ((t,m)::path) y u e O)/\∀i,y i=(if JD M n=JQ then kg M l n i (a2v M n) (k+1,o.map fM.pc) else if JD M n=yR then kg M l n i (Lj M n) (k+1,o.map fM.pc) else if JD M n=sH then(gu.Xh M n).foldlM (λs x=>gu M l f x (n::t::path.map Prod.fst) i s) (k+1,o.map fM.pc) else match Ng M n with|none=>.error ⟨10,n⟩|some x=>gu M l f x (n::t::path.map Prod.fst) i (k+1,o.map fM.pc)):=by
   rcases VF (JD M n) with j|j|j|j|j
   .grind
   .exact⟨_,λu=>by rw[j];exact(a8r A u).mono λe O=>M0 h aa w (tH _ _ func190 aA aA) λU K=>ZM (h.ne.below K.low) (h.ds.below K.low).w h.sz A (aQ K.sc.wb 0 _ rfl) n w,λi=>(aR j).symm⟩
   .exact⟨_,λu=>by rw[j];exact(a4a A u).mono λe O=>M0 h aa w (tH _ _ func191 aA aA) λU K=>Vh (h.ne.below K.low) (h.ds.below K.low).w h.sz A (aQ K.sc.wb 0 _ rfl) n w,λi=>((aG (L j aC)).trans (aR j)).symm⟩
   .exact⟨λi=>(gu.Xh M n).foldlM (λs x=>gu M l f x (n::t::path.map Prod.fst) i s) (k+1,o.map fM.pc),λu=>by rw[j];exact(a09 A u).mono λe O ⟨R,S⟩=>⟨_,_,_,R,by rw[S];exact aW _ _,.inr ⟨rfl,rfl,.inl rfl⟩,λi T PB W _ X Y=>Kk h f IH (k+1) o v T n i ((t,m)::path) PB aa aa w X Y W⟩,λi=>((aG (L j aC)).trans ((aG (L j aC)).trans (aR j))).symm⟩
   .exact⟨λi=>match Ng M n with|none=>.error ⟨10,n⟩|some x=>gu M l f x (n::t::path.map Prod.fst) i (k+1,o.map fM.pc),λu=>by rw[j];exact(a8s A u).mono λe O ⟨R,S⟩=>⟨_,_,_,R,by rw[S];exact aW _ _,.inr ⟨rfl,rfl,.inr rfl⟩,λi T PB W _ X Y=>Sj h f IH (k+1) o v T n i ((t,m)::path) PB aa aa w X Y W⟩,λi=>((aG (L j aC)).trans ((aG (L j aC)).trans (aG (L j aC)))).symm⟩
  refine(a4g h k o v V n t m path q N w z F d Z y WY).mono λe w' g=>?_;simp only[VG (by simpa using H:sI (JD M n)=true)];grind

import Derived.Test.YtbkjmamcnflncaaGreatDoorQs24
namespace Go.Proofs.YtbkjmamcnflncaaGreatDoor
open Go.Proofs.Tryz
set_option maxHeartbeats 8000000
variable{α:Type}
section
open Go
section
variable {P:Program}{A:Array Oper}{Q:Exit->Act->ah->Prop}{C:Region.Mode}{S:ah->Prop}{z:Nat}
def rF (P:Program)(C:Region.Mode)(A:Array Oper)(Q:Exit->Act->ah->Prop)(S:ah->Prop)(z:Nat):Nat->Array Bool->Act->ah->Prop
 |0,b,a,w=>Region.ready C A b=[]/\Q .normal a w
 |c+1,b,a,w=>
  (Region.ready C A b=[]->Q .normal a w)/\
  ∀i∈Region.ready C A b,wpOp P A Q i (λe d=>(i≠z->S d)/\rF P C A Q S z c (b.setIfInBounds i true) e d) a w
theorem Ra:∀(fuel:Nat) (b:Array Bool) (a:Act) (w:ah),rF P C A Q S z fuel b a w->wpAny P C A Q fuel b a w
 |0,_,_,_,h=>h
 |fuel+1,_,_,_,h=>⟨h.1,λi c=>wpOp_mono (λd e f=>Ra fuel _ d e f.2) (h.2 i c)⟩
def Nf (C:Region.Mode)(A:Array Oper)(z i:Nat):Bool:=match A[z]? with
 |some o=>o.after.any λe=>Region.binds C e && e.on==i
 |none=>false
theorem UW {i:Nat}{a:Array Bool}(h:Nf C A z i=true)(hi:a.getD i true=false):z ∉ Region.ready C A a:=λc=>by
 obtain⟨-,o,d,b⟩:=mem_ready.1 c;unfold Nf at h;grind
theorem a7x {i:Nat}{q:Oper}{v:au}(hi:A[i]? =some q)(l:∀(j:Nat) (o:Oper) cs b,A[j]? =some o->o.op≠.select cs b)(K:Nf C A z i=true)
  (L:∀c a w,Q (.panic c) (a.put q.dst v) w->Q (.panic c) a w):
  ∀(fuel:Nat) (d:Array Bool) (a:Act) (w:ah),
   (∀j m,A[j]? =some m->j≠i->d.getD j true=false->(∀e∈m.after,Region.binds C e=true->e.on≠i)->q.apart A m=true)->
   i∈Region.ready C A d->YieldsIf P A S q v a->S w->
   rF P C A Q S z fuel (d.setIfInBounds i true) (a.put q.dst v) w->rF P C A Q S z (fuel+1) d a w:=by
 intro fuel
 induction fuel with
 |zero=>
  intro d a w _ n x hS H;refine⟨λh=>(by rw[h] at n;cases n),λj r=>?_⟩;by_cases f:j=i
  .subst f;exact x.wpOp hi hS ⟨λ_=>hS,H⟩
  .have:=ready_mono r f;rw[H.1] at this;cases this
 |succ fuel M=>
  intro d a w g n x hS H;refine⟨λh=>(by rw[h] at n;cases n),λj r=>?_⟩;by_cases f:j=i
  .subst f;exact x.wpOp hi hS ⟨λ_=>hS,H⟩
  .have B:=(mem_ready.1 n).1;have D:j≠z:=λe=>UW K B (e▸r);have N:=H.2 j (ready_mono r f);obtain⟨s,m,p,J⟩:=mem_ready.1 r;have t:∀e∈m.after,Region.binds C e=true->e.on≠i:=λe X Y O=>by grind
   have R:=wpOp_putIf p (g j m p f s t) (λcs b=>l i q cs b hi) (λcs b=>l j m cs b p) L x N;refine wpOp_mono (λT U y=>⟨y.2.1,M (d.setIfInBounds j true) T U (λk V W E u F=>g k V W E ?_ F) (ready_mono n (Ne.symm f)) y.1 (y.2.1 D) ?_⟩) R
   .by_cases I:j=k
    .grind
    .rw[getD_set_ne true I] at u;exact u
   .rw[Array.setIfInBounds_comm _ _ f];exact y.2.2
theorem dH (i:Nat){d:Oper}{v:au}{fuel:Nat}{b:Array Bool}{a:Act}{w:ah}(hi:A[i]? =some d)
  (hs:Region.noSelect A=true) (e:Nf C A z i=true) (f:Region.free C A b i=true) (g:(Region.ready C A b).contains i=true)
  (j:∀c a w,Q (.panic c) (a.put d.dst v) w->Q (.panic c) a w) (hS:S w) (k:YieldsIf P A S d v a)
  (h:rF P C A Q S z fuel (b.setIfInBounds i true) (a.put d.dst v) w):rF P C A Q S z (fuel+1) b a w:=
 a7x hi (Region.noSelect_spec hs) e j fuel b a w (Region.free_spec hi f) (by simpa using g) k hS h
theorem nG (i:Nat){o:Oper}{fuel:Nat}{b:Array Bool}{a:Act}{w:ah}(e:Region.ready C A b=[i])(g:A[i]? =some o)
  (h:∀c:Act->ah->Prop,Shut (∀a w,(i≠z->S w)->rF P C A Q S z fuel (b.setIfInBounds i true) a w->c a w)->if Region.wanted o (yielded A a.tmps)=true then Oper.wp P o a w c Q else c (a.put o.dst undef) w):rF P C A Q S z (fuel+1) b a w:=by
 refine⟨λf=>(by rw[e] at f;cases f),λj k=>?_⟩;rw[e] at k;have d:j=i:=by grind
 subst d;exact wpOp_step g (λc l=>h c (λa w hS m=>l a w ⟨hS,m⟩))
theorem UX {b:Array Bool}{a:Act}{w:ah}(c:Region.ready C A b=[])(h:Q .normal a w):∀fuel,rF P C A Q S z fuel b a w
 |0=>⟨c,h⟩
 |_+1=>⟨λ_=>h,by rw[c];simp⟩
theorem Ib {id:Nat}{a:Act}{w:ah}(S:ah->Prop)(z:Nat)(b:P.follows .mixedOrders=true)
  (h:rF P .any A Q S z A.size (Array.replicate A.size false) a w.drew):(Code.region id A true).wp P Q a w:=
 wp_region_any b (Ra _ _ _ _ h)
end
end
section
open Go.RowKit Go.Shelf
set_option maxRecDepth 20000
def lI (E:Nat->Addr)(a g DB:Nat)(h:au)(v:au)(V:ah)(x:Except Ft (Nat×List Pc))(e:Ending)(w':ah):Prop:=match x with
 | .error f=>∃u,e=ax u/\FtV E f V.heap.size u w'
 | .ok st=>e=ax aU/\∃d c,d.map fq.pc=st.2/\Sc a g DB h st.1 d c w'/\(c.ownBlock=v.ownBlock\/∀b,c.ownBlock=some b->V.heap.size<=b)
def ze (n:Int)(m:Mv)(x:Except Nat (List Qt))(a d b:Bs)(st:Nat×List Pc):Except Ft (Nat×List Pc):=match x with
 | .error c=>.error ⟨vW c,n⟩
 | .ok q=>match goM m q with
  |none=>.error ⟨2,n⟩
  |some e=>if a=yh then .ok st else .ok (st.1,st.2++[⟨n,e,a,d,J5 b⟩])
theorem Su.below {E:Nat->Addr}{c:Nat}{v:au}{w w':ah}(h:Su E c v w)(d:aD w w'):Su E c v w':=by
 obtain⟨e,f,a⟩:=h;refine⟨e,f,?_⟩;rcases a with a|⟨g,i,a,b⟩
 .exact .inl a
 .exact .inr ⟨g,i,a,(d.cell (aR b)).trans b⟩
theorem qI.below {E:Nat->Addr}{x:Except Nat (List Qt)}{e:Ending}{w w':ah}(h:qI E x e w)(d:aD w w'):qI E x e w':=by
 cases x with
 |error k=>
  obtain⟨v,a,b⟩:=h;exact⟨v,a,b.below d⟩
 |ok l=>
  obtain⟨f,a,o,c,b,g⟩:=h;exact⟨f,a,o,c,b,g.below d ay⟩
def abF (E:Nat->Addr)(x:Except Nat (List Qt))(V:ah)(b g:au)(a:ah):Prop:=∃c d e f,b=aI c/\V.heap.size<=c/\a.heap[c]? =some (ai #[aj d e f] 113)/\qI E x (ax (aF #[.agg #[aj d e f],g])) a/\aD V a
theorem a3j {E:Nat->Addr}{x:Except Nat (List Qt)}{V a:ah}{c:Option Addr}{d e:Nat}{f:au}(h:qI E x (ax (aF #[.agg #[aj c d e],f])) a)(b:aD V a):abF E x V (aI a.heap.size) f (a.alloc (ai #[aj c d e] 113)):=
 ⟨_,c,d,e,rfl,b.size,dN a _ _,qI.below h (dI a _),aW b (dI a _)⟩
theorem a3k {E:Nat->Addr}{x:Except Nat (List Qt)}{V a:ah}{c:Option Addr}{d e:Nat}{f:au}(h:qI E x (ax (aF #[.agg #[aj c d e],f])) a)(b:Below (V.alloc (ai #[aj none 0 0] 113)).heap.size (V.alloc (ai #[aj none 0 0] 113)) a):abF E x V (aI V.heap.size) f (a.setCell ⟨V.heap.size,0,none⟩ (aj c d e)):=by
 have K:=dN V #[aj none 0 0] 113;have g:=(b.block _ (dz K)).trans K;refine⟨_,c,d,e,rfl,Nat.le_refl _,?_,h.far g,(aW (dI V _) b).setCell ay _⟩;have:=heap_setCell_same a V.heap.size 0 _ _ (aj c d e) g;grind
theorem FtV.low {E:Nat->Addr}{f:Ft}{b a:Nat}{v:au}{w:ah}(h:FtV E f b v w)(c:a<=b):FtV E f a v w:=by
 obtain⟨d,e,g,i⟩:=h;exact⟨d,bu c e,g,i⟩
def agf (E:Nat->Addr)(m:Mv)(l:List Qt)(e:Nat)(V:ah)(f:au)(a:ah):Prop:=∃b c d,a.heap[e]? =some (ai #[aj b c d] 113)/\Za E m l V.heap.size (ax (aF #[.agg #[aj b c d],f])) a/\aD V a
theorem Za.is {E:Nat->Addr}{m:Mv}{l:List Qt}{b:Nat}{e:Ending}{w:ah}(h:Za E m l b e w):∃o n c v,e=ax (aF #[.agg #[aj o n c],v]):=by
 unfold Za at h;cases a:goM m l with
 |none=>rw[a] at h;obtain⟨v,d, -⟩:=h;exact⟨_,_,_,_,d⟩
 |some i=>
  rw[a] at h;obtain⟨v,d,f⟩:=h;obtain⟨o,g,rfl⟩:=bg f;grind
theorem a3l {E:Nat->Addr}{m:Mv}{l:List Qt}{a:Nat}{V wc w2:ah}{x:au}{c:Option Addr}{d e:Nat}{j:au}(h:Za E m l wc.heap.size (ax (aF #[.agg #[aj c d e],j])) w2)(k:wc.heap[a]? =some (ai #[x] 113))(n:aD V wc)(f:V.heap.size<=a)(o:aD wc w2):agf E m l a V j (w2.setCell ⟨a,0,none⟩ (aj c d e)):=by
 have b:=dz k;have K2:=(o.block _ b).trans k;refine⟨c,d,e,?_,?_,(aW n o).setCell f _⟩
 .have:=heap_setCell_same w2 a 0 _ _ (aj c d e) K2;grind
 .unfold Za at h⊢;cases p:goM m l with
  |none=>
   rw[p] at h;obtain⟨v,g,i⟩:=h;exact⟨v,g,i.far⟩
  |some q=>
   rw[p] at h;obtain⟨v,g,i⟩:=h;exact⟨v,g,(kF.far i b).low n.size⟩
theorem UY (a:List fq)(x:fq):cellsS (a++[x])=cellsS a++[ag x.nd,He x,bV x.fill,bV x.rule,ag x.lv]:=by rw[Hf];rfl
theorem a7y {m:Mv}{l c:List Qt}(e:m.ok)(f:oU l)(h:goM m l=some c):∀a∈c,iJ a=0:=by
 unfold goM at h;split at h
 .next g=>
  cases h;intro a i;obtain⟨b,d,rfl⟩:=gu.1 i;exact GZ e (f.2 b d) (BV (List.all_eq_true.1 g b d))
 .cases h
theorem a7z:(prog.info? 115).map (λi=>(i.zero,i.size,i.bytes))=some (some (.agg #[ag 0,aj none 0 0,ak ⟨#[]⟩,ak ⟨#[]⟩,ag 0]),5,72):=az
def S9 (b a PB c:Nat)(n:Int)(d pv v:au)(w:ah):Prop:=w.cell? (aH b 0)=some (aI a)/\w.cell? (aH a 1)=some d/\w.cell? (aH PB 0)=some (ag n)/\w.cell? (aH c 0)=some pv/\w.cell? (aH a 3)=some v
theorem Sc.app {d i DB:Nat}{w:au}{k:Nat}{l:List fq}{v:au}{V t w7:ah}{x:fq}{g c:Nat}(h:Sc d i DB w k l v V)(n:aD V t)(P:kF t d (He x) x.pts)(H:∀a∈x.pts,iJ a=0)
  (I:w7.ownsRow d 115 5 (aj (some ⟨g,0,none⟩) (l.length+1) c) (l.length+1) (cellsS l++[ag x.nd,He x,bV x.fill,bV x.rule,ag x.lv])) (q:t.grownBy w7 v.ownBlock) (u:v.ownBlock=some g\/g=t.heap.size):
  Sc d i DB w k (l++[x]) (aj (some ⟨g,0,none⟩) (l.length+1) c) (w7.setCell ⟨i,3,none⟩ (aj (some ⟨g,0,none⟩) (l.length+1) c))/\Kw i v V (w7.setCell ⟨i,3,none⟩ (aj (some ⟨g,0,none⟩) (l.length+1) c))/\((Value.slice (some ⟨g,0,none⟩) (l.length+1) c).ownBlock=v.ownBlock\/∀b,(Value.slice (some ⟨g,0,none⟩) (l.length+1) c).ownBlock=some b->V.heap.size<=b):=by
 have r:=dz h.wb;have z:v.ownBlock≠some i:=λe=>by
  obtain⟨J,f,m, -⟩:=fM h.own i e;rw[h.wb] at m;cases m
 have K:g≠i:=λe=>by
  rcases u with m|m
  .grind
  .have:=n.size;omega
 have A:w7.heap[i]? =some (ai #[aI DB,w,ag k,v] 159):=by
  rw[q.block i (dP r n.size) (λe=>z e.symm),n.block i r];exact h.wb
 have s:∀b,b≠i->(w7.setCell ⟨i,3,none⟩ (aj (some ⟨g,0,none⟩) (l.length+1) c)).heap[b]? =w7.heap[b]? :=λb B=>bY _ _ _ b B;have C:∀y:fq,kF t d (He y) y.pts->kF (w7.setCell ⟨i,3,none⟩ (aj (some ⟨g,0,none⟩) (l.length+1) c)) d (He y) y.pts:=λy o=>by
  refine di o λj D=>?_;obtain⟨J,f,m, -⟩:=fM o j D;have p:=dz m;have L:j≠i:=λe=>by
   subst e;rw[n.block j r,h.wb] at m;cases m
  have M:some j≠v.ownBlock:=λe=>by
   obtain⟨N,Q,R, -⟩:=fM (bD h.own n) j e.symm;grind
  rw[s j L];exact q.block j p M
 have E:(w7.setCell ⟨i,3,none⟩ (aj (some ⟨g,0,none⟩) (l.length+1) c)).heap.size=w7.heap.size:=mO _ _ _;refine⟨⟨?_,?_,?_,?_⟩,⟨?_,?_,?_,?_,?_⟩,?_⟩
 .have:=heap_setCell_same w7 i 3 _ _ (aj (some ⟨g,0,none⟩) (l.length+1) c) A;grind
 .rw[UY,dJ];exact di I λj D=>s j (λe=>K (by cases D;exact e))
 .intro y o;rcases gT.1 o with o|o
  .exact C y ((h.pts y o).keep n)
  .grind
 .intro y o;rcases gT.1 o with o|o
  .exact h.rt y o
  .grind
 .exact q.os.trans n.os
 .exact q.tape.trans n.tape
 .exact q.output.trans n.output
 .rw[E];exact bu n.size q.size
 .intro b p m O;rw[s b m,q.block b (dP p n.size) (λe=>O e.symm),n.block b p]
 .rcases u with m|m
  .exact .inl m.symm
  .exact .inr λb F=>by cases F;rw[m];exact n.size
section
variable {E:Nat->Addr}{D A DB:Nat}{k:Nat}{C:List fq}{v:au}{V:ah}
theorem Ng (hN:NE E V)(Bd Bl:Nat)(hS:Sc D A DB (xK Bd Bl) k C v V)(PB Br Bw fr:Nat)(h6:∀(av:Array au) (w:ah),Sem.run prog (callFunc fr av) w=.ok (.enter fr av) w)(n:Int)(q:au)(m:Mv)(hm:m.ok)(hp:V.heap[PB]? =some (ai (plA n q m) 168))
  (hr:V.cell? (aH Br 0)=some (.func (.func fr) #[aI A] #[])) (b7:V.heap[Bw]? =some (ai #[aI A] 156)) (x:Except Nat (List Qt)) (g j d:Bs) (e6:d.length<=1000000) (c3:D<=V.heap.size) (h7:C.length<=1000)
  (RD:∀U,aD V U->aJ fr #[aI A,ag n] U λe w'=>qI E x e w'/\aD U w')
  (SF:∀U,aD V U->aJ 76 #[ag n,bV vD,aI Bd,aI Bl] U λe w'=>e=ax (bV g)/\aD U w')
  (SR:∀U,aD V U->aJ 76 #[ag n,bV xR,aI Bd,aI Bl] U λe w'=>e=ax (bV j)/\aD U w')
  (SL:∀U,aD V U->aJ 76 #[ag n,bV tK,aI Bd,aI Bl] U λe w'=>e=ax (bV d)/\aD U w'):
  aJ 255 #[aI PB,aI Br,aI Bw] V λe w'=>lI E D A DB (xK Bd Bl) v V (ze n m x g j d (k,C.map fq.pc)) e w'/\Kw A v V w':=by
 have i:=aO b7 0 _ rfl;have HN:=aA hN;have HS:=aA hS;have HM:Hid m.ok:=hm;have p0:=aO hp 0 _ rfl;have R1:=RD V.drew (below_drewN (aQ _ _) 1);obtain⟨a4,sG⟩:∃a,ze n m x g j d (k,C.map fq.pc)=a:=⟨_,rfl⟩;rw[sG];have HA:=aA sG;clear sG hN hS hm;go_enter func255,ntmps255;go_upto_region 1 with fail
 go_cut [5,6] from 8 to 87 (λb O wx=>abF E x V b O wx)
 case first=>
  have R2:=RD (V.alloc (ai #[aj none 0 0] 113)).drew (below_drewN (dI V _) 1);have KK:∀w1,Below (V.alloc (ai #[aj none 0 0] 113)).drew.heap.size (V.alloc (ai #[aj none 0 0] 113)).drew w1->w1.cell? ⟨V.heap.size,0,none⟩=some (aj none 0 0)/\w1.frozen? ⟨V.heap.size,0,none⟩=false:=λw1 Q=>by
   have K:=dN V #[aj none 0 0] 113;have K1:=(Q.block V.heap.size (dz K)).trans K;exact⟨aO K1 0 _ rfl,gm K1 0⟩
  have Q1:aJ fr #[aI A,ag n] V.drew λe w'=>∃T rn W O,e=ax (aF #[.agg #[aj T rn W],O])/\qI E x (ax (aF #[.agg #[aj T rn W],O])) w'/\Below V.drew.heap.size V.drew w':=R1.mono λe w' ⟨M,Q⟩=>by
   obtain⟨T,rn,W,O,rfl⟩:=M.is;exact⟨T,rn,W,O,rfl,M,Q⟩
  have Q2:aJ fr #[aI A,ag n] (V.alloc (ai #[aj none 0 0] 113)).drew λe w'=>∃T rn W O,e=ax (aF #[.agg #[aj T rn W],O])/\qI E x (ax (aF #[.agg #[aj T rn W],O])) w'/\Below (V.alloc (ai #[aj none 0 0] 113)).drew.heap.size (V.alloc (ai #[aj none 0 0] 113)).drew w':=R2.mono λe w' ⟨M,Q⟩=>by
   obtain⟨T,rn,W,O,rfl⟩:=M.is;exact⟨T,rn,W,O,rfl,M,Q⟩
  have ba:=dI V (ai #[aj none 0 0] 113);have h8:=(ba.cell (aR p0)).trans p0;have i1:=(ba.cell (aR hr)).trans hr;clear R1 R2 RD SF SR SL hp ba i
  go_region_with (first|(refine Q1.mono ?_;rintro e w1 ⟨T,rn,W,O,rfl,M,Q⟩)|(refine Q2.mono ?_;rintro e w1 ⟨T,rn,W,O,rfl,M,Q⟩;obtain⟨u0,uf⟩:=KK w1 Q))
  all_goals go_wp2_with fail
  all_goals go_meet
  all_goals first|(have hu:=u0;exact a3k M ((below_drewN (aQ _ _) 1).trans Q))|exact a3j M ((below_drewN (aQ _ _) 1).trans Q)
 case rest=>
  obtain⟨BS,T,rn,W,rfl,e7,KB,M,Q⟩:=hcut;have p:=(Q.block _ (dz hp)).trans hp;have e8:=aO p 0 _ rfl;have NW:=HN.out.below Q;have HX:=aA M;clear M;cases x with
  |error cd=>
   obtain⟨ev,S,a5⟩:=HX.out;have YF:u6=ev:=by simp at S;exact S.2
   subst YF;have FO:=wD NW a5 n;have i2:u6≠aU:=by
    rintro rfl;obtain⟨-, -,h|⟨pb,po,h, -⟩⟩:=a5<;>cases h
   have e9:∀f:Except Ft (Nat×List Pc),a4=f->ze n m (.error cd) g j d (k,C.map fq.pc)=f:=λf X=>by rw[<- X];exact HA.out
   have ha:a4=.error ⟨vW cd,n⟩:=HA.out.symm;subst ha;obtain⟨-, -,a7⟩:=a5;clear e9 S HX;rcases a7 with rfl|⟨pb,po,rfl, -⟩
   .go_wp2_with(go_at_call 132;refine FO.mono ?_;rintro e w2 ⟨u,rfl,X,J⟩);go_ret;exact⟨⟨u,rfl,FtV.low X Q.size⟩,Kw.of_below (aW Q J)⟩
   .go_wp2_with(go_at_call 132;refine FO.mono ?_;rintro e w2 ⟨u,rfl,X,J⟩);go_ret;exact⟨⟨u,rfl,FtV.low X Q.size⟩,Kw.of_below (aW Q J)⟩
  |ok l=>
   obtain⟨d4,c4,o1,gY,S,d6⟩:=HX.out;obtain⟨⟨rfl,rfl,rfl⟩,rfl⟩:(T=o1/\rn=l.length/\W=gY)/\u6=aU:=by simp at S;exact⟨⟨S.1.1,S.1.2.1,S.1.2.2⟩,S.2⟩
   have bd:=below_drewN (aQ wc.heap.size wc) 1;have MV:=Zb m HM.out l T W wc.drew ((Aj l).1 c4) (d6.below bd ay) (NW.below bd);have s0:=aO KB 0 _ rfl;clear S HX;have HL:=aA c4;have i3:=aA d4;clear c4 d4 d6;have q2:=aO p 2 _ rfl;have q3:=aO p 3 _ rfl;have q4:=aO p 4 _ rfl;have q5:=aO p 5 _ rfl;have q6:=aO p 6 _ rfl;have q7:=aO p 7 _ rfl;have q8:=aO p 8 _ rfl;have q9:=aO p 9 _ rfl;have f0:=aO p 10 _ rfl;have f1:=aO p 11 _ rfl;have f3:=aO p 12 _ rfl;have f4:=aO p 13 _ rfl;go_upto_region 4 with fail
   go_cut [6] from 8 to 87 (λO wx=>agf E m l BS V O wx)
   case first=>
    have MQ:aJ 256 #[.agg #[aj T l.length W],mv m] wc.drew λe w'=>∃o n c O,e=ax (aF #[.agg #[aj o n c],O])/\Za E m l wc.heap.size (ax (aF #[.agg #[aj o n c],O])) w'/\aD wc w'/\w'.cell? (aH BS 0)=some (aj T l.length W)/\w'.frozen? ⟨BS,0,none⟩=false:=MV.mono λe w' ⟨M,J⟩=>by
     obtain⟨o,n,c,O,rfl⟩:=M.is;have bb:aD wc w':=⟨J.os,J.tape,J.output,J.size,J.block⟩;have K2:=(bb.block _ (dz KB)).trans KB;exact⟨o,n,c,O,rfl,M,bb,aO K2 0 _ rfl,gm K2 0⟩
    clear MV RD SF SR SL p hp
    go_region_with (go_at_call 256;refine MQ.mono ?_;rintro e w2 ⟨o2,n2,c2,i4,rfl,h2,J,k2,f2⟩)
    all_goals go_wp2_with fail
    all_goals go_meet
    all_goals exact a3l h2 KB Q e7 J
   case rest=>
    obtain⟨H,d7,I,b9,h2,J⟩:=hcut;have d8:=(J.block _ (dz hp)).trans hp;have c5:=aO d8 0 _ rfl;have d9:=HN.out.below J;unfold Za at h2;cases hg:goM m l with
    |none=>
     rw[hg] at h2;obtain⟨ev,S,a5⟩:=h2;have YF:u6=ev:=by simp at S;exact S.2
     subst YF;have FO:=wD d9 a5 n;have ha:a4=.error ⟨2,n⟩:=by
      have:=HA.out;unfold ze at this;simp only[hg] at this;exact this.symm
     subst ha;obtain⟨-, -,a7⟩:=a5;rcases a7 with rfl|⟨pb,po,rfl, -⟩ -- i5
     .go_wp2_with(go_at_call 132;refine FO.mono ?_;rintro e w2 ⟨u,rfl,X,N⟩);go_ret;exact⟨⟨u,rfl,FtV.low X J.size⟩,Kw.of_below (aW J N)⟩
     .go_wp2_with(go_at_call 132;refine FO.mono ?_;rintro e w2 ⟨u,rfl,X,N⟩);go_ret;exact⟨⟨u,rfl,FtV.low X J.size⟩,Kw.of_below (aW J N)⟩
    |some r=>
     rw[hg] at h2;obtain⟨v2,S,Y⟩:=h2;obtain⟨a7,rfl⟩:v2=aj H d7 I/\u6=aU:=by simp at S;exact⟨S.1.symm,S.2⟩
     subst a7;obtain⟨o9,c9,h9⟩:=bg Y;obtain⟨rfl,rfl,rfl⟩:H=o9/\d7=r.length/\I=c9:=by simp at h9;exact h9
     have e0:=aA Y;have sG:Hid (ze n m (.ok l) g j d (k,C.map fq.pc)=if g=yh then .ok (k,C.map fq.pc) else .ok (k,C.map fq.pc++[⟨n,r,g,j,J5 d⟩])):=by
      show _=_;unfold ze;simp only[hg]
     have c0:Hid (a4=if g=yh then .ok (k,C.map fq.pc) else .ok (k,C.map fq.pc++[⟨n,r,g,j,J5 d⟩])):=HA.out.symm.trans sG.out;have HR:Hid (∀a∈r,iJ a=0):=a7y HM.out ((Aj l).1 HL.out) hg;have c6:=(J.cell (aR i)).trans i;have c7:=(J.block _ (dz HS.out.wb)).trans HS.out.wb;have c8:=aO c7 1 _ rfl;have d0:=aO c7 3 _ rfl;have d1:=aO b9 0 _ rfl;have SFd:=SF wc.drew (J.trans (below_drewN (aQ _ _) 1));clear sG HA h9 S RD q2 q3 q4 q5 q6 q7 q8 q9 f0 f1 f3 f4 MV;go_upto_region 7 with fail
     go_region_held3 (λw'=>w'.cell? (aH Bw 0)=some (aI A)/\w'.cell? (aH A 1)=some (xK Bd Bl)/\w'.cell? (aH PB 0)=some (ag n)) (go_keep) (first|(go_at_call 76;refine SFd.mono ?_;rintro e R ⟨rfl,N⟩;have x1:=(N.cell (aR (w:=wc.drew) c6)).trans c6;have x2:=(N.cell (aR (w:=wc.drew) c8)).trans c8;have x3:=(N.cell (aR (w:=wc.drew) c5)).trans c5))
     have rE:aD V R:=aW J ⟨N.os,N.tape,N.output,N.size,N.block⟩;have hq:=iL g yh;by_cases X:g=yh
     .have a8:(g==yh)=true:=by simp[X]
      rw[a8] at hq;unfold yh at hq a8;have ha:a4=.ok (k,C.map fq.pc):=by rw[c0.out,if_pos X]
      subst ha;clear c0 X;go_wp2_with fail;go_ret;exact⟨⟨rfl,C,v,rfl,HS.out.below rE,.inl rfl⟩,Kw.of_below rE⟩
     .have a8:(g==yh)=false:=by simpa using X
      rw[a8] at hq;unfold yh at hq a8;have ha:a4=.ok (k,C.map fq.pc++[⟨n,r,g,j,J5 d⟩]):=by rw[c0.out,if_neg X]
      subst ha;clear c0 X SFd;have NC:=rE.size;have y4:R.cell? (aH BS 0)=some (aj H r.length I):=(N.cell (aR (w:=wc.drew) d1)).trans d1;have y5:R.cell? (aH A 3)=some v:=(N.cell (aR (w:=wc.drew) d0)).trans d0;obtain⟨ov,kv,PZ⟩:=bg HS.out.own;subst PZ;obtain⟨i0,hi,f5,f6,f7⟩:=info_parts a7z;have f8:=λU (P:aD R U)=>SR U (aW rE P);have f9:=λU (P:aD R U)=>SL U (aW rE P);have g0:=λU (P:aD R U)=>Jo (HN.out.below (aW rE P)) d e6;have a9:∀U,aD R U->U.cell? (aH Bw 0)=some (aI A)/\U.cell? (aH A 1)=some (xK Bd Bl)/\U.cell? (aH PB 0)=some (ag n)/\U.cell? (aH BS 0)=some (aj H r.length I)/\U.cell? (aH A 3)=some (aj ov C.length kv):=λU P=>⟨(P.cell (aR x1)).trans x1,(P.cell (aR x2)).trans x2,(P.cell (aR x3)).trans x3,(P.cell (aR y4)).trans y4,(P.cell (aR y5)).trans y5⟩;have i6:(Value.slice ov C.length kv).ownBlock≠some A:=λe1=>by
       obtain⟨cs,f,M, -⟩:=fM HS.out.own A e1;rw[HS.out.wb] at M;cases M
      have g6:∀U,aD R U->(U.alloc (ai #[ag n,aj H r.length I,bV g,bV j,ag (J5 d)] 115)).ownsRow D 115 5 (aj ov C.length kv) C.length (cellsS C):=λU P=>ig (bD HS.out.own (aW rE P)) _;have e2:=(rE.block _ (dz b7)).trans b7;have e3:=(rE.block _ (dz HS.out.wb)).trans HS.out.wb;have e4:=(rE.block _ (dz hp)).trans hp;have e5:R.heap[BS]? =some (ai #[aj H r.length I] 113):=(N.block _ (dz (w:=wc.drew) b9)).trans b9;have b0:∀U,aD R U->∀w7,(U.alloc (ai #[ag n,aj H r.length I,bV g,bV j,ag (J5 d)] 115)).grownBy w7 (Value.slice ov C.length kv).ownBlock->∀(b:Nat) (cs:Array au) (t:TypeId),R.heap[b]? =some (Obj.cells cs t)->t≠115->w7.heap[b]? =some (Obj.cells cs t):=λU P w7 gr b cs t hb ht=>by
       have b8:=aW P (dI U (ai #[ag n,aj H r.length I,bV g,bV j,ag (J5 d)] 115));refine(gr.block b (dP (dz hb) b8.size) (λe1=>?_)).trans ((b8.block b (dz hb)).trans hb);obtain⟨i7,f',M, -⟩:=fM (bD HS.out.own rE) b e1.symm;rw[hb] at M;cases M;exact ht rfl
      have A7:∀U,aD R U->∀w7,(U.alloc (ai #[ag n,aj H r.length I,bV g,bV j,ag (J5 d)] 115)).grownBy w7 (Value.slice ov C.length kv).ownBlock->S9 Bw A PB BS n (xK Bd Bl) (aj H r.length I) (aj ov C.length kv) w7/\w7.frozen? ⟨A,3,none⟩=false:=λU P w7 gr=>by
       have rW:=b0 U P w7 gr A _ _ e3 aC;exact⟨⟨aO (b0 U P w7 gr Bw _ _ e2 aC) 0 _ rfl,aO rW 1 _ rfl,aO (b0 U P w7 gr PB _ _ e4 aC) 0 _ rfl,aO (b0 U P w7 gr BS _ _ e5 aC) 0 _ rfl,aO rW 3 _ rfl⟩,gm rW 3⟩
      have g8:Hid (kF R V.heap.size (aj H r.length I) r):=(e0.out.keep (⟨N.os,N.tape,N.output,N.size,N.block⟩:aD wc R):kF R V.heap.size (aj H r.length I) r);have g9:=aA rE;clear b0 e2 e3 e4 e5 Y e0 b7 d9 NW Q J N rE p d8 KB b9 c7 c8 d0 d1 c5 c6 hr i hp p0 e8 SF SR SL;go_upto_region 9 with fail;refine Ib (S9 Bw A PB BS n (xK Bd Bl) (aj H r.length I) (aj ov C.length kv)) 35 az ?_;have hS:S9 Bw A PB BS n (xK Bd Bl) (aj H r.length I) (aj ov C.length kv) R.drew:=⟨x1,x2,x3,y4,y5⟩;refine dH (v:=?v0) 0 rfl az az az az (λ_ _ _ h=>h) hS (.inl ⟨rfl,λw i=>?hy0⟩) ?hr0
      case hy0=>obtain⟨s,y,z,B,F⟩:=i;go_simp;try with_reducible rfl
      simp only[Act.put,List.setIfInBounds_toArray];refine dH (v:=?v1) 1 rfl az az az az (λ_ _ _ h=>h) hS (.inl ⟨rfl,λw i=>?hy1⟩) ?hr1
      case hy1=>obtain⟨s,y,z,B,F⟩:=i;go_simp;try with_reducible rfl
      simp only[Act.put];refine dH (v:=?v2) 2 rfl az az az az (λ_ _ _ h=>h) hS (.inl ⟨rfl,λw i=>?hy2⟩) ?hr2
      case hy2=>obtain⟨s,y,z,B,F⟩:=i;go_simp;try with_reducible rfl
      simp only[Act.put];refine dH (v:=?v3) 3 rfl az az az az (λ_ _ _ h=>h) hS (.inl ⟨rfl,λw i=>?hy3⟩) ?hr3
      case hy3=>obtain⟨s,y,z,B,F⟩:=i;go_simp;try with_reducible rfl
      simp only[Act.put];refine dH (v:=?v4) 4 rfl az az az az (λ_ _ _ h=>h) hS (.inl ⟨rfl,λw i=>?hy4⟩) ?hr4
      case hy4=>obtain⟨s,y,z,B,F⟩:=i;go_simp;try with_reducible rfl
      simp only[Act.put];refine dH (v:=?v5) 5 rfl az az az az (λ_ _ _ h=>h) hS (.inl ⟨rfl,λw i=>?hy5⟩) ?hr5
      case hy5=>obtain⟨s,y,z,B,F⟩:=i;go_simp;try with_reducible rfl
      simp only[Act.put];refine dH (v:=?v6) 6 rfl az az az az (λ_ _ _ h=>h) hS (.inl ⟨rfl,λw i=>?hy6⟩) ?hr6
      case hy6=>obtain⟨s,y,z,B,F⟩:=i;go_simp;try with_reducible rfl
      simp only[Act.put];refine dH (v:=?v7) 7 rfl az az az az (λ_ _ _ h=>h) hS (.inl ⟨rfl,λw i=>?hy7⟩) ?hr7
      case hy7=>obtain⟨s,y,z,B,F⟩:=i;go_simp;try with_reducible rfl
      simp only[Act.put];refine dH (v:=?v8) 8 rfl az az az az (λ_ _ _ h=>h) hS (.inl ⟨rfl,λw i=>?hy8⟩) ?hr8
      case hy8=>obtain⟨s,y,z,B,F⟩:=i;go_simp;try with_reducible rfl
      simp only[Act.put];refine dH (v:=?v9) 9 rfl az az az az (λ_ _ _ h=>h) hS (.inl ⟨rfl,λw i=>?hy9⟩) ?hr9
      case hy9=>obtain⟨s,y,z,B,F⟩:=i;go_simp;try with_reducible rfl
      simp only[Act.put];refine dH (v:=?v10) 10 rfl az az az az (λ_ _ _ h=>h) hS (.inl ⟨rfl,λw i=>?abG⟩) ?akN
      case abG=>obtain⟨s,y,z,B,F⟩:=i;go_simp;try with_reducible rfl
      simp only[Act.put];refine dH (v:=?v11) 11 rfl az az az az (λ_ _ _ h=>h) hS (.inl ⟨rfl,λw i=>?abH⟩) ?akO
      case abH=>obtain⟨s,y,z,B,F⟩:=i;go_simp;try with_reducible rfl
      simp only[Act.put];refine dH (v:=?v12) 12 rfl az az az az (λ_ _ _ h=>h) hS (.inl ⟨rfl,λw i=>?abI⟩) ?akP
      case abI=>obtain⟨s,y,z,B,F⟩:=i;go_simp;try with_reducible rfl
      simp only[Act.put];refine dH (v:=?v13) 13 rfl az az az az (λ_ _ _ h=>h) hS (.inl ⟨rfl,λw i=>?akQ⟩) ?atf
      case akQ=>obtain⟨s,y,z,B,F⟩:=i;go_simp;try with_reducible rfl
      simp only[Act.put];refine dH (v:=?v14) 14 rfl az az az az (λ_ _ _ h=>h) hS (.inl ⟨rfl,λw i=>?abJ⟩) ?akR
      case abJ=>obtain⟨s,y,z,B,F⟩:=i;go_simp;try with_reducible rfl
      simp only[Act.put];refine dH (v:=?v15) 15 rfl az az az az (λ_ _ _ h=>h) hS (.inl ⟨rfl,λw i=>?abK⟩) ?akS
      case abK=>obtain⟨s,y,z,B,F⟩:=i;go_simp;try with_reducible rfl
      simp only[Act.put];refine dH (v:=?v16) 16 rfl az az az az (λ_ _ _ h=>h) hS (.inl ⟨rfl,λw i=>?abL⟩) ?akT
      case abL=>obtain⟨s,y,z,B,F⟩:=i;go_simp;try with_reducible rfl
      simp only[Act.put];refine dH (v:=?v17) 17 rfl az az az az (λ_ _ _ h=>h) hS (.inl ⟨rfl,λw i=>?abM⟩) ?akU
      case abM=>obtain⟨s,y,z,B,F⟩:=i;go_simp;try with_reducible rfl
      simp only[Act.put];refine dH (v:=?v18) 18 rfl az az az az (λ_ _ _ h=>h) hS (.inl ⟨rfl,λw i=>?abN⟩) ?akV
      case abN=>obtain⟨s,y,z,B,F⟩:=i;go_simp;try with_reducible rfl
      simp only[Act.put];refine dH (v:=?v20) 20 rfl az az az az (λ_ _ _ h=>h) hS (.inl ⟨rfl,λw i=>?abO⟩) ?akW
      case abO=>obtain⟨s,y,z,B,F⟩:=i;go_simp;try with_reducible rfl
      simp only[Act.put];refine dH (v:=?v21) 21 rfl az az az az (λ_ _ _ h=>h) hS (.inl ⟨rfl,λw i=>?abP⟩) ?akX
      case abP=>obtain⟨s,y,z,B,F⟩:=i;go_simp;try with_reducible rfl
      simp only[Act.put];refine dH (v:=?v22) 22 rfl az az az az (λ_ _ _ h=>h) hS (.inl ⟨rfl,λw i=>?akY⟩) ?atg
      case akY=>obtain⟨s,y,z,B,F⟩:=i;go_simp;try with_reducible rfl
      simp only[Act.put];refine dH (v:=?v23) 23 rfl az az az az (λ_ _ _ h=>h) hS (.inl ⟨rfl,λw i=>?akZ⟩) ?ath
      case akZ=>obtain⟨s,y,z,B,F⟩:=i;go_simp;try with_reducible rfl
      simp only[Act.put];refine dH (v:=?v24) 24 rfl az az az az (λ_ _ _ h=>h) hS (.inl ⟨rfl,λw i=>?hy24⟩) ?ati
      case hy24=>obtain⟨s,y,z,B,F⟩:=i;go_simp;try with_reducible rfl
      simp only[Act.put];refine dH (v:=?v25) 25 rfl az az az az (λ_ _ _ h=>h) hS (.inl ⟨rfl,λw i=>?hy25⟩) ?atj
      case hy25=>obtain⟨s,y,z,B,F⟩:=i;go_simp;try with_reducible rfl
      simp only[Act.put];refine dH (v:=?v26) 26 rfl az az az az (λ_ _ _ h=>h) hS (.inl ⟨rfl,λw i=>?al0⟩) ?atl
      case al0=>obtain⟨s,y,z,B,F⟩:=i;go_simp;try with_reducible rfl
      simp only[Act.put];refine dH (v:=?v27) 27 rfl az az az az (λ_ _ _ h=>h) hS (.inl ⟨rfl,λw i=>?hy27⟩) ?atm
      case hy27=>obtain⟨s,y,z,B,F⟩:=i;go_simp;try with_reducible rfl
      simp only[Act.put];refine nG 19 az rfl (λK L=>?_);go_simp;go_wp2_with(go_at_call 76;refine(f8 _ (below_drewN (aQ _ _) 1)).mono ?_;rintro e w4 ⟨rfl,b4⟩);have d2:aD R w4:=aW (below_drewN (aQ R.heap.size R) 1) b4;have h0:S9 Bw A PB BS n (xK Bd Bl) (aj H r.length I) (aj ov C.length kv) w4:=a9 w4 d2;refine L.out _ _ (λ_=>h0) ?_;clear L;refine nG 28 az rfl (λK L=>?_);go_simp;go_wp2_with(go_at_call 76;refine(f9 _ d2).mono ?_;rintro e w5 ⟨rfl,b5⟩);have d3:=aW d2 b5;have h3:S9 Bw A PB BS n (xK Bd Bl) (aj H r.length I) (aj ov C.length kv) w5:=a9 w5 d3;refine L.out _ _ (λ_=>h3) ?_;clear L;refine nG 29 az rfl (λK L=>?_);go_simp;go_wp2_with(go_at_call 257;refine(g0 _ d3).mono ?_;rintro e w6 ⟨rfl,b6⟩);have a6:=aW d3 b6;have Z:S9 Bw A PB BS n (xK Bd Bl) (aj H r.length I) (aj ov C.length kv) w6:=a9 w6 a6;refine L.out _ _ (λ_=>Z) ?_;clear L;refine dH (v:=?v30) 30 rfl az az az az (λ_ _ _ h=>h) Z (.inl ⟨rfl,λw i=>?al4⟩) ?atn
      case al4=>obtain⟨s,y,z,B,F⟩:=i;go_simp;try with_reducible rfl
      simp only[Act.put];refine nG 31 az rfl (λK L=>?_);go_simp;have h4:S9 Bw A PB BS n (xK Bd Bl) (aj H r.length I) (aj ov C.length kv) (w6.alloc (ai #[ag n,aj H r.length I,bV g,bV j,ag (J5 d)] 115)):=⟨dQ _ Z.1,dQ _ Z.2.1,dQ _ Z.2.2.1,dQ _ Z.2.2.2.1,dQ _ Z.2.2.2.2⟩;have Zu:=g6 w6 a6;have i8:=a6.size;have H0:=dN w6 #[ag n,aj H r.length I,bV g,bV j,ag (J5 d)] 115;refine L.out _ _ (λ_=>h4) ?_;clear L;refine nG 32 az rfl (λK L=>?_);refine step_append_lies _ rfl (.tmp 57) (.tmp 84) 84 rfl D 115 i0 (.agg #[ag 0,aj none 0 0,ak ⟨#[]⟩,ak ⟨#[]⟩,ag 0]) 5 72 underlying84 hi f5 f6 f7 rfl aC (aj ov C.length kv) C.length (cellsS C) rfl Zu ⟨w6.heap.size,0,none⟩ 1 1 [ag n,aj H r.length I,bV g,bV j,ag (J5 d)] rfl rfl (World.news_of_block H0) (λu hu=>by simp at hu;rcases hu with rfl|rfl|rfl|rfl|rfl<;>rfl) aC (by simp only[maxLen];omega) aa aX _ rfl ?_;intro g7 xJ w7 kz l9 TE i9;obtain⟨c1,t6⟩:=A7 w6 a6 w7 l9;have t5:=c1.2.2.2.2;refine L.out _ _ (λ_=>c1) ?_;clear L;simp only[Act.put];refine nG 33 az rfl (λK L=>?_);go_simp;refine L.out _ _ (λ_=>c1) ?_;clear L;refine nG 34 az rfl (λK L=>?_);go_simp;refine L.out _ _ (λ_=>c1) ?_;clear L;refine nG 35 az rfl (λK L=>?_);go_simp;refine L.out _ _ (λh=>absurd rfl h) ?_;clear L;refine UX az ?_ _;go_wp2_with fail;go_ret;have h5:=aW g9.out (aW a6 (dI w6 (ai #[ag n,aj H r.length I,bV g,bV j,ag (J5 d)] 115)));obtain⟨r1,r2,r3⟩:=Sc.app (x:=⟨n,H,I,r,g,j,J5 d⟩) HS.out h5 ((g8.out.keep (aW a6 (dI w6 _))).low c3) HR.out kz l9 TE;exact⟨⟨rfl,C++[⟨n,H,I,r,g,j,J5 d⟩],_,by rw[iG];rfl,r1,r3⟩,r2⟩
end
end
open Go.RowKit Go.Shelf
abbrev fnV (f a:Nat):au:=.func (.func f) #[aI a] #[]
abbrev shV (a b:Nat):au:=.func (.func 255) #[] #[aI a,aI b]
def ByR (a f:Nat)(W:ah)(e:Ending)(w':ah):Prop:=∃b c,e=ax (shV b c)/\w'.cell? (aH b 0)=some (fnV f a)/\w'.heap[c]? =some (ai #[aI a] 156)/\aD W w'
theorem Dw (a f:Nat)(W:ah):aJ 189 #[aI a,fnV f a] W λe w'=>ByR a f W e w':=by
 have g:=dI W (ai #[aI a] 156);have b:=dN W #[aI a] 156;have c:=dI (W.alloc (ai #[aI a] 156)) (ai #[fnV f a] 293);have d:=dN (W.alloc (ai #[aI a] 156)) #[fnV f a] 293;have K2:=(c.block _ (dz b)).trans b;rw[dK] at d;have h:Hid (ByR a f W (ax (shV (W.heap.size+1) W.heap.size)) ((W.alloc (ai #[aI a] 156)).alloc (ai #[fnV f a] 293))):=⟨_,_,rfl,aO d 0 _ rfl,K2,aW g c⟩;clear g b c d K2;go_enter func189,ntmps189;go_wp2;go_ret;exact h.out
section
variable (A:Nat)(W:ah)
theorem a7A:aJ 130 #[aI A,bV Jg] W λe w'=>ByR A 190 W e w':=by
 have a:=Dw A 190 W;unfold Jg;go_enter func130,ntmps130;go_wp2_with(go_at_call 189;refine a.mono ?_;rintro e h ⟨b,c,rfl,d,f,g⟩);go_ret;exact⟨b,c,rfl,d,f,g⟩
theorem a3m:aJ 130 #[aI A,bV yg] W λe w'=>ByR A 191 W e w':=by
 have a:=Dw A 191 W;unfold yg;go_enter func130,ntmps130;go_wp2_with(go_at_call 189;refine a.mono ?_;rintro e h ⟨b,c,rfl,d,f,g⟩);go_ret;exact⟨b,c,rfl,d,f,g⟩
theorem Zv:aJ 130 #[aI A,bV rA] W λe w'=>e=ax (fnV 192 A)/\w'=W:=by
 unfold rA;go_enter func130,ntmps130;go_wp2;go_ret;exact⟨rfl,rfl⟩
theorem a7B:aJ 130 #[aI A,bV PK] W λe w'=>e=ax (fnV 193 A)/\w'=W:=by
 unfold PK;go_enter func130,ntmps130;go_wp2;go_ret;exact⟨rfl,rfl⟩
theorem a3n (nm:Bs)(h:rC nm=false):aJ 130 #[aI A,bV nm] W λe w'=>e=ax .nilFunc/\w'=W:=by
 have a:=iL nm Jg;have b:=iL nm yg;have c:=iL nm rA;have d:=iL nm PK;have k:(nm==Jg)=false/\(nm==yg)=false/\(nm==rA)=false/\(nm==PK)=false:=by
  unfold rC at h;simp only[Bool.or_eq_false_iff] at h;exact⟨h.1.1.1,h.1.1.2,h.1.2,h.2⟩
 obtain⟨f,g,i,j⟩:=k;rw[f] at a;rw[g] at b;rw[i] at c;rw[j] at d;unfold Jg at a f;unfold yg at b g;unfold rA at c i;unfold PK at d j;clear h;go_enter func130,ntmps130;go_wp2;go_ret;exact⟨rfl,rfl⟩
end
structure En (E:Nat->Addr)(B:Nat)(tg:dm)(W0:ah)(DB MB:Nat)(p:Int->Option Nat)(M:Dm)(nx c:Nat)(r:Int->Nat)(l:List Rl)(B0:Nat)(rv:au):Prop where
 ds:j5 B tg W0 DB MB p M nx c r
 ne:NE E W0
 fit:E8 M
 sz:SzD M
 ok:∀x∈l,RlG x
 row:W0.ownsRow B0 150 3 rv l.length (fE l)
structure AJ (WB DB Bd Bl:Nat)(rv:au)(W0:ah)(k:Nat)(ps:List fq)(v:au)(V:ah):Prop where
 low:aD W0 V
 wb:W0.heap.size<=WB
 bd:V.heap[Bd]? =some (ai #[aI DB] 74)
 bl:V.heap[Bl]? =some (ai #[rv] 77)
 sc:Sc W0.heap.size WB DB (xK Bd Bl) k ps v V
section
variable {A DB Bd Bl:Nat}{D:au}{I:ah}{k R:Nat}{C O:List fq}{v N:au}{V J:ah}
theorem AJ.next (h:AJ A DB Bd Bl D I k C v V)(a:Kw A v V J)(hs:Sc I.heap.size A DB (xK Bd Bl) R O N J):AJ A DB Bd Bl D I R O N J:=
 ⟨h.low.trans (Sc.low h.sc a h.wb h.low.size),h.wb,h.sc.keep a h.bd aC aC,h.sc.keep a h.bl aC aC,hs⟩
theorem AJ.below (h:AJ A DB Bd Bl D I k C v V)(a:aD V J):AJ A DB Bd Bl D I k C v J:=h.next (Kw.of_below a) (h.sc.below a)
theorem AJ.ints (h:AJ A DB Bd Bl D I k C v V)(e:Kw A v V J){b n:Nat}{u:au}{a:List au}(c:V.ownsRow b 3 1 u n a):J.ownsRow b 3 1 u n a:=
 di c λg i=>by
  obtain⟨j,f,d, -⟩:=fM c g i;rw[d];exact h.sc.keep e d aC aC
end
theorem fold_at {β a:Type}(g:β->α->Except a β)(l:List α)(s b:β)(j:Nat)(h:(l.take j).foldlM g s=.ok b):l.foldlM g s=(l.drop j).foldlM g b:=by
 conv=>lhs;rw[<- jJ j l]
 rw[List.foldlM_append,h];rfl
theorem Zw {β a:Type}(g:β->α->Except a β)(l:List α)(s c b:β)(j:Nat)(x:α)(h:(l.take j).foldlM g s=.ok c)(d:l[j]? =some x)(e:g c x=.ok b):(l.take (j+1)).foldlM g s=.ok b:=by
 rw[dS,d,List.foldlM_append,h];show([x].foldlM g c)=_;rw[List.foldlM_cons,e];rfl
theorem a3o {β a:Type}(g:β->α->Except a β)(l:List α)(s b:β)(j:Nat)(x:α)(e:a)(h:(l.take j).foldlM g s=.ok b)(d:l[j]? =some x)(f:g b x=.error e):l.foldlM g s=.error e:=by
 obtain⟨i,c⟩:=kQ.1 d;rw[fold_at g l s b j h,vz i,List.foldlM_cons,c,f];rfl
theorem Cf (g:Nat×List Pc->α->Except Ft (Nat×List Pc))(c:∀s x a,g s x=.ok a->s.1<=a.1):∀(l:List α) (s a:Nat×List Pc),l.foldlM g s=.ok a->s.1<=a.1
 |[],s,a,h=>by cases h;exact Nat.le_refl _
 |x::l,s,a,h=>by
  rw[List.foldlM_cons] at h;cases b:g s x with
  |error e=>rw[b] at h;cases h
  |ok t=>
   rw[b] at h;exact bu (c s x t b) (Cf g c l t a h)
theorem Cg (M:Dm)(l:List Rl):∀(f:Nat) (n:Int) (path:List Int) (m:Mv) (st a:Nat×List Pc),fK M l f n path m st=.ok a->st.1<=a.1
 |0,n,path,m,st,a,h=>by
  unfold fK at h;grind
 |f+1,n,path,m,st,a,h=>by
  unfold fK at h;split at h
  .cases h
  split at h
  .cases h
  split at h
  .grind
  have b:∀(c:Mv) (x:Except Nat (List Qt)),jR M l n c x (st.1+1,st.2)=.ok a->st.1<=a.1:=λc x h=>by
   unfold jR at h;grind
  split at h
  .cases h
  .split at h
   .exact b _ _ h
   .split at h
    .exact b _ _ h
    .split at h
     .exact bu (Nat.le_succ _) (Cf _ (λs x a h=>Cg M l f x _ _ s a h) _ (st.1+1,st.2) a h)
     .split at h
      .cases h
      .exact bu (Nat.le_succ _) (Cg M l f _ _ _ (st.1+1,st.2) a h)
theorem Ic (g:Nat×List Pc->α->Except Ft (Nat×List Pc))(d:∀s x a,g s x=.ok a->s.2.length<=s.1->a.2.length<=a.1):∀(l:List α) (s a:Nat×List Pc),l.foldlM g s=.ok a->s.2.length<=s.1->a.2.length<=a.1
 |[],s,a,h,b=>by cases h;exact b
 |x::l,s,a,h,b=>by
  rw[List.foldlM_cons] at h;cases c:g s x with
  |error e=>rw[c] at h;cases h
  |ok t=>
   rw[c] at h;exact Ic g d l t a h (d s x t c b)
theorem wM (M:Dm)(l:List Rl):∀(f:Nat) (n:Int) (path:List Int) (m:Mv) (st a:Nat×List Pc),fK M l f n path m st=.ok a->st.2.length<=st.1->a.2.length<=a.1
 |0,n,path,m,st,a,h,_=>by
  unfold fK at h;grind
 |f+1,n,path,m,st,a,h,b=>by
  unfold fK at h;split at h
  .cases h
  split at h
  .cases h
  split at h
  .grind
  have c:∀(d:Mv) (x:Except Nat (List Qt)),jR M l n d x (st.1+1,st.2)=.ok a->a.2.length<=a.1:=λd x h=>by
   unfold jR at h;grind
  split at h
  .cases h
  .split at h
   .exact c _ _ h
   .split at h
    .exact c _ _ h
    .split at h
     .exact Ic _ (λs x a h=>wM M l f x _ _ s a h) _ (st.1+1,st.2) a h (Nat.le_succ_of_le b)
     .split at h
      .cases h
      .exact wM M l f _ _ _ (st.1+1,st.2) a h (Nat.le_succ_of_le b)
theorem a3p {M:Dm}{n:Int}{m a:Mv}(b:m.ok)(h:A9 M n m=.ok a):a.ok:=by
 unfold A9 at h;split at h
 .cases h
 .next d=>
  split at h
  .next c=>
   cases h;exact((Be (Qx aa) b).2 c).1
  .cases h
theorem abS (p:Rl->Bool):∀(l:List Rl),(∀x∈l,DT x)->(J3 p l).1.length<=12:=λl=>by
 have d:∀(l:List Rl) (a:Bs×Bool×Nat),(∀x∈l,DT x)->a.1.length<=12->(l.foldl (l8 p) a).1.length<=12:=λl=>by
  induction l with
  |nil=>intro a _ b;exact b
  |cons x l h=>
   intro a c b;refine h _ (λy i=>c y (by simp[i])) ?_;have e:=(c x aG).2.2.1;unfold yC at e;simp only[iW,kZ] at e;by_cases f:a.2.2<=wtM x.wh
   .cases g:p x with
    |true=>rw[EY f g];exact e.1.2
    |false=>rw[JL g];exact b
   .rw[EX f];exact b
 intro c;exact d l _ c aG
theorem abT {M:Dm}{l:List Rl}(b:SzD M)(c:∀x∈l,DT x)(nm:Bs)(n:Int):(ofM M l nm n).length<=200:=by
 have F:(firstM nm).length<=200:=by
  unfold firstM;grind
 have d:∀(f:Nat) (n:Int),(Lx M l nm f n).length<=200:=λf=>by
  induction f with
  |zero=>intro n;exact F
  |succ f g=>
   intro n;unfold Lx;split
   .exact F
   .split
    .next v a=>
     unfold xS at a;split at a
     .next h e=>cases a;exact EC b e
     .split at a
      .cases a;exact bu (abS _ l c) aa
      .cases a
    .grind
 unfold ofM;grind
section
variable {E:Nat->Addr}{B:Nat}{I:dm}{D:ah}{DB J:Nat}{p:Int->Option Nat}{M:Dm}{nx c:Nat}{r:Int->Nat}{l:List Rl}{B0:Nat}{C:au}{A Bd Bl:Nat}
theorem En.style (h:En E B I D DB J p M nx c r l B0 C){k:Nat}{b:List fq}{v:au}{V:ah}(a:AJ A DB Bd Bl C D k b v V)(n:Int)(d:dV n)(nm:Bs):
  aJ 76 #[ag n,bV nm,aI Bd,aI Bl] V λe w'=>e=ax (bV (ofM M l nm n))/\aD V w':=
 Ze (h.ds.below a.low).w h.ds.d h.fit l h.ok B0 C (bD h.row a.low) Bd Bl (aO a.bd 0 _ rfl) (aO a.bl 0 _ rfl) n d nm
def COME (E:Nat->Addr)(A DB Bd Bl:Nat)(C:au)(D:ah)(M:Dm)(l:List Rl)(f:Nat):Prop:=∀(k:Nat) (a:List fq) (v:au) (V:ah) (n b:Int) (m:Mv) (path:List (Int×Mv)) (q:Nat),101<=f+k->a.length<=k->dV n->AJ A DB Bd Bl C D k a v V->iC V (some q) ((b,m)::path)->m.ok->
 aJ 77 #[aI A,ag n,aI q] V λe c=>lI E D.heap.size A DB (xK Bd Bl) v V (fK M l f n (b::path.map Prod.fst) m (k,a.map fq.pc)) e c/\Kw A v V c
def GrL (A DB Bd Bl:Nat)(C:au)(D:ah)(V:ah)(v:au)(g:Nat×List Pc->Int->Except Ft (Nat×List Pc))(e:List Int)(s:Nat×List Pc)(j:Nat)(wr:ah):Prop:=∃a c,(e.take j).foldlM g s=.ok a/\∃d,d.map fq.pc=a.2/\AJ A DB Bd Bl C D a.1 d c wr/\Kw A v V wr/\(c.ownBlock=v.ownBlock\/∀b,c.ownBlock=some b->V.heap.size<=b)
end
set_option maxRecDepth 20000
section
variable {E:Nat->Addr}{B:Nat}{I:dm}{D:ah}{DB J:Nat}{p:Int->Option Nat}{M:Dm}{nx c:Nat}{r:Int->Nat}{l:List Rl}{B0:Nat}{C:au}{A Bd Bl:Nat}
theorem a7C (h:En E B I D DB J p M nx c r l B0 C)(n:Int):(∀x∈qG M n,dV x)/\(qG M n).length<=100:=by
 unfold qG;cases a:M n with
 |none=>exact⟨λx b=>(by cases b),bf _⟩
 |some e=>exact⟨(h.ds.w.wf n e a).2,h.ds.few a⟩
theorem Au {v c a:au}{V wr:ah}(h:c.ownBlock=v.ownBlock\/∀b,c.ownBlock=some b->V.heap.size<=b)(d:a.ownBlock=c.ownBlock\/∀b,a.ownBlock=some b->wr.heap.size<=b)(hs:V.heap.size<=wr.heap.size):a.ownBlock=v.ownBlock\/∀b,a.ownBlock=some b->V.heap.size<=b:=by grind
theorem Jy (h:En E B I D DB J p M nx c r l B0 C)(f:Nat)(hC:COME E A DB Bd Bl C D M l f)(k:Nat)(z:List fq)(v:au)(V:ah)(n:Int)(m:Mv)(path:List (Int×Mv))(q:Nat)(hf:101<=f+k)(b3:z.length<=k)(hn:dV n)(hw:AJ A DB Bd Bl C D k z v V)(hp:iC V (some q) ((n,m)::path))(hm:m.ok):
  aJ 192 #[aI A,aI q] V λe w'=>lI E D.heap.size A DB (xK Bd Bl) v V ((fK.Wn M n).foldlM (λs x=>fK M l f x (n::path.map Prod.fst) m s) (k,z.map fq.pc)) e w'/\Kw A v V w':=by
 obtain⟨F,b4⟩:=a7C h n;have a4:=hw.below (below_drewN (aQ V.heap.size V) 1);have KD:=Qb (h.ds.below a4.low).w n hn aa;have HC:=aA hC;have HW:=aA hw;have HP:=aA hp;have HM:Hid m.ok:=hm;have a5:=aA F;have w0:=aO hw.sc.wb 0 _ rfl;have q0:V.cell? (aH q 0)=some (ag n):=by
  obtain⟨b,q',i,o, -⟩:=hp;cases i;exact aO o 0 _ rfl
 obtain⟨g,hg⟩:∃g:Nat×List Pc->Int->Except Ft (Nat×List Pc),(λs x=>fK M l f x (n::path.map Prod.fst) m s)=g:=⟨_,rfl⟩;rw[hg];have HG:=aA hg;have b5:Hid (∀(L:List Int) (s a:Nat×List Pc),L.foldlM g s=.ok a->s.1<=a.1):=(λL s a h=>Cf g (λs x a hs=>Cg M l f x _ m s a (by rw[<- hg] at hs;exact hs)) L s a h:∀(L:List Int) (s a:Nat×List Pc),L.foldlM g s=.ok a->s.1<=a.1);have b6:Hid (∀(L:List Int) (a:Nat×List Pc),L.foldlM g (k,z.map fq.pc)=.ok a->a.2.length<=a.1):=(λL a h=>Ic g (λs x a hs=>wM M l f x _ m s a (by rw[<- hg] at hs;exact hs)) L (k,z.map fq.pc) a h (by simpa using b3):∀(L:List Int) (a:Nat×List Pc),L.foldlM g (k,z.map fq.pc)=.ok a->a.2.length<=a.1);show Calls _ _ _ _ λe w'=>lI E D.heap.size A DB (xK Bd Bl) v V ((qG M n).foldlM g (k,z.map fq.pc)) e w'/\Kw A v V w';generalize qG M n=H at KD a5 b4⊢;clear F hw hp hm hC hg a4;go_enter func192,ntmps192;go_upto_region 1 with fail
 go_region_held3 (λw'=>w'.cell? (aH A 0)=some (aI DB)/\w'.cell? (aH q 0)=some (ag n)) (first|exact⟨w0,q0⟩|exact⟨z1,z2⟩) (first|(go_at_call 47;refine KD.mono ?_;rintro e w1 ⟨ok,kk,rfl,R,d⟩;have z1:=(d.cell (aR (w:=V.drew) w0)).trans w0;have z2:=(d.cell (aR (w:=V.drew) q0)).trans q0))
 all_goals
  have t:aD V w1:=⟨d.os,d.tape,d.output,d.size,d.block⟩;have W1:Hid (AJ A DB Bd Bl C D k z v w1):=(HW.out.below t:AJ A DB Bd Bl C D k z v w1);have HO:=aA R;clear R d KD w0 q0;have b8:(H.length:Int)<=(kk:Int):=by
   obtain⟨o',c',i,o, -⟩:=eT HO.out;cases i;omega
  clear z1 z2;go_wp2_with fail
  go_loopw [18] (λy wr=>∃j:Nat,j<=H.length/\y=ag j/\GrL A DB Bd Bl C D w1 v g H (k,z.map fq.pc) j wr) (λy _=>H.length-(intOf y).toNat)
  case atStart=>exact⟨0,bf _,rfl,(k,z.map fq.pc),v,rfl,z,rfl,W1.out,Kw.refl _ _ _,.inl rfl⟩
  case round=>
   obtain⟨j,hj,rfl,st,v',a6,qs,a7,a8,F,S⟩:=hrel;have K:=aA a6;have U:=aA a7;have W:=aA a8;have X:=aA F;have HL:=aA S;clear a6 a7 a8 F S;by_cases Y:j<H.length
   .have b9:(j:Int)<(H.length:Int):=aa;obtain⟨x,hx, -⟩:=drop_at Y;have HX:=aA hx;have a9:=W1.out.ints X.out HO.out;obtain⟨gb,c0⟩:∃gb,ok=some ⟨gb,0,none⟩/\wr.cell? (aH gb j)=some (ag x):=by
     rcases ints_at a9 with⟨i, -⟩|⟨gb,c1,i, -,O⟩
     .rw[i] at Y;simp at Y
     .cases i;exact⟨gb,rfl,O j x hx⟩
    obtain⟨rfl,c0⟩:=c0;clear a9;have T:=b5.out _ _ _ K.out;have b7:qs.length<=st.1:=by
     have:=b6.out _ _ K.out;rw[<- U.out,dF] at this;exact this
    have b0:iC wr (some q) ((n,m)::path):=W1.out.sc.path X.out (HW.out.sc.path (Kw.of_below t) HP.out);have CM:=HC.out st.1 qs v' wr x n m path q (by simp only at T;omega) b7 (a5.out x (gN hx)) W.out b0 HM.out;have b1:(st.1,qs.map fq.pc)=st:=by rw[U.out]
    rw[b1] at CM;obtain⟨P,N⟩:∃P,fK M l f x (n::path.map Prod.fst) m st=P:=⟨_,rfl⟩;rw[N] at CM;have b2:Hid (g st x=P):=by
     have o:g st x=fK M l f x (n::path.map Prod.fst) m st:=by rw[<- HG.out]
     exact o.trans N
    clear N b1 b0 T hx;cases P with
    |error ft=>
     have Z:aJ 77 #[aI A,ag x,aI q] wr λe w'=>∃pb,e=ax (aP 67 (aI pb))/\Hid (FtV E ft wr.heap.size (aP 67 (aI pb)) w'/\Kw A v' wr w'):=CM.mono λe w' ⟨⟨u,i,o⟩,O⟩=>by
      obtain⟨pb,h4,rfl,h5⟩:=o;exact⟨pb,i,⟨pb,h4,rfl,h5⟩,O⟩
     clear CM;go_wp2_with(go_at_call 77;refine Z.mono ?_;rintro e w2 ⟨pb,rfl,o⟩);go_ret;obtain⟨o,O⟩:=o.out;have h4:=a3o g H _ _ j x ft K.out HX.out b2.out;rw[h4];have c2:=t.size;have c3:=X.out.size;exact⟨⟨_,rfl,o.low aa⟩,(Kw.of_below t).trans (.inl rfl) (X.out.trans HL.out O)⟩
    |ok s2=>
     have Z:aJ 77 #[aI A,ag x,aI q] wr λe w'=>e=ax aU/\Hid ((∃Q v2,Q.map fq.pc=s2.2/\Sc D.heap.size A DB (xK Bd Bl) s2.1 Q v2 w'/\(v2.ownBlock=v'.ownBlock\/∀b,v2.ownBlock=some b->wr.heap.size<=b))/\Kw A v' wr w'):=CM.mono λe w' ⟨⟨i,o⟩,O⟩=>⟨i,o,O⟩;clear CM;go_wp2_with(go_at_call 77;refine Z.mono ?_;rintro e w2 ⟨rfl,o⟩)
     go_roundw
     case rel=>
      obtain⟨⟨Q,v2,O,h4,h5⟩,h6⟩:=o.out;exact⟨j+1,aa,by go_num,s2,v2,Zw g H _ _ _ j x K.out HX.out b2.out,Q,O,W.out.next h6 h4,X.out.trans HL.out h6,Au HL.out h5 X.out.size⟩
     case measure=>simp[intOf];omega
   .obtain rfl:j=H.length:=aa;have c4:¬(H.length:Int)<(H.length:Int):=aa;go_wp2_with fail;go_ret;have i:=K.out;rw[gq] at i;rw[i];exact⟨⟨rfl,qs,v',U.out,W.out.sc,Au (.inl rfl) HL.out t.size⟩,(Kw.of_below t).trans (.inl rfl) X.out⟩
theorem Rb (h:En E B I D DB J p M nx c r l B0 C)(f:Nat)(L:COME E A DB Bd Bl C D M l f)(k:Nat)(g:List fq)(v:au)(V:ah)(n:Int)(m:Mv)(path:List (Int×Mv))(q:Nat)(N:101<=f+k)(O:g.length<=k)(Y:dV n)(i:AJ A DB Bd Bl C D k g v V)(hp:iC V (some q) ((n,m)::path))(P:m.ok):
  aJ 193 #[aI A,aI q] V λe w'=>lI E D.heap.size A DB (xK Bd Bl) v V (match Mi M n with|none=>.error ⟨10,n⟩|some x=>fK M l f x (n::path.map Prod.fst) m (k,g.map fq.pc)) e w'/\Kw A v V w':=by
 have F:=Zd (h.ds.below i.low) A (aO i.sc.wb 0 _ rfl) n Y;have W:V.cell? (aH q 0)=some (ag n):=by
  obtain⟨b,q',s,Q, -⟩:=hp;cases s;exact aO Q 0 _ rfl
 have j:∀x,Mi M n=some x->dV x:=λx H=>by
  unfold Mi at H;split at H
  .cases H
  .exact a2Q h.ds x (List.mem_of_find?_eq_some H)
 have o:=(h.ne.below i.low).c10;cases t:Mi M n with
 |none=>
  rw[t] at F;have R:∀K,aD V K->K.cell? (aH 9 0)=some (eV (E 10))/\K.cell? (aH q 0)=some (ag n):=λK w=>⟨(w.cell (aR o)).trans o,(w.cell (aR W)).trans W⟩;clear L N i hp P h j t;go_enter func193,ntmps193;go_upto_region 3 with(go_at_call 261;refine F.mono ?_;rintro e d ⟨S,a⟩;obtain rfl:e=ax (aF #[ag 0,.bool false]):=S;obtain⟨k1,k2⟩:=R d a);go_region
  all_goals
   go_wp2;go_ret;exact⟨⟨_,rfl,d.heap.size,a.size,rfl,dN _ _ _⟩,Kw.of_below (aW (a.trans (below_drewN (aQ _ _) 1)) (dI _ _))⟩
 |some x=>
  rw[t] at F;have X:Hid (∀d,aD V d->aJ 77 #[aI A,ag x,aI q] d λe w'=>lI E D.heap.size A DB (xK Bd Bl) v d (fK M l f x (n::path.map Prod.fst) m (k,g.map fq.pc)) e w'/\Kw A v d w'):=(λd w=>L k g v d x n m path q N O (j x t) (i.below w) (i.sc.path (Kw.of_below w) hp) P:∀d,aD V d->aJ 77 #[aI A,ag x,aI q] d λe w'=>lI E D.heap.size A DB (xK Bd Bl) v d (fK M l f x (n::path.map Prod.fst) m (k,g.map fq.pc)) e w'/\Kw A v d w');clear L N i hp P h j t o;simp only;generalize fK M l f x (n::path.map Prod.fst) m (k,g.map fq.pc)=y at X⊢;go_enter func193,ntmps193;go_wp2_with(first|(go_at_call 261;refine F.mono ?_;rintro e d ⟨S,a⟩;obtain rfl:e=ax (aF #[ag x,.bool true]):=S;have Z:=X.out d a)|(go_at_call 77;refine Z.mono ?_;rintro e w2 ⟨s,Q⟩;obtain⟨u,rfl⟩:∃u,e=ax u:=(by cases y with|error ft=>(obtain⟨u,z, -⟩:=s;exact⟨u,z⟩)|ok s2=>exact⟨_,s.1⟩)));go_ret;refine⟨?_,(Kw.of_below a).trans (.inl rfl) Q⟩;cases y with
  |error ft=>obtain⟨u',z,T⟩:=s;cases z;exact⟨_,rfl,T.low a.size⟩
  |ok s2=>
   obtain⟨z,U,v2,T,h5,h6⟩:=s;exact⟨z,U,v2,T,h5,Au (.inl rfl) h6 a.size⟩
end
theorem a7D (d:Nat)(w:ah):(Op.equalIn (d+1) 235 .nilFunc .nilFunc).run prog w=.ok true w:=by simp[Op.equalIn,run_underlying underlying235]
theorem a3r (d:Nat)(w:ah)(f:Fn)(a b:Array au):(Op.equalIn (d+1) 235 (.func f a b) .nilFunc).run prog w=.ok false w:=by simp[Op.equalIn,run_underlying underlying235]
theorem a7E (w:ah):(binOp BinOp.eql 235 .nilFunc .nilFunc).run prog w=.ok (.bool true) w:=by
 have h:(Op.equal 235 .nilFunc .nilFunc).run prog w=.ok true w:=a7D 9999 w;simp[binOp,h]
theorem a7F (w:ah)(f:Fn)(a b:Array au):(binOp BinOp.eql 235 (.func f a b) .nilFunc).run prog w=.ok (.bool false) w:=by
 have h:(Op.equal 235 (.func f a b) .nilFunc).run prog w=.ok false w:=a3r 9999 w f a b;simp[binOp,h]
theorem AJ.count {a DB Bd Bl:Nat}{l:au}{m:ah}{k:Nat}{n:List fq}{v:au}{V:ah}(h:AJ a DB Bd Bl l m k n v V):AJ a DB Bd Bl l m (k+1) n v (V.setCell ⟨a,2,none⟩ (ag ((k:Int)+1)))/\Kw a v V (V.setCell ⟨a,2,none⟩ (ag ((k:Int)+1))):=by
 have c:∀b,b≠a->(V.setCell ⟨a,2,none⟩ (ag ((k:Int)+1))).heap[b]? =V.heap[b]? :=λb i=>bY _ _ _ b i;have o:Kw a v V (V.setCell ⟨a,2,none⟩ (ag ((k:Int)+1))):=⟨(Below.setCell (aQ a V) (p:=⟨a,2,none⟩) ay _).os,(Below.setCell (aQ a V) (p:=⟨a,2,none⟩) ay _).tape,(Below.setCell (aQ a V) (p:=⟨a,2,none⟩) ay _).output,Nat.le_of_eq (mO _ _ _).symm,λb _ d _=>c b d⟩;refine⟨h.next o ⟨?_,?_,?_,h.sc.rt⟩,o⟩
 .have:=heap_setCell_same V a 2 _ _ (ag ((k:Int)+1)) h.sc.wb;grind
 .exact di h.sc.own λg j=>c g (λe=>by
   obtain⟨r,f,d, -⟩:=fM h.sc.own g j;rw[e,h.sc.wb] at d;cases d)
 .intro x q;exact di (h.sc.pts x q) λg j=>c g (λe=>by
   obtain⟨r,f,d, -⟩:=fM (h.sc.pts x q) g j;rw[e,h.sc.wb] at d;cases d)
theorem lI.ret {E:Nat->Addr}{a b DB:Nat}{c v:au}{V:ah}{x:Except Ft (Nat×List Pc)}{e:Ending}{w':ah}(h:lI E a b DB c v V x e w'):∃u,e=ax u:=by
 cases x with
 |error f=>obtain⟨u,d, -⟩:=h;exact⟨u,d⟩
 |ok s=>exact⟨_,h.1⟩
theorem lI.low {E:Nat->Addr}{a d DB:Nat}{g v:au}{V i:ah}{x:Except Ft (Nat×List Pc)}{e:Ending}{w':ah}(h:lI E a d DB g v i x e w')(hs:V.heap.size<=i.heap.size):lI E a d DB g v V x e w':=by
 cases x with
 |error f=>obtain⟨u,b,c⟩:=h;exact⟨u,b,c.low hs⟩
 |ok s=>obtain⟨b,j,k,c,l,m⟩:=h;exact⟨b,j,k,c,l,Au (.inl rfl) m hs⟩
section
variable {E:Nat->Addr}{B:Nat}{I:dm}{D:ah}{DB J:Nat}{p:Int->Option Nat}{M:Dm}{nx c:Nat}{r:Int->Nat}{l:List Rl}{B0:Nat}{C:au}{A Bd Bl:Nat}
theorem Zx (h:En E B I D DB J p M nx c r l B0 C)(k:Nat)(s:List fq)(v:au)(V:ah)(n t:Int)(m:Mv)(path:List (Int×Mv))(q:Nat)(N:k<100)(F:dV n)(u:AJ A DB Bd Bl C D k s v V)(hp:iC V (some q) ((t,m)::path))(i:n ∉ t::path.map Prod.fst)(j:rC (J4 M n)=false):
  aJ 77 #[aI A,ag n,aI q] V λe w'=>lI E D.heap.size A DB (xK Bd Bl) v V (.ok (k+1,s.map fq.pc)) e w'/\Kw A v V w':=by
 have g:=uw V (some q) ((t,m)::path) n hp;have b:decide (n∈((t,m)::path).map Prod.fst)=false:=iH i;unfold WiR at g;rw[b] at g;simp only[pV,Option.map_some] at g;replace g:aJ 129 #[aI q,ag n] V λe w'=>e=ax (.bool false)/\V=w':=g.mono λe w' h=>⟨h.1,h.2.symm⟩;obtain⟨a,d⟩:=u.count;have x:=sj (h.ds.below a.low).w n F;have O:=aO u.sc.wb 2 _ rfl;have P:=gm u.sc.wb 2;have H:(k:Int)<100:=aa;obtain⟨w,f⟩:∃X,V.setCell ⟨A,2,none⟩ (ag ((k:Int)+1))=X:=⟨_,rfl⟩;have o:aJ 104 #[aI DB,ag n] (V.setCell ⟨A,2,none⟩ (ag ((k:Int)+1))) λr w'=>r=ax (bV (J4 M n))/\w=w':=x.mono λe w' h=>⟨h.1,f.symm.trans h.2.symm⟩;have Q:=aO a.sc.wb 0 _ rfl;rw[f] at a d;have R:=aO a.sc.wb 1 _ rfl;have K:=a7E;have y:=a3n A w (J4 M n) j;have L:Hid (lI E D.heap.size A DB (xK Bd Bl) v V (.ok (k+1,s.map fq.pc)) (ax aU) w/\Kw A v V w):=⟨⟨rfl,s,v,rfl,a.sc,.inl rfl⟩,d⟩;generalize J4 M n=S at o y;clear x u hp i a d h j b f;go_enter func77,ntmps77;go_wp2_with(first|(go_at_call 129;refine g.mono ?_;rintro e z ⟨rfl,rfl⟩)|(go_at_call 104;refine o.mono ?_;rintro e z ⟨rfl,rfl⟩)|(go_at_call 130;refine y.mono ?_;rintro e z ⟨rfl,rfl⟩));go_ret;exact L.out
def al6 (A F:Nat)(a b:List au):Prop:=(F=255/\a=[]/\∃x y,b=[x,y])\/(a=[aI A]/\b=[]/\(F=192\/F=193))
def abV (E:Nat->Addr)(D:ah)(A DB Bd Bl:Nat)(C v:au)(k:Nat)(i:List fq)(n:Int)(path:List (Int×Mv))(d:Mv->Except Ft (Nat×List Pc))(j:ah)(e:Ending)(g:ah):Prop:=∃(F:Nat) (a b:List au),e=ax (.func (.func F) a.toArray b.toArray)/\aD j g/\al6 A F a b/\∀(f:Mv) (c:ah) (PB:Nat),f.ok->aD g c->AJ A DB Bd Bl C D (k+1) i v c->iC c (some PB) ((n,f)::path)->aJ F (a++[Value.pointer (some ⟨PB,0,none⟩)]++b).toArray c λe h=>lI E D.heap.size A DB (xK Bd Bl) v c (d f) e h/\Kw A v c h
theorem a3s (h:En E B I D DB J p M nx c r l B0 C)(k:Nat)(Y:List fq)(v:au)(V:ah)(n K:Int)(m:Mv)(path:List (Int×Mv))(q:Nat)(hk:k<100)(hn:dV n)(hw:AJ A DB Bd Bl C D k Y v V)(hp:iC V (some q) ((K,m)::path))(a8:n ∉ K::path.map Prod.fst)(hm:m.ok)(L:Mv->Except Ft (Nat×List Pc))(WY:∀z,aJ 130 #[aI A,bV (J4 M n)] z λe j=>abV E D A DB Bd Bl C v k Y n ((K,m)::path) L z e j):
  aJ 77 #[aI A,ag n,aI q] V λe w'=>lI E D.heap.size A DB (xK Bd Bl) v V (if(ofM M l zB n==kNo)=true then .ok (k+1,Y.map fq.pc) else match A9 M n m with| .error c=>.error ⟨vW c,n⟩| .ok d=>L d) e w'/\Kw A v V w':=by
 have Z:=uw V (some q) ((K,m)::path) n hp;have W:decide (n∈((K,m)::path).map Prod.fst)=false:=iH a8;unfold WiR at Z;rw[W] at Z;simp only[pV,Option.map_some] at Z;replace Z:aJ 129 #[aI q,ag n] V λe w'=>e=ax (.bool false)/\V=w':=Z.mono λe w' h=>⟨h.1,h.2.symm⟩;obtain⟨o,Q⟩:=hw.count;have NA:=sj (h.ds.below o.low).w n hn;have c2:=aO hw.sc.wb 2 _ rfl;have f2:=gm hw.sc.wb 2;have c3:(k:Int)<100:=aa;obtain⟨z,a4⟩:∃X,V.setCell ⟨A,2,none⟩ (ag ((k:Int)+1))=X:=⟨_,rfl⟩;have a5:aJ 104 #[aI DB,ag n] (V.setCell ⟨A,2,none⟩ (ag ((k:Int)+1))) λr w'=>r=ax (bV (J4 M n))/\z=w':=NA.mono λe w' h=>⟨h.1,a4.symm.trans h.2.symm⟩;have c0:=aO o.sc.wb 0 _ rfl;rw[a4] at o Q;have c1:=aO o.sc.wb 1 _ rfl;have c4:=a7F;have WY:=WY z;have ST:=λj (R:aD z j)=>h.style (o.below R) n hn zB;have g:=aA o;have N:=aA Q;have C1:Hid (∀j,aD z j->j.cell? (aH A 1)=some (xK Bd Bl)):=(λj R=>(R.cell (aR c1)).trans c1:∀j,aD z j->j.cell? (aH A 1)=some (xK Bd Bl));have HH:=aA h;have a9:Hid (iC z (some q) ((K,m)::path)):=(hw.sc.path Q hp:iC z (some q) ((K,m)::path));have HM:Hid m.ok:=hm;have hq:=iL (ofM M l zB n) kNo;generalize J4 M n=nm at a5 WY;clear NA hw hp a8 o Q h W hm a4;generalize ofM M l zB n=s at ST hq⊢;obtain⟨c5,sG⟩:∃x,(if(s==kNo)=true then(.ok (k+1,Y.map fq.pc):Except Ft (Nat×List Pc)) else match A9 M n m with| .error c=>.error ⟨vW c,n⟩| .ok d=>L d)=x:=⟨_,rfl⟩;rw[sG];have UC:=aA sG;clear sG;have MO:∀S,aD z S->aJ 131 #[aI A,ag n,aI q] S λe w'=>MvR E (A9 M n m) e w'/\aD S w':=λS O=>by
  obtain⟨b,q',H,h2, -⟩:=g.out.sc.path (Kw.of_below O) a9.out;cases H;exact Un (HH.out.ne.below (g.out.below O).low) (HH.out.ds.below (g.out.below O).low).w HH.out.sz A (aO (g.out.below O).sc.wb 0 _ rfl) n hn q K (.pointer (q'.map λx=>⟨x,0,none⟩)) m HM.out h2
 unfold zB at ST;go_enter func77,ntmps77;go_upto_region 7 with(first|(go_at_call 129;refine Z.mono ?_;rintro e j ⟨rfl,rfl⟩)|(go_at_call 104;refine a5.mono ?_;rintro e j ⟨rfl,rfl⟩)|(go_at_call 130;refine WY.mono ?_;rintro e j ⟨F,a,b,rfl,R,LF,SH⟩;have k1:=C1.out _ R;have ST1:=ST _ R));have b0:Hid (∀(d:Mv) (t:ah) (PB:Nat),d.ok->aD j t->AJ A DB Bd Bl C D (k+1) Y v t->iC t (some PB) ((n,d)::(K,m)::path)->aJ F (a++[Value.pointer (some ⟨PB,0,none⟩)]++b).toArray t λe w'=>∃u,e=ax u/\Hid (lI E D.heap.size A DB (xK Bd Bl) v t (L d) (ax u) w'/\Kw A v t w')):=(λd t PB g1 g2 g3 g4=>(SH d t PB g1 g2 g3 g4).mono λe w' h=>by
  obtain⟨u,rfl⟩:=h.1.ret;exact⟨u,rfl,h⟩:∀(d:Mv) (t:ah) (PB:Nat),d.ok->aD j t->AJ A DB Bd Bl C D (k+1) Y v t->iC t (some PB) ((n,d)::(K,m)::path)->aJ F (a++[Value.pointer (some ⟨PB,0,none⟩)]++b).toArray t λe w'=>∃u,e=ax u/\Hid (lI E D.heap.size A DB (xK Bd Bl) v t (L d) (ax u) w'/\Kw A v t w'))
 have b7:=aA LF;clear SH LF ST WY a5 Z;cases hs:(s==kNo) with
 |true=>
  rw[hs] at hq;have H:=UC.out;rw[hs,if_pos rfl] at H;have H1:Hid _:=H;unfold kNo at hq hs;clear H UC;clear MO;go_wp2_with(go_at_call 76;refine ST1.mono ?_;rintro e S ⟨rfl,O⟩);go_ret;have i:=aW R O;obtain rfl:=H1.out;exact⟨⟨rfl,Y,v,rfl,(g.out.below i).sc,.inl rfl⟩,N.out.trans (.inl rfl) (Kw.of_below i)⟩
 |false=>
  rw[hs] at hq;have H:=UC.out;rw[hs,if_neg aG] at H;unfold kNo at hq hs;obtain⟨mo,T⟩:∃x,A9 M n m=x:=⟨_,rfl⟩;rw[T] at MO H;cases mo with
  |error cd=>
   have FO:=λf (hN:NE E f) ev (U:Su E cd ev f)=>wD hN U n;have NN:Hid (∀f,aD z f->NE E f):=(λf b3=>HH.out.ne.below (g.out.below b3).low:∀f,aD z f->NE E f);have H1:Hid _:=H;clear T H UC;go_upto_region 10 with(first|(go_at_call 76;refine ST1.mono ?_;rintro e S ⟨rfl,O⟩;have i:=aW R O;have a6:=MO S i)|(go_at_call 131;refine a6.mono ?_;rintro e f ⟨⟨ev,rfl,U⟩,b3⟩));have P:=aW i b3;have HV:=U;obtain⟨-, -,b8⟩:=U;rcases b8 with rfl|⟨pb,po,rfl, -⟩<;>
   .go_wp2_with(go_at_call 132;refine(FO _ ?_ _ ?_).mono ?_;exact NN.out _ (aW P (dI _ _));exact HV.below (dI _ _);rintro e w5 ⟨u,rfl,hf,b5⟩);go_ret;have bb:=aW (aW P (dI _ _)) b5;obtain rfl:=H1.out;exact⟨⟨u,rfl,hf.low (bu N.out.size (aW P (dI _ _)).size)⟩,N.out.trans (.inl rfl) (Kw.of_below bb)⟩
  |ok d=>
   have b9:Hid d.ok:=a3p HM.out T;have H1:Hid _:=H;clear T H UC;go_upto_region 12 with(first|(go_at_call 76;refine ST1.mono ?_;rintro e S ⟨rfl,O⟩;have i:=aW R O;have a6:=MO S i)|(go_at_call 131;refine a6.mono ?_;rintro e f ⟨rfl,b3⟩));have P:=aW i b3;have bU:=dI f (ai (mA d) 165);have KP:=dN (f.alloc (ai (mA d) 165)) (plA n (aI q) d) 168;have bX:=aW bU (dI (f.alloc (ai (mA d) 165)) (ai (plA n (aI q) d) 168));have b5:=aW P bX;have b4:=g.out.below b5;have a7:iC ((f.alloc (ai (mA d) 165)).alloc (ai (plA n (aI q) d) 168)) (some (f.alloc (ai (mA d) 165)).heap.size) ((n,d)::(K,m)::path):=⟨_,some q,rfl,KP,g.out.sc.path (Kw.of_below b5) a9.out⟩;rw[dK] at a7;have w:=b0.out d _ (f.heap.size+1) b9.out (aW (aW O b3) bX) b4 a7;have b6:=aA b5;have m0:=jZ f (mA d) 165;clear bU KP b4 a7 b0 b5 bX;rcases b7.out with⟨rfl,rfl,x,y,rfl⟩|⟨rfl,rfl,rfl|rfl⟩<;>simp only[gF,fV,List.append_nil] at w<;>
   .go_wp2_with(first|(go_at_call 255;refine w.mono ?_;rintro e w6 ⟨u,rfl,h6⟩)|(go_at_call 192;refine w.mono ?_;rintro e w6 ⟨u,rfl,h6⟩)|(go_at_call 193;refine w.mono ?_;rintro e w6 ⟨u,rfl,h6⟩));go_ret;obtain rfl:=H1.out;exact⟨h6.out.1.low (bu N.out.size b6.out.size),N.out.trans (.inl rfl) ((Kw.of_below b6.out).trans (.inl rfl) h6.out.2)⟩
end
variable {E:Nat->Addr}{B:Nat}{I:dm}{D:ah}{DB J:Nat}{p:Int->Option Nat}{M:Dm}{nx c:Nat}{r:Int->Nat}{l:List Rl}{B0:Nat}{C:au}{A Bd Bl:Nat}
theorem Rc (n:Int)(m:Mv)(x:Except Nat (List Qt))(st:Nat×List Pc):ze n m x (ofM M l vD n) (ofM M l xR n) (ofM M l tK n) st=jR M l n m x st:=rfl
theorem L9 (h:En E B I D DB J p M nx c r l B0 C){k:Nat}{g:List fq}{v:au}(i:g.length<=1000){n:Int}(j:dV n){rest:List (Int×Mv)}{f:Nat}{x:Except Nat (List Qt)}(m:∀(s:Array au) (w:ah),Sem.run prog (callFunc f s) w=.ok (.enter f s) w)
  (RD:∀U,AJ A DB Bd Bl C D (k+1) g v U->aJ f #[aI A,ag n] U λe w'=>qI E x e w'/\aD U w') {t:ah} {e:Ending} {u:ah} (H:ByR A f t e u):abV E D A DB Bd Bl C v k g n rest (λo=>jR M l n o x (k+1,g.map fq.pc)) t e u:=by
 obtain⟨K,L,N,y,z,O⟩:=H;refine⟨_,_,_,N,O,.inl ⟨rfl,rfl,_,_,rfl⟩,λo V PB P F a Q=>?_⟩;obtain⟨b,W,R,S, -⟩:=Q;cases R;have X:=abT h.sz (λx T=>(h.ok x T).1) tK n;have q:=Ng (h.ne.below a.low) Bd Bl a.sc PB K L _ m n _ o P S ((F.cell (aR y)).trans y) ((F.block _ (dz z)).trans z) x _ _ _ aa a.low.size i (λU d=>RD U (a.below d)) (λU d=>h.style (a.below d) n j vD) (λU d=>h.style (a.below d) n j xR) (λU d=>h.style (a.below d) n j tK);rw[Rc] at q;exact q
theorem Ie (h:En E B I D DB J p M nx c r l B0 C)(k:Nat)(i:List fq)(v:au)(V:ah)(n d:Int)(m:Mv)(path:List (Int×Mv))(q:Nat)(g:AJ A DB Bd Bl C D k i v V)(hp:iC V (some q) ((d,m)::path))(b:n∈d::path.map Prod.fst):
  aJ 77 #[aI A,ag n,aI q] V λe w'=>lI E D.heap.size A DB (xK Bd Bl) v V (.error ⟨9,n⟩) e w'/\Kw A v V w':=by
 have f:=uw V (some q) ((d,m)::path) n hp;have a:decide (n∈((d,m)::path).map Prod.fst)=true:=decide_eq_true b;unfold WiR at f;rw[a] at f;simp only[pV,Option.map_some] at f;have j:=(h.ne.below g.low).c9;clear h g hp b a;go_enter func77,ntmps77;go_wp2_with(go_at_call 129;refine f.mono ?_;rintro e o ⟨rfl,rfl⟩);go_ret;exact⟨⟨_,rfl,_,Nat.le_refl _,rfl,dN _ _ _⟩,Kw.of_below (dI _ _)⟩
theorem La (h:En E B I D DB J p M nx c r l B0 C)(k:Nat)(i:List fq)(v:au)(V:ah)(n d:Int)(m:Mv)(path:List (Int×Mv))(q:Nat)(o:100<=k)(g:AJ A DB Bd Bl C D k i v V)(hp:iC V (some q) ((d,m)::path))(b:n ∉ d::path.map Prod.fst):
  aJ 77 #[aI A,ag n,aI q] V λe w'=>lI E D.heap.size A DB (xK Bd Bl) v V (.error ⟨7,n⟩) e w'/\Kw A v V w':=by
 have f:=uw V (some q) ((d,m)::path) n hp;have a:decide (n∈((d,m)::path).map Prod.fst)=false:=iH b;unfold WiR at f;rw[a] at f;simp only[pV,Option.map_some] at f;have s:=(h.ne.below g.low).c7;have t:=aO g.sc.wb 2 _ rfl;have j:(100:Int)<=(k:Int):=aa;clear h g hp b a;go_enter func77,ntmps77;go_wp2_with(go_at_call 129;refine f.mono ?_;rintro e u ⟨rfl,rfl⟩);go_ret;exact⟨⟨_,rfl,_,Nat.le_refl _,rfl,dN _ _ _⟩,Kw.of_below (dI _ _)⟩
theorem UZ (s:Bs):rC s=false\/s=Jg\/s=yg\/s=rA\/s=PK:=by
 unfold rC;grind
theorem V5 {n:Int}(h:rC (J4 M n)=true):(vX M l n=false)↔(ofM M l zB n==kNo)=true:=by
 unfold vX;grind
theorem Re (h:En E B I D DB J p M nx c r l B0 C):∀f,COME E A DB Bd Bl C D M l f
 |0=>λk o v V n t m path q hf P w z F Z=>by
  unfold fK;by_cases d:n∈t::path.map Prod.fst
  .rw[if_pos d];exact Ie h k o v V n t m path q z F d
  .rw[if_neg d];exact La h k o v V n t m path q aa z F d
 |f+1=>λk o v V n t m path q hf P w z F Z=>by
  have IH:=Re h f;unfold fK;by_cases d:n∈t::path.map Prod.fst
  .rw[if_pos d];exact Ie h k o v V n t m path q z F d
  rw[if_neg d];by_cases Q:100<=k
  .rw[if_pos Q];exact La h k o v V n t m path q Q z F d
  rw[if_neg Q];have N:k<100:=aa;by_cases H:rC (J4 M n)=false
  .rw[if_pos (show vX M l n=false by unfold vX;rw[H];rfl)];exact Zx h k o v V n t m path q N w z F d H
  have L:∀{a b:Bs},J4 M n=a->a≠b->¬J4 M n=b:=by grind
  obtain⟨y,WY,hr⟩:∃y:Mv->Except Ft (Nat×List Pc),(∀u,aJ 130 #[aI A,bV (J4 M n)] u λe O=>abV E D A DB Bd Bl C v k o n ((t,m)::path) y u e O)/\∀i,y i=(if J4 M n=Jg then jR M l n i (a1H M n) (k+1,o.map fq.pc) else if J4 M n=yg then jR M l n i (Kj M n) (k+1,o.map fq.pc) else if J4 M n=rA then(fK.Wn M n).foldlM (λs x=>fK M l f x (n::t::path.map Prod.fst) i s) (k+1,o.map fq.pc) else match Mi M n with|none=>.error ⟨10,n⟩|some x=>fK M l f x (n::t::path.map Prod.fst) i (k+1,o.map fq.pc)):=by
   rcases UZ (J4 M n) with j|j|j|j|j
   .grind
   .exact⟨_,λu=>by rw[j];exact(a7A A u).mono λe O=>L9 h aa w (rT _ _ func190 az az) λU K=>Z9 (h.ne.below K.low) (h.ds.below K.low).w h.sz A (aO K.sc.wb 0 _ rfl) n w,λi=>(if_pos j).symm⟩
   .exact⟨_,λu=>by rw[j];exact(a3m A u).mono λe O=>L9 h aa w (rT _ _ func191 az az) λU K=>Uz (h.ne.below K.low) (h.ds.below K.low).w h.sz A (aO K.sc.wb 0 _ rfl) n w,λi=>((if_neg (L j aC)).trans (if_pos j)).symm⟩
   .exact⟨λi=>(fK.Wn M n).foldlM (λs x=>fK M l f x (n::t::path.map Prod.fst) i s) (k+1,o.map fq.pc),λu=>by rw[j];exact(Zv A u).mono λe O ⟨R,S⟩=>⟨_,_,_,R,by rw[S];exact aQ _ _,.inr ⟨rfl,rfl,.inl rfl⟩,λi T PB W _ X Y=>Jy h f IH (k+1) o v T n i ((t,m)::path) PB aa aa w X Y W⟩,λi=>((if_neg (L j aC)).trans ((if_neg (L j aC)).trans (if_pos j))).symm⟩
   .exact⟨λi=>match Mi M n with|none=>.error ⟨10,n⟩|some x=>fK M l f x (n::t::path.map Prod.fst) i (k+1,o.map fq.pc),λu=>by rw[j];exact(a7B A u).mono λe O ⟨R,S⟩=>⟨_,_,_,R,by rw[S];exact aQ _ _,.inr ⟨rfl,rfl,.inr rfl⟩,λi T PB W _ X Y=>Rb h f IH (k+1) o v T n i ((t,m)::path) PB aa aa w X Y W⟩,λi=>((if_neg (L j aC)).trans ((if_neg (L j aC)).trans (if_neg (L j aC)))).symm⟩
  refine(a3s h k o v V n t m path q N w z F d Z y WY).mono λe w' g=>?_;simp only[V5 (by simpa using H:rC (J4 M n)=true)];grind

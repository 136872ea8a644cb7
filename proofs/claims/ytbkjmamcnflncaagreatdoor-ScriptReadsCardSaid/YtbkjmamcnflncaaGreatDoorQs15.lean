import Derived.Test.YtbkjmamcnflncaaGreatDoorQs14
namespace Go.Proofs.YtbkjmamcnflncaaGreatDoor
open Go.Proofs.Tryz
set_option maxHeartbeats 32000000
section
open Go.RowKit
theorem af9 (b o l B:Nat)(m:aM)(d:Fr)(r:Mv)(W:ah)(w:W.cell? (aH B 0)=some (.func (.func 358) #[] #[]))(z:W.cell? (aH b o)=some (ak m))
  (A:∀V,aD W V->aJ 319 #[ak m] V λe w'=>e=ax (aF #[.agg #[ag d.n,ag d.d],aU])/\aD V w')
  (n:∀V g c,aD W V->V.cell? (aH g 0)=some (ag d.n)->V.cell? (aH g 1)=some (ag d.d)->aJ 358 #[aj (some ⟨g,0,none⟩) 1 c] V λe w'=>e=ax (mv r)/\aD V w'):
  aJ 367 #[aj (some ⟨b,o,none⟩) 1 l,aI B] W λe w'=>e=ax (aF #[mv r,aU])/\aD W w':=by
 have x:=(aQ W.heap.size W).alloc ay (ai zA 165);have C:=gy.new W zA 165;have g1:=λo=>aL o z;obtain⟨D,E,q,s,t⟩:=info_parts Fy;go_enter func367,ntmps367;go_wp2;refine wp_loop_rounds 2 ?_;rw[rounds_succ];go_wp2_with(first|(at_builtin;refine wpList_append_own_at _ rfl _ _ 402 rfl (W.heap.size+1) 163 D (.agg #[ag 0,ag 0]) 2 16 underlying402 E q s t rfl aC (aj none 0 0) 0 [] rfl F ⟨y.heap.size+1,0,none⟩ 1 1 [ag d.n,ag d.d] rfl rfl (LW aG) a5R (by unfold maxLen;omega) aa aX ?_;intro v1 V1 f a _ H;have u:=((I.alloc aa _).alloc aX _).grown a aX (λk e=>by simp[Value.ownBlock] at e);have J:=((K.alloc _).alloc _).grown a (by simp[Value.ownBlock]);have L:=a.size;simp only[dK] at L;obtain⟨g,M,rfl,N,O,P,Q,j⟩:=vN f;have gB:=(u.cell (p:=⟨B,0,none⟩) (aR w)).trans w)|(go_at_call_of 319 m;refine(A _ x).mono ?_;rintro e y ⟨rfl,h⟩;have S:=h.size;simp only[dK] at S;have I:=(x.trans (h.mono aG));have K:=C.below h ay;have F:((y.alloc (ai #[ag d.n,ag d.d] 163)).alloc (ai #[ag d.n,ag d.d] 163)).ownsRow (W.heap.size+1) 163 2 (aj none 0 0) 0 []:=gp _ _ _ _));rw[rounds_succ];go_wp2_with((go_at_call 358;refine(n _ g M u (j 0 _ rfl) (j 1 _ rfl)).mono ?_;rintro e w5 ⟨rfl,i⟩;have T:=i.size;have U:=J.below i ay;obtain⟨X,JS,Y,JU,Z,JV,uX,JW,zi,O9,zl,Oa,zm,Ob,zo,Oc,zq,Od,zu,Oe,mq,vH,mD,vI⟩:=U.six));refine bodyPost_ret (v:=aF #[mv r,aU]) (by simp[results,results367,go_sem,X,Y,Z,uX,zi,zl,zm,zo,zq,zu,mq,mD]) rfl ⟨rfl,?_⟩;exact cZ (R:=W.heap.size) ay (mL r) 0 (u.trans (i.mono aa))
theorem a1N {k:aM}{a:Kd}(h:vP k=some a)(f:a≠.turn):P9 k a:=by
 unfold vP at h;by_cases b:k=Oi
 .rw[if_pos b] at h;cases h;subst b;exact Ol
 .rw[if_neg b] at h;by_cases c:k=Fp
  .rw[if_pos c] at h;cases h;subst c;exact LM
  .rw[if_neg c] at h;by_cases e:k=Fq
   .grind
   .rw[if_neg e] at h;by_cases d:k=Oj
    .rw[if_pos d] at h;cases h;subst d;exact Om
    .grind
theorem a1O {k:aM}(h:vP k=some .turn):k=Fq:=by
 unfold vP at h;grind
theorem Q4 {mk:Fr->Fr->Mv}{a b:aM}{m:Mv}(h:qN mk a b=(m,0)):FH a=0/\FH b=0/\m=mk (JZ a) (JZ b):=by
 unfold qN at h;grind
theorem a1P {mk:Fr->Mv}{a:aM}{m:Mv}(h:AA mk a=(m,0)):FH a=0/\m=mk (JZ a):=by
 unfold AA at h;grind
theorem Ac {ws:List aM}{o:Nat}(h:o+2<=ws.length):∃a b r,ws.drop o=a::b::r/\ws[o]? =some a/\ws[o+1]? =some b:=by
 have c:o<ws.length:=aa;have d:o+1<ws.length:=aa;exact⟨ws[o],ws[o+1],ws.drop (o+2),by rw[vz c,vz d],by simp[c],by simp[d]⟩
theorem drop_one {ws:List aM}{o:Nat}(h:o+1<=ws.length):∃a r,ws.drop o=a::r/\ws[o]? =some a:=by
 have b:o<ws.length:=aa;exact⟨ws[o],ws.drop (o+1),by rw[vz b],by simp[b]⟩
theorem xk {aT aB aS:Addr}{a:aM}(hs:a.size<=1000000)(b:FH a=0)(V:ah)(h:E4 aT aB aS V):
  aJ 319 #[ak a] V λe w'=>e=ax (aF #[.agg #[ag (JZ a).n,ag (JZ a).d],aU])/\aD V w':=by
 have:=wT aT aB aS aB a V h.e3 h.t aa;rw[show(rd a.data.toList).c=0 from b] at this;exact this
theorem nV {ws:List aM}(hs:∀a∈ws,a.size<=1000000){o:Nat}{a:aM}(h:ws[o]? =some a):a.size<=1000000:=hs a (gN h)
theorem a1Q {aT aB aS:Addr}{W:ah}(h:E4 aT aB aS W){ws:List aM}(hs:∀a∈ws,a.size<=1000000){s:Kd}(y:s≠.turn):a1l W ws s:=by
 intro V o B f m z j t u i;have hE:=h.below z ay;cases s with
 |turn=>exact(y rfl).elim
 |move=>
  obtain⟨a,b,r,k,e,l⟩:=Ac u;rw[k] at i;obtain⟨n,v,rfl⟩:=Q4 i;exact aey _ (rT _ _ func355 az az) W.heap.size o f B a b (JZ a) (JZ b) _ V t (jm j e) (jm j l) (λU d=>xk (nV hs e) n U (hE.below d ay)) (λU d=>xk (nV hs l) v U (hE.below d ay))
   (λU g c d p q w x=>Y5 g c (JZ a) (JZ b) U p q w x)
 |scale=>
  obtain⟨a,b,r,k,e,l⟩:=Ac u;rw[k] at i;obtain⟨n,v,rfl⟩:=Q4 i;exact aey _ (rT _ _ func356 az az) W.heap.size o f B a b (JZ a) (JZ b) _ V t (jm j e) (jm j l) (λU d=>xk (nV hs e) n U (hE.below d ay)) (λU d=>xk (nV hs l) v U (hE.below d ay))
   (λU g c d p q w x=>Y6 g c (JZ a) (JZ b) U p q w x)
 |skew=>
  obtain⟨a,r,k,e⟩:=drop_one u;rw[k] at i;obtain⟨n,rfl⟩:=a1P i;exact af9 W.heap.size o f B a (JZ a) _ V t (jm j e) (λU d=>xk (nV hs e) n U (hE.below d ay))
   (λU g c d p q=>a1j g c (JZ a) U p q)
theorem a1R {W:ah}{ws:List aM}:a1m W ws:=by
 intro V o c m n i j b;obtain⟨a,r,k,l⟩:=drop_one j;rw[k] at b;have d:=jm i l;change FI a=(m,0) at b;unfold FI at b;by_cases e:a=⟨#[48]⟩
 .rw[if_pos e] at b;cases b;subst e;exact zQ W.heap.size o c V _ _ _ (.inl ⟨rfl,rfl,rfl⟩) d
 .rw[if_neg e] at b;by_cases f:a=⟨#[49]⟩
  .rw[if_pos f] at b;cases b;subst f;exact zQ W.heap.size o c V _ _ _ (.inr (.inl ⟨rfl,rfl,rfl⟩)) d
  .rw[if_neg f] at b;by_cases g:a=⟨#[50]⟩
   .rw[if_pos g] at b;cases b;subst g;exact zQ W.heap.size o c V _ _ _ (.inr (.inr (.inl ⟨rfl,rfl,rfl⟩))) d
   .rw[if_neg g] at b;by_cases h:a=⟨#[51]⟩
    .rw[if_pos h] at b;cases b;subst h;exact zQ W.heap.size o c V _ _ _ (.inr (.inr (.inr ⟨rfl,rfl,rfl⟩))) d
    .grind
theorem Gl:∀(R:List Mv) (j:Nat) (m:Mv),R[j]? =some m->∀i u,(yI m)[i]? =some u->(oG R)[j*12+i]? =some u
 |[],_,_,h,_,_,_=>by cases h
 |x::R,0,m,h,i,u,a=>by
  simp at h;subst h;have b:i<(yI x).length:=by grind
  show(yI x++oG R)[0*12+i]? =some u;grind
 |x::R,j+1,m,h,i,u,a=>by
  have:=Gl R j m (by simpa using h) i u a;show(yI x++oG R)[(j+1)*12+i]? =some u;rw[qb aX];rw[show(j+1)*12+i-(yI x).length=j*12+i by simp;omega];exact this
theorem a6p (g o c:Nat)(a:aM)(aT:Addr)(W:ah)(d:W.cell? (aH g o)=some (ak a))(b:W.cell? (aH 1 0)=some (aP 453 (.pointer (some aT))))
  (f:a≠⟨#[48]⟩) (h:a≠⟨#[49]⟩) (i:a≠⟨#[50]⟩) (j:a≠⟨#[51]⟩):
  aJ 357 #[aj (some ⟨g,o,none⟩) 1 c] W λe w'=>e=ax (aF #[mv .zero,aP 453 (.pointer (some aT))])/\aD W w':=by
 have n:=vQ (l:=[48]) f;have q:=vQ (l:=[49]) h;have r:=vQ (l:=[50]) i;have s:=vQ (l:=[51]) j;have t:=λo=>aL o d;clear f h i j;go_enter func357,ntmps357;go_wp2;have hF:∃U,W.alloc (ai zA 165)=U/\gy U W.heap.size zA 165/\aD W U:=⟨_,rfl,gy.new W _ _,(aQ _ W).alloc ay _⟩;obtain⟨U,k,u,m⟩:=hF;rw[k];clear k t d n q r s;have K:=(m.cell (p:=⟨1,0,none⟩) (aR b)).trans b;have w:=aR b;simp only at w;obtain⟨x,L,y,M,z,N,A,O,B,P,C,Q,D,S,E,T,F,V,H,X,I,Y,J,Z⟩:=u.six;go_region;go_wp2;refine bodyPost_ret (v:=aF #[mv .zero,aP 453 (.pointer (some aT))]) (by simp[results,results357,go_sem,Mv.zero,Fr.zero,x,y,z,A,B,C,D,E,F,H,I,J]) rfl ⟨rfl,?_⟩;exact below_drewN (cZ (R:=W.heap.size) ay zL 0 m) 1
theorem Ws (b o d B n:Nat)(f:aM)(a:Addr)(W:ah)(D:1<=n)(i:W.cell? (aH b o)=some (ak f))
  (j:∀V,aD W V->aJ 319 #[ak f] V λe w'=>e=ax (aF #[.agg #[ag 0,ag 0],aP 453 (.pointer (some a))])/\aD V w'):
  aJ 367 #[aj (some ⟨b,o,none⟩) n d,aI B] W λe w'=>e=ax (aF #[mv .zero,aP 453 (.pointer (some a))])/\aD W w':=by
 have g:=(aQ W.heap.size W).alloc ay (ai zA 165);have k:=gy.new W zA 165;have E:=λo=>aL o i;go_enter func367,ntmps367;go_wp2;refine wp_loop_rounds 1 ?_;rw[rounds_succ];go_wp2_with((go_at_call_of 319 f;refine(j _ g).mono ?_;rintro e F ⟨rfl,c⟩;have l:=c.size;simp only[dK] at l;have h:=(g.trans (c.mono aG));have m:=k.below c ay;obtain⟨p,H,q,I,r,J,s,K,t,L,u,M,w,N,x,O,y,P,z,Q,A,S,C,T⟩:=m.a0S));refine bodyPost_ret (v:=aF #[mv .zero,aP 453 (.pointer (some a))]) (by simp[results,results367,go_sem,Mv.zero,Fr.zero,p,q,r,s,t,u,w,x,y,z,A,C]) rfl ⟨rfl,?_⟩;exact cZ (R:=W.heap.size) ay zL 0 (h.alloc h.size _)
theorem a6q (b o h B:Nat)(i j:aM)(d:Fr)(a:Addr)(W:ah)(x:W.cell? (aH b o)=some (ak i))(s:W.cell? (aH b (o+1))=some (ak j))
  (y:∀V,aD W V->aJ 319 #[ak i] V λe w'=>e=ax (aF #[.agg #[ag d.n,ag d.d],aU])/\aD V w')
  (z:∀V,aD W V->aJ 319 #[ak j] V λe w'=>e=ax (aF #[.agg #[ag 0,ag 0],aP 453 (.pointer (some a))])/\aD V w'):
  aJ 367 #[aj (some ⟨b,o,none⟩) 2 h,aI B] W λe w'=>e=ax (aF #[mv .zero,aP 453 (.pointer (some a))])/\aD W w':=by
 have t:=(aQ W.heap.size W).alloc ay (ai zA 165);have A:=gy.new W zA 165;have g1:=λo=>aL o x;obtain⟨C,D,l,m,n⟩:=info_parts Fy;go_enter func367,ntmps367;go_wp2;refine wp_loop_rounds 2 ?_;rw[rounds_succ];go_wp2_with(first|(at_builtin;refine wpList_append_own_at _ rfl _ _ 402 rfl (W.heap.size+1) 163 C (.agg #[ag 0,ag 0]) 2 16 underlying402 D l m n rfl aC (aj none 0 0) 0 [] rfl E ⟨u.heap.size+1,0,none⟩ 1 1 [ag d.n,ag d.d] rfl rfl (LW aG) a5R (by unfold maxLen;omega) aa aX ?_;intro v1 V1 q c _ F;have r:=((H.alloc aa _).alloc aX _).grown c aX (λk e=>by simp[Value.ownBlock] at e);have I:=((J.alloc _).alloc _).grown c (by simp[Value.ownBlock]);have K:=c.size;simp only[dK] at K;have g2:=(r.cell (p:=⟨b,o+1,none⟩) (aR s)).trans s)|(go_at_call_of 319 i;refine(y _ t).mono ?_;rintro e u ⟨rfl,f⟩;have L:=f.size;simp only[dK] at L;have H:=(t.trans (f.mono aG));have J:=A.below f ay;have E:((u.alloc (ai #[ag d.n,ag d.d] 163)).alloc (ai #[ag d.n,ag d.d] 163)).ownsRow (W.heap.size+1) 163 2 (aj none 0 0) 0 []:=gp _ _ _ _));rw[rounds_succ];go_wp2_with((go_at_call_of 319 j;refine(z _ r).mono ?_;rintro e w2 ⟨rfl,g⟩;have M:=g.size;have w:=r.trans (g.mono aa);have N:=I.below g ay;obtain⟨O,JS,P,JU,Q,JV,S,JW,T,O9,U,Oa,X,Ob,Y,Oc,Z,Od,zu,Oe,mq,vH,mD,vI⟩:=N.a0S));refine bodyPost_ret (v:=aF #[mv .zero,aP 453 (.pointer (some a))]) (by simp[results,results367,go_sem,Mv.zero,Fr.zero,O,P,Q,S,T,U,X,Y,Z,zu,mq,mD]) rfl ⟨rfl,?_⟩;exact cZ (R:=W.heap.size) ay zL 0 (w.alloc w.size _)
def eA (aT aB aS:Addr)(c:Nat):Addr:=if c=1 then aT else if c=2 then aB else aS
theorem aaM {aT aB aS:Addr}{c:Nat}(h:c=1\/c=2\/c=3):Sk aT aB aS aB c=aP 453 (.pointer (some (eA aT aB aS c))):=by
 rcases h with rfl|rfl|rfl<;>rfl
theorem Gm (l:List UInt8):(rd l).c=0\/((rd l).c=1\/(rd l).c=2\/(rd l).c=3)/\(rd l).n=0/\(rd l).d=0:=by
 have a:∀n d,(ck n d).c=0\/((ck n d).c=1\/(ck n d).c=2\/(ck n d).c=3)/\(ck n d).n=0/\(ck n d).d=0:=λn d=>by
  unfold ck;split
  .exact .inl rfl
  .rename_i h;have:=gZ n d;grind
 unfold rd;grind
theorem Ml {aT aB aS:Addr}{a:aM}(hs:a.size<=1000000)(b:FH a≠0)(V:ah)(h:E4 aT aB aS V):
  aJ 319 #[ak a] V λe w'=>e=ax (aF #[.agg #[ag 0,ag 0],aP 453 (.pointer (some (eA aT aB aS (FH a))))])/\aD V w':=by
 have:=wT aT aB aS aB a V h.e3 h.t aa;rcases Gm a.data.toList with c|⟨d,f,g⟩
 .exact(b c).elim
 .rw[f,g,aaM d] at this;exact this
def TW (aT aB aS:Addr)(W:ah)(ws:List aM)(a:Kd):Prop:=∀V o B b c,aD W V->gy V W.heap.size (ws.map Value.string).toArray 9->o+a.n<=ws.length->(Nz a (ws.drop o)).2=c->c≠0->
 aJ 367 #[aj (some ⟨W.heap.size,o,none⟩) a.n b,aI B] V λe d=>e=ax (aF #[mv .zero,aP 453 (.pointer (some (eA aT aB aS c)))])/\aD V d
def TZ (aT aB aS:Addr)(W:ah)(ws:List aM):Prop:=∀V o a c,aD W V->gy V W.heap.size (ws.map Value.string).toArray 9->o+1<=ws.length->(Nz .turn (ws.drop o)).2=c->c≠0->
 aJ 357 #[aj (some ⟨W.heap.size,o,none⟩) 1 a] V λe b=>e=ax (aF #[mv .zero,aP 453 (.pointer (some (eA aT aB aS c)))])/\aD V b
theorem a1S {aT aB aS:Addr}{V:ah}(hE:E4 aT aB aS V){mk:Fr->Fr->Mv}{a b:aM}{w0 o B d c:Nat}(i:a.size<=1000000)(l:b.size<=1000000)(j:V.cell? (aH w0 o)=some (ak a))(m:V.cell? (aH w0 (o+1))=some (ak b))(h:(qN mk a b).2=c)(hc:c≠0):
  aJ 367 #[aj (some ⟨w0,o,none⟩) 2 d,aI B] V λe w'=>e=ax (aF #[mv .zero,aP 453 (.pointer (some (eA aT aB aS c)))])/\aD V w':=by
 unfold qN at h;by_cases g:FH a=0
 .rw[if_neg (by simp[g])] at h;by_cases k:FH b=0
  .grind
  .rw[if_pos k] at h;subst h;exact a6q w0 o d B a b (JZ a) _ V j m (λU f=>xk i g U (hE.below f ay)) (λU f=>Ml l k U (hE.below f ay))
 .rw[if_pos g] at h;subst h;exact Ws w0 o d B 2 a _ V aC j (λU f=>Ml i g U (hE.below f ay))
theorem Yy {aT aB aS:Addr}{W:ah}(h:E4 aT aB aS W){ws:List aM}(hs:∀a∈ws,a.size<=1000000){j:Kd}(p:j≠.turn):TW aT aB aS W ws j:=by
 intro V o B k c q f l d m;have hE:=h.below q ay;cases j with
 |turn=>exact(p rfl).elim
 |move=>
  obtain⟨a,b,r,g,e,i⟩:=Ac l;rw[g] at d;exact a1S hE (nV hs e) (nV hs i) (jm f e) (jm f i) d m
 |scale=>
  obtain⟨a,b,r,g,e,i⟩:=Ac l;rw[g] at d;exact a1S hE (nV hs e) (nV hs i) (jm f e) (jm f i) d m
 |skew=>
  obtain⟨a,r,g,e⟩:=drop_one l;rw[g] at d;change(AA Mv.skew a).2=c at d;unfold AA at d;by_cases n:FH a=0
  .grind
  .rw[if_pos n] at d;subst d;exact Ws W.heap.size o k B 1 a _ V aC (jm f e) (λU s=>Ml (nV hs e) n U (hE.below s ay))
theorem Yz {aT aB aS:Addr}{W:ah}(h:E4 aT aB aS W){ws:List aM}:TZ aT aB aS W ws:=by
 intro V o d c j k l b q;have hE:=h.below j ay;obtain⟨a,r,m,n⟩:=drop_one l;rw[m] at b;have p:=jm k n;change(FI a).2=c at b;unfold FI at b;by_cases e:a=⟨#[48]⟩
 .grind
 .rw[if_neg e] at b;by_cases f:a=⟨#[49]⟩
  .grind
  .rw[if_neg f] at b;by_cases g:a=⟨#[50]⟩
   .grind
   .rw[if_neg g] at b;by_cases i:a=⟨#[51]⟩
    .grind
    .rw[if_neg i] at b;subst b;exact a6p W.heap.size o d a aT V p hE.t e f g i
set_option maxRecDepth 20000
attribute [local go_sem] jl qy
theorem YA {f:Nat}{k:aM}{ws:List aM}{b R:List Mv}{c:Nat}(h:iD f (k::ws) b=(R,c))(e:1<=f):
  (vP k=none/\c=1)\/(∃a,vP k=some a/\ws.length<a.n/\c=1)\/(∃a,vP k=some a/\a.n<=ws.length/\(Nz a ws).2=c/\c≠0)\/
   (∃d a m,f=d+1/\vP k=some a/\a.n<=ws.length/\Nz a ws=(m,0)/\iD d (ws.drop a.n) (b++[m])=(R,c)):=by
 cases f with
 |zero=>omega
 |succ f=>
  unfold iD at h;grind
theorem a6r {k:aM}(h:vP k=none):k≠Oi/\k≠Fp/\k≠Fq/\k≠Oj:=by
 unfold vP at h;grind
theorem Mm (aT aB aS:Addr)(s:aM)(ws:List aM)(N:Nat)(R:List Mv)(c:Nat)(W:ah)(hE:E4 aT aB aS W)(hs:s.size<4294967281)(hne:s.toList.isEmpty=false)(hN:Lib.countB s ⟨#[32]⟩+1=N)(hw:Lib.splitB ⟨#[32]⟩ 0 (Lib.countB s ⟨#[32]⟩) s=ws)(c3:ws.length=N)(f1:N<=1000)
  (hR:iD N ws []=(R,c)) (KA:∀k C,vP k=some C->C≠.turn->P9 k C) (KT:∀k,vP k=some .turn->k=Fq) (RA:∀C,C≠.turn->a1l W ws C) (RT:a1m W ws) (WA:∀C,C≠.turn->TW aT aB aS W ws C) (WT:TZ aT aB aS W ws):
  aJ 262 #[ak s] W λe w'=>((c=0/\∃v,e=ax (aF #[v,aU])/\w'.ownsRow (W.heap.size+1) 165 12 v R.length (oG R))\/(c≠0/\e=ax (aF #[aj none 0 0,aP 453 (.pointer (some (eA aT aB aS c)))])))/\aD W w':=by
 have HS:=Bn s hs W;rw[hw,hN] at HS;clear hs;obtain⟨i0,hi,c4,c5,c6⟩:=info_parts a1b;go_enter func262,ntmps262;go_wp2_with(go_at_call 291;refine HS.mono ?_;rintro e w' ⟨rfl,rfl⟩)
 go_loopw [4,5] (λlv wv wr=>∃(j r f:Nat) (y:List Mv),j+r=N/\y.length<=j/\(∃a,wv=aj a r r/\(r≠0->a=some ⟨W.heap.size,j,none⟩))/\wr.ownsRow (W.heap.size+1) 165 12 lv y.length (oG y)/\gy wr W.heap.size (ws.map Value.string).toArray 9/\aD W wr/\r<=f/\iD f (ws.drop j) y=(R,c)) (λ_ wv _=>lenOf wv)
 case atStart=>exact⟨0,N,N,[],aa,aG,⟨_,rfl,λ_=>rfl⟩,gp _ _ _ _,gy.new W _ _,(aQ _ W).alloc ay _,Nat.le_refl _,hR⟩
 case round=>
  obtain⟨j,r,f,y,d7,f2,⟨ad,rfl,c7⟩,z,A,q,f3,S⟩:=hrel;cases r with
  |zero=>
   have hd:ws.drop j=[]:=List.drop_eq_nil_of_le aa;rw[hd] at S;have c8:y=R:=by cases f<;>exact congrArg Prod.fst S
   have d8:c=0:=by cases f<;>exact(congrArg Prod.snd S).symm
   clear S;subst c8 d8;go_wp2
   go_ret2
   exact⟨⟨_,rfl,z⟩,q⟩
  |succ r=>
   obtain rfl:=c7 aa;clear c7;obtain⟨k,hk,hd⟩:=drop_cons c3 d7;rw[hd] at S;have d9:=YA S aa;clear S hR;have c0:=jm A hk;clear hd;rcases d9 with⟨H,rfl⟩|⟨C,H,O,rfl⟩|⟨C,H,O,a9,hc⟩|⟨f',C,m,f4,H,O,a9,b0⟩
   .obtain⟨q1,q2,q3,q4⟩:=a6r H;have e0:=λV=>P7 k V q1 q2 q3 q4;clear q1 q2 q3 q4 KA RA RT WA WT;rcases Nat.eq_zero_or_pos r with rfl|e1
    all_goals try have c9:(1:Int)<=(r:Int):=aa
    all_goals
     go_wp2_with(go_at_call 324;refine(e0 _).mono ?_;rintro e l ⟨rfl,d⟩;have D:=q.trans (d.mono q.size));have x:=D.alloc D.size (ai #[ag 0,.nilFunc] 409);obtain⟨V,F⟩:∃V,l.alloc (ai #[ag 0,.nilFunc] 409)=V:=⟨_,rfl⟩;rw[F] at x⊢;clear F;have cT:=(hE.below x ay).t;clear d q A z c0 D;go_region;go_wp2
     go_ret2
     exact⟨.inr ⟨by first|decide|exact hc,rfl⟩,below_drewN x 1⟩
   .rw[kU] at O;by_cases ht:C=.turn
    .subst ht;have b1:=KT k H;subst b1;rw[show Kd.turn.n=1 from rfl] at O;have e2:r=0:=aa;subst e2;clear KA RA RT WA WT;go_wp2_with(go_at_call 324;refine(vL _).mono ?_;rintro e l ⟨rfl,d⟩;have D:=q.trans (d.mono q.size);have B1:=A.below d ay);have x:=D.alloc D.size (ai #[ag 1,.func (.func 357) #[] #[]] 409);obtain⟨V,F⟩:∃V,l.alloc (ai #[ag 1,.func (.func 357) #[] #[]] 409)=V:=⟨_,rfl⟩;rw[F] at x⊢;clear F;have cT:=(hE.below x ay).t;clear d q A z c0 D;go_region;go_wp2
     go_ret2
     exact⟨.inr ⟨by first|decide|exact hc,rfl⟩,below_drewN x 1⟩
    .have P:=KA k C H ht;unfold P9 at P;obtain⟨d0,d1⟩:=C.n_pos;generalize C.n=n at*;have b6:r<n:=aa;have b7:(r:Int)<(n:Int):=aa;clear KA RA RT WA WT;rcases Nat.eq_zero_or_pos r with rfl|e1
     all_goals try have c9:(1:Int)<=(r:Int):=aa
     all_goals
      go_wp2_with(go_at_call 324;refine(P _).mono ?_;rintro e l ⟨⟨B,hB,rfl,b8⟩,d⟩;have D:=q.trans (d.mono q.size);have B1:=A.below d ay);have x:=D.alloc D.size (ai #[ag n,.func (.func 367) #[] #[aI B]] 409);obtain⟨V,F⟩:∃V,l.alloc (ai #[ag n,.func (.func 367) #[] #[aI B]] 409)=V:=⟨_,rfl⟩;rw[F] at x⊢;clear F;have cT:=(hE.below x ay).t;clear d q A z c0 D;go_region;go_wp2
      go_ret2
      exact⟨.inr ⟨by first|decide|exact hc,rfl⟩,below_drewN x 1⟩
   .rw[kU] at O;by_cases ht:C=.turn
    .subst ht;have b1:=KT k H;subst b1;have d2:=WT;unfold TZ at d2;rw[show Kd.turn.n=1 from rfl] at O;have b6:1<=r:=aa;have b7:(1:Int)<=(r:Int):=aa;clear KA RA RT WA WT;go_wp2_with(go_at_call 324;refine(vL _).mono ?_;rintro e l ⟨rfl,d⟩;have D:=q.trans (d.mono q.size);have B1:=A.below d ay);have K2:=gy.new l #[ag 1,.func (.func 357) #[] #[]] 409;have x:=D.alloc D.size (ai #[ag 1,.func (.func 357) #[] #[]] 409);have Q:=B1.alloc (ai #[ag 1,.func (.func 357) #[] #[]] 409);obtain⟨V,F⟩:∃V,l.alloc (ai #[ag 1,.func (.func 357) #[] #[]] 409)=V:=⟨_,rfl⟩;have NC:l.heap.size<V.heap.size:=by rw[<- F];simp
     rw[F] at K2 x Q⊢;clear F D B1 d;have b9:=K2.lt;have L3:=x.alloc x.size (ai zA 165);have I:aD W V.drew:=below_drewN x 1;have J:aD W (V.alloc (ai zA 165)).drew:=below_drewN L3 1;have K:=Q.drew;have L:=(Q.alloc (ai zA 165)).drew;have HZ:∀u,Below (V.alloc (ai zA 165)).drew.heap.size (V.alloc (ai zA 165)).drew u->gy u V.heap.size zA 165:=λu h=>wU h;have k0:=K2.cell 0 _ rfl;have k1:=K2.cell 1 _ rfl;have b2:V.drew.cell? ⟨l.heap.size,0,none⟩=some (ag 1):=k0;have b3:V.drew.cell? ⟨l.heap.size,1,none⟩=some (.func (.func 357) #[] #[]):=k1;have b4:(V.alloc (ai zA 165)).drew.cell? ⟨l.heap.size,0,none⟩=some (ag 1):=aL _ k0;have b5:(V.alloc (ai zA 165)).drew.cell? ⟨l.heap.size,1,none⟩=some (.func (.func 357) #[] #[]):=aL _ k1;have nv:l.heap.size≠V.heap.size:=aa;have T:¬V.heap.size=l.heap.size:=aa;have U:j+1+1<=ws.length:=aa
     go_cut [8,9] from 14 to 56 (λp v wx=>v=aP 453 (.pointer (some (eA aT aB aS c)))/\(∃R,p=aI R)/\aD V wx)
     case first=>
      go_region_held3 (λw'=>w'.cell? ⟨l.heap.size,0,none⟩=some (ag 1)/\w'.cell? ⟨l.heap.size,1,none⟩=some (.func (.func 357) #[] #[])) (refine⟨?_,?_⟩<;>(repeat rw[bN _ _ _ _ T])<;>assumption) ((go_at_call 357;refine(d2 _ (j+1) _ c ?_ ?_ U a9 hc).mono ?_;(first|exact I|exact J);(first|exact K|exact L);rintro e w3 ⟨rfl,t⟩;dsimp only[Mv.zero,Fr.zero];have M:=t.size;have X:=LY t fC;obtain⟨j0,j1⟩:=X;have y0:=λo=>aL o j0;have y1:=λo=>aL o j1;have y4:=aL (ai zA 165) j0;have y5:=aL (ai zA 165) j1;(first|(have BZ:=HZ _ t;obtain⟨uT,JS,uU,JU,uV,JV,uX,JW,zi,O9,zl,Oa,zm,Ob,zo,Oc,zq,Od,zu,Oe,mq,vH,mD,vI⟩:=BZ.six)|skip)))
      .go_wp2_with fail
       go_meet
       exact⟨rfl,⟨_,rfl⟩,(vO t).alloc M _⟩
      .go_wp2_with fail
       go_meet
       have Y:aD V w3:=((aQ V.heap.size V).alloc ay (ai zA 165)).trans ((vO t).mono aG);exact⟨rfl,⟨_,rfl⟩,cZ (R:=V.heap.size) ay zL 0 Y⟩
     case rest=>
      obtain⟨rfl,⟨E,rfl⟩,Z⟩:=hcut;go_wp2_with fail
      go_ret2
      exact⟨.inr ⟨by first|decide|exact hc,rfl⟩,x.trans (Z.mono x.size)⟩
    .have P:=KA k C H ht;have d3:=WA C ht;unfold P9 at P;unfold TW at d3;obtain⟨d0,d1⟩:=C.n_pos;generalize C.n=n at*;have b6:n<=r:=aa;have b7:(n:Int)<=(r:Int):=aa;have e3:(0:Int)<=(n:Int):=aa;clear KA RA RT WA WT;go_wp2_with(go_at_call 324;refine(P _).mono ?_;rintro e l ⟨⟨B,hB,rfl,b8⟩,d⟩;have D:=q.trans (d.mono q.size);have B1:=A.below d ay);have K2:=gy.new l #[ag n,.func (.func 367) #[] #[aI B]] 409;have x:=D.alloc D.size (ai #[ag n,.func (.func 367) #[] #[aI B]] 409);have Q:=B1.alloc (ai #[ag n,.func (.func 367) #[] #[aI B]] 409);obtain⟨V,F⟩:∃V,l.alloc (ai #[ag n,.func (.func 367) #[] #[aI B]] 409)=V:=⟨_,rfl⟩;have NC:l.heap.size<V.heap.size:=by rw[<- F];simp
     rw[F] at K2 x Q⊢;clear F D B1 d;have b9:=K2.lt;have L3:=x.alloc x.size (ai zA 165);have I:aD W V.drew:=below_drewN x 1;have J:aD W (V.alloc (ai zA 165)).drew:=below_drewN L3 1;have K:=Q.drew;have L:=(Q.alloc (ai zA 165)).drew;have HZ:∀u,Below (V.alloc (ai zA 165)).drew.heap.size (V.alloc (ai zA 165)).drew u->gy u V.heap.size zA 165:=λu h=>wU h;have k0:=K2.cell 0 _ rfl;have k1:=K2.cell 1 _ rfl;have b2:V.drew.cell? ⟨l.heap.size,0,none⟩=some (ag n):=k0;have b3:V.drew.cell? ⟨l.heap.size,1,none⟩=some (.func (.func 367) #[] #[aI B]):=k1;have b4:(V.alloc (ai zA 165)).drew.cell? ⟨l.heap.size,0,none⟩=some (ag n):=aL _ k0;have b5:(V.alloc (ai zA 165)).drew.cell? ⟨l.heap.size,1,none⟩=some (.func (.func 367) #[] #[aI B]):=aL _ k1;have nv:l.heap.size≠V.heap.size:=aa;have T:¬V.heap.size=l.heap.size:=aa;have U:j+1+n<=ws.length:=aa
     go_cut [8,9] from 14 to 56 (λp v wx=>v=aP 453 (.pointer (some (eA aT aB aS c)))/\(∃R,p=aI R)/\aD V wx)
     case first=>
      go_region_held3 (λw'=>w'.cell? ⟨l.heap.size,0,none⟩=some (ag n)/\w'.cell? ⟨l.heap.size,1,none⟩=some (.func (.func 367) #[] #[aI B])) (refine⟨?_,?_⟩<;>(repeat rw[bN _ _ _ _ T])<;>assumption) ((go_at_call 367;refine(d3 _ (j+1) B _ c ?_ ?_ U a9 hc).mono ?_;(first|exact I|exact J);(first|exact K|exact L);rintro e w3 ⟨rfl,t⟩;dsimp only[Mv.zero,Fr.zero];have M:=t.size;have X:=LY t fC;obtain⟨j0,j1⟩:=X;have y0:=λo=>aL o j0;have y1:=λo=>aL o j1;have y4:=aL (ai zA 165) j0;have y5:=aL (ai zA 165) j1;(first|(have BZ:=HZ _ t;obtain⟨uT,JS,uU,JU,uV,JV,uX,JW,zi,O9,zl,Oa,zm,Ob,zo,Oc,zq,Od,zu,Oe,mq,vH,mD,vI⟩:=BZ.six)|skip)))
      .go_wp2_with fail
       go_meet
       exact⟨rfl,⟨_,rfl⟩,(vO t).alloc M _⟩
      .go_wp2_with fail
       go_meet
       have Y:aD V w3:=((aQ V.heap.size V).alloc ay (ai zA 165)).trans ((vO t).mono aG);exact⟨rfl,⟨_,rfl⟩,cZ (R:=V.heap.size) ay zL 0 Y⟩
     case rest=>
      obtain⟨rfl,⟨E,rfl⟩,Z⟩:=hcut;go_wp2_with fail
      go_ret2
      exact⟨.inr ⟨by first|decide|exact hc,rfl⟩,x.trans (Z.mono x.size)⟩
   .rw[kU] at O;by_cases ht:C=.turn
    .subst ht;have b1:=KT k H;subst b1;have d4:=RT;unfold a1m at d4;rw[show Kd.turn.n=1 from rfl] at O b0;have b6:1<=r:=aa;have b7:(1:Int)<=(r:Int):=aa;clear KA RA RT WA WT;go_wp2_with(go_at_call 324;refine(vL _).mono ?_;rintro e l ⟨rfl,d⟩;have D:=q.trans (d.mono q.size);have B1:=A.below d ay;have O1:=ownsRow_below z d);have K2:=gy.new l #[ag 1,.func (.func 357) #[] #[]] 409;have x:=D.alloc D.size (ai #[ag 1,.func (.func 357) #[] #[]] 409);have Q:=B1.alloc (ai #[ag 1,.func (.func 357) #[] #[]] 409);have O2:=O1.alloc (ai #[ag 1,.func (.func 357) #[] #[]] 409);have q1:=d.size;obtain⟨V,F⟩:∃V,l.alloc (ai #[ag 1,.func (.func 357) #[] #[]] 409)=V:=⟨_,rfl⟩;have NC:l.heap.size<V.heap.size:=by rw[<- F];simp
     rw[F] at K2 x Q O2⊢;clear F D B1 O1 d;have b9:=K2.lt;have c1:=a1k z;have a4:=Tn z;have L3:=x.alloc x.size (ai zA 165);have I:aD W V.drew:=below_drewN x 1;have J:aD W (V.alloc (ai zA 165)).drew:=below_drewN L3 1;have K:=Q.drew;have L:=(Q.alloc (ai zA 165)).drew;have HZ:∀u,Below (V.alloc (ai zA 165)).drew.heap.size (V.alloc (ai zA 165)).drew u->gy u V.heap.size zA 165:=λu h=>wU h;have k0:=K2.cell 0 _ rfl;have k1:=K2.cell 1 _ rfl;have b2:V.drew.cell? ⟨l.heap.size,0,none⟩=some (ag 1):=k0;have b3:V.drew.cell? ⟨l.heap.size,1,none⟩=some (.func (.func 357) #[] #[]):=k1;have b4:(V.alloc (ai zA 165)).drew.cell? ⟨l.heap.size,0,none⟩=some (ag 1):=aL _ k0;have b5:(V.alloc (ai zA 165)).drew.cell? ⟨l.heap.size,1,none⟩=some (.func (.func 357) #[] #[]):=aL _ k1;have nv:l.heap.size≠V.heap.size:=aa;have T:¬V.heap.size=l.heap.size:=aa;have U:j+1+1<=ws.length:=aa
     go_cut [8,9] from 14 to 56 (λp v wx=>v=aU/\∃R,p=aI R/\V.heap.size<=R/\(∀j u,(mL m)[j]? =some u->wx.cell? (aH R j)=some u)/\aD V wx)
     case first=>
      go_region_held3 (λw'=>w'.cell? ⟨l.heap.size,0,none⟩=some (ag 1)/\w'.cell? ⟨l.heap.size,1,none⟩=some (.func (.func 357) #[] #[])) (refine⟨?_,?_⟩<;>(repeat rw[bN _ _ _ _ T])<;>assumption) ((go_at_call 357;refine(d4 _ (j+1) _ m ?_ ?_ U a9).mono ?_;(first|exact I|exact J);(first|exact K|exact L);rintro e w3 ⟨rfl,t⟩;have M:=t.size;have X:=LY t fC;obtain⟨j0,j1⟩:=X;have y0:=λo=>aL o j0;have y1:=λo=>aL o j1;have y2:=aL (ai (mA m) 165) j0;have y3:=aL (ai (mA m) 165) j1;have y4:=aL (ai zA 165) j0;have y5:=aL (ai zA 165) j1;(first|(have BZ:=HZ _ t;obtain⟨uT,JS,uU,JU,uV,JV,uX,JW,zi,O9,zl,Oa,zm,Ob,zo,Oc,zq,Od,zu,Oe,mq,vH,mD,vI⟩:=BZ.six)|skip)))
      .go_wp2_with fail
       go_meet
       exact⟨rfl,w3.heap.size,rfl,M,VQ (cs:=(mL m)),(vO t).alloc M _⟩
      .go_wp2_with fail
       go_meet
       have Y:aD V w3:=((aQ V.heap.size V).alloc ay (ai zA 165)).trans ((vO t).mono aG);have a5:=LX (R:=V.heap.size) (mL m) 0 w3 (λi hi=>OV BZ i hi);simp only[fZ] at a5;exact⟨rfl,V.heap.size,rfl,Nat.le_refl _,a5,cZ (R:=V.heap.size) ay (mL m) 0 Y⟩
     case rest=>
      obtain⟨rfl,E,rfl,e4,b,Z⟩:=hcut;have KC:=K2.below Z ay;have kk:=KC.cell 0 _ rfl;have LC:=x.trans (Z.mono x.size);have BC:=Q.below Z ay;have OC:=((ownsRow_below O2 Z).alloc (ai (mA m) 165));have c2:(wc.alloc (ai (mA m) 165)).drew.ownsRow (W.heap.size+1) 165 12 u4 y.length (oG y):=OC;obtain⟨m0,m1,m2,m3,m4,m5,m6,m7,m8,m9,e5,e6⟩:=And.intro (b 0 _ rfl) (And.intro (b 1 _ rfl) (And.intro (b 2 _ rfl) (And.intro (b 3 _ rfl) (And.intro (b 4 _ rfl) (And.intro (b 5 _ rfl) (And.intro (b 6 _ rfl) (And.intro (b 7 _ rfl) (And.intro (b 8 _ rfl) (And.intro (b 9 _ rfl) (And.intro (b 10 _ rfl) (b 11 _ rfl)))))))))));have e7:=Z.size;clear b k0 k1 b2 b3 b4 b5 HZ I J L3 K L OC;have H0:=eO wc (ai (mA m) 165);go_wp2_with fail
      go_region_held3 (λw'=>w'.cell? (aH E 0)=some (ag m.a.n)/\w'.cell? (aH E 1)=some (ag m.a.d)/\w'.cell? (aH E 2)=some (ag m.b.n)/\w'.cell? (aH E 3)=some (ag m.b.d)/\w'.cell? (aH E 4)=some (ag m.c.n)/\w'.cell? (aH E 5)=some (ag m.c.d)/\w'.cell? (aH E 6)=some (ag m.d.n)/\w'.cell? (aH E 7)=some (ag m.d.d)/\w'.cell? (aH E 8)=some (ag m.e.n)/\w'.cell? (aH E 9)=some (ag m.e.d)/\w'.cell? (aH E 10)=some (ag m.f.n)/\w'.cell? (aH E 11)=some (ag m.f.d)/\w'.cell? ⟨l.heap.size,0,none⟩=some (ag 1)) (refine⟨?_,?_,?_,?_,?_,?_,?_,?_,?_,?_,?_,?_,?_⟩<;>first|assumption|exact aL _ fC|exact hA _ _ fC fJ) ((refine step_append_lies _ rfl (.tmp 49) (.tmp 51) 341 rfl (W.heap.size+1) 165 i0 (.agg zA) 12 96 underlying341 hi c4 c5 c6 rfl aC u4 y.length (oG y) rfl c2 ⟨wc.heap.size,0,none⟩ 1 1 (mL m) rfl rfl (World.news_of_block (w:=(wc.alloc (ai (mA m) 165)).drew) (cs:=(mA m)) H0) a94 aC (by unfold maxLen;omega) aa (by have:=LC.size;simp;omega) _ rfl ?_;intro g e8 w5 a6 a7 a5 U4;have a8:World.grownBy (wc.alloc (ai (mA m) 165)).drew w5 u4.ownBlock:=a7;have hA:∀p v,wc.cell? p=some v->(p.block=W.heap.size\/l.heap.size<=p.block)->w5.cell? p=some v:=(λp v h hp=>(a8.cell_far p (by have:=aR h;simp;omega) (λe=>by have:=c1 _ e.symm;have:=a4 _ e.symm;have:=q1;omega)).trans (aL (W:=wc) _ h))))
      go_wp2_with fail;rw[mP] at b0;refine⟨⟨j+1+1,r-1,f',y++[m],aa,aX,⟨_,rfl,λh=>by rw[if_neg aa]⟩,by rw[dJ,CV];exact a6,((BC.alloc (ai (mA m) 165)).drew).grown a8 (λe=>by have:=a4 _ e;omega),(below_drewN (LC.alloc LC.size (ai (mA m) 165)) 1).grown a8 (by have:=LC.size;simp;omega) (λk e=>by have:=a4 k e;omega),aa,b0⟩,by simp only[lenOf];omega⟩
    .have P:=KA k C H ht;have d6:=RA C ht;unfold P9 at P;unfold a1l at d6;obtain⟨d0,d1⟩:=C.n_pos;generalize C.n=n at*;have b6:n<=r:=aa;have b7:(n:Int)<=(r:Int):=aa;have e3:(0:Int)<=(n:Int):=aa;clear KA RA RT WA WT;go_wp2_with(go_at_call 324;refine(P _).mono ?_;rintro e l ⟨⟨B,hB,rfl,b8⟩,d⟩;have D:=q.trans (d.mono q.size);have B1:=A.below d ay;have O1:=ownsRow_below z d);have C2:=aL (ai #[ag n,.func (.func 367) #[] #[aI B]] 409) b8;have K2:=gy.new l #[ag n,.func (.func 367) #[] #[aI B]] 409;have x:=D.alloc D.size (ai #[ag n,.func (.func 367) #[] #[aI B]] 409);have Q:=B1.alloc (ai #[ag n,.func (.func 367) #[] #[aI B]] 409);have O2:=O1.alloc (ai #[ag n,.func (.func 367) #[] #[aI B]] 409);have q1:=d.size;obtain⟨V,F⟩:∃V,l.alloc (ai #[ag n,.func (.func 367) #[] #[aI B]] 409)=V:=⟨_,rfl⟩;have NC:l.heap.size<V.heap.size:=by rw[<- F];simp
     rw[F] at K2 x Q O2 C2⊢;clear F D B1 O1 d b8;have b9:=K2.lt;have c1:=a1k z;have a4:=Tn z;have L3:=x.alloc x.size (ai zA 165);have I:aD W V.drew:=below_drewN x 1;have J:aD W (V.alloc (ai zA 165)).drew:=below_drewN L3 1;have K:=Q.drew;have L:=(Q.alloc (ai zA 165)).drew;have e9:V.drew.cell? (aH B 0)=some (.func (.func C.f) #[] #[]):=C2;have f0:(V.alloc (ai zA 165)).drew.cell? (aH B 0)=some (.func (.func C.f) #[] #[]):=aL _ C2;have HZ:∀u,Below (V.alloc (ai zA 165)).drew.heap.size (V.alloc (ai zA 165)).drew u->gy u V.heap.size zA 165:=λu h=>wU h;have k0:=K2.cell 0 _ rfl;have k1:=K2.cell 1 _ rfl;have b2:V.drew.cell? ⟨l.heap.size,0,none⟩=some (ag n):=k0;have b3:V.drew.cell? ⟨l.heap.size,1,none⟩=some (.func (.func 367) #[] #[aI B]):=k1;have b4:(V.alloc (ai zA 165)).drew.cell? ⟨l.heap.size,0,none⟩=some (ag n):=aL _ k0;have b5:(V.alloc (ai zA 165)).drew.cell? ⟨l.heap.size,1,none⟩=some (.func (.func 367) #[] #[aI B]):=aL _ k1;have nv:l.heap.size≠V.heap.size:=aa;have T:¬V.heap.size=l.heap.size:=aa;have U:j+1+n<=ws.length:=aa
     go_cut [8,9] from 14 to 56 (λp v wx=>v=aU/\∃R,p=aI R/\V.heap.size<=R/\(∀j u,(mL m)[j]? =some u->wx.cell? (aH R j)=some u)/\aD V wx)
     case first=>
      go_region_held3 (λw'=>w'.cell? ⟨l.heap.size,0,none⟩=some (ag n)/\w'.cell? ⟨l.heap.size,1,none⟩=some (.func (.func 367) #[] #[aI B])) (refine⟨?_,?_⟩<;>(repeat rw[bN _ _ _ _ T])<;>assumption) ((go_at_call 367;refine(d6 _ (j+1) B _ m ?_ ?_ ?_ U a9).mono ?_;(first|exact I|exact J);(first|exact K|exact L);(first|exact e9|exact f0);rintro e w3 ⟨rfl,t⟩;have M:=t.size;have X:=LY t fC;obtain⟨j0,j1⟩:=X;have y0:=λo=>aL o j0;have y1:=λo=>aL o j1;have y2:=aL (ai (mA m) 165) j0;have y3:=aL (ai (mA m) 165) j1;have y4:=aL (ai zA 165) j0;have y5:=aL (ai zA 165) j1;(first|(have BZ:=HZ _ t;obtain⟨uT,JS,uU,JU,uV,JV,uX,JW,zi,O9,zl,Oa,zm,Ob,zo,Oc,zq,Od,zu,Oe,mq,vH,mD,vI⟩:=BZ.six)|skip)))
      .go_wp2_with fail
       go_meet
       exact⟨rfl,w3.heap.size,rfl,M,VQ (cs:=(mL m)),(vO t).alloc M _⟩
      .go_wp2_with fail
       go_meet
       have Y:aD V w3:=((aQ V.heap.size V).alloc ay (ai zA 165)).trans ((vO t).mono aG);have a5:=LX (R:=V.heap.size) (mL m) 0 w3 (λi hi=>OV BZ i hi);simp only[fZ] at a5;exact⟨rfl,V.heap.size,rfl,Nat.le_refl _,a5,cZ (R:=V.heap.size) ay (mL m) 0 Y⟩
     case rest=>
      obtain⟨rfl,E,rfl,e4,b,Z⟩:=hcut;have KC:=K2.below Z ay;have kk:=KC.cell 0 _ rfl;have LC:=x.trans (Z.mono x.size);have BC:=Q.below Z ay;have OC:=((ownsRow_below O2 Z).alloc (ai (mA m) 165));have c2:(wc.alloc (ai (mA m) 165)).drew.ownsRow (W.heap.size+1) 165 12 u4 y.length (oG y):=OC;obtain⟨m0,m1,m2,m3,m4,m5,m6,m7,m8,m9,e5,e6⟩:=And.intro (b 0 _ rfl) (And.intro (b 1 _ rfl) (And.intro (b 2 _ rfl) (And.intro (b 3 _ rfl) (And.intro (b 4 _ rfl) (And.intro (b 5 _ rfl) (And.intro (b 6 _ rfl) (And.intro (b 7 _ rfl) (And.intro (b 8 _ rfl) (And.intro (b 9 _ rfl) (And.intro (b 10 _ rfl) (b 11 _ rfl)))))))))));have e7:=Z.size;clear b k0 k1 b2 b3 b4 b5 HZ I J L3 K L OC;have H0:=eO wc (ai (mA m) 165);go_wp2_with fail
      go_region_held3 (λw'=>w'.cell? (aH E 0)=some (ag m.a.n)/\w'.cell? (aH E 1)=some (ag m.a.d)/\w'.cell? (aH E 2)=some (ag m.b.n)/\w'.cell? (aH E 3)=some (ag m.b.d)/\w'.cell? (aH E 4)=some (ag m.c.n)/\w'.cell? (aH E 5)=some (ag m.c.d)/\w'.cell? (aH E 6)=some (ag m.d.n)/\w'.cell? (aH E 7)=some (ag m.d.d)/\w'.cell? (aH E 8)=some (ag m.e.n)/\w'.cell? (aH E 9)=some (ag m.e.d)/\w'.cell? (aH E 10)=some (ag m.f.n)/\w'.cell? (aH E 11)=some (ag m.f.d)/\w'.cell? ⟨l.heap.size,0,none⟩=some (ag n)) (refine⟨?_,?_,?_,?_,?_,?_,?_,?_,?_,?_,?_,?_,?_⟩<;>first|assumption|exact aL _ fC|exact hA _ _ fC fJ) ((refine step_append_lies _ rfl (.tmp 49) (.tmp 51) 341 rfl (W.heap.size+1) 165 i0 (.agg zA) 12 96 underlying341 hi c4 c5 c6 rfl aC u4 y.length (oG y) rfl c2 ⟨wc.heap.size,0,none⟩ 1 1 (mL m) rfl rfl (World.news_of_block (w:=(wc.alloc (ai (mA m) 165)).drew) (cs:=(mA m)) H0) a94 aC (by unfold maxLen;omega) aa (by have:=LC.size;simp;omega) _ rfl ?_;intro g e8 w5 a6 a7 a5 U4;have a8:World.grownBy (wc.alloc (ai (mA m) 165)).drew w5 u4.ownBlock:=a7;have hA:∀p v,wc.cell? p=some v->(p.block=W.heap.size\/l.heap.size<=p.block)->w5.cell? p=some v:=(λp v h hp=>(a8.cell_far p (by have:=aR h;simp;omega) (λe=>by have:=c1 _ e.symm;have:=a4 _ e.symm;have:=q1;omega)).trans (aL (W:=wc) _ h))))
      go_wp2_with fail;rw[mP] at b0;refine⟨⟨j+1+n,r-n,f',y++[m],aa,aX,⟨_,rfl,λh=>by rw[if_neg aa]⟩,by rw[dJ,CV];exact a6,((BC.alloc (ai (mA m) 165)).drew).grown a8 (λe=>by have:=a4 _ e;omega),(below_drewN (LC.alloc LC.size (ai (mA m) 165)) 1).grown a8 (by have:=LC.size;simp;omega) (λk e=>by have:=a4 k e;omega),aa,b0⟩,by simp only[lenOf];omega⟩
end
open Go.RowKit
theorem Mo {a β:Type}{p:a×β}{b:β}(h:p.2=b):p=(p.1,b):=by cases p;cases h;rfl
theorem kE (m a:Mv)(l:List Mv):mW m (a::l)=if(thenS m a).2=0 then mW (thenS m a).1 l else(.zero,2):=rfl
theorem YB (p q:List Mv)(m:Mv)(h:(mW m (p++q)).2=0):(mW m p).2=0:=by
 induction p generalizing m with
 |nil=>rfl
 |cons a p b=>
  rw[fV,kE] at h;rw[kE];grind
theorem Gn (l:List Mv)(m n:Mv)(h:(mW m l).2=0):mW m (l++[n])=if(thenS (mW m l).1 n).2=0 then((thenS (mW m l).1 n).1,0) else(.zero,2):=by
 induction l generalizing m with
 |nil=>exact kE m n []
 |cons a l b=>
  rw[fV,kE,kE];rw[kE] at h;grind
theorem Gp (l:List Mv)(m:Mv)(b:m.ok)(c:∀n∈l,n.ok)(h:(mW m l).2=0):(mW m l).1.ok:=by
 induction l generalizing m with
 |nil=>exact b
 |cons a l e=>
  rw[kE] at h⊢;by_cases d:(thenS m a).2=0
  .rw[if_pos d] at h⊢;exact e _ ((Be b (c a aG)).2 d).1 (λn f=>c n (by simp[f])) h
  .grind
theorem Kk (l:List Mv)(m:Mv):(mW m l).2=0\/mW m l=(.zero,2):=by
 induction l generalizing m with
 |nil=>exact .inl rfl
 |cons a l b=>
  rw[kE];grind
theorem a1T (R:List Mv):(dw R.length).map (λj=>R.getD j .one)=R.reverse:=by
 apply List.ext_getElem?;intro i;unfold dw;grind
theorem Kl:∀(f:Nat) (ws:List aM) (a:List Mv),(iD f ws a).2≠0->(iD f ws a).1=[]
 |_,[],a,h=>by simp[iD] at h
 |0,_::_,_,_=>rfl
 |f+1,k::ws,a,h=>by
  unfold iD at h⊢;cases d:vP k with
  |none=>rfl
  |some e=>
   rw[d] at h;simp only at h⊢;split at h
   .rename_i b;rw[if_pos b]
   .rename_i b;rw[if_neg b];split at h
    .rename_i c;rw[if_pos c];exact Kl f _ _ h
    .rename_i c;rw[if_neg c]
theorem Km:∀(f:Nat) (ws:List aM) (a:List Mv),(iD f ws a).2=0->a.length<=(iD f ws a).1.length/\(iD f ws a).1.length<=a.length+ws.length/\(ws≠[]->a.length<(iD f ws a).1.length)
 |_,[],a,_=>by simp[iD]
 |0,_::_,_,h=>by simp[iD] at h
 |f+1,k::ws,a,h=>by
  unfold iD at h⊢;cases c:vP k with
  |none=>rw[c] at h;simp at h
  |some e=>
   rw[c] at h;simp only at h⊢;split at h
   .simp at h
   .rename_i d;rw[if_neg d];split at h
    .rename_i b;rw[if_pos b];obtain⟨g,i,_⟩:=Km f _ _ h;grind
    .rename_i b;exact(b h).elim
theorem Gq:∀(k:Nat) (s:aM),∀a∈Lib.splitB ⟨#[32]⟩ 0 k s,a.size<=s.size
 |0,s,a,h=>by rw[Lib.splitB_zero] at h;simp at h;subst h;exact Nat.le_refl _
 |k+1,s,a,h=>by
  unfold Lib.splitB at h;split at h
  .grind
  .rcases gD.1 h with rfl|h
   .rw[ByteArray.size_extract];omega
   .have:=Gq k _ a h;rw[ByteArray.size_extract] at this;omega
def er0 (aT aB aS:Addr)(c:Nat):au:=if c=0 then aU else aP 453 (.pointer (some (eA aT aB aS c)))
theorem Gr (W:ah):aJ 262 #[ak ⟨#[]⟩] W λe w'=>e=ax (aF #[aj none 0 0,aU])/\aD W w':=by
 go_enter func262,ntmps262;go_wp2
 go_ret2
 exact⟨rfl,aQ _ _⟩
attribute [local irreducible] thenS in
theorem a1U {aT aB aS:Addr}(s:aM)(hs:s.size<=900)(W:ah)(hE:E4 aT aB aS W):
    aJ 194 #[ak s] W λe w'=>e=ax (aF #[mv (lq s).1,er0 aT aB aS (lq s).2])/\aD W w':=by
  by_cases I:s.size=0
  . have J:s=⟨#[]⟩:=ext_list (lS.1 (by rw[lX];exact I))
    subst J;have:=a1f ⟨#[]⟩ W (λV _=>Gr V);exact callsIn_wide.1 this
  . have K:s.toList.isEmpty=false:=by
      rw[gz,List.isEmpty_eq_false_iff];intro e;exact I (by rw[<- lX,e];rfl)
    have f:(words s).length=Lib.countB s ⟨#[32]⟩+1:=Lib.splitB_all ⟨#[32]⟩ aC 0 _ s rfl;have Y:=Lib.countB_le ⟨#[32]⟩ aC s.size s ay;have A:∀a∈words s,a.size<=1000000:=λa Z=>by have:=Gq _ s a Z;omega
    have L:qx s=iD (words s).length (words s) []:=by unfold qx;rw[if_neg I]
    have S:=λV (b:aD W V) R c m=>Mm aT aB aS s (words s) (words s).length R c V (hE.below b ay) aa K f.symm rfl rfl aa m (λk T l o=>a1N l o) (λk h=>a1O h) (λT h=>a1Q (hE.below b ay) A h) a1R (λT h=>Yy (hE.below b ay) A h) (Yz (hE.below b ay));by_cases B:(qx s).2=0
    . have m:iD (words s).length (words s) []=((qx s).1,0):=by grind
      obtain⟨_,M,U⟩:=Km (words s).length (words s) [] (by rw[m]);have C:=FJ (words s).length (words s) [] aG (by rw[m]);rw[m] at M U C;have N:=U (λe=>by rw[e] at f;simp at f);simp only[iO] at M N;obtain⟨R,D⟩:∃R,(qx s).1=R:=⟨_,rfl⟩;rw[D] at m M N C;have r:∀x,(R.getD x .one).ok:=λx=>by
        by_cases hx:x<R.length
        . grind
        . rw[show R.getD x .one=.one by simp[List.getD,ES (show R.length<=x by omega)]];exact FE
      have E:∀pre:List Nat,∀n∈pre.map (λj=>R.getD j .one),n.ok:=by grind
      have:=a1d aB s (λj=>R.getD j .one) R.length (λpre=>(mW .one (pre.map (λj=>R.getD j .one))).1) (λpre=>(mW .one (pre.map (λj=>R.getD j .one))).2=0) rfl
        (λp q h=>by rw[iG] at h;exact YB _ _ _ h) W N aa rfl
        (λV b=>(S V b R 0 m).mono λe w' ⟨h,t⟩=>by
          obtain⟨-,v,d,w⟩|⟨h, -⟩:=h
          rotate_left
          . omega
          obtain⟨n,hn⟩:∃n,R.length=n+1:=⟨R.length-1,aa⟩;rw[hn] at w⊢;obtain⟨g,O,rfl,_,z,_,_,h6⟩:=vN w;exact⟨⟨g,O,d,z,λj hj i u X=>by
            have F:j<R.length:=aa;rw[show R.getD j .one=R[j] by simp[List.getD,F]] at X;exact h6 _ u (Gl R j R[j] (by simp[F]) i u X)⟩,t⟩)
        (λpre x l o V b=>by
          rw[iG,List.map_singleton] at o⊢;have H:=Gp _ _ FE (E pre) l;rw[Gn _ _ _ l] at o⊢;by_cases z:(thenS (mW .one (pre.map (λj=>R.getD j .one))).1 (R.getD x .one)).2=0
          . rw[if_pos z]
            exact VK (qF H) (qF (r x)) (OZ H (r x) (Mo z)) V (hE.below b ay).e3
          . grind)
        (λpre x l o V b=>by
          rw[iG,List.map_singleton,Gn _ _ _ l] at o;have H:=Gp _ _ FE (E pre) l;by_cases z:(thenS (mW .one (pre.map (λj=>R.getD j .one))).1 (R.getD x .one)).2=0
          . grind
          . rw[if_neg z] at o
            refine(VM (qF H) (qF (r x)) (λy e=>z (by rw[(P6 e).2.2])) V (hE.below b ay).e3).mono λe w' ⟨⟨v,d,P⟩,t⟩=>?_;unfold uO at P;rw[if_neg (λe=>e (tZ H)),if_neg (λe=>e (tZ (r x))),if_neg z] at P;obtain⟨_,rfl⟩:=P;exact⟨d,t⟩)
      have Q:lq s=mW .one R.reverse:=by unfold lq;rw[if_pos B,D]
      refine(callsIn_wide.1 this).mono λe w' ⟨d,t⟩=>⟨?_,t⟩;rw[Q];rw[a1T] at d;rcases d with⟨l,d⟩|⟨l,d⟩
      . rw[d,l];rfl
      . have o:=(Kk R.reverse .one).resolve_left l
        rw[d,o];rfl
    . have m:iD (words s).length (words s) []=([],(qx s).2):=by
        rw[<- L];exact Prod.ext (by rw[L];exact Kl _ _ _ (by rw[<- L];exact B)) rfl
      have:=OY s (eA aT aB aS (qx s).2) W (λV b=>(S V b [] _ m).mono λe w' ⟨h,t⟩=>⟨(h.resolve_left λh=>B h.1).2,t⟩);have Q:lq s=(.zero,(qx s).2):=by unfold lq;rw[if_neg B]
      refine(callsIn_wide.1 this).mono λe w' ⟨d,t⟩=>⟨?_,t⟩;rw[d,Q,er0,if_neg B]

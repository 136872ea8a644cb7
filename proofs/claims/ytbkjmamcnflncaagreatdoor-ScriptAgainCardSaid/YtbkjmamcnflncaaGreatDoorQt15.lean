import Derived.Test.YtbkjmamcnflncaaGreatDoorQt14
namespace Go.Proofs.YtbkjmamcnflncaaGreatDoor
open Go.Proofs.Tryz
set_option maxHeartbeats 32000000
variable{k a:aO}{ws:List aO}{aT aB aS:Addr}{W:ai}
section
open Go.RowKit
theorem afS (b o l B:Nat)(m:aO)(d:Fr)(r:Mv)(W:ai)(w:W.cell? (aJ B 0)=some (.func (.func 358) #[] #[]))(z:W.cell? (aJ b o)=some (au m))
  (A:∀V,aD W V->aL 319 #[au m] V λe w'=>e=ay (aH #[.agg #[ag d.n,ag d.d],aY])/\aD V w')
  (n:∀V g c,aD W V->V.cell? (aJ g 0)=some (ag d.n)->V.cell? (aJ g 1)=some (ag d.d)->aL 358 #[aj (some ⟨g,0,none⟩) 1 c] V λe w'=>e=ay (mv r)/\aD V w'):
  aL 367 #[aj (some ⟨b,o,none⟩) 1 l,aK B] W λe w'=>e=ay (aH #[mv r,aY])/\aD W w':=by
 have x:=(aW W.heap.size W).alloc az (ak zA 165);have C:=gM.new W zA 165;have g1:=λo=>aN o z;obtain⟨D,E,q,s,t⟩:=info_parts Gn;go_enter func367,ntmps367;go_wp2;refine wp_loop_rounds 2 ?_;rw[rounds_succ];go_wp2_with(first|(at_builtin;refine wpList_append_own_at _ rfl _ _ 402 rfl (W.heap.size+1) 163 D (.agg #[ag 0,ag 0]) 2 16 underlying402 E q s t rfl aC (aj none 0 0) 0 [] rfl F ⟨y.heap.size+1,0,none⟩ 1 1 [ag d.n,ag d.d] rfl rfl (MN aI) a6J (by unfold maxLen;omega) aa bq ?_;intro v1 V1 f a _ H;have u:=((I.alloc aa _).alloc bq _).grown a bq (λk e=>by simp[Value.ownBlock] at e);have J:=((K.alloc _).alloc _).grown a (by simp[Value.ownBlock]);have L:=a.size;simp only[dV] at L;obtain⟨g,M,rfl,N,O,P,Q,j⟩:=wL f;have gB:=(u.cell (p:=⟨B,0,none⟩) (aX w)).trans w)|(go_at_call_of 319 m;refine(A _ x).mono ?_;rintro e y ⟨rfl,h⟩;have S:=h.size;simp only[dV] at S;have I:=(x.trans (h.mono aI));have K:=C.below h az;have F:((y.alloc (ak #[ag d.n,ag d.d] 163)).alloc (ak #[ag d.n,ag d.d] 163)).ownsRow (W.heap.size+1) 163 2 (aj none 0 0) 0 []:=gp _ _ _ _));rw[rounds_succ];go_wp2_with((go_at_call 358;refine(n _ g M u (j 0 _ rfl) (j 1 _ rfl)).mono ?_;rintro e w5 ⟨rfl,i⟩;have T:=i.size;have U:=J.below i az;obtain⟨X,KQ,Y,KS,Z,KZ,vU,L8,zT,OU,zV,OV,zW,OX,zX,OY,zY,OZ,zZ,P6,mQ,wG,mV,wH⟩:=U.six));refine bg (v:=aH #[mv r,aY]) (by simp[results,results367,go_sem,X,Y,Z,vU,zT,zV,zW,zX,zY,zZ,mQ,mV]) rfl ⟨rfl,?_⟩;exact dB (R:=W.heap.size) az (mL r) 0 (u.trans (i.mono aa))
theorem a2B {a:Kd}(h:wN k=some a)(f:a≠.turn):Qd k a:=by
 unfold wN at h;by_cases b:k=Pb
 .rw[aR b] at h;cases h;subst b;exact Pe
 .rw[aG b] at h;by_cases c:k=Gf
  .rw[aR c] at h;cases h;subst c;exact MH
  .rw[aG c] at h;by_cases e:k=Gg
   .grind
   .rw[aG e] at h;by_cases d:k=Pd
    .rw[aR d] at h;cases h;subst d;exact Pf
    .grind
theorem a2C (h:wN k=some .turn):k=Gg:=by
 unfold wN at h;grind
theorem QF {mk:Fr->Fr->Mv}{b:aO}{m:Mv}(h:rO mk a b=(m,0)):Gr a=0/\Gr b=0/\m=mk (Lb a) (Lb b):=by
 unfold rO at h;grind
theorem a2D {mk:Fr->Mv}{m:Mv}(h:BJ mk a=(m,0)):Gr a=0/\m=mk (Lb a):=by
 unfold BJ at h;grind
theorem Bc {o:Nat}(h:o+2<=ws.length):∃a b r,ws.drop o=a::b::r/\ws[o]? =some a/\ws[o+1]? =some b:=by
 have c:o<ws.length:=aa;have d:o+1<ws.length:=aa;exact⟨ws[o],ws[o+1],ws.drop (o+2),by rw[wz c,wz d],by simp[c],by simp[d]⟩
theorem drop_one {o:Nat}(h:o+1<=ws.length):∃a r,ws.drop o=a::r/\ws[o]? =some a:=by
 have b:o<ws.length:=aa;exact⟨ws[o],ws.drop (o+1),by rw[wz b],by simp[b]⟩
theorem xS (hs:a.size<=1000000)(b:Gr a=0)(V:ai)(h:E4 aT aB aS V):
  aL 319 #[au a] V λe w'=>e=ay (aH #[.agg #[ag (Lb a).n,ag (Lb a).d],aY])/\aD V w':=by
 have:=xK aT aB aS aB a V h.e3 h.t aa;rw[show(rd a.data.toList).c=0 from b] at this;exact this
theorem oN (hs:∀a∈ws,a.size<=1000000){o:Nat}{a:aO}(h:ws[o]? =some a):a.size<=1000000:=hs a (ic h)
theorem a2E (h:E4 aT aB aS W){ws:List aO}(hs:∀a∈ws,a.size<=1000000){s:Kd}(y:s≠.turn):a1Z W ws s:=by
 intro V o B f m z j t u i;have hE:=h.below z az;cases s with
 |turn=>exact(y rfl).elim
 |move=>
  obtain⟨a,b,r,k,e,l⟩:=Bc u;rw[k] at i;obtain⟨n,v,rfl⟩:=QF i;exact afi _ (tH _ _ func355 aA aA) W.heap.size o f B a b (Lb a) (Lb b) _ V t (jB j e) (jB j l) (λU d=>xS (oN hs e) n U (hE.below d az)) (λU d=>xS (oN hs l) v U (hE.below d az))
   (λU g c d p q w x=>YJ g c (Lb a) (Lb b) U p q w x)
 |scale=>
  obtain⟨a,b,r,k,e,l⟩:=Bc u;rw[k] at i;obtain⟨n,v,rfl⟩:=QF i;exact afi _ (tH _ _ func356 aA aA) W.heap.size o f B a b (Lb a) (Lb b) _ V t (jB j e) (jB j l) (λU d=>xS (oN hs e) n U (hE.below d az)) (λU d=>xS (oN hs l) v U (hE.below d az))
   (λU g c d p q w x=>YK g c (Lb a) (Lb b) U p q w x)
 |skew=>
  obtain⟨a,r,k,e⟩:=drop_one u;rw[k] at i;obtain⟨n,rfl⟩:=a2D i;exact afS W.heap.size o f B a (Lb a) _ V t (jB j e) (λU d=>xS (oN hs e) n U (hE.below d az))
   (λU g c d p q=>a1X g c (Lb a) U p q)
theorem a2F :a2a W ws:=by
 intro V o c m n i j b;obtain⟨a,r,k,l⟩:=drop_one j;rw[k] at b;have d:=jB i l;change Gs a=(m,0) at b;unfold Gs at b;by_cases e:a=⟨#[48]⟩
 .rw[aR e] at b;cases b;subst e;exact Ar W.heap.size o c V _ _ _ (.inl ⟨rfl,rfl,rfl⟩) d
 .rw[aG e] at b;by_cases f:a=⟨#[49]⟩
  .rw[aR f] at b;cases b;subst f;exact Ar W.heap.size o c V _ _ _ (.inr (.inl ⟨rfl,rfl,rfl⟩)) d
  .rw[aG f] at b;by_cases g:a=⟨#[50]⟩
   .rw[aR g] at b;cases b;subst g;exact Ar W.heap.size o c V _ _ _ (.inr (.inr (.inl ⟨rfl,rfl,rfl⟩))) d
   .rw[aG g] at b;by_cases h:a=⟨#[51]⟩
    .rw[aR h] at b;cases b;subst h;exact Ar W.heap.size o c V _ _ _ (.inr (.inr (.inr ⟨rfl,rfl,rfl⟩))) d
    .grind
theorem Hl:∀(R:List Mv) (j:Nat) (m:Mv),R[j]? =some m->∀i u,(zu m)[i]? =some u->(pJ R)[j*12+i]? =some u
 |[],_,_,h,_,_,_=>by cases h
 |x::R,0,m,h,i,u,a=>by
  simp at h;subst h;have b:i<(zu x).length:=by grind
  show(zu x++pJ R)[0*12+i]? =some u;grind
 |x::R,j+1,m,h,i,u,a=>by
  have:=Hl R j m (by simpa using h) i u a;show(zu x++pJ R)[(j+1)*12+i]? =some u;rw[pI bq];rw[show(j+1)*12+i-(zu x).length=j*12+i by simp;omega];exact this
theorem a7h (g o c:Nat)(a:aO)(aT:Addr)(W:ai)(d:W.cell? (aJ g o)=some (au a))(b:W.cell? (aJ 1 0)=some (aU 453 (.pointer (some aT))))
  (f:a≠⟨#[48]⟩) (h:a≠⟨#[49]⟩) (i:a≠⟨#[50]⟩) (j:a≠⟨#[51]⟩):
  aL 357 #[aj (some ⟨g,o,none⟩) 1 c] W λe w'=>e=ay (aH #[mv .zero,aU 453 (.pointer (some aT))])/\aD W w':=by
 have n:=wO (l:=[48]) f;have q:=wO (l:=[49]) h;have r:=wO (l:=[50]) i;have s:=wO (l:=[51]) j;have t:=λo=>aN o d;clear f h i j;go_enter func357,ntmps357;go_wp2;have hF:∃U,W.alloc (ak zA 165)=U/\gM U W.heap.size zA 165/\aD W U:=⟨_,rfl,gM.new W _ _,(aW _ W).alloc az _⟩;obtain⟨U,k,u,m⟩:=hF;rw[k];clear k t d n q r s;have K:=(m.cell (p:=⟨1,0,none⟩) (aX b)).trans b;have w:=aX b;simp only at w;obtain⟨x,L,y,M,z,N,A,O,B,P,C,Q,D,S,E,T,F,V,H,X,I,Y,J,Z⟩:=u.six;go_region;go_wp2;refine bg (v:=aH #[mv .zero,aU 453 (.pointer (some aT))]) (by simp[results,results357,go_sem,Mv.zero,Fr.zero,x,y,z,A,B,C,D,E,F,H,I,J]) rfl ⟨rfl,?_⟩;exact below_drewN (dB (R:=W.heap.size) az zL 0 m) 1
theorem Xl (b o d B n:Nat)(f:aO)(a:Addr)(W:ai)(D:1<=n)(i:W.cell? (aJ b o)=some (au f))
  (j:∀V,aD W V->aL 319 #[au f] V λe w'=>e=ay (aH #[.agg #[ag 0,ag 0],aU 453 (.pointer (some a))])/\aD V w'):
  aL 367 #[aj (some ⟨b,o,none⟩) n d,aK B] W λe w'=>e=ay (aH #[mv .zero,aU 453 (.pointer (some a))])/\aD W w':=by
 have g:=(aW W.heap.size W).alloc az (ak zA 165);have k:=gM.new W zA 165;have E:=λo=>aN o i;go_enter func367,ntmps367;go_wp2;refine wp_loop_rounds 1 ?_;rw[rounds_succ];go_wp2_with((go_at_call_of 319 f;refine(j _ g).mono ?_;rintro e F ⟨rfl,c⟩;have l:=c.size;simp only[dV] at l;have h:=(g.trans (c.mono aI));have m:=k.below c az;obtain⟨p,H,q,I,r,J,s,K,t,L,u,M,w,N,x,O,y,P,z,Q,A,S,C,T⟩:=m.a1B));refine bg (v:=aH #[mv .zero,aU 453 (.pointer (some a))]) (by simp[results,results367,go_sem,Mv.zero,Fr.zero,p,q,r,s,t,u,w,x,y,z,A,C]) rfl ⟨rfl,?_⟩;exact dB (R:=W.heap.size) az zL 0 (h.alloc h.size _)
theorem a7i (b o h B:Nat)(i j:aO)(d:Fr)(a:Addr)(W:ai)(x:W.cell? (aJ b o)=some (au i))(s:W.cell? (aJ b (o+1))=some (au j))
  (y:∀V,aD W V->aL 319 #[au i] V λe w'=>e=ay (aH #[.agg #[ag d.n,ag d.d],aY])/\aD V w')
  (z:∀V,aD W V->aL 319 #[au j] V λe w'=>e=ay (aH #[.agg #[ag 0,ag 0],aU 453 (.pointer (some a))])/\aD V w'):
  aL 367 #[aj (some ⟨b,o,none⟩) 2 h,aK B] W λe w'=>e=ay (aH #[mv .zero,aU 453 (.pointer (some a))])/\aD W w':=by
 have t:=(aW W.heap.size W).alloc az (ak zA 165);have A:=gM.new W zA 165;have g1:=λo=>aN o x;obtain⟨C,D,l,m,n⟩:=info_parts Gn;go_enter func367,ntmps367;go_wp2;refine wp_loop_rounds 2 ?_;rw[rounds_succ];go_wp2_with(first|(at_builtin;refine wpList_append_own_at _ rfl _ _ 402 rfl (W.heap.size+1) 163 C (.agg #[ag 0,ag 0]) 2 16 underlying402 D l m n rfl aC (aj none 0 0) 0 [] rfl E ⟨u.heap.size+1,0,none⟩ 1 1 [ag d.n,ag d.d] rfl rfl (MN aI) a6J (by unfold maxLen;omega) aa bq ?_;intro v1 V1 q c _ F;have r:=((H.alloc aa _).alloc bq _).grown c bq (λk e=>by simp[Value.ownBlock] at e);have I:=((J.alloc _).alloc _).grown c (by simp[Value.ownBlock]);have K:=c.size;simp only[dV] at K;have g2:=(r.cell (p:=⟨b,o+1,none⟩) (aX s)).trans s)|(go_at_call_of 319 i;refine(y _ t).mono ?_;rintro e u ⟨rfl,f⟩;have L:=f.size;simp only[dV] at L;have H:=(t.trans (f.mono aI));have J:=A.below f az;have E:((u.alloc (ak #[ag d.n,ag d.d] 163)).alloc (ak #[ag d.n,ag d.d] 163)).ownsRow (W.heap.size+1) 163 2 (aj none 0 0) 0 []:=gp _ _ _ _));rw[rounds_succ];go_wp2_with((go_at_call_of 319 j;refine(z _ r).mono ?_;rintro e w2 ⟨rfl,g⟩;have M:=g.size;have w:=r.trans (g.mono aa);have N:=I.below g az;obtain⟨O,KQ,P,KS,Q,KZ,S,L8,T,OU,U,OV,X,OX,Y,OY,Z,OZ,zZ,P6,mQ,wG,mV,wH⟩:=N.a1B));refine bg (v:=aH #[mv .zero,aU 453 (.pointer (some a))]) (by simp[results,results367,go_sem,Mv.zero,Fr.zero,O,P,Q,S,T,U,X,Y,Z,zZ,mQ,mV]) rfl ⟨rfl,?_⟩;exact dB (R:=W.heap.size) az zL 0 (w.alloc w.size _)
def eA (aT aB aS:Addr)(c:Nat):Addr:=if c=1 then aT else if c=2 then aB else aS
theorem abz {c:Nat}(h:c=1\/c=2\/c=3):TA aT aB aS aB c=aU 453 (.pointer (some (eA aT aB aS c))):=by
 rcases h with rfl|rfl|rfl<;>rfl
theorem Ho (l:List UInt8):(rd l).c=0\/((rd l).c=1\/(rd l).c=2\/(rd l).c=3)/\(rd l).n=0/\(rd l).d=0:=by
 have a:∀n d,(ck n d).c=0\/((ck n d).c=1\/(ck n d).c=2\/(ck n d).c=3)/\(ck n d).n=0/\(ck n d).d=0:=λn d=>by
  unfold ck;split
  .exact .inl rfl
  .rename_i h;have:=iD n d;grind
 unfold rd;grind
theorem Nj (hs:a.size<=1000000)(b:Gr a≠0)(V:ai)(h:E4 aT aB aS V):
  aL 319 #[au a] V λe w'=>e=ay (aH #[.agg #[ag 0,ag 0],aU 453 (.pointer (some (eA aT aB aS (Gr a))))])/\aD V w':=by
 have:=xK aT aB aS aB a V h.e3 h.t aa;rcases Ho a.data.toList with c|⟨d,f,g⟩
 .exact(b c).elim
 .rw[f,g,abz d] at this;exact this
def UC (aT aB aS:Addr)(W:ai)(ws:List aO)(a:Kd):Prop:=∀V o B b c,aD W V->gM V W.heap.size (ws.map Value.string).toArray 9->o+a.n<=ws.length->(Oo a (ws.drop o)).2=c->c≠0->
 aL 367 #[aj (some ⟨W.heap.size,o,none⟩) a.n b,aK B] V λe d=>e=ay (aH #[mv .zero,aU 453 (.pointer (some (eA aT aB aS c)))])/\aD V d
def UD (aT aB aS:Addr)(W:ai)(ws:List aO):Prop:=∀V o a c,aD W V->gM V W.heap.size (ws.map Value.string).toArray 9->o+1<=ws.length->(Oo .turn (ws.drop o)).2=c->c≠0->
 aL 357 #[aj (some ⟨W.heap.size,o,none⟩) 1 a] V λe b=>e=ay (aH #[mv .zero,aU 453 (.pointer (some (eA aT aB aS c)))])/\aD V b
theorem a2G {V:ai}(hE:E4 aT aB aS V){mk:Fr->Fr->Mv}{a b:aO}{w0 o B d c:Nat}(i:a.size<=1000000)(l:b.size<=1000000)(j:V.cell? (aJ w0 o)=some (au a))(m:V.cell? (aJ w0 (o+1))=some (au b))(h:(rO mk a b).2=c)(hc:c≠0):
  aL 367 #[aj (some ⟨w0,o,none⟩) 2 d,aK B] V λe w'=>e=ay (aH #[mv .zero,aU 453 (.pointer (some (eA aT aB aS c)))])/\aD V w':=by
 unfold rO at h;by_cases g:Gr a=0
 .rw[aG (by simp[g])] at h;by_cases k:Gr b=0
  .grind
  .rw[aR k] at h;subst h;exact a7i w0 o d B a b (Lb a) _ V j m (λU f=>xS i g U (hE.below f az)) (λU f=>Nj l k U (hE.below f az))
 .rw[aR g] at h;subst h;exact Xl w0 o d B 2 a _ V aC j (λU f=>Nj i g U (hE.below f az))
theorem Zc (h:E4 aT aB aS W){ws:List aO}(hs:∀a∈ws,a.size<=1000000){j:Kd}(p:j≠.turn):UC aT aB aS W ws j:=by
 intro V o B k c q f l d m;have hE:=h.below q az;cases j with
 |turn=>exact(p rfl).elim
 |move=>
  obtain⟨a,b,r,g,e,i⟩:=Bc l;rw[g] at d;exact a2G hE (oN hs e) (oN hs i) (jB f e) (jB f i) d m
 |scale=>
  obtain⟨a,b,r,g,e,i⟩:=Bc l;rw[g] at d;exact a2G hE (oN hs e) (oN hs i) (jB f e) (jB f i) d m
 |skew=>
  obtain⟨a,r,g,e⟩:=drop_one l;rw[g] at d;change(BJ Mv.skew a).2=c at d;unfold BJ at d;by_cases n:Gr a=0
  .grind
  .rw[aR n] at d;subst d;exact Xl W.heap.size o k B 1 a _ V aC (jB f e) (λU s=>Nj (oN hs e) n U (hE.below s az))
theorem Zd (h:E4 aT aB aS W){ws:List aO}:UD aT aB aS W ws:=by
 intro V o d c j k l b q;have hE:=h.below j az;obtain⟨a,r,m,n⟩:=drop_one l;rw[m] at b;have p:=jB k n;change(Gs a).2=c at b;unfold Gs at b;by_cases e:a=⟨#[48]⟩
 .grind
 .rw[aG e] at b;by_cases f:a=⟨#[49]⟩
  .grind
  .rw[aG f] at b;by_cases g:a=⟨#[50]⟩
   .grind
   .rw[aG g] at b;by_cases i:a=⟨#[51]⟩
    .grind
    .rw[aG i] at b;subst b;exact a7h W.heap.size o d a aT V p hE.t e f g i
set_option maxRecDepth 20000
attribute [local go_sem] jA qW
theorem Ze {f:Nat}{b R:List Mv}{c:Nat}(h:iN f (k::ws) b=(R,c))(e:1<=f):
  (wN k=none/\c=1)\/(∃a,wN k=some a/\ws.length<a.n/\c=1)\/(∃a,wN k=some a/\a.n<=ws.length/\(Oo a ws).2=c/\c≠0)\/
   (∃d a m,f=d+1/\wN k=some a/\a.n<=ws.length/\Oo a ws=(m,0)/\iN d (ws.drop a.n) (b++[m])=(R,c)):=by
 cases f with
 |zero=>omega
 |succ f=>
  unfold iN at h;grind
theorem a7j (h:wN k=none):k≠Pb/\k≠Gf/\k≠Gg/\k≠Pd:=by
 unfold wN at h;grind
theorem Nk (aT aB aS:Addr)(s:aO)(ws:List aO)(N:Nat)(R:List Mv)(c:Nat)(W:ai)(hE:E4 aT aB aS W)(hs:s.size<4294967281)(hne:s.toList.isEmpty=false)(hN:Lib.countB s ⟨#[32]⟩+1=N)(hw:Lib.splitB ⟨#[32]⟩ 0 (Lib.countB s ⟨#[32]⟩) s=ws)(c3:ws.length=N)(f1:N<=1000)
  (hR:iN N ws []=(R,c)) (KA:∀k C,wN k=some C->C≠.turn->Qd k C) (KT:∀k,wN k=some .turn->k=Gg) (RA:∀C,C≠.turn->a1Z W ws C) (RT:a2a W ws) (WA:∀C,C≠.turn->UC aT aB aS W ws C) (WT:UD aT aB aS W ws):
  aL 262 #[au s] W λe w'=>((c=0/\∃v,e=ay (aH #[v,aY])/\w'.ownsRow (W.heap.size+1) 165 12 v R.length (pJ R))\/(c≠0/\e=ay (aH #[aj none 0 0,aU 453 (.pointer (some (eA aT aB aS c)))])))/\aD W w':=by
 have HS:=Ci s hs W;rw[hw,hN] at HS;clear hs;obtain⟨i0,hi,c4,c5,c6⟩:=info_parts a1P;go_enter func262,ntmps262;go_wp2_with(go_at_call 291;refine HS.mono ?_;rintro e w' ⟨rfl,rfl⟩)
 go_loopw [4,5] (λlv wv wr=>∃(j r f:Nat) (y:List Mv),j+r=N/\y.length<=j/\(∃a,wv=aj a r r/\(r≠0->a=some ⟨W.heap.size,j,none⟩))/\wr.ownsRow (W.heap.size+1) 165 12 lv y.length (pJ y)/\gM wr W.heap.size (ws.map Value.string).toArray 9/\aD W wr/\r<=f/\iN f (ws.drop j) y=(R,c)) (λ_ wv _=>lenOf wv)
 case atStart=>exact⟨0,N,N,[],aa,aI,⟨_,rfl,λ_=>rfl⟩,gp _ _ _ _,gM.new W _ _,(aW _ W).alloc az _,bJ _,hR⟩
 case round=>
  obtain⟨j,r,f,y,d7,f2,⟨ad,rfl,c7⟩,z,A,q,f3,S⟩:=hrel;cases r with
  |zero=>
   have hd:ws.drop j=[]:=List.drop_eq_nil_of_le aa;rw[hd] at S;have c8:y=R:=by cases f<;>exact congrArg Prod.fst S
   have d8:c=0:=by cases f<;>exact(congrArg Prod.snd S).symm
   clear S;subst c8 d8;go_wp2
   go_ret2
   exact⟨⟨_,rfl,z⟩,q⟩
  |succ r=>
   obtain rfl:=c7 aa;clear c7;obtain⟨k,hk,hd⟩:=drop_cons c3 d7;rw[hd] at S;have d9:=Ze S aa;clear S hR;have c0:=jB A hk;clear hd;rcases d9 with⟨H,rfl⟩|⟨C,H,O,rfl⟩|⟨C,H,O,a9,hc⟩|⟨f',C,m,f4,H,O,a9,b0⟩
   .obtain⟨q1,q2,q3,q4⟩:=a7j H;have e0:=λV=>Qc k V q1 q2 q3 q4;clear q1 q2 q3 q4 KA RA RT WA WT;rcases Nat.eq_zero_or_pos r with rfl|e1
    all_goals try have c9:(1:Int)<=(r:Int):=aa
    all_goals
     go_wp2_with(go_at_call 324;refine(e0 _).mono ?_;rintro e l ⟨rfl,d⟩;have D:=q.trans (d.mono q.size));have x:=D.alloc D.size (ak #[ag 0,.nilFunc] 409);obtain⟨V,F⟩:∃V,l.alloc (ak #[ag 0,.nilFunc] 409)=V:=⟨_,rfl⟩;rw[F] at x⊢;clear F;have cT:=(hE.below x az).t;clear d q A z c0 D;go_region;go_wp2
     go_ret2
     exact⟨.inr ⟨by first|decide|exact hc,rfl⟩,below_drewN x 1⟩
   .rw[lC] at O;by_cases ht:C=.turn
    .subst ht;have b1:=KT k H;subst b1;rw[show Kd.turn.n=1 from rfl] at O;have e2:r=0:=aa;subst e2;clear KA RA RT WA WT;go_wp2_with(go_at_call 324;refine(wJ _).mono ?_;rintro e l ⟨rfl,d⟩;have D:=q.trans (d.mono q.size);have B1:=A.below d az);have x:=D.alloc D.size (ak #[ag 1,.func (.func 357) #[] #[]] 409);obtain⟨V,F⟩:∃V,l.alloc (ak #[ag 1,.func (.func 357) #[] #[]] 409)=V:=⟨_,rfl⟩;rw[F] at x⊢;clear F;have cT:=(hE.below x az).t;clear d q A z c0 D;go_region;go_wp2
     go_ret2
     exact⟨.inr ⟨by first|decide|exact hc,rfl⟩,below_drewN x 1⟩
    .have P:=KA k C H ht;unfold Qd at P;obtain⟨d0,d1⟩:=C.n_pos;generalize C.n=n at*;have b6:r<n:=aa;have b7:(r:Int)<(n:Int):=aa;clear KA RA RT WA WT;rcases Nat.eq_zero_or_pos r with rfl|e1
     all_goals try have c9:(1:Int)<=(r:Int):=aa
     all_goals
      go_wp2_with(go_at_call 324;refine(P _).mono ?_;rintro e l ⟨⟨B,hB,rfl,b8⟩,d⟩;have D:=q.trans (d.mono q.size);have B1:=A.below d az);have x:=D.alloc D.size (ak #[ag n,.func (.func 367) #[] #[aK B]] 409);obtain⟨V,F⟩:∃V,l.alloc (ak #[ag n,.func (.func 367) #[] #[aK B]] 409)=V:=⟨_,rfl⟩;rw[F] at x⊢;clear F;have cT:=(hE.below x az).t;clear d q A z c0 D;go_region;go_wp2
      go_ret2
      exact⟨.inr ⟨by first|decide|exact hc,rfl⟩,below_drewN x 1⟩
   .rw[lC] at O;by_cases ht:C=.turn
    .subst ht;have b1:=KT k H;subst b1;have d2:=WT;unfold UD at d2;rw[show Kd.turn.n=1 from rfl] at O;have b6:1<=r:=aa;have b7:(1:Int)<=(r:Int):=aa;clear KA RA RT WA WT;go_wp2_with(go_at_call 324;refine(wJ _).mono ?_;rintro e l ⟨rfl,d⟩;have D:=q.trans (d.mono q.size);have B1:=A.below d az);have K2:=gM.new l #[ag 1,.func (.func 357) #[] #[]] 409;have x:=D.alloc D.size (ak #[ag 1,.func (.func 357) #[] #[]] 409);have Q:=B1.alloc (ak #[ag 1,.func (.func 357) #[] #[]] 409);obtain⟨V,F⟩:∃V,l.alloc (ak #[ag 1,.func (.func 357) #[] #[]] 409)=V:=⟨_,rfl⟩;have Oq:l.heap.size<V.heap.size:=by rw[<- F];simp
     rw[F] at K2 x Q⊢;clear F D B1 d;have b9:=K2.lt;have L3:=x.alloc x.size (ak zA 165);have I:aD W V.drew:=below_drewN x 1;have J:aD W (V.alloc (ak zA 165)).drew:=below_drewN L3 1;have K:=Q.drew;have L:=(Q.alloc (ak zA 165)).drew;have HZ:∀u,Below (V.alloc (ak zA 165)).drew.heap.size (V.alloc (ak zA 165)).drew u->gM u V.heap.size zA 165:=λu h=>xL h;have k0:=K2.cell 0 _ rfl;have k1:=K2.cell 1 _ rfl;have b2:V.drew.cell? ⟨l.heap.size,0,none⟩=some (ag 1):=k0;have b3:V.drew.cell? ⟨l.heap.size,1,none⟩=some (.func (.func 357) #[] #[]):=k1;have b4:(V.alloc (ak zA 165)).drew.cell? ⟨l.heap.size,0,none⟩=some (ag 1):=aN _ k0;have b5:(V.alloc (ak zA 165)).drew.cell? ⟨l.heap.size,1,none⟩=some (.func (.func 357) #[] #[]):=aN _ k1;have nv:l.heap.size≠V.heap.size:=aa;have T:¬V.heap.size=l.heap.size:=aa;have U:j+1+1<=ws.length:=aa
     go_cut [8,9] from 14 to 56 (λp v wx=>v=aU 453 (.pointer (some (eA aT aB aS c)))/\(∃R,p=aK R)/\aD V wx)
     case first=>
      go_region_held3 (λw'=>w'.cell? ⟨l.heap.size,0,none⟩=some (ag 1)/\w'.cell? ⟨l.heap.size,1,none⟩=some (.func (.func 357) #[] #[])) (refine⟨?_,?_⟩<;>(repeat rw[dh _ _ _ _ T])<;>assumption) ((go_at_call 357;refine(d2 _ (j+1) _ c ?_ ?_ U a9 hc).mono ?_;(first|exact I|exact J);(first|exact K|exact L);rintro e w3 ⟨rfl,t⟩;dsimp only[Mv.zero,Fr.zero];have M:=t.size;have X:=MR t gm;obtain⟨j0,j1⟩:=X;have y0:=λo=>aN o j0;have y1:=λo=>aN o j1;have y4:=aN (ak zA 165) j0;have y5:=aN (ak zA 165) j1;(first|(have BZ:=HZ _ t;obtain⟨vR,KQ,vS,KS,vT,KZ,vU,L8,zT,OU,zV,OV,zW,OX,zX,OY,zY,OZ,zZ,P6,mQ,wG,mV,wH⟩:=BZ.six)|skip)))
      .go_wp2_with fail
       go_meet
       exact⟨rfl,⟨_,rfl⟩,(wM t).alloc M _⟩
      .go_wp2_with fail
       go_meet
       have Y:aD V w3:=((aW V.heap.size V).alloc az (ak zA 165)).trans ((wM t).mono aI);exact⟨rfl,⟨_,rfl⟩,dB (R:=V.heap.size) az zL 0 Y⟩
     case rest=>
      obtain⟨rfl,⟨E,rfl⟩,Z⟩:=hcut;go_wp2_with fail
      go_ret2
      exact⟨.inr ⟨by first|decide|exact hc,rfl⟩,x.trans (Z.mono x.size)⟩
    .have P:=KA k C H ht;have d3:=WA C ht;unfold Qd at P;unfold UC at d3;obtain⟨d0,d1⟩:=C.n_pos;generalize C.n=n at*;have b6:n<=r:=aa;have b7:(n:Int)<=(r:Int):=aa;have e3:(0:Int)<=(n:Int):=aa;clear KA RA RT WA WT;go_wp2_with(go_at_call 324;refine(P _).mono ?_;rintro e l ⟨⟨B,hB,rfl,b8⟩,d⟩;have D:=q.trans (d.mono q.size);have B1:=A.below d az);have K2:=gM.new l #[ag n,.func (.func 367) #[] #[aK B]] 409;have x:=D.alloc D.size (ak #[ag n,.func (.func 367) #[] #[aK B]] 409);have Q:=B1.alloc (ak #[ag n,.func (.func 367) #[] #[aK B]] 409);obtain⟨V,F⟩:∃V,l.alloc (ak #[ag n,.func (.func 367) #[] #[aK B]] 409)=V:=⟨_,rfl⟩;have Oq:l.heap.size<V.heap.size:=by rw[<- F];simp
     rw[F] at K2 x Q⊢;clear F D B1 d;have b9:=K2.lt;have L3:=x.alloc x.size (ak zA 165);have I:aD W V.drew:=below_drewN x 1;have J:aD W (V.alloc (ak zA 165)).drew:=below_drewN L3 1;have K:=Q.drew;have L:=(Q.alloc (ak zA 165)).drew;have HZ:∀u,Below (V.alloc (ak zA 165)).drew.heap.size (V.alloc (ak zA 165)).drew u->gM u V.heap.size zA 165:=λu h=>xL h;have k0:=K2.cell 0 _ rfl;have k1:=K2.cell 1 _ rfl;have b2:V.drew.cell? ⟨l.heap.size,0,none⟩=some (ag n):=k0;have b3:V.drew.cell? ⟨l.heap.size,1,none⟩=some (.func (.func 367) #[] #[aK B]):=k1;have b4:(V.alloc (ak zA 165)).drew.cell? ⟨l.heap.size,0,none⟩=some (ag n):=aN _ k0;have b5:(V.alloc (ak zA 165)).drew.cell? ⟨l.heap.size,1,none⟩=some (.func (.func 367) #[] #[aK B]):=aN _ k1;have nv:l.heap.size≠V.heap.size:=aa;have T:¬V.heap.size=l.heap.size:=aa;have U:j+1+n<=ws.length:=aa
     go_cut [8,9] from 14 to 56 (λp v wx=>v=aU 453 (.pointer (some (eA aT aB aS c)))/\(∃R,p=aK R)/\aD V wx)
     case first=>
      go_region_held3 (λw'=>w'.cell? ⟨l.heap.size,0,none⟩=some (ag n)/\w'.cell? ⟨l.heap.size,1,none⟩=some (.func (.func 367) #[] #[aK B])) (refine⟨?_,?_⟩<;>(repeat rw[dh _ _ _ _ T])<;>assumption) ((go_at_call 367;refine(d3 _ (j+1) B _ c ?_ ?_ U a9 hc).mono ?_;(first|exact I|exact J);(first|exact K|exact L);rintro e w3 ⟨rfl,t⟩;dsimp only[Mv.zero,Fr.zero];have M:=t.size;have X:=MR t gm;obtain⟨j0,j1⟩:=X;have y0:=λo=>aN o j0;have y1:=λo=>aN o j1;have y4:=aN (ak zA 165) j0;have y5:=aN (ak zA 165) j1;(first|(have BZ:=HZ _ t;obtain⟨vR,KQ,vS,KS,vT,KZ,vU,L8,zT,OU,zV,OV,zW,OX,zX,OY,zY,OZ,zZ,P6,mQ,wG,mV,wH⟩:=BZ.six)|skip)))
      .go_wp2_with fail
       go_meet
       exact⟨rfl,⟨_,rfl⟩,(wM t).alloc M _⟩
      .go_wp2_with fail
       go_meet
       have Y:aD V w3:=((aW V.heap.size V).alloc az (ak zA 165)).trans ((wM t).mono aI);exact⟨rfl,⟨_,rfl⟩,dB (R:=V.heap.size) az zL 0 Y⟩
     case rest=>
      obtain⟨rfl,⟨E,rfl⟩,Z⟩:=hcut;go_wp2_with fail
      go_ret2
      exact⟨.inr ⟨by first|decide|exact hc,rfl⟩,x.trans (Z.mono x.size)⟩
   .rw[lC] at O;by_cases ht:C=.turn
    .subst ht;have b1:=KT k H;subst b1;have d4:=RT;unfold a2a at d4;rw[show Kd.turn.n=1 from rfl] at O b0;have b6:1<=r:=aa;have b7:(1:Int)<=(r:Int):=aa;clear KA RA RT WA WT;go_wp2_with(go_at_call 324;refine(wJ _).mono ?_;rintro e l ⟨rfl,d⟩;have D:=q.trans (d.mono q.size);have B1:=A.below d az;have O1:=ownsRow_below z d);have K2:=gM.new l #[ag 1,.func (.func 357) #[] #[]] 409;have x:=D.alloc D.size (ak #[ag 1,.func (.func 357) #[] #[]] 409);have Q:=B1.alloc (ak #[ag 1,.func (.func 357) #[] #[]] 409);have O2:=O1.alloc (ak #[ag 1,.func (.func 357) #[] #[]] 409);have q1:=d.size;obtain⟨V,F⟩:∃V,l.alloc (ak #[ag 1,.func (.func 357) #[] #[]] 409)=V:=⟨_,rfl⟩;have Oq:l.heap.size<V.heap.size:=by rw[<- F];simp
     rw[F] at K2 x Q O2⊢;clear F D B1 O1 d;have b9:=K2.lt;have c1:=a1Y z;have a4:=Ue z;have L3:=x.alloc x.size (ak zA 165);have I:aD W V.drew:=below_drewN x 1;have J:aD W (V.alloc (ak zA 165)).drew:=below_drewN L3 1;have K:=Q.drew;have L:=(Q.alloc (ak zA 165)).drew;have HZ:∀u,Below (V.alloc (ak zA 165)).drew.heap.size (V.alloc (ak zA 165)).drew u->gM u V.heap.size zA 165:=λu h=>xL h;have k0:=K2.cell 0 _ rfl;have k1:=K2.cell 1 _ rfl;have b2:V.drew.cell? ⟨l.heap.size,0,none⟩=some (ag 1):=k0;have b3:V.drew.cell? ⟨l.heap.size,1,none⟩=some (.func (.func 357) #[] #[]):=k1;have b4:(V.alloc (ak zA 165)).drew.cell? ⟨l.heap.size,0,none⟩=some (ag 1):=aN _ k0;have b5:(V.alloc (ak zA 165)).drew.cell? ⟨l.heap.size,1,none⟩=some (.func (.func 357) #[] #[]):=aN _ k1;have nv:l.heap.size≠V.heap.size:=aa;have T:¬V.heap.size=l.heap.size:=aa;have U:j+1+1<=ws.length:=aa
     go_cut [8,9] from 14 to 56 (λp v wx=>v=aY/\∃R,p=aK R/\V.heap.size<=R/\(∀j u,(mL m)[j]? =some u->wx.cell? (aJ R j)=some u)/\aD V wx)
     case first=>
      go_region_held3 (λw'=>w'.cell? ⟨l.heap.size,0,none⟩=some (ag 1)/\w'.cell? ⟨l.heap.size,1,none⟩=some (.func (.func 357) #[] #[])) (refine⟨?_,?_⟩<;>(repeat rw[dh _ _ _ _ T])<;>assumption) ((go_at_call 357;refine(d4 _ (j+1) _ m ?_ ?_ U a9).mono ?_;(first|exact I|exact J);(first|exact K|exact L);rintro e w3 ⟨rfl,t⟩;have M:=t.size;have X:=MR t gm;obtain⟨j0,j1⟩:=X;have y0:=λo=>aN o j0;have y1:=λo=>aN o j1;have y2:=aN (ak (mA m) 165) j0;have y3:=aN (ak (mA m) 165) j1;have y4:=aN (ak zA 165) j0;have y5:=aN (ak zA 165) j1;(first|(have BZ:=HZ _ t;obtain⟨vR,KQ,vS,KS,vT,KZ,vU,L8,zT,OU,zV,OV,zW,OX,zX,OY,zY,OZ,zZ,P6,mQ,wG,mV,wH⟩:=BZ.six)|skip)))
      .go_wp2_with fail
       go_meet
       exact⟨rfl,w3.heap.size,rfl,M,WU (cs:=(mL m)),(wM t).alloc M _⟩
      .go_wp2_with fail
       go_meet
       have Y:aD V w3:=((aW V.heap.size V).alloc az (ak zA 165)).trans ((wM t).mono aI);have a5:=MP (R:=V.heap.size) (mL m) 0 w3 (λi hi=>Q7 BZ i hi);simp only[gq] at a5;exact⟨rfl,V.heap.size,rfl,bJ _,a5,dB (R:=V.heap.size) az (mL m) 0 Y⟩
     case rest=>
      obtain⟨rfl,E,rfl,e4,b,Z⟩:=hcut;have KC:=K2.below Z az;have kk:=KC.cell 0 _ rfl;have LC:=x.trans (Z.mono x.size);have BC:=Q.below Z az;have OC:=((ownsRow_below O2 Z).alloc (ak (mA m) 165));have c2:(wc.alloc (ak (mA m) 165)).drew.ownsRow (W.heap.size+1) 165 12 u4 y.length (pJ y):=OC;obtain⟨m0,m1,m2,m3,m4,m5,m6,m7,m8,m9,e5,e6⟩:=And.intro (b 0 _ rfl) (And.intro (b 1 _ rfl) (And.intro (b 2 _ rfl) (And.intro (b 3 _ rfl) (And.intro (b 4 _ rfl) (And.intro (b 5 _ rfl) (And.intro (b 6 _ rfl) (And.intro (b 7 _ rfl) (And.intro (b 8 _ rfl) (And.intro (b 9 _ rfl) (And.intro (b 10 _ rfl) (b 11 _ rfl)))))))))));have e7:=Z.size;clear b k0 k1 b2 b3 b4 b5 HZ I J L3 K L OC;have H0:=fE wc (ak (mA m) 165);go_wp2_with fail
      go_region_held3 (λw'=>w'.cell? (aJ E 0)=some (ag m.a.n)/\w'.cell? (aJ E 1)=some (ag m.a.d)/\w'.cell? (aJ E 2)=some (ag m.b.n)/\w'.cell? (aJ E 3)=some (ag m.b.d)/\w'.cell? (aJ E 4)=some (ag m.c.n)/\w'.cell? (aJ E 5)=some (ag m.c.d)/\w'.cell? (aJ E 6)=some (ag m.d.n)/\w'.cell? (aJ E 7)=some (ag m.d.d)/\w'.cell? (aJ E 8)=some (ag m.e.n)/\w'.cell? (aJ E 9)=some (ag m.e.d)/\w'.cell? (aJ E 10)=some (ag m.f.n)/\w'.cell? (aJ E 11)=some (ag m.f.d)/\w'.cell? ⟨l.heap.size,0,none⟩=some (ag 1)) (refine⟨?_,?_,?_,?_,?_,?_,?_,?_,?_,?_,?_,?_,?_⟩<;>first|assumption|exact aN _ gm|exact hA _ _ gm fZ) ((refine step_append_lies _ rfl (.tmp 49) (.tmp 51) 341 rfl (W.heap.size+1) 165 i0 (.agg zA) 12 96 underlying341 hi c4 c5 c6 rfl aC u4 y.length (pJ y) rfl c2 ⟨wc.heap.size,0,none⟩ 1 1 (mL m) rfl rfl (World.news_of_block (w:=(wc.alloc (ak (mA m) 165)).drew) (cs:=(mA m)) H0) a9N aC (by unfold maxLen;omega) aa (by have:=LC.size;simp;omega) _ rfl ?_;intro g e8 w5 a6 a7 a5 UE;have a8:World.grownBy (wc.alloc (ak (mA m) 165)).drew w5 u4.ownBlock:=a7;have hA:∀p v,wc.cell? p=some v->(p.block=W.heap.size\/l.heap.size<=p.block)->w5.cell? p=some v:=(λp v h hp=>(a8.cell_far p (by have:=aX h;simp;omega) (λe=>by have:=c1 _ e.symm;have:=a4 _ e.symm;have:=q1;omega)).trans (aN (W:=wc) _ h))))
      go_wp2_with fail;rw[nC] at b0;refine⟨⟨j+1+1,r-1,f',y++[m],aa,bq,⟨_,rfl,λh=>by rw[aG aa]⟩,by rw[dO,DV];exact a6,((BC.alloc (ak (mA m) 165)).drew).grown a8 (λe=>by have:=a4 _ e;omega),(below_drewN (LC.alloc LC.size (ak (mA m) 165)) 1).grown a8 (by have:=LC.size;simp;omega) (λk e=>by have:=a4 k e;omega),aa,b0⟩,by simp only[lenOf];omega⟩
    .have P:=KA k C H ht;have d6:=RA C ht;unfold Qd at P;unfold a1Z at d6;obtain⟨d0,d1⟩:=C.n_pos;generalize C.n=n at*;have b6:n<=r:=aa;have b7:(n:Int)<=(r:Int):=aa;have e3:(0:Int)<=(n:Int):=aa;clear KA RA RT WA WT;go_wp2_with(go_at_call 324;refine(P _).mono ?_;rintro e l ⟨⟨B,hB,rfl,b8⟩,d⟩;have D:=q.trans (d.mono q.size);have B1:=A.below d az;have O1:=ownsRow_below z d);have C2:=aN (ak #[ag n,.func (.func 367) #[] #[aK B]] 409) b8;have K2:=gM.new l #[ag n,.func (.func 367) #[] #[aK B]] 409;have x:=D.alloc D.size (ak #[ag n,.func (.func 367) #[] #[aK B]] 409);have Q:=B1.alloc (ak #[ag n,.func (.func 367) #[] #[aK B]] 409);have O2:=O1.alloc (ak #[ag n,.func (.func 367) #[] #[aK B]] 409);have q1:=d.size;obtain⟨V,F⟩:∃V,l.alloc (ak #[ag n,.func (.func 367) #[] #[aK B]] 409)=V:=⟨_,rfl⟩;have Oq:l.heap.size<V.heap.size:=by rw[<- F];simp
     rw[F] at K2 x Q O2 C2⊢;clear F D B1 O1 d b8;have b9:=K2.lt;have c1:=a1Y z;have a4:=Ue z;have L3:=x.alloc x.size (ak zA 165);have I:aD W V.drew:=below_drewN x 1;have J:aD W (V.alloc (ak zA 165)).drew:=below_drewN L3 1;have K:=Q.drew;have L:=(Q.alloc (ak zA 165)).drew;have e9:V.drew.cell? (aJ B 0)=some (.func (.func C.f) #[] #[]):=C2;have f0:(V.alloc (ak zA 165)).drew.cell? (aJ B 0)=some (.func (.func C.f) #[] #[]):=aN _ C2;have HZ:∀u,Below (V.alloc (ak zA 165)).drew.heap.size (V.alloc (ak zA 165)).drew u->gM u V.heap.size zA 165:=λu h=>xL h;have k0:=K2.cell 0 _ rfl;have k1:=K2.cell 1 _ rfl;have b2:V.drew.cell? ⟨l.heap.size,0,none⟩=some (ag n):=k0;have b3:V.drew.cell? ⟨l.heap.size,1,none⟩=some (.func (.func 367) #[] #[aK B]):=k1;have b4:(V.alloc (ak zA 165)).drew.cell? ⟨l.heap.size,0,none⟩=some (ag n):=aN _ k0;have b5:(V.alloc (ak zA 165)).drew.cell? ⟨l.heap.size,1,none⟩=some (.func (.func 367) #[] #[aK B]):=aN _ k1;have nv:l.heap.size≠V.heap.size:=aa;have T:¬V.heap.size=l.heap.size:=aa;have U:j+1+n<=ws.length:=aa
     go_cut [8,9] from 14 to 56 (λp v wx=>v=aY/\∃R,p=aK R/\V.heap.size<=R/\(∀j u,(mL m)[j]? =some u->wx.cell? (aJ R j)=some u)/\aD V wx)
     case first=>
      go_region_held3 (λw'=>w'.cell? ⟨l.heap.size,0,none⟩=some (ag n)/\w'.cell? ⟨l.heap.size,1,none⟩=some (.func (.func 367) #[] #[aK B])) (refine⟨?_,?_⟩<;>(repeat rw[dh _ _ _ _ T])<;>assumption) ((go_at_call 367;refine(d6 _ (j+1) B _ m ?_ ?_ ?_ U a9).mono ?_;(first|exact I|exact J);(first|exact K|exact L);(first|exact e9|exact f0);rintro e w3 ⟨rfl,t⟩;have M:=t.size;have X:=MR t gm;obtain⟨j0,j1⟩:=X;have y0:=λo=>aN o j0;have y1:=λo=>aN o j1;have y2:=aN (ak (mA m) 165) j0;have y3:=aN (ak (mA m) 165) j1;have y4:=aN (ak zA 165) j0;have y5:=aN (ak zA 165) j1;(first|(have BZ:=HZ _ t;obtain⟨vR,KQ,vS,KS,vT,KZ,vU,L8,zT,OU,zV,OV,zW,OX,zX,OY,zY,OZ,zZ,P6,mQ,wG,mV,wH⟩:=BZ.six)|skip)))
      .go_wp2_with fail
       go_meet
       exact⟨rfl,w3.heap.size,rfl,M,WU (cs:=(mL m)),(wM t).alloc M _⟩
      .go_wp2_with fail
       go_meet
       have Y:aD V w3:=((aW V.heap.size V).alloc az (ak zA 165)).trans ((wM t).mono aI);have a5:=MP (R:=V.heap.size) (mL m) 0 w3 (λi hi=>Q7 BZ i hi);simp only[gq] at a5;exact⟨rfl,V.heap.size,rfl,bJ _,a5,dB (R:=V.heap.size) az (mL m) 0 Y⟩
     case rest=>
      obtain⟨rfl,E,rfl,e4,b,Z⟩:=hcut;have KC:=K2.below Z az;have kk:=KC.cell 0 _ rfl;have LC:=x.trans (Z.mono x.size);have BC:=Q.below Z az;have OC:=((ownsRow_below O2 Z).alloc (ak (mA m) 165));have c2:(wc.alloc (ak (mA m) 165)).drew.ownsRow (W.heap.size+1) 165 12 u4 y.length (pJ y):=OC;obtain⟨m0,m1,m2,m3,m4,m5,m6,m7,m8,m9,e5,e6⟩:=And.intro (b 0 _ rfl) (And.intro (b 1 _ rfl) (And.intro (b 2 _ rfl) (And.intro (b 3 _ rfl) (And.intro (b 4 _ rfl) (And.intro (b 5 _ rfl) (And.intro (b 6 _ rfl) (And.intro (b 7 _ rfl) (And.intro (b 8 _ rfl) (And.intro (b 9 _ rfl) (And.intro (b 10 _ rfl) (b 11 _ rfl)))))))))));have e7:=Z.size;clear b k0 k1 b2 b3 b4 b5 HZ I J L3 K L OC;have H0:=fE wc (ak (mA m) 165);go_wp2_with fail
      go_region_held3 (λw'=>w'.cell? (aJ E 0)=some (ag m.a.n)/\w'.cell? (aJ E 1)=some (ag m.a.d)/\w'.cell? (aJ E 2)=some (ag m.b.n)/\w'.cell? (aJ E 3)=some (ag m.b.d)/\w'.cell? (aJ E 4)=some (ag m.c.n)/\w'.cell? (aJ E 5)=some (ag m.c.d)/\w'.cell? (aJ E 6)=some (ag m.d.n)/\w'.cell? (aJ E 7)=some (ag m.d.d)/\w'.cell? (aJ E 8)=some (ag m.e.n)/\w'.cell? (aJ E 9)=some (ag m.e.d)/\w'.cell? (aJ E 10)=some (ag m.f.n)/\w'.cell? (aJ E 11)=some (ag m.f.d)/\w'.cell? ⟨l.heap.size,0,none⟩=some (ag n)) (refine⟨?_,?_,?_,?_,?_,?_,?_,?_,?_,?_,?_,?_,?_⟩<;>first|assumption|exact aN _ gm|exact hA _ _ gm fZ) ((refine step_append_lies _ rfl (.tmp 49) (.tmp 51) 341 rfl (W.heap.size+1) 165 i0 (.agg zA) 12 96 underlying341 hi c4 c5 c6 rfl aC u4 y.length (pJ y) rfl c2 ⟨wc.heap.size,0,none⟩ 1 1 (mL m) rfl rfl (World.news_of_block (w:=(wc.alloc (ak (mA m) 165)).drew) (cs:=(mA m)) H0) a9N aC (by unfold maxLen;omega) aa (by have:=LC.size;simp;omega) _ rfl ?_;intro g e8 w5 a6 a7 a5 UE;have a8:World.grownBy (wc.alloc (ak (mA m) 165)).drew w5 u4.ownBlock:=a7;have hA:∀p v,wc.cell? p=some v->(p.block=W.heap.size\/l.heap.size<=p.block)->w5.cell? p=some v:=(λp v h hp=>(a8.cell_far p (by have:=aX h;simp;omega) (λe=>by have:=c1 _ e.symm;have:=a4 _ e.symm;have:=q1;omega)).trans (aN (W:=wc) _ h))))
      go_wp2_with fail;rw[nC] at b0;refine⟨⟨j+1+n,r-n,f',y++[m],aa,bq,⟨_,rfl,λh=>by rw[aG aa]⟩,by rw[dO,DV];exact a6,((BC.alloc (ak (mA m) 165)).drew).grown a8 (λe=>by have:=a4 _ e;omega),(below_drewN (LC.alloc LC.size (ak (mA m) 165)) 1).grown a8 (by have:=LC.size;simp;omega) (λk e=>by have:=a4 k e;omega),aa,b0⟩,by simp only[lenOf];omega⟩
end
open Go.RowKit
theorem Nl {α β:Type}{p:α×β}{b:β}(h:p.2=b):p=(p.1,b):=by cases p;cases h;rfl
theorem kQ (m a:Mv)(l:List Mv):nH m (a::l)=if(thenS m a).2=0 then nH (thenS m a).1 l else(.zero,2):=rfl
theorem Zf (p q:List Mv)(m:Mv)(h:(nH m (p++q)).2=0):(nH m p).2=0:=by
 induction p generalizing m with
 |nil=>rfl
 |cons a p b=>
  rw[gH,kQ] at h;rw[kQ];grind
theorem Hq (l:List Mv)(m n:Mv)(h:(nH m l).2=0):nH m (l++[n])=if(thenS (nH m l).1 n).2=0 then((thenS (nH m l).1 n).1,0) else(.zero,2):=by
 induction l generalizing m with
 |nil=>exact kQ m n []
 |cons a l b=>
  rw[gH,kQ,kQ];rw[kQ] at h;grind
theorem Hr (l:List Mv)(m:Mv)(b:m.ok)(c:∀n∈l,n.ok)(h:(nH m l).2=0):(nH m l).1.ok:=by
 induction l generalizing m with
 |nil=>exact b
 |cons a l e=>
  rw[kQ] at h⊢;by_cases d:(thenS m a).2=0
  .rw[aR d] at h⊢;exact e _ ((Cc b (c a aI)).2 d).1 (λn f=>c n (by simp[f])) h
  .grind
theorem Ll (l:List Mv)(m:Mv):(nH m l).2=0\/nH m l=(.zero,2):=by
 induction l generalizing m with
 |nil=>exact .inl rfl
 |cons a l b=>
  rw[kQ];grind
theorem a2H (R:List Mv):(dH R.length).map (λj=>R.getD j .one)=R.reverse:=by
 apply List.ext_getElem?;intro i;unfold dH;grind
theorem Lm:∀(f:Nat) (ws:List aO) (a:List Mv),(iN f ws a).2≠0->(iN f ws a).1=[]
 |_,[],a,h=>by simp[iN] at h
 |0,_::_,_,_=>rfl
 |f+1,k::ws,a,h=>by
  unfold iN at h⊢;cases d:wN k with
  |none=>rfl
  |some e=>
   rw[d] at h;simp only at h⊢;split at h
   .rename_i b;rw[aR b]
   .rename_i b;rw[aG b];split at h
    .rename_i c;rw[aR c];exact Lm f _ _ h
    .rename_i c;rw[aG c]
theorem Lp:∀(f:Nat) (ws:List aO) (a:List Mv),(iN f ws a).2=0->a.length<=(iN f ws a).1.length/\(iN f ws a).1.length<=a.length+ws.length/\(ws≠[]->a.length<(iN f ws a).1.length)
 |_,[],a,_=>by simp[iN]
 |0,_::_,_,h=>by simp[iN] at h
 |f+1,k::ws,a,h=>by
  unfold iN at h⊢;cases c:wN k with
  |none=>rw[c] at h;simp at h
  |some e=>
   rw[c] at h;simp only at h⊢;split at h
   .simp at h
   .rename_i d;rw[aG d];split at h
    .rename_i b;rw[aR b];obtain⟨g,i,_⟩:=Lp f _ _ h;grind
    .rename_i b;exact(b h).elim
theorem Ht:∀(k:Nat) (s:aO),∀a∈Lib.splitB ⟨#[32]⟩ 0 k s,a.size<=s.size
 |0,s,a,h=>by rw[Lib.splitB_zero] at h;simp at h;subst h;exact bJ _
 |k+1,s,a,h=>by
  unfold Lib.splitB at h;split at h
  .grind
  .rcases gP.1 h with rfl|h
   .rw[ByteArray.size_extract];omega
   .have:=Ht k _ a h;rw[ByteArray.size_extract] at this;omega
def er0 (aT aB aS:Addr)(c:Nat):ax:=if c=0 then aY else aU 453 (.pointer (some (eA aT aB aS c)))
theorem Hu (W:ai):aL 262 #[au ⟨#[]⟩] W λe w'=>e=ay (aH #[aj none 0 0,aY])/\aD W w':=by
 go_enter func262,ntmps262;go_wp2
 go_ret2
 exact⟨rfl,aW _ _⟩
attribute [local irreducible] thenS in
theorem a2I {aT aB aS:Addr}(s:aO)(hs:s.size<=900)(W:ai)(hE:E4 aT aB aS W):
    aL 194 #[au s] W λe w'=>e=ay (aH #[mv (lS s).1,er0 aT aB aS (lS s).2])/\aD W w':=by
  by_cases I:s.size=0
  . have J:s=⟨#[]⟩:=ext_list (lu.1 (by rw[mH];exact I))
    subst J;have:=a1T ⟨#[]⟩ W (λV _=>Hu V);exact dM.1 this
  . have K:s.toList.isEmpty=false:=by
      rw[gN,List.isEmpty_eq_false_iff];intro e;exact I (by rw[<- mH,e];rfl)
    have f:(words s).length=Lib.countB s ⟨#[32]⟩+1:=Lib.splitB_all ⟨#[32]⟩ aC 0 _ s rfl;have Y:=Lib.countB_le ⟨#[32]⟩ aC s.size s az;have A:∀a∈words s,a.size<=1000000:=λa Z=>by have:=Ht _ s a Z;omega
    have L:qV s=iN (words s).length (words s) []:=by unfold qV;rw[aG I]
    have S:=λV (b:aD W V) R c m=>Nk aT aB aS s (words s) (words s).length R c V (hE.below b az) aa K f.symm rfl rfl aa m (λk T l o=>a2B l o) (λk h=>a2C h) (λT h=>a2E (hE.below b az) A h) a2F (λT h=>Zc (hE.below b az) A h) (Zd (hE.below b az));by_cases B:(qV s).2=0
    . have m:iN (words s).length (words s) []=((qV s).1,0):=by grind
      obtain⟨_,M,U⟩:=Lp (words s).length (words s) [] (by rw[m]);have C:=Gt (words s).length (words s) [] aI (by rw[m]);rw[m] at M U C;have N:=U (λe=>by rw[e] at f;simp at f);simp only[iT] at M N;obtain⟨R,D⟩:∃R,(qV s).1=R:=⟨_,rfl⟩;rw[D] at m M N C;have r:∀x,(R.getD x .one).ok:=λx=>by
        by_cases hx:x<R.length
        . grind
        . rw[show R.getD x .one=.one by simp[List.getD,BV (show R.length<=x by omega)]];exact Gq
      have E:∀pre:List Nat,∀n∈pre.map (λj=>R.getD j .one),n.ok:=by grind
      have:=a1R aB s (λj=>R.getD j .one) R.length (λpre=>(nH .one (pre.map (λj=>R.getD j .one))).1) (λpre=>(nH .one (pre.map (λj=>R.getD j .one))).2=0) rfl
        (λp q h=>by rw[iK] at h;exact Zf _ _ _ h) W N aa rfl
        (λV b=>(S V b R 0 m).mono λe w' ⟨h,t⟩=>by
          obtain⟨-,v,d,w⟩|⟨h, -⟩:=h
          rotate_left
          . omega
          obtain⟨n,hn⟩:∃n,R.length=n+1:=⟨R.length-1,aa⟩;rw[hn] at w⊢;obtain⟨g,O,rfl,_,z,_,_,h6⟩:=wL w;exact⟨⟨g,O,d,z,λj hj i u X=>by
            have F:j<R.length:=aa;rw[show R.getD j .one=R[j] by simp[List.getD,F]] at X;exact h6 _ u (Hl R j R[j] (by simp[F]) i u X)⟩,t⟩)
        (λpre x l o V b=>by
          rw[iK,List.map_singleton] at o⊢;have H:=Hr _ _ Gq (E pre) l;rw[Hq _ _ _ l] at o⊢;by_cases z:(thenS (nH .one (pre.map (λj=>R.getD j .one))).1 (R.getD x .one)).2=0
          . rw[aR z]
            exact WJ (rq H) (rq (r x)) (Qa H (r x) (Nl z)) V (hE.below b az).e3
          . grind)
        (λpre x l o V b=>by
          rw[iK,List.map_singleton,Hq _ _ _ l] at o;have H:=Hr _ _ Gq (E pre) l;by_cases z:(thenS (nH .one (pre.map (λj=>R.getD j .one))).1 (R.getD x .one)).2=0
          . grind
          . rw[aG z] at o
            refine(WL (rq H) (rq (r x)) (λy e=>z (by rw[(Qb e).2.2])) V (hE.below b az).e3).mono λe w' ⟨⟨v,d,P⟩,t⟩=>?_;unfold vL at P;rw[aG (λe=>e (uN H)),aG (λe=>e (uN (r x))),aG z] at P;obtain⟨_,rfl⟩:=P;exact⟨d,t⟩)
      have Q:lS s=nH .one R.reverse:=by unfold lS;rw[aR B,D]
      refine(dM.1 this).mono λe w' ⟨d,t⟩=>⟨?_,t⟩;rw[Q];rw[a2H] at d;rcases d with⟨l,d⟩|⟨l,d⟩
      . rw[d,l];rfl
      . have o:=(Ll R.reverse .one).resolve_left l
        rw[d,o];rfl
    . have m:iN (words s).length (words s) []=([],(qV s).2):=by
        rw[<- L];exact Prod.ext (by rw[L];exact Lm _ _ _ (by rw[<- L];exact B)) rfl
      have:=Q9 s (eA aT aB aS (qV s).2) W (λV b=>(S V b [] _ m).mono λe w' ⟨h,t⟩=>⟨(h.resolve_left λh=>B h.1).2,t⟩);have Q:lS s=(.zero,(qV s).2):=by unfold lS;rw[aG B]
      refine(dM.1 this).mono λe w' ⟨d,t⟩=>⟨?_,t⟩;rw[d,Q,er0,aG B]

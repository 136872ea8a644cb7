import Derived.Test.YtbkjmamcnflncaaGreatDoorQs6
namespace Go.Proofs.YtbkjmamcnflncaaGreatDoor
open Go.Proofs.Tryz
set_option maxHeartbeats 4000000
section
theorem fD {n:Int}(h:n.natAbs<=1073741824):(Fr.whole n).ok:=gI.2 ⟨by simp[Fr.whole],by simp[iZ,Fr.whole],by simpa[Fr.whole] using h,by simp[Fr.whole]⟩
theorem FE:Mv.one.ok:=⟨fD aC,fD aC,fD aC,fD aC,fD aC,fD aC⟩
theorem tZ {m:Mv}(h:m.ok):(bJ 0 m.list).1=0:=by
 rw[nT];intro y a;simp only[Mv.list,gD,List.not_mem_nil,or_false] at a;obtain⟨b,c,d,e,f,g⟩:=h;rcases a with rfl|rfl|rfl|rfl|rfl|rfl<;>assumption
theorem VS {p:Pt}(h:p.ok):(bJ 6 p.list).1=0:=by
 rw[nT];intro y a;simp only[Pt.list,gD,List.not_mem_nil,or_false] at a;rcases a with rfl|rfl
 .exact h.1
 .exact h.2
theorem OZ {m n x:Mv}(a:m.ok)(b:n.ok)(h:thenS m n=(x,0)):uO m n=(x,.no):=by
 unfold uO;rw[if_neg (by simp[tZ a]),if_neg (by simp[tZ b]),h];simp
theorem aaw {m:Mv}{p q:Pt}(a:m.ok)(hp:p.ok)(h:fe 0 m p=(q,0)):atR m p=(q,.no):=by
 unfold atR;rw[if_neg (by simp[tZ a]),if_neg (by simp[VS hp]),h];simp
theorem P6 {m n x:Mv}(h:uO m n=(x,.no)):m.ok/\n.ok/\thenS m n=(x,0):=by
 unfold uO at h;by_cases a:(bJ 0 m.list).1=0
 .rw[if_neg (by simp[a])] at h;by_cases b:(bJ 0 n.list).1=0
  .rw[if_neg (by simp[b])] at h;by_cases c:(thenS m n).2=0
   .rw[if_pos c] at h;exact⟨uN a,uN b,Prod.ext (Prod.mk.inj h).1 c⟩
   .grind
  .grind
 .grind
theorem aax {m:Mv}{p q:Pt}(h:atR m p=(q,.no)):m.ok/\p.ok/\fe 0 m p=(q,0):=by
 unfold atR at h;by_cases a:(bJ 0 m.list).1=0
 .rw[if_neg (by simp[a])] at h;by_cases b:(bJ 6 p.list).1=0
  .rw[if_neg (by simp[b])] at h;by_cases c:(fe 0 m p).2=0
   .rw[if_pos c] at h;exact⟨uN a,VJ b,Prod.ext (Prod.mk.inj h).1 c⟩
   .grind
  .grind
 .grind
inductive Kd where
 |move
 |scale
 |turn
 |skew
def Kd.n:Kd->Nat
 | .move=>2
 | .scale=>2
 | .turn=>1
 | .skew=>1
def vP (b:aM):Option Kd:=if b=Oi then some .move else if b=Fp then some .scale else if b=Fq then some .turn else if b=Oj then some .skew else none
def JZ (a:aM):Fr:=⟨(rd a.data.toList).n,(rd a.data.toList).d⟩
def FH (a:aM):Nat:=(rd a.data.toList).c
def qN (mk:Fr->Fr->Mv)(a b:aM):Mv×Nat:=if FH a≠0 then(.zero,FH a) else if FH b≠0 then(.zero,FH b) else(mk (JZ a) (JZ b),0)
def AA (mk:Fr->Mv)(a:aM):Mv×Nat:=if FH a≠0 then(.zero,FH a) else(mk (JZ a),0)
def FI (a:aM):Mv×Nat:=
 if a=⟨#[48]⟩ then(.turn 1 0,0) else if a=⟨#[49]⟩ then(.turn 0 1,0) else if a=⟨#[50]⟩ then(.turn (-1) 0,0) else if a=⟨#[51]⟩ then(.turn 0 (-1),0) else(.zero,1)
def Nz:Kd->List aM->Mv×Nat
 | .move,a::b::_=>qN Mv.shift a b
 | .scale,a::b::_=>qN Mv.scale a b
 | .turn,a::_=>FI a
 | .skew,a::_=>AA Mv.skew a
 |_,_=>(.zero,1)
def iD:Nat->List aM->List Mv->List Mv×Nat
 |_,[],a=>(a,0)
 |0,_::_,_=>([],1)
 |f+1,k::b,a=>match vP k with
  |none=>([],1)
  |some c=>if b.length<c.n then([],1) else if(Nz c b).2=0 then iD f (b.drop c.n) (a++[(Nz c b).1]) else([],(Nz c b).2)
def mW:Mv->List Mv->Mv×Nat
 |m,[]=>(m,0)
 |m,n::l=>if(thenS m n).2=0 then mW (thenS m n).1 l else(.zero,2)
def words (s:aM):List aM:=Lib.splitB ⟨#[32]⟩ 0 (Lib.countB s ⟨#[32]⟩) s
def qx (s:aM):List Mv×Nat:=if s.size=0 then([],0) else iD (words s).length (words s) []
def lq (s:aM):Mv×Nat:=if(qx s).2=0 then mW .one (qx s).1.reverse else(.zero,(qx s).2)
theorem VT {l:List UInt8}(h:(rd l).c=0):fH (rd l).n (rd l).d=0:=by
 unfold rd at h⊢;cases a:qw (ahead 47 l) with
 |none=>rw[a] at h;cases h
 |some n=>
  rw[a] at h;simp only at h⊢;cases c:behind 47 l with
  |none=>
   rw[c] at h;simp only[ck] at h⊢;grind
  |some b=>
   rw[c] at h;simp only at h⊢;split at h
   .rename_i d;simp only[ck] at h⊢;grind
   .cases h
theorem Tu {a:aM}(h:FH a=0):(JZ a).ok:=VT h
theorem Y7 {x y:Fr}(a:x.ok)(b:y.ok):(Mv.shift x y).ok:=⟨fD aC,fD aC,fD aC,fD aC,a,b⟩
theorem Y8 {x y:Fr}(a:x.ok)(b:y.ok):(Mv.scale x y).ok:=⟨a,fD aC,fD aC,b,fD aC,fD aC⟩
theorem a1g {x:Fr}(a:x.ok):(Mv.skew x).ok:=⟨fD aC,fD aC,a,fD aC,fD aC,fD aC⟩
theorem a1h {c s:Int}(hc:c.natAbs<=1)(hs:s.natAbs<=1):(Mv.turn c s).ok:=⟨fD aa,fD aa,fD aa,fD aa,fD aC,fD aC⟩
theorem a1i {mk:Fr->Fr->Mv}(e:∀x y,x.ok->y.ok->(mk x y).ok){a b:aM}(h:(qN mk a b).2=0):(qN mk a b).1.ok:=by
 unfold qN at h⊢;by_cases c:FH a=0
 .rw[if_neg (by simp[c])] at h⊢;by_cases d:FH b=0
  .rw[if_neg (by simp[d])];exact e _ _ (Tu c) (Tu d)
  .grind
 .grind
theorem aay {b:Kd}{ws:List aM}(h:(Nz b ws).2=0):(Nz b ws).1.ok:=by
 unfold Nz at h⊢;split
 .exact a1i (λ_ _=>Y7) h
 .exact a1i (λ_ _=>Y8) h
 .simp only[FI] at h⊢
  repeat' split
  all_goals first|exact a1h aC aC|skip
  rename_i a c d e;grind
 .simp only[AA] at h⊢;split
  .rename_i a;rw[if_pos a] at h;exact(a h).elim
  .rename_i a;exact a1g (Tu (by simpa using a))
 .rename_i a c d e;grind
theorem FJ:∀(f:Nat) (ws:List aM) (a:List Mv),(∀m∈a,m.ok)->(iD f ws a).2=0->∀m∈(iD f ws a).1,m.ok
 |_,[],a,h,_=>by simpa[iD] using h
 |0,_::_,_,_,h=>by simp[iD] at h
 |f+1,k::ws,a,e,h=>by
  unfold iD at h⊢;cases b:vP k with
  |none=>rw[b] at h;simp at h
  |some c=>
   rw[b] at h;simp only at h⊢;by_cases g:ws.length<c.n
   .grind
   .rw[if_neg g] at h⊢;by_cases d:(Nz c ws).2=0
    .rw[if_pos d] at h⊢;exact FJ f _ _ (λm i=>by rcases gT.1 i with h|h;exact e m h;simp at h;subst h;exact aay d) h
    .grind
end
section
open Go.RowKit
set_option maxRecDepth 20000
attribute [local go_sem] jl
theorem a1j (g c:Nat)(a:Fr)(W:ah)(f:W.cell? (aH g 0)=some (ag a.n))(i:W.cell? (aH g 1)=some (ag a.d)):
  aJ 358 #[aj (some ⟨g,0,none⟩) 1 c] W λe w'=>e=ax (mv (Mv.skew a))/\aD W w':=by
 have j:=tV;have k:=aR f;simp only at k;have l:=(aQ W.heap.size W).alloc ay (ai zA 165);have m:=gy.new W zA 165;go_enter func358,ntmps358;go_wp2_with(go_at_call 78;refine(j _).mono ?_;rintro e d ⟨rfl,b⟩;have h:=l.trans (b.mono aG);have n:=b.size;simp only[dK] at n;have q:=m.below b ay;have E:¬d.heap.size=W.heap.size:=aa;have F:¬W.heap.size=d.heap.size:=aa;have H:¬g=d.heap.size:=aa;have I:¬d.heap.size=g:=aa;dsimp only[Mv.one,Fr.whole];have J:=λo=>aL o ((h.cell (p:=⟨g,0,none⟩) (aR f)).trans f);have K:=λo=>aL o ((h.cell (p:=⟨g,1,none⟩) (aR i)).trans i);obtain⟨r,L,s,M,t,N,u,O,w,P,x,Q,y,S,z,T,A,U,B,V,C,X,D,Y⟩:=q.a0S);refine bodyPost_ret (v:=mv (Mv.skew a)) (by simp[results,results358,go_sem,Mv.skew,Fr.whole,r,s,t,u,w,x,y,z,A,B,C,D]) rfl ⟨rfl,?_⟩;exact(cZ (R:=W.heap.size) ay [ag 1,ag 1,ag 0,ag 1,ag a.n,ag a.d,ag 1,ag 1,ag 0,ag 1,ag 0,ag 1] 0 (h.alloc aa (ai #[ag 1,ag 1,ag 0,ag 1,ag a.n,ag a.d,ag 1,ag 1,ag 0,ag 1,ag 0,ag 1] 165)))
theorem zQ (g o c:Nat)(W:ah)(a:aM)(x y:Int)(h:(a=⟨#[48]⟩/\x=1/\y=0)\/(a=⟨#[49]⟩/\x=0/\y=1)\/(a=⟨#[50]⟩/\x= -1/\y=0)\/(a=⟨#[51]⟩/\x=0/\y= -1))(C:W.cell? (aH g o)=some (ak a)):
  aJ 357 #[aj (some ⟨g,o,none⟩) 1 c] W λe w'=>e=ax (aF #[mv (Mv.turn x y),aU])/\aD W w':=by
 have D:∀{B R:Nat} {A U:ah},B<=R->Below B A U->Below B A (put U R 0 [ag x,ag 1,ag y,ag 1,ag (-y),ag 1,ag x,ag 1]):=λl m=>cZ l _ 0 m;have n:∀{B R:Nat} {A U:ah},B<=R->Below B A U->Below B A (put U R 0 [ag x,ag 1,ag y,ag 1,ag (-y),ag 1,ag x,ag 1,ag 0,ag 1,ag 0,ag 1]):=λl m=>cZ l _ 0 m;rcases h with⟨rfl,rfl,rfl⟩|⟨rfl,rfl,rfl⟩|⟨rfl,rfl,rfl⟩|⟨rfl,rfl,rfl⟩
 all_goals
  have p:=tV;obtain⟨K2,q,r,s⟩:=And.intro jI (And.intro jI (And.intro jI jI));have k1:=λo=>aL o C;have E:=(aQ W.heap.size W).alloc ay (ai zA 165);have F:=gy.new W zA 165;go_enter func357,ntmps357;go_wp2_with(first|(go_at_call 78;refine(p _).mono ?_;clear p;rintro e k ⟨rfl,b⟩;have H:=E.trans (b.mono aG);have I:=b.size;simp only[dK] at I;have J:=(F.below b ay).alloc (ai oA 165);have K:=gy.new k oA 165;have t:=H.alloc aa (ai oA 165);have n1:¬k.heap.size=W.heap.size:=aa;have n2:¬W.heap.size=k.heap.size:=aa;dsimp only[Mv.one,Fr.whole])|(go_at_call 133;refine(K2 _ _).mono ?_;clear K2;rintro e w2 ⟨rfl,d⟩;have L:=J.below d ay;have M:=K.below d ay;have u:=t.trans (d.mono t.size))|(go_at_call 133;refine(q _ _).mono ?_;clear q;rintro e w3 ⟨rfl,f⟩;have N:=L.below f ay;have O:=M.below f ay;have w:=u.trans (f.mono u.size))|(go_at_call 133;refine(r _ _).mono ?_;clear r;rintro e w4 ⟨rfl,i⟩;have P:=N.below i ay;have Q:=O.below i ay;have z:=w.trans (i.mono w.size))|(go_at_call 133;refine(s _ _).mono ?_;clear s;rintro e w5 ⟨rfl,j⟩;have S:=P.below j ay;have T:=Q.below j ay;have V:=z.trans (j.mono z.size);obtain⟨X,JS,Y,JU,Z,JV,uX,JW,zi,O9,zl,Oa,zm,Ob,zo,Oc,zq,Od,zu,Oe,mq,vH,mD,vI⟩:=S.six;obtain⟨a4,a5,a6,a7,a8,a9,b0,b1,b2,b3,b4,b5,b6,b7,b8,b9,c0,c1,c2,c3,c4,c5,c6,c7⟩:=T.six));refine bodyPost_ret (v:=aF #[mv (Mv.turn _ _),aU]) (by simp[results,results357,go_sem,Mv.turn,Fr.whole,X,Y,Z,uX,zi,zl,zm,zo,zq,zu,mq,mD]) rfl ⟨rfl,?_⟩;exact n (R:=W.heap.size) ay (D (R:=k.heap.size) aa V)
theorem vQ {k:aM}{l:List UInt8}(h:k≠⟨l.toArray⟩):(k.toList==l)=false:=by
 rw[gz,dL];intro e;exact h (ext_list (by rw[e]))
theorem qy (P:Program)(w:ah)(a:Addr)(m:Mode):(store a .nilFunc m).run P w=stored P w a .nilFunc m:=run_store P w a _ m rfl
attribute [local go_sem] qy
theorem P7 (k:aM)(W:ah)(a:k≠Oi)(b:k≠Fp)(c:k≠Fq)(d:k≠Oj):
  aJ 324 #[ak k] W λe w'=>e=ax (aF #[.agg #[ag 0,.nilFunc],.bool false])/\aD W w':=by
 have f:=vQ (l:=[109,111,118,101]) a;have g:=vQ (l:=[115,99,97,108,101]) b;have h:=vQ (l:=[116,117,114,110]) c;have i:=vQ (l:=[115,107,101,119]) d;go_enter func324,ntmps324;go_wp2;refine bodyPost_ret (v:=aF #[.agg #[ag 0,.nilFunc],.bool false]) (by simp[results,results324,go_sem]) rfl ⟨rfl,?_⟩;exact(aQ _ W).alloc ay _
end
open Go.RowKit
attribute [local go_sem] jl
def Kd.f:Kd->Nat
 | .move=>355
 | .scale=>356
 | .turn=>357
 | .skew=>358
theorem Kd.n_pos (a:Kd):1<=a.n/\a.n<=2:=by cases a<;>exact⟨aC,aC⟩
def lenOf:au->Nat
 |aj _ n _=>n
 |_=>0
abbrev yI (m:Mv):List au:=[Value.int .i64 m.a.n,ag m.a.d,ag m.b.n,ag m.b.d,ag m.c.n,ag m.c.d,ag m.d.n,ag m.d.d,ag m.e.n,ag m.e.d,ag m.f.n,ag m.f.d]
def oG (l:List Mv):List au:=l.flatMap yI
theorem CV (l:List Mv)(m:Mv):oG (l++[m])=oG l++yI m:=by simp[oG]
theorem a1k {w:ah}{a:Nat}{e:TypeId}{b n:Nat}{v:au}{d:List au}(h:w.ownsRow a e b v n d):∀k,v.ownBlock=some k->k<w.heap.size:=by
 obtain⟨_,f⟩:=h;rcases f with⟨rfl,_⟩|⟨g,i,j,rfl,_,l,_⟩
 .intro k c;cases c
 .intro k c;simp only[Value.ownBlock] at c;cases c;exact(dZ.1 l).1
theorem gy.drew {w:ah}{R:Nat}{cs:Array au}{t:TypeId}(h:gy w R cs t):gy w.drew R cs t:=⟨h.h⟩
theorem drop_cons {ws:List aM}{j N r:Nat}(h:ws.length=N)(b:j+(r+1)=N):∃k,ws[j]? =some k/\ws.drop j=k::ws.drop (j+1):=by
 have a:j<ws.length:=aa;exact⟨ws[j],by simp[a],vz a⟩
theorem jm {w:ah}{b j:Nat}{ws:List aM}{t:TypeId}{k:aM}(h:gy w b (ws.map Value.string).toArray t)(a:ws[j]? =some k):w.cell? (aH b j)=some (ak k):=h.cell j _ (by simp[a])
def P9 (k:aM)(a:Kd):Prop:=∀V,aJ 324 #[ak k] V λe b=>(∃B,V.heap.size<=B/\e=ax (aF #[.agg #[ag a.n,.func (.func 367) #[] #[aI B]],.bool true])/\b.cell? (aH B 0)=some (.func (.func a.f) #[] #[]))/\aD V b
def a1l (W:ah)(ws:List aM)(a:Kd):Prop:=∀V o B b m,aD W V->gy V W.heap.size (ws.map Value.string).toArray 9->V.cell? (aH B 0)=some (.func (.func a.f) #[] #[])->o+a.n<=ws.length->Nz a (ws.drop o)=(m,0)->
 aJ 367 #[aj (some ⟨W.heap.size,o,none⟩) a.n b,aI B] V λe c=>e=ax (aF #[mv m,aU])/\aD V c
def a1m (W:ah)(ws:List aM):Prop:=∀V o a m,aD W V->gy V W.heap.size (ws.map Value.string).toArray 9->o+1<=ws.length->Nz .turn (ws.drop o)=(m,0)->
 aJ 357 #[aj (some ⟨W.heap.size,o,none⟩) 1 a] V λe b=>e=ax (aF #[mv m,aU])/\aD V b

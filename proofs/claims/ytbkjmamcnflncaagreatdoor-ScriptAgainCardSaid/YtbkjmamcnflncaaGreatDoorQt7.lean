import Derived.Test.YtbkjmamcnflncaaGreatDoorQt6
namespace Go.Proofs.YtbkjmamcnflncaaGreatDoor
open Go.Proofs.Tryz
set_option maxHeartbeats 4000000
variable{m:Mv}{ws:List aO}
section
theorem fO {n:Int}(h:n.natAbs<=1073741824):(Fr.whole n).ok:=gU.2 ⟨by simp[Fr.whole],by simp[ji,Fr.whole],by simpa[Fr.whole] using h,by simp[Fr.whole]⟩
theorem Gq:Mv.one.ok:=⟨fO aC,fO aC,fO aC,fO aC,fO aC,fO aC⟩
theorem uN (h:m.ok):(cZ 0 m.list).1=0:=by
 rw[oM];intro y a;simp only[Mv.list,gP,List.not_mem_nil,or_false] at a;obtain⟨b,c,d,e,f,g⟩:=h;rcases a with rfl|rfl|rfl|rfl|rfl|rfl<;>assumption
theorem WV {p:Pt}(h:p.ok):(cZ 6 p.list).1=0:=by
 rw[oM];intro y a;simp only[Pt.list,gP,List.not_mem_nil,or_false] at a;rcases a with rfl|rfl
 .exact h.1
 .exact h.2
theorem Qa {n x:Mv}(a:m.ok)(b:n.ok)(h:thenS m n=(x,0)):vL m n=(x,.no):=by
 unfold vL;rw[aG (by simp[uN a]),aG (by simp[uN b]),h];simp
theorem abh {p q:Pt}(a:m.ok)(hp:p.ok)(h:fH 0 m p=(q,0)):atR m p=(q,.no):=by
 unfold atR;rw[aG (by simp[uN a]),aG (by simp[WV hp]),h];simp
theorem Qb {n x:Mv}(h:vL m n=(x,.no)):m.ok/\n.ok/\thenS m n=(x,0):=by
 unfold vL at h;by_cases a:(cZ 0 m.list).1=0
 .rw[aG (by simp[a])] at h;by_cases b:(cZ 0 n.list).1=0
  .rw[aG (by simp[b])] at h;by_cases c:(thenS m n).2=0
   .rw[aR c] at h;exact⟨vJ a,vJ b,Prod.ext (Prod.mk.inj h).1 c⟩
   .grind
  .grind
 .grind
theorem abj {p q:Pt}(h:atR m p=(q,.no)):m.ok/\p.ok/\fH 0 m p=(q,0):=by
 unfold atR at h;by_cases a:(cZ 0 m.list).1=0
 .rw[aG (by simp[a])] at h;by_cases b:(cZ 6 p.list).1=0
  .rw[aG (by simp[b])] at h;by_cases c:(fH 0 m p).2=0
   .rw[aR c] at h;exact⟨vJ a,WH b,Prod.ext (Prod.mk.inj h).1 c⟩
   .grind
  .grind
 .grind
inductive Kd where
 |move
 |scale
 |turn
 |skew
def Kd.n:Kd->Nat
 | .move=>2
 | .scale=>2
 | .turn=>1
 | .skew=>1
def wN (b:aO):Option Kd:=if b=Pb then some .move else if b=Gf then some .scale else if b=Gg then some .turn else if b=Pd then some .skew else none
def Lb (a:aO):Fr:=⟨(rd a.data.toList).n,(rd a.data.toList).d⟩
def Gr (a:aO):Nat:=(rd a.data.toList).c
def rO (mk:Fr->Fr->Mv)(a b:aO):Mv×Nat:=if Gr a≠0 then(.zero,Gr a) else if Gr b≠0 then(.zero,Gr b) else(mk (Lb a) (Lb b),0)
def BJ (mk:Fr->Mv)(a:aO):Mv×Nat:=if Gr a≠0 then(.zero,Gr a) else(mk (Lb a),0)
def Gs (a:aO):Mv×Nat:=
 if a=⟨#[48]⟩ then(.turn 1 0,0) else if a=⟨#[49]⟩ then(.turn 0 1,0) else if a=⟨#[50]⟩ then(.turn (-1) 0,0) else if a=⟨#[51]⟩ then(.turn 0 (-1),0) else(.zero,1)
def Oo:Kd->List aO->Mv×Nat
 | .move,a::b::_=>rO Mv.shift a b
 | .scale,a::b::_=>rO Mv.scale a b
 | .turn,a::_=>Gs a
 | .skew,a::_=>BJ Mv.skew a
 |_,_=>(.zero,1)
def iN:Nat->List aO->List Mv->List Mv×Nat
 |_,[],a=>(a,0)
 |0,_::_,_=>([],1)
 |f+1,k::ws,a=>match wN k with
  |none=>([],1)
  |some b=>if ws.length<b.n then([],1) else if(Oo b ws).2=0 then iN f (ws.drop b.n) (a++[(Oo b ws).1]) else([],(Oo b ws).2)
def nH:Mv->List Mv->Mv×Nat
 |m,[]=>(m,0)
 |m,n::l=>if(thenS m n).2=0 then nH (thenS m n).1 l else(.zero,2)
def words (s:aO):List aO:=Lib.splitB ⟨#[32]⟩ 0 (Lib.countB s ⟨#[32]⟩) s
def qV (s:aO):List Mv×Nat:=if s.size=0 then([],0) else iN (words s).length (words s) []
def lS (s:aO):Mv×Nat:=if(qV s).2=0 then nH .one (qV s).1.reverse else(.zero,(qV s).2)
theorem WW {l:List UInt8}(h:(rd l).c=0):fV (rd l).n (rd l).d=0:=by
 unfold rd at h⊢;cases a:qU (ahead 47 l) with
 |none=>rw[a] at h;cases h
 |some n=>
  rw[a] at h;simp only at h⊢;cases c:behind 47 l with
  |none=>
   rw[c] at h;simp only[ck] at h⊢;grind
  |some b=>
   rw[c] at h;simp only at h⊢;split at h
   .rename_i d;simp only[ck] at h⊢;grind
   .cases h
theorem Ui {a:aO}(h:Gr a=0):(Lb a).ok:=WW h
theorem YL {x y:Fr}(a:x.ok)(b:y.ok):(Mv.shift x y).ok:=⟨fO aC,fO aC,fO aC,fO aC,a,b⟩
theorem YM {x y:Fr}(a:x.ok)(b:y.ok):(Mv.scale x y).ok:=⟨a,fO aC,fO aC,b,fO aC,fO aC⟩
theorem a1U {x:Fr}(a:x.ok):(Mv.skew x).ok:=⟨fO aC,fO aC,a,fO aC,fO aC,fO aC⟩
theorem a1V {c s:Int}(hc:c.natAbs<=1)(hs:s.natAbs<=1):(Mv.turn c s).ok:=⟨fO aa,fO aa,fO aa,fO aa,fO aC,fO aC⟩
theorem a1W {mk:Fr->Fr->Mv}(e:∀x y,x.ok->y.ok->(mk x y).ok){a b:aO}(h:(rO mk a b).2=0):(rO mk a b).1.ok:=by
 unfold rO at h⊢;by_cases c:Gr a=0
 .rw[aG (by simp[c])] at h⊢;by_cases d:Gr b=0
  .rw[aG (by simp[d])];exact e _ _ (Ui c) (Ui d)
  .grind
 .grind
theorem abk {b:Kd}(h:(Oo b ws).2=0):(Oo b ws).1.ok:=by
 unfold Oo at h⊢;split
 .exact a1W (λ_ _=>YL) h
 .exact a1W (λ_ _=>YM) h
 .simp only[Gs] at h⊢
  repeat' split
  all_goals first|exact a1V aC aC|skip
  rename_i a c d e;grind
 .simp only[BJ] at h⊢;split
  .rename_i a;rw[aR a] at h;exact(a h).elim
  .rename_i a;exact a1U (Ui (by simpa using a))
 .rename_i a c d e;grind
theorem Gt:∀(f:Nat) (ws:List aO) (a:List Mv),(∀m∈a,m.ok)->(iN f ws a).2=0->∀m∈(iN f ws a).1,m.ok
 |_,[],a,h,_=>by simpa[iN] using h
 |0,_::_,_,_,h=>by simp[iN] at h
 |f+1,k::ws,a,e,h=>by
  unfold iN at h⊢;cases b:wN k with
  |none=>rw[b] at h;simp at h
  |some c=>
   rw[b] at h;simp only at h⊢;by_cases g:ws.length<c.n
   .grind
   .rw[aG g] at h⊢;by_cases d:(Oo c ws).2=0
    .rw[aR d] at h⊢;exact Gt f _ _ (λm i=>by rcases iw.1 i with h|h;exact e m h;simp at h;subst h;exact abk d) h
    .grind
end
section
open Go.RowKit
set_option maxRecDepth 20000
attribute [local go_sem] jA
theorem a1X (g c:Nat)(a:Fr)(W:ai)(f:W.cell? (aJ g 0)=some (ag a.n))(i:W.cell? (aJ g 1)=some (ag a.d)):
  aL 358 #[aj (some ⟨g,0,none⟩) 1 c] W λe w'=>e=ay (mv (Mv.skew a))/\aD W w':=by
 have j:=uK;have k:=aX f;simp only at k;have l:=(aW W.heap.size W).alloc az (ak zA 165);have m:=gM.new W zA 165;go_enter func358,ntmps358;go_wp2_with(go_at_call 78;refine(j _).mono ?_;rintro e d ⟨rfl,b⟩;have h:=l.trans (b.mono aI);have n:=b.size;simp only[dV] at n;have q:=m.below b az;have E:¬d.heap.size=W.heap.size:=aa;have F:¬W.heap.size=d.heap.size:=aa;have H:¬g=d.heap.size:=aa;have I:¬d.heap.size=g:=aa;dsimp only[Mv.one,Fr.whole];have J:=λo=>aN o ((h.cell (p:=⟨g,0,none⟩) (aX f)).trans f);have K:=λo=>aN o ((h.cell (p:=⟨g,1,none⟩) (aX i)).trans i);obtain⟨r,L,s,M,t,N,u,O,w,P,x,Q,y,S,z,T,A,U,B,V,C,X,D,Y⟩:=q.a1B);refine bg (v:=mv (Mv.skew a)) (by simp[results,results358,go_sem,Mv.skew,Fr.whole,r,s,t,u,w,x,y,z,A,B,C,D]) rfl ⟨rfl,?_⟩;exact(dB (R:=W.heap.size) az [ag 1,ag 1,ag 0,ag 1,ag a.n,ag a.d,ag 1,ag 1,ag 0,ag 1,ag 0,ag 1] 0 (h.alloc aa (ak #[ag 1,ag 1,ag 0,ag 1,ag a.n,ag a.d,ag 1,ag 1,ag 0,ag 1,ag 0,ag 1] 165)))
theorem Ar (g o c:Nat)(W:ai)(a:aO)(x y:Int)(h:(a=⟨#[48]⟩/\x=1/\y=0)\/(a=⟨#[49]⟩/\x=0/\y=1)\/(a=⟨#[50]⟩/\x= -1/\y=0)\/(a=⟨#[51]⟩/\x=0/\y= -1))(C:W.cell? (aJ g o)=some (au a)):
  aL 357 #[aj (some ⟨g,o,none⟩) 1 c] W λe w'=>e=ay (aH #[mv (Mv.turn x y),aY])/\aD W w':=by
 have D:∀{B R:Nat} {A U:ai},B<=R->Below B A U->Below B A (put U R 0 [ag x,ag 1,ag y,ag 1,ag (-y),ag 1,ag x,ag 1]):=λl m=>dB l _ 0 m;have n:∀{B R:Nat} {A U:ai},B<=R->Below B A U->Below B A (put U R 0 [ag x,ag 1,ag y,ag 1,ag (-y),ag 1,ag x,ag 1,ag 0,ag 1,ag 0,ag 1]):=λl m=>dB l _ 0 m;rcases h with⟨rfl,rfl,rfl⟩|⟨rfl,rfl,rfl⟩|⟨rfl,rfl,rfl⟩|⟨rfl,rfl,rfl⟩
 all_goals
  have p:=uK;obtain⟨K2,q,r,s⟩:=And.intro jR (And.intro jR (And.intro jR jR));have k1:=λo=>aN o C;have E:=(aW W.heap.size W).alloc az (ak zA 165);have F:=gM.new W zA 165;go_enter func357,ntmps357;go_wp2_with(first|(go_at_call 78;refine(p _).mono ?_;clear p;rintro e k ⟨rfl,b⟩;have H:=E.trans (b.mono aI);have I:=b.size;simp only[dV] at I;have J:=(F.below b az).alloc (ak oA 165);have K:=gM.new k oA 165;have t:=H.alloc aa (ak oA 165);have n1:¬k.heap.size=W.heap.size:=aa;have n2:¬W.heap.size=k.heap.size:=aa;dsimp only[Mv.one,Fr.whole])|(go_at_call 133;refine(K2 _ _).mono ?_;clear K2;rintro e w2 ⟨rfl,d⟩;have L:=J.below d az;have M:=K.below d az;have u:=t.trans (d.mono t.size))|(go_at_call 133;refine(q _ _).mono ?_;clear q;rintro e w3 ⟨rfl,f⟩;have N:=L.below f az;have O:=M.below f az;have w:=u.trans (f.mono u.size))|(go_at_call 133;refine(r _ _).mono ?_;clear r;rintro e w4 ⟨rfl,i⟩;have P:=N.below i az;have Q:=O.below i az;have z:=w.trans (i.mono w.size))|(go_at_call 133;refine(s _ _).mono ?_;clear s;rintro e w5 ⟨rfl,j⟩;have S:=P.below j az;have T:=Q.below j az;have V:=z.trans (j.mono z.size);obtain⟨X,KQ,Y,KS,Z,KZ,vU,L8,zT,OU,zV,OV,zW,OX,zX,OY,zY,OZ,zZ,P6,mQ,wG,mV,wH⟩:=S.six;obtain⟨a4,a5,a6,a7,a8,a9,b0,b1,b2,b3,b4,b5,b6,b7,b8,b9,c0,c1,c2,c3,c4,c5,c6,c7⟩:=T.six));refine bg (v:=aH #[mv (Mv.turn _ _),aY]) (by simp[results,results357,go_sem,Mv.turn,Fr.whole,X,Y,Z,vU,zT,zV,zW,zX,zY,zZ,mQ,mV]) rfl ⟨rfl,?_⟩;exact n (R:=W.heap.size) az (D (R:=k.heap.size) aa V)
theorem wO {k:aO}{l:List UInt8}(h:k≠⟨l.toArray⟩):(k.toList==l)=false:=by
 rw[gN,dW];intro e;exact h (ext_list (by rw[e]))
theorem qW (P:Program)(w:ai)(a:Addr)(m:Mode):(store a .nilFunc m).run P w=stored P w a .nilFunc m:=run_store P w a _ m rfl
attribute [local go_sem] qW
theorem Qc (k:aO)(W:ai)(a:k≠Pb)(b:k≠Gf)(c:k≠Gg)(d:k≠Pd):
  aL 324 #[au k] W λe w'=>e=ay (aH #[.agg #[ag 0,.nilFunc],.bool false])/\aD W w':=by
 have f:=wO (l:=[109,111,118,101]) a;have g:=wO (l:=[115,99,97,108,101]) b;have h:=wO (l:=[116,117,114,110]) c;have i:=wO (l:=[115,107,101,119]) d;go_enter func324,ntmps324;go_wp2;refine bg (v:=aH #[.agg #[ag 0,.nilFunc],.bool false]) (by simp[results,results324,go_sem]) rfl ⟨rfl,?_⟩;exact(aW _ W).alloc az _
end
open Go.RowKit
attribute [local go_sem] jA
def Kd.f:Kd->Nat
 | .move=>355
 | .scale=>356
 | .turn=>357
 | .skew=>358
theorem Kd.n_pos (a:Kd):1<=a.n/\a.n<=2:=by cases a<;>exact⟨aC,aC⟩
def lenOf:ax->Nat
 |aj _ n _=>n
 |_=>0
abbrev zu (m:Mv):List ax:=[Value.int .i64 m.a.n,ag m.a.d,ag m.b.n,ag m.b.d,ag m.c.n,ag m.c.d,ag m.d.n,ag m.d.d,ag m.e.n,ag m.e.d,ag m.f.n,ag m.f.d]
def pJ (l:List Mv):List ax:=l.flatMap zu
theorem DV (l:List Mv)(m:Mv):pJ (l++[m])=pJ l++zu m:=by simp[pJ]
theorem a1Y {w:ai}{a:Nat}{e:TypeId}{b n:Nat}{v:ax}{d:List ax}(h:w.ownsRow a e b v n d):∀k,v.ownBlock=some k->k<w.heap.size:=by
 obtain⟨_,f⟩:=h;rcases f with⟨rfl,_⟩|⟨g,i,j,rfl,_,l,_⟩
 .intro k c;cases c
 .intro k c;simp only[Value.ownBlock] at c;cases c;exact(eY.1 l).1
theorem gM.drew {w:ai}{R:Nat}{cs:Array ax}{t:TypeId}(h:gM w R cs t):gM w.drew R cs t:=⟨h.h⟩
theorem drop_cons {j N r:Nat}(h:ws.length=N)(b:j+(r+1)=N):∃k,ws[j]? =some k/\ws.drop j=k::ws.drop (j+1):=by
 have a:j<ws.length:=aa;exact⟨ws[j],by simp[a],wz a⟩
theorem jB {w:ai}{b j:Nat}{t:TypeId}{k:aO}(h:gM w b (ws.map Value.string).toArray t)(a:ws[j]? =some k):w.cell? (aJ b j)=some (au k):=h.cell j _ (by simp[a])
def Qd (k:aO)(a:Kd):Prop:=∀V,aL 324 #[au k] V λe b=>(∃B,V.heap.size<=B/\e=ay (aH #[.agg #[ag a.n,.func (.func 367) #[] #[aK B]],.bool true])/\b.cell? (aJ B 0)=some (.func (.func a.f) #[] #[]))/\aD V b
def a1Z (W:ai)(ws:List aO)(a:Kd):Prop:=∀V o B b m,aD W V->gM V W.heap.size (ws.map Value.string).toArray 9->V.cell? (aJ B 0)=some (.func (.func a.f) #[] #[])->o+a.n<=ws.length->Oo a (ws.drop o)=(m,0)->
 aL 367 #[aj (some ⟨W.heap.size,o,none⟩) a.n b,aK B] V λe c=>e=ay (aH #[mv m,aY])/\aD V c
def a2a (W:ai)(ws:List aO):Prop:=∀V o a m,aD W V->gM V W.heap.size (ws.map Value.string).toArray 9->o+1<=ws.length->Oo .turn (ws.drop o)=(m,0)->
 aL 357 #[aj (some ⟨W.heap.size,o,none⟩) 1 a] V λe b=>e=ay (aH #[mv m,aY])/\aD V b

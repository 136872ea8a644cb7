import Derived.Lib.AppendIntMem
import Derived.Lib.ItoaLen
import Derived.Test.YtbkjmamcnflncaaGreatDoorQt21
namespace Go.Proofs.YtbkjmamcnflncaaGreatDoor
open Go.Proofs.Tryz
set_option maxHeartbeats 8000000
section
open Go.RowKit
def mk (n d:Int):R3:=if d=0 then⟨0,0,11⟩ else if kF n=true\/kF d=true then⟨0,0,2⟩ else low n d
structure G (aB aS aZ:Addr)(w:ai):Prop where
 e3:E3 aB aS aZ w
 z:EZ aZ w
 tab:Lib.TabIs prog w "internal/strconv.uint64pow10" .u64 Lib.pow10Tab
theorem abR:prog.globalNamed "internal/strconv.uint64pow10"=some 13:=aA
theorem ZA {w w':ai}{B:Nat}(h:Lib.TabIs prog w "internal/strconv.uint64pow10" .u64 Lib.pow10Tab)(a:Below B w w')(b:w.heap.size<=B):Lib.TabIs prog w' "internal/strconv.uint64pow10" .u64 Lib.pow10Tab:=
 var?_below a abR (fK (aX (h.cell abR 0 (by simp[Lib.pow10Tab]))) b) h
theorem Ig (n:Int)(w:ai)(b:kU n)(a:Lib.TabIs prog w "internal/strconv.uint64pow10" .u64 Lib.pow10Tab):
  aL 45 #[ag n] w λe w'=>e=ay (au ⟨(Lib.itoa n).toArray⟩)/\aD w w':=by
 refine(Tryz.strconv_Itoa n b.1 b.2 w a).mono ?_;rintro e w' ⟨rfl,k,c,rfl⟩;exact⟨rfl,Lib.below_grow _ _ az k c⟩
theorem Fx (n:Int)(s:aO)(w:ai)(b:kU n)(hs:(⟨(Lib.itoa n).toArray⟩:aO)=s)(a:Lib.TabIs prog w "internal/strconv.uint64pow10" .u64 Lib.pow10Tab):
  aL 45 #[ag n] w λe w'=>e=ay (au s)/\aD w w':=by
 subst hs;exact Ig n w b a
end
open Go.RowKit Go.Shelf
theorem NE.below {E:Nat->Addr}{w w':ai}(h:NE E w)(b:aD w w'):NE E w':=by
 obtain⟨j,l,m,n,o,d,⟨a,p⟩,⟨q,r⟩,e,f,s⟩:=h;have C:=λ{x:Addr} {v:ax} (g:w.cell? x=some v)=>(b.cell (aX g)).trans g;refine⟨C j,C l,C m,C n,C o,C d,⟨a,C p⟩,⟨q,C r⟩,?_,λk u y=>?_,s⟩
 .exact ZA e b az
 .obtain⟨c,t,i⟩:=f k u y;exact⟨c,t,(b.block _ (dI i)).trans i⟩
theorem JZ {E:Nat->Addr}{w:ai}(h:NE E w)(s:Bs)(hs:s.length<=1000000):
  aL 257 #[bV s] w λe w'=>e=ay (ag (JE s))/\aD w w':=by
 have u:(⟨s.toArray⟩:aO).size<=1000000:=hs;have f:(⟨s.toArray⟩:aO).data.toList=s:=rfl;unfold JE;cases g:Lib.atoiAll s with
 |«syntax»=>
  obtain⟨a,p⟩:=h.sy;have c:=Tryz.strconv_Atoi_syntax ⟨s.toArray⟩ aa (by rw[f];exact g) (eV a) w p (.inr ⟨_,_,rfl⟩);clear h p g;go_enter func257,ntmps257;go_wp2_with(go_at_call 176;refine c.mono ?_;rintro e d ⟨x,rfl, -, -,b⟩);go_ret;exact⟨rfl,b⟩
 |range=>
  obtain⟨a,q⟩:=h.rg;have c:=Tryz.strconv_Atoi_range ⟨s.toArray⟩ aa (by rw[f];exact g) (eV a) w q (.inr ⟨_,_,rfl⟩);clear h q g;go_enter func257,ntmps257;go_wp2_with(go_at_call 176;refine c.mono ?_;rintro e d ⟨x,rfl, -, -,b⟩);go_ret;exact⟨rfl,b⟩
 |ok v=>
  have c:aL 176 #[au ⟨s.toArray⟩] w λe w'=>e=ay (aH #[ag v,aY])/\aD w w':=by
   refine(Tryz.strconv_Atoi_ok ⟨s.toArray⟩ aa v (by rw[f];exact g) w).mono ?_;rintro e d ⟨rfl,rfl|⟨t,rfl⟩⟩
   .exact⟨rfl,aW _ _⟩
   .exact⟨rfl,rfl,rfl,rfl,by rw[Lib.bytesWorld_size];omega,λj y=>Lib.bytesWorld_at_old w _ _ j y⟩
  clear g;dsimp only;by_cases C:v<0
  .rw[aG aa];go_enter func257,ntmps257;go_wp2_with(go_at_call 176;refine c.mono ?_;rintro e d ⟨rfl,b⟩);go_ret;exact⟨rfl,b⟩
  .by_cases D:999<v
   .rw[aG aa];go_enter func257,ntmps257;go_wp2_with(go_at_call 176;refine c.mono ?_;rintro e d ⟨rfl,b⟩);go_ret;exact⟨rfl,b⟩
   .have k:=λV (z:NE E V)=>Ig v V ⟨aa,aa⟩ z.tab;have r:=aF h;clear h;by_cases i:Lib.itoa v=s
    .rw[aR ⟨aa,aa,i⟩];rw[i] at k;go_enter func257,ntmps257;go_wp2_with(first|(go_at_call 176;refine c.mono ?_;rintro e d ⟨rfl,b⟩;have l:=k d (r.out.below b))|(go_at_call 45;refine l.mono ?_;rintro e A ⟨rfl,m⟩));go_ret;exact⟨rfl,bf b m⟩
    .rw[aG (λh=>i h.2.2)];obtain⟨t,n⟩:∃t,Lib.itoa v=t:=⟨_,rfl⟩;rw[n] at k;have B:=j5 t s;have o:(t==s)=false:=by rw[<- n];simpa using i
     rw[o] at B;clear i n;go_enter func257,ntmps257;go_wp2_with(first|(go_at_call 176;refine c.mono ?_;rintro e d ⟨rfl,b⟩;have l:=k d (r.out.below b))|(go_at_call 45;refine l.mono ?_;rintro e A ⟨rfl,m⟩));go_ret;exact⟨rfl,bf b m⟩
set_option maxRecDepth 20000
theorem NE.e3 {E:Nat->Addr}{w:ai}(h:NE E w):E3 (E 2) (E 3) (E 2) w:=⟨h.c2,h.c3,rfl⟩
theorem NE.e4 {E:Nat->Addr}{w:ai}(h:NE E w):E4 (E 1) (E 2) (E 3) w:=⟨h.e3,h.c1⟩
theorem xq (M:Dm)(n:Int)(nm:Bs):UB M n nm=EI M n nm:=rfl
def SzD (M:Dm):Prop:=∀n e,M n=some e->∀a∈e.ats,a.2.length<=200
theorem Fy {M:Dm}(h:SzD M){n:Int}{nm s:Bs}(b:EI M n nm=some s):s.length<=200:=by
 unfold EI at b;cases c:M n with
 |none=>rw[c] at b;cases b
 |some e=>
  rw[c] at b;simp only[pQ,ni] at b;obtain⟨a,d,f⟩:=b;have:=h n e c a (List.mem_of_find?_eq_some d);grind
theorem Rh {M:Dm}(h:SzD M)(n:Int)(nm:Bs):(Nc M n nm).length<=200:=by
 unfold Nc;cases a:EI M n nm with
 |none=>simp
 |some s=>exact Fy h a
variable {E:Nat->Addr}{B:Nat}{g:dG}{W:ai}{DB i:Nat}{p:Int->Option Nat}{M:Dm}{nx c:Nat}
theorem UZ (m:NE E W)(j:dm B g W DB i p M nx c)(y:SzD M)(o:Nat)(q:W.cell? (aJ o 0)=some (aK DB))(n:Int)(z:eH n)(nm:Bs):
  aL 258 #[aK o,ag n,bV nm] W λe w'=>e=ay (aH #[.agg #[ag (iI M n nm).n,ag (iI M n nm).d],TA (E 1) (E 2) (E 3) (E 2) (iI M n nm).c])/\aD W w':=by
 have b:=dR W (ak #[ag 0,ag 0] 163);have r:=Two.new W (ag 0) (ag 0) 163;have d:=nL (j.below b) n z nm;have A:=(b.cell (aX q)).trans q;rw[xq] at d;unfold iI;cases f:EI M n nm with
 |none=>
  rw[f] at d;clear j f;go_enter func258,ntmps258;go_wp2_with(go_at_call 169;refine d.mono ?_;rintro e t ⟨rfl,a⟩;obtain⟨k,l,C,D⟩:=r.below a az);refine bg (v:=aH #[.agg #[ag 0,ag 1],aY]) (by simp[results,results258,go_sem,k,l]) rfl ⟨rfl,?_⟩;exact((bf b a).setCell az _).setCell az _
 |some s=>
  rw[f] at d;have F:=Fy y f;have H:(⟨s.toArray⟩:aO).size<=200:=F;have RD:∀V,NE E V->aL 319 #[bV s] V λe w'=>e=ay (aH #[.agg #[ag (rd s).n,ag (rd s).d],TA (E 1) (E 2) (E 3) (E 2) (rd s).c])/\aD V w':=λV u=>xK (E 1) (E 2) (E 3) (E 2) ⟨s.toArray⟩ V u.e3 u.c1 aa;have I:=aF m;dsimp only;generalize rd s=x at RD⊢;obtain⟨J,h⟩:∃v,TA (E 1) (E 2) (E 3) (E 2) x.c=v:=⟨_,rfl⟩;simp only[h] at RD⊢;clear j f m h;go_enter func258,ntmps258;go_wp2_with(first|(go_at_call 169;refine d.mono ?_;rintro e t ⟨rfl,a⟩;have K:=RD t (I.out.below (bf b a)))|(go_at_call 319;refine K.mono ?_;rintro e L ⟨rfl,w⟩;obtain⟨k,l,C,D⟩:=r.below (bf a w) az));refine bg (v:=aH #[.agg #[ag x.n,ag x.d],J]) (by simp[results,results258,go_sem,k,l]) rfl ⟨rfl,?_⟩;exact((bf b (bf a w)).setCell az _).setCell az _
theorem gM.Ri {w:ai}{R:Nat}{c d e f g i j v7 k l a b:ax}{t:TypeId}(h:gM w R #[c,d,e,f,g,i,j,v7,k,l,a,b] t):
  w.cell? (aJ R 0)=some c/\w.cell? (aJ R 1)=some d/\w.cell? (aJ R 2)=some e/\w.cell? (aJ R 3)=some f/\w.cell? (aJ R 4)=some g/\w.cell? (aJ R 5)=some i/\w.cell? (aJ R 6)=some j/\w.cell? (aJ R 7)=some v7/\w.cell? (aJ R 8)=some k/\w.cell? (aJ R 9)=some l/\w.cell? (aJ R 10)=some a/\w.cell? (aJ R 11)=some b/\
  w.frozen? ⟨R,0,none⟩=false/\w.frozen? ⟨R,1,none⟩=false/\w.frozen? ⟨R,2,none⟩=false/\w.frozen? ⟨R,3,none⟩=false/\w.frozen? ⟨R,4,none⟩=false/\w.frozen? ⟨R,5,none⟩=false/\w.frozen? ⟨R,6,none⟩=false/\w.frozen? ⟨R,7,none⟩=false/\w.frozen? ⟨R,8,none⟩=false/\w.frozen? ⟨R,9,none⟩=false/\w.frozen? ⟨R,10,none⟩=false/\w.frozen? ⟨R,11,none⟩=false:=
 ⟨h.cell 0 _ rfl,h.cell 1 _ rfl,h.cell 2 _ rfl,h.cell 3 _ rfl,h.cell 4 _ rfl,h.cell 5 _ rfl,h.cell 6 _ rfl,h.cell 7 _ rfl,h.cell 8 _ rfl,h.cell 9 _ rfl,h.cell 10 _ rfl,h.cell 11 _ rfl,h.fG 0 _ rfl,h.fG 1 _ rfl,h.fG 2 _ rfl,h.fG 3 _ rfl,h.fG 4 _ rfl,h.fG 5 _ rfl,h.fG 6 _ rfl,h.fG 7 _ rfl,h.fG 8 _ rfl,h.fG 9 _ rfl,h.fG 10 _ rfl,h.fG 11 _ rfl⟩
abbrev plA (n:Int)(q:ax)(m:Mv):Array ax:=#[ag n,q,ag m.a.n,ag m.a.d,ag m.b.n,ag m.b.d,ag m.c.n,ag m.c.d,ag m.d.n,ag m.d.d,ag m.e.n,ag m.e.d,ag m.f.n,ag m.f.d]
def MvR (E:Nat->Addr)(x:Except Nat Mv)(e:Ending)(w':ai):Prop:=match x with
 | .ok m=>e=ay (aH #[mv m,aY])
 | .error c=>∃v,e=ay (aH #[mv .zero,v])/\TM E c v w'
theorem ZB (c:Kd)(ws:List aO):(Oo c ws).2=0\/(Oo c ws).2=1\/(Oo c ws).2=2\/(Oo c ws).2=3:=by
 have e:∀a:aO,Gr a=0\/Gr a=1\/Gr a=2\/Gr a=3:=λa=>by
  unfold Gr;rcases Ho a.data.toList with h|⟨h, -⟩
  .exact .inl h
  .exact .inr h
 have d:∀(mk:Fr->Fr->Mv) (a b:aO),(rO mk a b).2=0\/(rO mk a b).2=1\/(rO mk a b).2=2\/(rO mk a b).2=3:=λmk a b=>by
  unfold rO;grind
 unfold Oo;split
 .exact d _ _ _
 .exact d _ _ _
 .unfold Gs;grind
 .unfold BJ;grind
 .omega
theorem Ep:∀(f:Nat) (ws:List aO) (a:List Mv),(iN f ws a).2=0\/(iN f ws a).2=1\/(iN f ws a).2=2\/(iN f ws a).2=3
 |_,[],_=>.inl (by simp[iN])
 |0,_::_,_=>.inr (.inl rfl)
 |f+1,k::ws,a=>by
  unfold iN;cases c:wN k with
  |none=>exact .inr (.inl rfl)
  |some b=>
   dsimp only;split
   .omega
   .split
    .exact Ep f _ _
    .exact ZB b ws
theorem Rj (s:aO):(lS s).2=0\/(lS s).2=1\/(lS s).2=2\/(lS s).2=3:=by
 unfold lS;split
 .rcases Ll (qV s).1.reverse .one with h|h
  .exact .inl h
  .grind
 .unfold qV;split
  .exact .inl rfl
  .exact Ep _ _ _
theorem Rk {s:aO}(h:(lS s).2=0):(lS s).1.ok:=by
 unfold lS at h⊢;by_cases a:(qV s).2=0
 .rw[aR a] at h⊢;refine Hr _ _ Gq (λn b=>?_) h;unfold qV at a b;by_cases c:s.size=0
  .grind
  .rw[aG c] at a b;exact Gt _ _ _ aI a n (List.mem_reverse.1 b)
 .grind
theorem abS {E:Nat->Addr}{c:Nat}(h:c=1\/c=2\/c=3):er0 (E 1) (E 2) (E 3) c=eV (E c):=by
 rcases h with rfl|rfl|rfl<;>rfl
theorem V5 (hN:NE E W)(hd:dm B g W DB i p M nx c)(hz:SzD M)(WB:Nat)(hw:W.cell? (aJ WB 0)=some (aK DB))(n:Int)(hn:eH n)(PB:Nat)(k:Int)(q:ax)(m:Mv)(hm:m.ok)(hp:W.heap[PB]? =some (ak (plA k q m) 168)):
  aL 131 #[aK WB,ag n,aK PB] W λe w'=>MvR E (AZ M n m) e w'/\aD W w':=by
 have z:=dR W (ak zA 165);have P:=gM.new W zA 165;have H:=nL (hd.below z) n hn rV;have Q:=(z.cell (aX hw)).trans hw;rw[xq] at H;have hl:=Rh hz n rV;unfold AZ;unfold Nc at hl⊢;generalize (EI M n rV).getD []=s at H hl⊢;generalize (EI M n rV).isSome=bo at H;have b9:(⟨s.toArray⟩:aO).size<=200:=hl;have RD:=λV (t:NE E V)=>a2I (aT:=E 1) (aB:=E 2) (aS:=E 3) ⟨s.toArray⟩ aa V t.e4;have S:=aF hN;have f:=Rj ⟨s.toArray⟩;have j:(lS ⟨s.toArray⟩).2=0->(lS ⟨s.toArray⟩).1.ok:=Rk;obtain⟨A,T,hr⟩:∃a b,lS ⟨s.toArray⟩=(a,b):=⟨_,_,rfl⟩;simp only[hr] at RD f j⊢;clear hr hN hd hl;by_cases hc:T=0
 .subst hc;have j:=j rfl;have X:=dI hp;rw[aG aI];simp only[show er0 (E 1) (E 2) (E 3) 0=aY from rfl] at RD;by_cases I:(thenS A m).2=0
  .rw[aR I];have O:=λV (t:NE E V)=>WJ (aB:=E 2) (aS:=E 3) (aZ:=E 2) (rq j) (rq hm) (Qa j hm (Nl I)) V t.e3;generalize (thenS A m).1=x at O⊢;clear I f;go_enter func131,ntmps131;go_upto_region 5 with(first|(go_at_call 169;refine H.mono ?_;rintro e Y ⟨rfl,l⟩;have J:=RD Y (S.out.below (bf z l)))|(go_at_call 194;refine J.mono ?_;rintro e w ⟨rfl,u⟩));have K:=dR w (ak (mA A) 165);have KM:=gM.new w (mA A) 165;have C:=bf (bf z l) (bf u K);have o:=P.below (bf l (bf u K)) az;have d:=(C.block _ X).trans hp;have L:W.heap.size<w.heap.size:=by have:=l.size;have:=u.size;simp at*;omega
   obtain⟨U,Z⟩:∃U,w.alloc (ak (mA A) 165)=U:=⟨_,rfl⟩;rw[Z] at C o d KM⊢;obtain⟨RB,N⟩:∃r,w.heap.size=r:=⟨_,rfl⟩;rw[N] at KM L⊢;have NU:=S.out.below C;have TU:=λV (t:aD U V)=>O V (NU.below t);clear Z z l u K H RD J O Q P hp;have T1:=TU U.drew (below_drewN (aW _ _) 1);obtain⟨m0,m1,m2,m3,m4,m5,m6,m7,m8,m9,a7,a8, -⟩:=KM.Ri;have p2:=aQ d 2 _ rfl;have p3:=aQ d 3 _ rfl;have p4:=aQ d 4 _ rfl;have p5:=aQ d 5 _ rfl;have p6:=aQ d 6 _ rfl;have p7:=aQ d 7 _ rfl;have p8:=aQ d 8 _ rfl;have p9:=aQ d 9 _ rfl;have a9:=aQ d 10 _ rfl;have b5:=aQ d 11 _ rfl;have b6:=aQ d 12 _ rfl;have b7:=aQ d 13 _ rfl;have RF:∀V,Below U.heap.size U.drew V->gM V W.heap.size zA 165:=λV t=>⟨(t.block _ o.lt).trans o.h⟩;clear d KM
   go_region_with (go_at_call 195;refine T1.mono ?_;rintro e w3 ⟨rfl,b4⟩;obtain⟨z0,z1,z2,z3,z4,z5,z6,z7,z8,z9,D,F,y0,y1,y2,y3,y4,y5,y6,y7,y8,y9,a4,a5⟩:=(RF w3 b4).Ri)
   all_goals go_wp2_with fail
   all_goals refine bg (v:=aH #[mv x,aY]) (by simp[results,results131,go_sem,z0,z1,z2,z3,z4,z5,z6,z7,z8,z9,D,F]) rfl ⟨rfl,?_⟩
   all_goals exact dB (R:=W.heap.size) az (mL x) 0 (C.trans ((below_drewN (aW _ _) 1).trans (b4.mono az)|>.mono C.size))
  .rw[aG I];have O:∀V,NE E V->aL 195 #[mv A,mv m] V λe w'=>(∃v,e=ay (aH #[mv .zero,v])/\Er.is (E 2) (E 3) (E 2) V.heap.size (.bare 2) v w')/\aD V w':=λV t=>by
    have h:=WL (aB:=E 2) (aS:=E 3) (aZ:=E 2) (rq j) (rq hm) (λy e=>I (by rw[(Qb e).2.2])) V t.e3;have h2:(vL A m).2=.bare 2:=by
     unfold vL;rw[aG (λe=>e (uN j)),aG (λe=>e (uN hm)),aG I]
    rw[h2] at h;exact h
   clear I f;go_enter func131,ntmps131;go_upto_region 5 with(first|(go_at_call 169;refine H.mono ?_;rintro e Y ⟨rfl,l⟩;have J:=RD Y (S.out.below (bf z l)))|(go_at_call 194;refine J.mono ?_;rintro e w ⟨rfl,u⟩));have K:=dR w (ak (mA A) 165);have KM:=gM.new w (mA A) 165;have C:=bf (bf z l) (bf u K);have o:=P.below (bf l (bf u K)) az;have d:=(C.block _ X).trans hp;have L:W.heap.size<w.heap.size:=by have:=l.size;have:=u.size;simp at*;omega
   obtain⟨U,Z⟩:∃U,w.alloc (ak (mA A) 165)=U:=⟨_,rfl⟩;rw[Z] at C o d KM⊢;obtain⟨RB,N⟩:∃r,w.heap.size=r:=⟨_,rfl⟩;rw[N] at KM L⊢;have NU:=S.out.below C;have TU:=λV (t:aD U V)=>O V (NU.below t);clear Z z l u K H RD J O Q P hp;have T1:=TU U.drew (below_drewN (aW _ _) 1);obtain⟨m0,m1,m2,m3,m4,m5,m6,m7,m8,m9,a7,a8, -⟩:=KM.Ri;have p2:=aQ d 2 _ rfl;have p3:=aQ d 3 _ rfl;have p4:=aQ d 4 _ rfl;have p5:=aQ d 5 _ rfl;have p6:=aQ d 6 _ rfl;have p7:=aQ d 7 _ rfl;have p8:=aQ d 8 _ rfl;have p9:=aQ d 9 _ rfl;have a9:=aQ d 10 _ rfl;have b5:=aQ d 11 _ rfl;have b6:=aQ d 12 _ rfl;have b7:=aQ d 13 _ rfl;have RF:∀V,Below U.heap.size U.drew V->gM V W.heap.size zA 165:=λV t=>⟨(t.block _ o.lt).trans o.h⟩;clear d KM
   go_region_with (go_at_call 195;refine T1.mono ?_;rintro e w3 ⟨⟨ev,rfl,b8⟩,b4⟩;obtain⟨z0,z1,z2,z3,z4,z5,z6,z7,z8,z9,D,F,y0,y1,y2,y3,y4,y5,y6,y7,y8,y9,a4,a5⟩:=(RF w3 b4).Ri)
   all_goals go_wp2_with fail
   all_goals refine bg (v:=aH #[mv .zero,ev]) (by simp[results,results131,go_sem,Mv.zero,Fr.zero,z0,z1,z2,z3,z4,z5,z6,z7,z8,z9,D,F]) rfl ⟨⟨ev,rfl,aC,aC,.inl b8.2⟩,?_⟩
   all_goals exact dB (R:=W.heap.size) az zL 0 (C.trans ((below_drewN (aW _ _) 1).trans (b4.mono az)|>.mono C.size))
 .have f:T=1\/T=2\/T=3:=f.resolve_left hc;rw[aR hc];simp only[abS f] at RD;have a6:=aF f;clear f j;go_enter func131,ntmps131;go_wp2_with(first|(go_at_call 169;refine H.mono ?_;rintro e Y ⟨rfl,l⟩;have J:=RD Y (S.out.below (bf z l)))|(go_at_call 194;refine J.mono ?_;rintro e w ⟨rfl,u⟩;obtain⟨z0,z1,z2,z3,z4,z5,z6,z7,z8,z9,D,F,y0,y1,y2,y3,y4,y5,y6,y7,y8,y9,a4,a5⟩:=((P.below (bf l u) az).alloc (ak (mA A) 165)).Ri));refine bg (v:=aH #[mv .zero,eV (E T)]) (by simp[results,results131,go_sem,Mv.zero,Fr.zero,z0,z1,z2,z3,z4,z5,z6,z7,z8,z9,D,F]) rfl ⟨⟨_,rfl,by have:=a6.out;omega,by have:=a6.out;omega,.inl rfl⟩,?_⟩;exact dB (R:=W.heap.size) az zL 0 ((bf z (bf l u)).alloc (bf z (bf l u)).size _)

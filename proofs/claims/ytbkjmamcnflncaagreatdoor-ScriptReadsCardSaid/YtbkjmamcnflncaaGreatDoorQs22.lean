import Derived.Lib.AppendIntMem
import Derived.Lib.ItoaLen
import Derived.Test.YtbkjmamcnflncaaGreatDoorQs21
namespace Go.Proofs.YtbkjmamcnflncaaGreatDoor
open Go.Proofs.Tryz
set_option maxHeartbeats 8000000
section
open Go.RowKit
def mk (n d:Int):R3:=if d=0 then⟨0,0,11⟩ else if jV n=true\/jV d=true then⟨0,0,2⟩ else low n d
structure G (aB aS aZ:Addr)(w:ah):Prop where
 e3:E3 aB aS aZ w
 z:EZ aZ w
 tab:Lib.TabIs prog w "internal/strconv.uint64pow10" .u64 Lib.pow10Tab
theorem ab4:prog.globalNamed "internal/strconv.uint64pow10"=some 13:=az
theorem YV {w w':ah}{B:Nat}(h:Lib.TabIs prog w "internal/strconv.uint64pow10" .u64 Lib.pow10Tab)(a:Below B w w')(b:w.heap.size<=B):Lib.TabIs prog w' "internal/strconv.uint64pow10" .u64 Lib.pow10Tab:=
 var?_below a ab4 (dP (aR (h.cell ab4 0 (by simp[Lib.pow10Tab]))) b) h
theorem GJ (n:Int)(w:ah)(b:kS n)(a:Lib.TabIs prog w "internal/strconv.uint64pow10" .u64 Lib.pow10Tab):
  aJ 45 #[ag n] w λe w'=>e=ax (ak ⟨(Lib.itoa n).toArray⟩)/\aD w w':=by
 refine(Tryz.strconv_Itoa n b.1 b.2 w a).mono ?_;rintro e w' ⟨rfl,k,c,rfl⟩;exact⟨rfl,Lib.below_grow _ _ ay k c⟩
theorem EA (n:Int)(s:aM)(w:ah)(b:kS n)(hs:(⟨(Lib.itoa n).toArray⟩:aM)=s)(a:Lib.TabIs prog w "internal/strconv.uint64pow10" .u64 Lib.pow10Tab):
  aJ 45 #[ag n] w λe w'=>e=ax (ak s)/\aD w w':=by
 subst hs;exact GJ n w b a
end
open Go.RowKit Go.Shelf
theorem NE.below {E:Nat->Addr}{w w':ah}(h:NE E w)(b:aD w w'):NE E w':=by
 obtain⟨j,l,m,n,o,d,⟨a,p⟩,⟨q,r⟩,e,f,s⟩:=h;have C:=λ{x:Addr} {v:au} (g:w.cell? x=some v)=>(b.cell (aR g)).trans g;refine⟨C j,C l,C m,C n,C o,C d,⟨a,C p⟩,⟨q,C r⟩,?_,λk u y=>?_,s⟩
 .exact YV e b ay
 .obtain⟨c,t,i⟩:=f k u y;exact⟨c,t,(b.block _ (dz i)).trans i⟩
theorem Jo {E:Nat->Addr}{w:ah}(h:NE E w)(s:Bs)(hs:s.length<=1000000):
  aJ 257 #[bV s] w λe w'=>e=ax (ag (J5 s))/\aD w w':=by
 have u:(⟨s.toArray⟩:aM).size<=1000000:=hs;have f:(⟨s.toArray⟩:aM).data.toList=s:=rfl;unfold J5;cases g:Lib.atoiAll s with
 |«syntax»=>
  obtain⟨a,p⟩:=h.sy;have c:=Tryz.strconv_Atoi_syntax ⟨s.toArray⟩ aa (by rw[f];exact g) (eV a) w p (.inr ⟨_,_,rfl⟩);clear h p g;go_enter func257,ntmps257;go_wp2_with(go_at_call 176;refine c.mono ?_;rintro e d ⟨x,rfl, -, -,b⟩);go_ret;exact⟨rfl,b⟩
 |range=>
  obtain⟨a,q⟩:=h.rg;have c:=Tryz.strconv_Atoi_range ⟨s.toArray⟩ aa (by rw[f];exact g) (eV a) w q (.inr ⟨_,_,rfl⟩);clear h q g;go_enter func257,ntmps257;go_wp2_with(go_at_call 176;refine c.mono ?_;rintro e d ⟨x,rfl, -, -,b⟩);go_ret;exact⟨rfl,b⟩
 |ok v=>
  have c:aJ 176 #[ak ⟨s.toArray⟩] w λe w'=>e=ax (aF #[ag v,aU])/\aD w w':=by
   refine(Tryz.strconv_Atoi_ok ⟨s.toArray⟩ aa v (by rw[f];exact g) w).mono ?_;rintro e d ⟨rfl,rfl|⟨t,rfl⟩⟩
   .exact⟨rfl,aQ _ _⟩
   .exact⟨rfl,rfl,rfl,rfl,by rw[Lib.bytesWorld_size];omega,λj y=>Lib.bytesWorld_at_old w _ _ j y⟩
  clear g;dsimp only;by_cases C:v<0
  .rw[if_neg aa];go_enter func257,ntmps257;go_wp2_with(go_at_call 176;refine c.mono ?_;rintro e d ⟨rfl,b⟩);go_ret;exact⟨rfl,b⟩
  .by_cases D:999<v
   .rw[if_neg aa];go_enter func257,ntmps257;go_wp2_with(go_at_call 176;refine c.mono ?_;rintro e d ⟨rfl,b⟩);go_ret;exact⟨rfl,b⟩
   .have k:=λV (z:NE E V)=>GJ v V ⟨aa,aa⟩ z.tab;have r:=aA h;clear h;by_cases i:Lib.itoa v=s
    .rw[if_pos ⟨aa,aa,i⟩];rw[i] at k;go_enter func257,ntmps257;go_wp2_with(first|(go_at_call 176;refine c.mono ?_;rintro e d ⟨rfl,b⟩;have l:=k d (r.out.below b))|(go_at_call 45;refine l.mono ?_;rintro e A ⟨rfl,m⟩));go_ret;exact⟨rfl,aW b m⟩
    .rw[if_neg (λh=>i h.2.2)];obtain⟨t,n⟩:∃t,Lib.itoa v=t:=⟨_,rfl⟩;rw[n] at k;have B:=iL t s;have o:(t==s)=false:=by rw[<- n];simpa using i
     rw[o] at B;clear i n;go_enter func257,ntmps257;go_wp2_with(first|(go_at_call 176;refine c.mono ?_;rintro e d ⟨rfl,b⟩;have l:=k d (r.out.below b))|(go_at_call 45;refine l.mono ?_;rintro e A ⟨rfl,m⟩));go_ret;exact⟨rfl,aW b m⟩
set_option maxRecDepth 20000
theorem NE.e3 {E:Nat->Addr}{w:ah}(h:NE E w):E3 (E 2) (E 3) (E 2) w:=⟨h.c2,h.c3,rfl⟩
theorem NE.e4 {E:Nat->Addr}{w:ah}(h:NE E w):E4 (E 1) (E 2) (E 3) w:=⟨h.e3,h.c1⟩
theorem wE (M:Dm)(n:Int)(nm:Bs):TV M n nm=DU M n nm:=rfl
def SzD (M:Dm):Prop:=∀n e,M n=some e->∀a∈e.ats,a.2.length<=200
theorem EC {M:Dm}(h:SzD M){n:Int}{nm s:Bs}(b:DU M n nm=some s):s.length<=200:=by
 unfold DU at b;cases c:M n with
 |none=>rw[c] at b;cases b
 |some e=>
  rw[c] at b;simp only[oM,mM] at b;obtain⟨a,d,f⟩:=b;have:=h n e c a (List.mem_of_find?_eq_some d);grind
theorem Qu {M:Dm}(h:SzD M)(n:Int)(nm:Bs):(Mg M n nm).length<=200:=by
 unfold Mg;cases a:DU M n nm with
 |none=>simp
 |some s=>exact EC h a
variable {E:Nat->Addr}{B:Nat}{g:dm}{W:ah}{DB i:Nat}{p:Int->Option Nat}{M:Dm}{nx c:Nat}
theorem Um (m:NE E W)(j:bT B g W DB i p M nx c)(y:SzD M)(o:Nat)(q:W.cell? (aH o 0)=some (aI DB))(n:Int)(z:dV n)(nm:Bs):
  aJ 258 #[aI o,ag n,bV nm] W λe w'=>e=ax (aF #[.agg #[ag (iy M n nm).n,ag (iy M n nm).d],Sk (E 1) (E 2) (E 3) (E 2) (iy M n nm).c])/\aD W w':=by
 have b:=dI W (ai #[ag 0,ag 0] 163);have r:=Two.new W (ag 0) (ag 0) 163;have d:=mZ (j.below b) n z nm;have A:=(b.cell (aR q)).trans q;rw[wE] at d;unfold iy;cases f:DU M n nm with
 |none=>
  rw[f] at d;clear j f;go_enter func258,ntmps258;go_wp2_with(go_at_call 169;refine d.mono ?_;rintro e t ⟨rfl,a⟩;obtain⟨k,l,C,D⟩:=r.below a ay);refine bodyPost_ret (v:=aF #[.agg #[ag 0,ag 1],aU]) (by simp[results,results258,go_sem,k,l]) rfl ⟨rfl,?_⟩;exact((aW b a).setCell ay _).setCell ay _
 |some s=>
  rw[f] at d;have F:=EC y f;have H:(⟨s.toArray⟩:aM).size<=200:=F;have RD:∀V,NE E V->aJ 319 #[bV s] V λe w'=>e=ax (aF #[.agg #[ag (rd s).n,ag (rd s).d],Sk (E 1) (E 2) (E 3) (E 2) (rd s).c])/\aD V w':=λV u=>wT (E 1) (E 2) (E 3) (E 2) ⟨s.toArray⟩ V u.e3 u.c1 aa;have I:=aA m;dsimp only;generalize rd s=x at RD⊢;obtain⟨J,h⟩:∃v,Sk (E 1) (E 2) (E 3) (E 2) x.c=v:=⟨_,rfl⟩;simp only[h] at RD⊢;clear j f m h;go_enter func258,ntmps258;go_wp2_with(first|(go_at_call 169;refine d.mono ?_;rintro e t ⟨rfl,a⟩;have K:=RD t (I.out.below (aW b a)))|(go_at_call 319;refine K.mono ?_;rintro e L ⟨rfl,w⟩;obtain⟨k,l,C,D⟩:=r.below (aW a w) ay));refine bodyPost_ret (v:=aF #[.agg #[ag x.n,ag x.d],J]) (by simp[results,results258,go_sem,k,l]) rfl ⟨rfl,?_⟩;exact((aW b (aW a w)).setCell ay _).setCell ay _
theorem gy.Qv {w:ah}{R:Nat}{c d e f g i j v7 k l a b:au}{t:TypeId}(h:gy w R #[c,d,e,f,g,i,j,v7,k,l,a,b] t):
  w.cell? (aH R 0)=some c/\w.cell? (aH R 1)=some d/\w.cell? (aH R 2)=some e/\w.cell? (aH R 3)=some f/\w.cell? (aH R 4)=some g/\w.cell? (aH R 5)=some i/\w.cell? (aH R 6)=some j/\w.cell? (aH R 7)=some v7/\w.cell? (aH R 8)=some k/\w.cell? (aH R 9)=some l/\w.cell? (aH R 10)=some a/\w.cell? (aH R 11)=some b/\
  w.frozen? ⟨R,0,none⟩=false/\w.frozen? ⟨R,1,none⟩=false/\w.frozen? ⟨R,2,none⟩=false/\w.frozen? ⟨R,3,none⟩=false/\w.frozen? ⟨R,4,none⟩=false/\w.frozen? ⟨R,5,none⟩=false/\w.frozen? ⟨R,6,none⟩=false/\w.frozen? ⟨R,7,none⟩=false/\w.frozen? ⟨R,8,none⟩=false/\w.frozen? ⟨R,9,none⟩=false/\w.frozen? ⟨R,10,none⟩=false/\w.frozen? ⟨R,11,none⟩=false:=
 ⟨h.cell 0 _ rfl,h.cell 1 _ rfl,h.cell 2 _ rfl,h.cell 3 _ rfl,h.cell 4 _ rfl,h.cell 5 _ rfl,h.cell 6 _ rfl,h.cell 7 _ rfl,h.cell 8 _ rfl,h.cell 9 _ rfl,h.cell 10 _ rfl,h.cell 11 _ rfl,h.eY 0 _ rfl,h.eY 1 _ rfl,h.eY 2 _ rfl,h.eY 3 _ rfl,h.eY 4 _ rfl,h.eY 5 _ rfl,h.eY 6 _ rfl,h.eY 7 _ rfl,h.eY 8 _ rfl,h.eY 9 _ rfl,h.eY 10 _ rfl,h.eY 11 _ rfl⟩
abbrev plA (n:Int)(q:au)(m:Mv):Array au:=#[ag n,q,ag m.a.n,ag m.a.d,ag m.b.n,ag m.b.d,ag m.c.n,ag m.c.d,ag m.d.n,ag m.d.d,ag m.e.n,ag m.e.d,ag m.f.n,ag m.f.d]
def MvR (E:Nat->Addr)(x:Except Nat Mv)(e:Ending)(w':ah):Prop:=match x with
 | .ok m=>e=ax (aF #[mv m,aU])
 | .error c=>∃v,e=ax (aF #[mv .zero,v])/\Su E c v w'
theorem YW (c:Kd)(ws:List aM):(Nz c ws).2=0\/(Nz c ws).2=1\/(Nz c ws).2=2\/(Nz c ws).2=3:=by
 have e:∀a:aM,FH a=0\/FH a=1\/FH a=2\/FH a=3:=λa=>by
  unfold FH;rcases Gm a.data.toList with h|⟨h, -⟩
  .exact .inl h
  .exact .inr h
 have d:∀(mk:Fr->Fr->Mv) (a b:aM),(qN mk a b).2=0\/(qN mk a b).2=1\/(qN mk a b).2=2\/(qN mk a b).2=3:=λmk a b=>by
  unfold qN;grind
 unfold Nz;split
 .exact d _ _ _
 .exact d _ _ _
 .unfold FI;grind
 .unfold AA;grind
 .omega
theorem Dr:∀(f:Nat) (ws:List aM) (a:List Mv),(iD f ws a).2=0\/(iD f ws a).2=1\/(iD f ws a).2=2\/(iD f ws a).2=3
 |_,[],_=>.inl (by simp[iD])
 |0,_::_,_=>.inr (.inl rfl)
 |f+1,k::ws,a=>by
  unfold iD;cases c:vP k with
  |none=>exact .inr (.inl rfl)
  |some b=>
   dsimp only;split
   .omega
   .split
    .exact Dr f _ _
    .exact YW b ws
theorem Qw (s:aM):(lq s).2=0\/(lq s).2=1\/(lq s).2=2\/(lq s).2=3:=by
 unfold lq;split
 .rcases Kk (qx s).1.reverse .one with h|h
  .exact .inl h
  .grind
 .unfold qx;split
  .exact .inl rfl
  .exact Dr _ _ _
theorem Qx {s:aM}(h:(lq s).2=0):(lq s).1.ok:=by
 unfold lq at h⊢;by_cases a:(qx s).2=0
 .rw[if_pos a] at h⊢;refine Gp _ _ FE (λn b=>?_) h;unfold qx at a b;by_cases c:s.size=0
  .grind
  .rw[if_neg c] at a b;exact FJ _ _ _ aG a n (List.mem_reverse.1 b)
 .grind
theorem ab5 {E:Nat->Addr}{c:Nat}(h:c=1\/c=2\/c=3):er0 (E 1) (E 2) (E 3) c=eV (E c):=by
 rcases h with rfl|rfl|rfl<;>rfl
theorem Un (hN:NE E W)(hd:bT B g W DB i p M nx c)(hz:SzD M)(WB:Nat)(hw:W.cell? (aH WB 0)=some (aI DB))(n:Int)(hn:dV n)(PB:Nat)(k:Int)(q:au)(m:Mv)(hm:m.ok)(hp:W.heap[PB]? =some (ai (plA k q m) 168)):
  aJ 131 #[aI WB,ag n,aI PB] W λe w'=>MvR E (A9 M n m) e w'/\aD W w':=by
 have z:=dI W (ai zA 165);have P:=gy.new W zA 165;have H:=mZ (hd.below z) n hn qV;have Q:=(z.cell (aR hw)).trans hw;rw[wE] at H;have hl:=Qu hz n qV;unfold A9;unfold Mg at hl⊢;generalize (DU M n qV).getD []=s at H hl⊢;generalize (DU M n qV).isSome=bo at H;have b9:(⟨s.toArray⟩:aM).size<=200:=hl;have RD:=λV (t:NE E V)=>a1U (aT:=E 1) (aB:=E 2) (aS:=E 3) ⟨s.toArray⟩ aa V t.e4;have S:=aA hN;have f:=Qw ⟨s.toArray⟩;have j:(lq ⟨s.toArray⟩).2=0->(lq ⟨s.toArray⟩).1.ok:=Qx;obtain⟨A,T,hr⟩:∃a b,lq ⟨s.toArray⟩=(a,b):=⟨_,_,rfl⟩;simp only[hr] at RD f j⊢;clear hr hN hd hl;by_cases hc:T=0
 .subst hc;have j:=j rfl;have X:=dz hp;rw[if_neg aG];simp only[show er0 (E 1) (E 2) (E 3) 0=aU from rfl] at RD;by_cases I:(thenS A m).2=0
  .rw[if_pos I];have O:=λV (t:NE E V)=>VK (aB:=E 2) (aS:=E 3) (aZ:=E 2) (qF j) (qF hm) (OZ j hm (Mo I)) V t.e3;generalize (thenS A m).1=x at O⊢;clear I f;go_enter func131,ntmps131;go_upto_region 5 with(first|(go_at_call 169;refine H.mono ?_;rintro e Y ⟨rfl,l⟩;have J:=RD Y (S.out.below (aW z l)))|(go_at_call 194;refine J.mono ?_;rintro e w ⟨rfl,u⟩));have K:=dI w (ai (mA A) 165);have KM:=gy.new w (mA A) 165;have C:=aW (aW z l) (aW u K);have o:=P.below (aW l (aW u K)) ay;have d:=(C.block _ X).trans hp;have L:W.heap.size<w.heap.size:=by have:=l.size;have:=u.size;simp at*;omega
   obtain⟨U,Z⟩:∃U,w.alloc (ai (mA A) 165)=U:=⟨_,rfl⟩;rw[Z] at C o d KM⊢;obtain⟨RB,N⟩:∃r,w.heap.size=r:=⟨_,rfl⟩;rw[N] at KM L⊢;have NU:=S.out.below C;have TU:=λV (t:aD U V)=>O V (NU.below t);clear Z z l u K H RD J O Q P hp;have T1:=TU U.drew (below_drewN (aQ _ _) 1);obtain⟨m0,m1,m2,m3,m4,m5,m6,m7,m8,m9,a7,a8, -⟩:=KM.Qv;have p2:=aO d 2 _ rfl;have p3:=aO d 3 _ rfl;have p4:=aO d 4 _ rfl;have p5:=aO d 5 _ rfl;have p6:=aO d 6 _ rfl;have p7:=aO d 7 _ rfl;have p8:=aO d 8 _ rfl;have p9:=aO d 9 _ rfl;have a9:=aO d 10 _ rfl;have b5:=aO d 11 _ rfl;have b6:=aO d 12 _ rfl;have b7:=aO d 13 _ rfl;have RF:∀V,Below U.heap.size U.drew V->gy V W.heap.size zA 165:=λV t=>⟨(t.block _ o.lt).trans o.h⟩;clear d KM
   go_region_with (go_at_call 195;refine T1.mono ?_;rintro e w3 ⟨rfl,b4⟩;obtain⟨z0,z1,z2,z3,z4,z5,z6,z7,z8,z9,D,F,y0,y1,y2,y3,y4,y5,y6,y7,y8,y9,a4,a5⟩:=(RF w3 b4).Qv)
   all_goals go_wp2_with fail
   all_goals refine bodyPost_ret (v:=aF #[mv x,aU]) (by simp[results,results131,go_sem,z0,z1,z2,z3,z4,z5,z6,z7,z8,z9,D,F]) rfl ⟨rfl,?_⟩
   all_goals exact cZ (R:=W.heap.size) ay (mL x) 0 (C.trans ((below_drewN (aQ _ _) 1).trans (b4.mono ay)|>.mono C.size))
  .rw[if_neg I];have O:∀V,NE E V->aJ 195 #[mv A,mv m] V λe w'=>(∃v,e=ax (aF #[mv .zero,v])/\Er.is (E 2) (E 3) (E 2) V.heap.size (.bare 2) v w')/\aD V w':=λV t=>by
    have h:=VM (aB:=E 2) (aS:=E 3) (aZ:=E 2) (qF j) (qF hm) (λy e=>I (by rw[(P6 e).2.2])) V t.e3;have h2:(uO A m).2=.bare 2:=by
     unfold uO;rw[if_neg (λe=>e (tZ j)),if_neg (λe=>e (tZ hm)),if_neg I]
    rw[h2] at h;exact h
   clear I f;go_enter func131,ntmps131;go_upto_region 5 with(first|(go_at_call 169;refine H.mono ?_;rintro e Y ⟨rfl,l⟩;have J:=RD Y (S.out.below (aW z l)))|(go_at_call 194;refine J.mono ?_;rintro e w ⟨rfl,u⟩));have K:=dI w (ai (mA A) 165);have KM:=gy.new w (mA A) 165;have C:=aW (aW z l) (aW u K);have o:=P.below (aW l (aW u K)) ay;have d:=(C.block _ X).trans hp;have L:W.heap.size<w.heap.size:=by have:=l.size;have:=u.size;simp at*;omega
   obtain⟨U,Z⟩:∃U,w.alloc (ai (mA A) 165)=U:=⟨_,rfl⟩;rw[Z] at C o d KM⊢;obtain⟨RB,N⟩:∃r,w.heap.size=r:=⟨_,rfl⟩;rw[N] at KM L⊢;have NU:=S.out.below C;have TU:=λV (t:aD U V)=>O V (NU.below t);clear Z z l u K H RD J O Q P hp;have T1:=TU U.drew (below_drewN (aQ _ _) 1);obtain⟨m0,m1,m2,m3,m4,m5,m6,m7,m8,m9,a7,a8, -⟩:=KM.Qv;have p2:=aO d 2 _ rfl;have p3:=aO d 3 _ rfl;have p4:=aO d 4 _ rfl;have p5:=aO d 5 _ rfl;have p6:=aO d 6 _ rfl;have p7:=aO d 7 _ rfl;have p8:=aO d 8 _ rfl;have p9:=aO d 9 _ rfl;have a9:=aO d 10 _ rfl;have b5:=aO d 11 _ rfl;have b6:=aO d 12 _ rfl;have b7:=aO d 13 _ rfl;have RF:∀V,Below U.heap.size U.drew V->gy V W.heap.size zA 165:=λV t=>⟨(t.block _ o.lt).trans o.h⟩;clear d KM
   go_region_with (go_at_call 195;refine T1.mono ?_;rintro e w3 ⟨⟨ev,rfl,b8⟩,b4⟩;obtain⟨z0,z1,z2,z3,z4,z5,z6,z7,z8,z9,D,F,y0,y1,y2,y3,y4,y5,y6,y7,y8,y9,a4,a5⟩:=(RF w3 b4).Qv)
   all_goals go_wp2_with fail
   all_goals refine bodyPost_ret (v:=aF #[mv .zero,ev]) (by simp[results,results131,go_sem,Mv.zero,Fr.zero,z0,z1,z2,z3,z4,z5,z6,z7,z8,z9,D,F]) rfl ⟨⟨ev,rfl,aC,aC,.inl b8.2⟩,?_⟩
   all_goals exact cZ (R:=W.heap.size) ay zL 0 (C.trans ((below_drewN (aQ _ _) 1).trans (b4.mono ay)|>.mono C.size))
 .have f:T=1\/T=2\/T=3:=f.resolve_left hc;rw[if_pos hc];simp only[ab5 f] at RD;have a6:=aA f;clear f j;go_enter func131,ntmps131;go_wp2_with(first|(go_at_call 169;refine H.mono ?_;rintro e Y ⟨rfl,l⟩;have J:=RD Y (S.out.below (aW z l)))|(go_at_call 194;refine J.mono ?_;rintro e w ⟨rfl,u⟩;obtain⟨z0,z1,z2,z3,z4,z5,z6,z7,z8,z9,D,F,y0,y1,y2,y3,y4,y5,y6,y7,y8,y9,a4,a5⟩:=((P.below (aW l u) ay).alloc (ai (mA A) 165)).Qv));refine bodyPost_ret (v:=aF #[mv .zero,eV (E T)]) (by simp[results,results131,go_sem,Mv.zero,Fr.zero,z0,z1,z2,z3,z4,z5,z6,z7,z8,z9,D,F]) rfl ⟨⟨_,rfl,by have:=a6.out;omega,by have:=a6.out;omega,.inl rfl⟩,?_⟩;exact cZ (R:=W.heap.size) ay zL 0 ((aW z (aW l u)).alloc (aW z (aW l u)).size _)

/- Parts of the proof. -/
import Derived.Test.YtecneflbncjhpaaGreatDoorQp10
namespace Go.Proofs.YtecneflbncjhpaaGreatDoor
open Go.Proofs.Tryz
set_option maxHeartbeats 4000000
section
theorem dD {n:Int}(h:n.natAbs<=1073741824):(Fr.whole n).ok:=eO.2 ⟨by simp[Fr.whole],by simp[gy,Fr.whole],by simpa[Fr.whole] using h,by simp[Fr.whole]⟩
theorem BJ:Mv.one.ok:=⟨dD (by decide),dD (by decide),dD (by decide),dD (by decide),dD (by decide),dD (by decide)⟩
theorem pK {m:Mv}(h:m.ok):(aL 0 m.list).1=0:=by
 rw[kG];intro y hy;simp only[Mv.list,List.mem_cons,List.not_mem_nil,or_false] at hy;obtain⟨h1,h2,h3,h4,h5,h6⟩:=h;rcases hy with rfl|rfl|rfl|rfl|rfl|rfl<;>assumption
theorem QD {p:Pt}(h:p.ok):(aL 6 p.list).1=0:=by
 rw[kG];intro y hy;simp only[Pt.list,List.mem_cons,List.not_mem_nil,or_false] at hy;rcases hy with rfl|rfl
 ·exact h.1
 ·exact h.2
theorem KS {m n x:Mv}(hm:m.ok)(hn:n.ok)(h:thenS m n=(x,0)):qx m n=(x,.no):=by
 unfold qx;rw[if_neg (by simp[pK hm]),if_neg (by simp[pK hn]),h];simp
theorem a5t {m:Mv}{p q:Pt}(hm:m.ok)(hp:p.ok)(h:dm 0 m p=(q,0)):atR m p=(q,.no):=by
 unfold atR;rw[if_neg (by simp[pK hm]),if_neg (by simp[QD hp]),h];simp
theorem KZ {m n x:Mv}(h:qx m n=(x,.no)):m.ok/\n.ok/\thenS m n=(x,0):=by
 unfold qx at h;by_cases h1:(aL 0 m.list).1=0
 ·rw[if_neg (by simp[h1])] at h;by_cases h2:(aL 0 n.list).1=0
  ·rw[if_neg (by simp[h2])] at h;by_cases h3:(thenS m n).2=0
   ·rw[if_pos h3] at h;exact⟨qw h1,qw h2,Prod.ext (Prod.mk.inj h).1 h3⟩
   ·rw[if_neg h3] at h;cases h
  ·rw[if_pos h2] at h;cases h
 ·rw[if_pos h1] at h;cases h
theorem a5u {m:Mv}{p q:Pt}(h:atR m p=(q,.no)):m.ok/\p.ok/\dm 0 m p=(q,0):=by
 unfold atR at h;by_cases h1:(aL 0 m.list).1=0
 ·rw[if_neg (by simp[h1])] at h;by_cases h2:(aL 6 p.list).1=0
  ·rw[if_neg (by simp[h2])] at h;by_cases h3:(dm 0 m p).2=0
   ·rw[if_pos h3] at h;exact⟨qw h1,Qv h2,Prod.ext (Prod.mk.inj h).1 h3⟩
   ·rw[if_neg h3] at h;cases h
  ·rw[if_pos h2] at h;cases h
 ·rw[if_pos h1] at h;cases h
inductive Kd where
 |move
 |scale
 |turn
 |skew
def Kd.n:Kd->Nat
 | .move=>2
 | .scale=>2
 | .turn=>1
 | .skew=>1
def qG (b:aC):Option Kd:=if b=FI then some .move else if b=xQ then some .scale else if b=zb then some .turn else if b=FJ then some .skew else none
def FM (a:aC):Fr:=⟨(rd a.data.toList).n,(rd a.data.toList).d⟩
def zh (a:aC):Nat:=(rd a.data.toList).c
def mQ (mk:Fr->Fr->Mv)(a b:aC):Mv×Nat:=if zh a≠0 then(.zero,zh a) else if zh b≠0 then(.zero,zh b) else(mk (FM a) (FM b),0)
def xu (mk:Fr->Mv)(a:aC):Mv×Nat:=if zh a≠0 then(.zero,zh a) else(mk (FM a),0)
def BK (a:aC):Mv×Nat:=
 if a=⟨#[48]⟩ then(.turn 1 0,0) else if a=⟨#[49]⟩ then(.turn 0 1,0) else if a=⟨#[50]⟩ then(.turn (-1) 0,0) else if a=⟨#[51]⟩ then(.turn 0 (-1),0) else(.zero,1)
def FP:Kd->List aC->Mv×Nat
 | .move,a::b::_=>mQ Mv.shift a b
 | .scale,a::b::_=>mQ Mv.scale a b
 | .turn,a::_=>BK a
 | .skew,a::_=>xu Mv.skew a
 |_,_=>(.zero,1)
def fP:Nat->List aC->List Mv->List Mv×Nat
 |_,[],acc=>(acc,0)
 |0,_::_,_=>([],1)
 |f+1,k::ws,acc=>match qG k with
  |none=>([],1)
  |some kd=>if ws.length<kd.n then([],1) else if(FP kd ws).2=0 then fP f (ws.drop kd.n) (acc++[(FP kd ws).1]) else([],(FP kd ws).2)
def jO:Mv->List Mv->Mv×Nat
 |m,[]=>(m,0)
 |m,n::l=>if(thenS m n).2=0 then jO (thenS m n).1 l else(.zero,2)
def words (s:aC):List aC:=Lib.splitB ⟨#[32]⟩ 0 (Lib.countB s ⟨#[32]⟩) s
def mq (s:aC):List Mv×Nat:=if s.size=0 then([],0) else fP (words s).length (words s) []
def je (s:aC):Mv×Nat:=if(mq s).2=0 then jO .one (mq s).1.reverse else(.zero,(mq s).2)
theorem QE {l:List UInt8}(h:(rd l).c=0):dH (rd l).n (rd l).d=0:=by
 unfold rd at h⊢;cases hn:mh (ahead 47 l) with
 |none=>rw[hn] at h;cases h
 |some n=>
  rw[hn] at h;simp only at h⊢;cases hb:behind 47 l with
  |none=>
   rw[hb] at h;simp only[ck] at h⊢;split at h
   ·rename_i hc;simp[hc]
   ·rename_i hc;exact(hc h).elim
  |some b=>
   rw[hb] at h;simp only at h⊢;split at h
   ·rename_i hd;simp only[ck] at h⊢;split at h
    ·rename_i hc;simp[hd,hc]
    ·rename_i hc;exact(hc h).elim
   ·cases h
theorem Ob {a:aC}(h:zh a=0):(FM a).ok:=QE h
theorem TF {x y:Fr}(hx:x.ok)(hy:y.ok):(Mv.shift x y).ok:=⟨dD (by decide),dD (by decide),dD (by decide),dD (by decide),hx,hy⟩
theorem TJ {x y:Fr}(hx:x.ok)(hy:y.ok):(Mv.scale x y).ok:=⟨hx,dD (by decide),dD (by decide),hy,dD (by decide),dD (by decide)⟩
theorem Xl {x:Fr}(hx:x.ok):(Mv.skew x).ok:=⟨dD (by decide),dD (by decide),hx,dD (by decide),dD (by decide),dD (by decide)⟩
theorem Xm {c s:Int}(hc:c.natAbs<=1)(hs:s.natAbs<=1):(Mv.turn c s).ok:=⟨dD (by omega),dD (by omega),dD (by omega),dD (by omega),dD (by decide),dD (by decide)⟩
theorem Xo {mk:Fr->Fr->Mv}(hm:∀x y,x.ok->y.ok->(mk x y).ok){a b:aC}(h:(mQ mk a b).2=0):(mQ mk a b).1.ok:=by
 unfold mQ at h⊢;by_cases h1:zh a=0
 ·rw[if_neg (by simp[h1])] at h⊢;by_cases h2:zh b=0
  ·rw[if_neg (by simp[h2])];exact hm _ _ (Ob h1) (Ob h2)
  ·rw[if_pos h2] at h;exact(h2 h).elim
 ·rw[if_pos h1] at h;exact(h1 h).elim
theorem a5v {kd:Kd}{ws:List aC}(h:(FP kd ws).2=0):(FP kd ws).1.ok:=by
 unfold FP at h⊢;split
 ·exact Xo (fun _ _=>TF) h
 ·exact Xo (fun _ _=>TJ) h
 ·simp only[BK] at h⊢
  repeat' split
  all_goals first|exact Xm (by decide) (by decide)|skip
  rename_i h1 h2 h3 h4;simp[h1,h2,h3,h4] at h
 ·simp only[xu] at h⊢;split
  ·rename_i h1;rw[if_pos h1] at h;exact(h1 h).elim
  ·rename_i h1;exact Xl (Ob (by simpa using h1))
 ·rename_i h1 h2 h3 h4;exfalso;revert h;split
  ·exact(h1 _ _ _ rfl rfl).elim
  ·exact(h2 _ _ _ rfl rfl).elim
  ·exact(h3 _ _ rfl rfl).elim
  ·exact(h4 _ _ rfl rfl).elim
  ·intro h;cases h
theorem BL:∀(f:Nat) (ws:List aC) (acc:List Mv),(∀m∈acc,m.ok)->(fP f ws acc).2=0->∀m∈(fP f ws acc).1,m.ok
 |_,[],acc,h,_=>by simpa[fP] using h
 |0,_::_,_,_,h=>by simp[fP] at h
 |f+1,k::ws,acc,ha,h=>by
  unfold fP at h⊢;cases hk:qG k with
  |none=>rw[hk] at h;simp at h
  |some kd=>
   rw[hk] at h;simp only at h⊢;by_cases hl:ws.length<kd.n
   ·rw[if_pos hl] at h;simp at h
   ·rw[if_neg hl] at h⊢;by_cases hc:(FP kd ws).2=0
    ·rw[if_pos hc] at h⊢;exact BL f _ _ (fun m hm=>by rcases List.mem_append.1 hm with h|h;exact ha m h;simp at h;subst h;exact a5v hc) h
    ·rw[if_neg hc] at h;exact(hc h).elim
end
section
open Go.RowKit
set_option maxRecDepth 20000
attribute [local go_sem] gP
theorem Xp (g c:Nat)(x1:Fr)(W:ag)(k0:W.cell? (ak g 0)=some (aa x1.n))(k1:W.cell? (ak g 1)=some (aa x1.d)):
  au 281 #[.slice (some ⟨g,0,none⟩) 1 c] W fun e w'=>e=.returned (mv (Mv.skew x1))/\Below W.heap.size W w':=by
 have HO:=pG;have lt:=aF k0;simp only at lt;have L0:=(aG W.heap.size W).alloc ai (.cells zA 125);have B0:=dY.new W zA 125;go_enter func281,ntmps281;go_wp2_with(go_at_call 51;refine(HO _).mono ?_;rintro e w1 ⟨rfl,hb1⟩;have LO:=L0.trans (hb1.mono (by simp));have sz:=hb1.size;simp only[dB] at sz;have B1:=B0.below hb1 ai;have n1:¬w1.heap.size=W.heap.size:=(by omega);have n2:¬W.heap.size=w1.heap.size:=(by omega);have n3:¬g=w1.heap.size:=(by omega);have n4:¬w1.heap.size=g:=(by omega);dsimp only[Mv.one,Fr.whole];have g0:=fun o=>ax o ((LO.cell (p:=⟨g,0,none⟩) (aF k0)).trans k0);have g1:=fun o=>ax o ((LO.cell (p:=⟨g,1,none⟩) (aF k1)).trans k1);obtain⟨qC,Fy,qD,Fz,qE,FE,qF,FH,vJ,JR,vL,JS,vM,JU,vN,JV,vO,JW,vP,JX,jD,qW,jE,qX⟩:=B1.WZ);refine bodyPost_ret (v:=mv (Mv.skew x1)) (by simp[results,results281,go_sem,Mv.skew,Fr.whole,qC,qD,qE,qF,vJ,vL,vM,vN,vO,vP,jD,jE]) rfl ⟨rfl,?_⟩;exact(aW (R:=W.heap.size) ai [aa 1,aa 1,aa 0,aa 1,aa x1.n,aa x1.d,aa 1,aa 1,aa 0,aa 1,aa 0,aa 1] 0 (LO.alloc (by omega) (.cells #[aa 1,aa 1,aa 0,aa 1,aa x1.n,aa x1.d,aa 1,aa 1,aa 0,aa 1,aa 0,aa 1] 125)))
theorem wJ (g o c:Nat)(W:ag)(a:aC)(x y:Int)(h:(a=⟨#[48]⟩/\x=1/\y=0)\/(a=⟨#[49]⟩/\x=0/\y=1)\/(a=⟨#[50]⟩/\x= -1/\y=0)\/(a=⟨#[51]⟩/\x=0/\y= -1))(k0:W.cell? (ak g o)=some (.string a)):
  au 280 #[.slice (some ⟨g,o,none⟩) 1 c] W fun e w'=>e=.returned (.tuple #[mv (Mv.turn x y),.nilIface])/\Below W.heap.size W w':=by
 have P8:∀{B R:Nat} {A U:ag},B<=R->Below B A U->Below B A (put U R 0 [aa x,aa 1,aa y,aa 1,aa (-y),aa 1,aa x,aa 1]):=fun h1 h2=>aW h1 _ 0 h2;have P12:∀{B R:Nat} {A U:ag},B<=R->Below B A U->Below B A (put U R 0 [aa x,aa 1,aa y,aa 1,aa (-y),aa 1,aa x,aa 1,aa 0,aa 1,aa 0,aa 1]):=fun h1 h2=>aW h1 _ 0 h2;rcases h with⟨rfl,rfl,rfl⟩|⟨rfl,rfl,rfl⟩|⟨rfl,rfl,rfl⟩|⟨rfl,rfl,rfl⟩
 all_goals
  have HO:=pG;obtain⟨K2,K3,K4,K5⟩:=And.intro iB (And.intro iB (And.intro iB iB));have k1:=fun o=>ax o k0;have L0:=(aG W.heap.size W).alloc ai (.cells zA 125);have B0:=dY.new W zA 125;go_enter func280,ntmps280;go_wp2_with(first|(go_at_call 51;refine(HO _).mono ?_;clear HO;rintro e w1 ⟨rfl,hb1⟩;have L1:=L0.trans (hb1.mono (by simp));have Ng:=hb1.size;simp only[dB] at Ng;have B1:=(B0.below hb1 ai).alloc (.cells oA 125);have M1:=dY.new w1 oA 125;have A1:=L1.alloc (by omega) (.cells oA 125);have n1:¬w1.heap.size=W.heap.size:=(by omega);have n2:¬W.heap.size=w1.heap.size:=(by omega);dsimp only[Mv.one,Fr.whole])|(go_at_call 93;refine(K2 _ _).mono ?_;clear K2;rintro e w2 ⟨rfl,hb2⟩;have B2:=B1.below hb2 ai;have M2:=M1.below hb2 ai;have A2:=A1.trans (hb2.mono A1.size))|(go_at_call 93;refine(K3 _ _).mono ?_;clear K3;rintro e w3 ⟨rfl,hb3⟩;have B3:=B2.below hb3 ai;have M3:=M2.below hb3 ai;have A3:=A2.trans (hb3.mono A2.size))|(go_at_call 93;refine(K4 _ _).mono ?_;clear K4;rintro e w4 ⟨rfl,hb4⟩;have B4:=B3.below hb4 ai;have M4:=M3.below hb4 ai;have A4:=A3.trans (hb4.mono A3.size))|(go_at_call 93;refine(K5 _ _).mono ?_;clear K5;rintro e w5 ⟨rfl,hb5⟩;have B5:=B4.below hb5 ai;have M5:=M4.below hb5 ai;have A5:=A4.trans (hb5.mono A4.size);obtain⟨qC,Fy,qD,Fz,qE,FE,qF,FH,vJ,JR,vL,JS,vM,JU,vN,JV,vO,JW,vP,JX,jD,qW,jE,qX⟩:=B5.six;obtain⟨mc0,mf0,mc1,mf1,mc2,mf2,mc3,mf3,mc4,mf4,mc5,mf5,mc6,mf6,mc7,mf7,mc8,mf8,mc9,mf9,ada,akc,adb,akd⟩:=M5.six));refine bodyPost_ret (v:=.tuple #[mv (Mv.turn _ _),.nilIface]) (by simp[results,results280,go_sem,Mv.turn,Fr.whole,qC,qD,qE,qF,vJ,vL,vM,vN,vO,vP,jD,jE]) rfl ⟨rfl,?_⟩;exact P12 (R:=W.heap.size) ai (P8 (R:=w1.heap.size) (by omega) A5)
theorem ry {k:aC}{l:List UInt8}(h:k≠⟨l.toArray⟩):(k.toList==l)=false:=by
 rw[ByteArray.toList_eq,beq_eq_false_iff_ne];intro e;exact h (ext_list (by rw[e]))
theorem mD (P:Program)(w:ag)(a:Addr)(m:Mode):(store a .nilFunc m).run P w=stored P w a .nilFunc m:=run_store P w a _ m rfl
attribute [local go_sem] mD
theorem L8 (k:aC)(W:ag)(h0:k≠FI)(h1:k≠xQ)(h2:k≠zb)(h3:k≠FJ):
  au 243 #[.string k] W fun e w'=>e=.returned (.tuple #[.agg #[aa 0,.nilFunc],.bool false])/\Below W.heap.size W w':=by
 have e0:=ry (l:=[109,111,118,101]) h0;have e1:=ry (l:=[115,99,97,108,101]) h1;have e2:=ry (l:=[116,117,114,110]) h2;have e3:=ry (l:=[115,107,101,119]) h3;go_enter func243,ntmps243;go_wp2;refine bodyPost_ret (v:=.tuple #[.agg #[aa 0,.nilFunc],.bool false]) (by simp[results,results243,go_sem]) rfl ⟨rfl,?_⟩;exact(aG _ W).alloc ai _
end
section
open Go.RowKit
attribute [local go_sem] gP
def Kd.f:Kd->Nat
 | .move=>278
 | .scale=>279
 | .turn=>280
 | .skew=>281
theorem Kd.n_pos (kd:Kd):1<=kd.n/\kd.n<=2:=by cases kd<;>exact⟨by decide,by decide⟩
def lenOf:ah->Nat
 | .slice _ n _=>n
 |_=>0
abbrev vg (m:Mv):List ah:=[Value.int .i64 m.a.n,aa m.a.d,aa m.b.n,aa m.b.d,aa m.c.n,aa m.c.d,aa m.d.n,aa m.d.d,aa m.e.n,aa m.e.d,aa m.f.n,aa m.f.d]
def kV (l:List Mv):List ah:=l.flatMap vg
theorem zi (l:List Mv)(m:Mv):kV (l++[m])=kV l++vg m:=by simp[kV]
theorem Xq {w:ag}{base:Nat}{e:TypeId}{size n:Nat}{v:ah}{xs:List ah}(h:w.ownsRow base e size v n xs):∀k,v.ownBlock=some k->k<w.heap.size:=by
 obtain⟨_,h2⟩:=h;rcases h2 with⟨rfl,_⟩|⟨g,cap,cur,rfl,_,h5,_⟩
 ·intro k hk;cases hk
 ·intro k hk;simp only[Value.ownBlock] at hk;cases hk;exact(cZ.1 h5).1
theorem dY.drew {w:ag}{R:Nat}{cs:Array ah}{t:TypeId}(h:dY w R cs t):dY w.drew R cs t:=⟨h.h⟩
theorem drop_cons {ws:List aC}{j N r:Nat}(h:ws.length=N)(hj:j+(r+1)=N):∃k,ws[j]? =some k/\ws.drop j=k::ws.drop (j+1):=by
 have hlt:j<ws.length:=by omega
 exact⟨ws[j],by simp[hlt],List.drop_eq_getElem_cons hlt⟩
theorem gQ {w:ag}{b j:Nat}{ws:List aC}{t:TypeId}{k:aC}(h:dY w b (ws.map Value.string).toArray t)(hk:ws[j]? =some k):w.cell? (ak b j)=some (.string k):=h.cell j _ (by simp[hk])
def L9 (k:aC)(kd:Kd):Prop:=∀V,au 243 #[.string k] V fun e w'=>(∃B,V.heap.size<=B/\e=.returned (.tuple #[.agg #[aa kd.n,.func (.func 300) #[] #[ay B]],.bool true])/\w'.cell? (ak B 0)=some (.func (.func kd.f) #[] #[]))/\Below V.heap.size V w'
def Xr (W:ag)(ws:List aC)(kd:Kd):Prop:=∀V o B cap m,Below W.heap.size W V->dY V W.heap.size (ws.map Value.string).toArray 9->V.cell? (ak B 0)=some (.func (.func kd.f) #[] #[])->o+kd.n<=ws.length->FP kd (ws.drop o)=(m,0)->
 au 300 #[.slice (some ⟨W.heap.size,o,none⟩) kd.n cap,ay B] V fun e w'=>e=.returned (.tuple #[mv m,.nilIface])/\Below V.heap.size V w'
def Xt (W:ag)(ws:List aC):Prop:=∀V o cap m,Below W.heap.size W V->dY V W.heap.size (ws.map Value.string).toArray 9->o+1<=ws.length->FP .turn (ws.drop o)=(m,0)->
 au 280 #[.slice (some ⟨W.heap.size,o,none⟩) 1 cap] V fun e w'=>e=.returned (.tuple #[mv m,.nilIface])/\Below V.heap.size V w'
end
end Go.Proofs.YtecneflbncjhpaaGreatDoor

/-
  Parts of the proof.
-/
import Derived.Test.YtjfiehbcamfdfaaGreatDoorQy10
namespace Go.Proofs.YtjfiehbcamfdfaaGreatDoor
open Go.Proofs.Tryz
section
theorem bT {n:Int}(h:n.natAbs<=1073741824):(Fr.whole n).ok:=dA.2 ⟨by simp[Fr.whole],by simp[eF,Fr.whole],by simpa[Fr.whole] using h,by simp[Fr.whole]⟩
theorem Al:Mv.one.ok:=⟨bT (by decide),bT (by decide),bT (by decide),bT (by decide),bT (by decide),bT (by decide)⟩
theorem oM {m:Mv}(h:m.ok):(aH 0 m.list).1=0:=by
 rw[jH];intro y hy;simp only[Mv.list,List.mem_cons,List.not_mem_nil,or_false] at hy;obtain⟨h1,h2,h3,h4,h5,h6⟩:=h;rcases hy with rfl|rfl|rfl|rfl|rfl|rfl<;>assumption
theorem Ow {p:Pt}(h:p.ok):(aH 6 p.list).1=0:=by
 rw[jH];intro y hy;simp only[Pt.list,List.mem_cons,List.not_mem_nil,or_false] at hy;rcases hy with rfl|rfl
 ·exact h.1
 ·exact h.2
theorem J3 {m n x:Mv}(hm:m.ok)(hn:n.ok)(h:thenS m n=(x,0)):pJ m n=(x,.no):=by
 unfold pJ;rw[if_neg (by simp[oM hm]),if_neg (by simp[oM hn]),h];simp
theorem a2O {m:Mv}{p q:Pt}(hm:m.ok)(hp:p.ok)(h:bD 0 m p=(q,0)):atR m p=(q,.no):=by
 unfold atR;rw[if_neg (by simp[oM hm]),if_neg (by simp[Ow hp]),h];simp
theorem J4 {m n x:Mv}(h:pJ m n=(x,.no)):m.ok/\n.ok/\thenS m n=(x,0):=by
 unfold pJ at h;by_cases h1:(aH 0 m.list).1=0
 ·rw[if_neg (by simp[h1])] at h;by_cases h2:(aH 0 n.list).1=0
  ·rw[if_neg (by simp[h2])] at h;by_cases h3:(thenS m n).2=0
   ·rw[if_pos h3] at h;exact⟨pI h1,pI h2,Prod.ext (Prod.mk.inj h).1 h3⟩
   ·rw[if_neg h3] at h;cases h
  ·rw[if_pos h2] at h;cases h
 ·rw[if_pos h1] at h;cases h
theorem a2P {m:Mv}{p q:Pt}(h:atR m p=(q,.no)):m.ok/\p.ok/\bD 0 m p=(q,0):=by
 unfold atR at h;by_cases h1:(aH 0 m.list).1=0
 ·rw[if_neg (by simp[h1])] at h;by_cases h2:(aH 6 p.list).1=0
  ·rw[if_neg (by simp[h2])] at h;by_cases h3:(bD 0 m p).2=0
   ·rw[if_pos h3] at h;exact⟨pI h1,Ol h2,Prod.ext (Prod.mk.inj h).1 h3⟩
   ·rw[if_neg h3] at h;cases h
  ·rw[if_pos h2] at h;cases h
 ·rw[if_pos h1] at h;cases h
end
section
inductive Kd where
  |move
  |scale
  |turn
  |skew
def Kd.n:Kd->Nat
  | .move=>2
  | .scale=>2
  | .turn=>1
  | .skew=>1
def qg (b:ByteArray):Option Kd:=if b=DV then some .move else if b=wS then some .scale else if b=xR then some .turn else if b=DY then some .skew else none
def E8 (a:ByteArray):Fr:=⟨(rd a.data.toList).n,(rd a.data.toList).d⟩
def xV (a:ByteArray):Nat:=(rd a.data.toList).c
def lG (mk:Fr->Fr->Mv)(a b:ByteArray):Mv×Nat:=if xV a≠0 then(.zero,xV a) else if xV b≠0 then(.zero,xV b) else(mk (E8 a) (E8 b),0)
def rd1 (mk:Fr->Mv)(a:ByteArray):Mv×Nat:=if xV a≠0 then(.zero,xV a) else(mk (E8 a),0)
def Am (a:ByteArray):Mv×Nat:=
  if a=⟨#[48]⟩ then(.turn 1 0,0) else if a=⟨#[49]⟩ then(.turn 0 1,0) else if a=⟨#[50]⟩ then(.turn (-1) 0,0) else if a=⟨#[51]⟩ then(.turn 0 (-1),0) else(.zero,1)
def E9:Kd->List ByteArray->Mv×Nat
  | .move,a::b::_=>lG Mv.shift a b
  | .scale,a::b::_=>lG Mv.scale a b
  | .turn,a::_=>Am a
  | .skew,a::_=>rd1 Mv.skew a
  |_,_=>(.zero,1)
def dV:Nat->List ByteArray->List Mv->List Mv×Nat
  |_,[],acc=>(acc,0)
  |0,_::_,_=>([],1)
  |f+1,k::ws,acc=>match qg k with
    |none=>([],1)
    |some kd=>if ws.length<kd.n then([],1) else if(E9 kd ws).2=0 then dV f (ws.drop kd.n) (acc++[(E9 kd ws).1]) else([],(E9 kd ws).2)
def jd:Mv->List Mv->Mv×Nat
  |m,[]=>(m,0)
  |m,n::l=>if(thenS m n).2=0 then jd (thenS m n).1 l else(.zero,2)
def words (s:ByteArray):List ByteArray:=Lib.splitB ⟨#[32]⟩ 0 (Lib.countB s ⟨#[32]⟩) s
def kU (s:ByteArray):List Mv×Nat:=if s.size=0 then([],0) else dV (words s).length (words s) []
def iD (s:ByteArray):Mv×Nat:=if(kU s).2=0 then jd .one (kU s).1.reverse else(.zero,(kU s).2)
theorem Ox {l:List UInt8}(h:(rd l).c=0):bK (rd l).n (rd l).d=0:=by
  unfold rd at h⊢;cases hn:iM (ahead 47 l) with
  |none=>rw[hn] at h;cases h
  |some n=>
    rw[hn] at h;simp only at h⊢;cases hb:behind 47 l with
    |none=>
      rw[hb] at h;simp only[ck] at h⊢;split at h
      · rename_i hc;simp[hc]
      · rename_i hc;exact(hc h).elim
    |some b=>
      rw[hb] at h;simp only at h⊢;split at h
      · rename_i hd
        simp only[ck] at h⊢;split at h
        · rename_i hc;simp[hd,hc]
        · rename_i hc;exact(hc h).elim
      · cases h
theorem Mc {a:ByteArray}(h:xV a=0):(E8 a).ok:=Ox h
theorem a4U {x y:Fr}(hx:x.ok)(hy:y.ok):(Mv.shift x y).ok:=⟨bT (by decide),bT (by decide),bT (by decide),bT (by decide),hx,hy⟩
theorem QC {x y:Fr}(hx:x.ok)(hy:y.ok):(Mv.scale x y).ok:=⟨hx,bT (by decide),bT (by decide),hy,bT (by decide),bT (by decide)⟩
theorem UK {x:Fr}(hx:x.ok):(Mv.skew x).ok:=⟨bT (by decide),bT (by decide),hx,bT (by decide),bT (by decide),bT (by decide)⟩
theorem UL {c s:Int}(hc:c.natAbs<=1)(hs:s.natAbs<=1):(Mv.turn c s).ok:=⟨bT (by omega),bT (by omega),bT (by omega),bT (by omega),bT (by decide),bT (by decide)⟩
theorem UM {mk:Fr->Fr->Mv}(hm:∀x y,x.ok->y.ok->(mk x y).ok){a b:ByteArray}(h:(lG mk a b).2=0):(lG mk a b).1.ok:=by
  unfold lG at h⊢;by_cases h1:xV a=0
  · rw[if_neg (by simp[h1])] at h⊢
    by_cases h2:xV b=0
    · rw[if_neg (by simp[h2])];exact hm _ _ (Mc h1) (Mc h2)
    · rw[if_pos h2] at h;exact(h2 h).elim
  · rw[if_pos h1] at h;exact(h1 h).elim
theorem a2Q {kd:Kd}{ws:List ByteArray}(h:(E9 kd ws).2=0):(E9 kd ws).1.ok:=by
  unfold E9 at h⊢;split
  · exact UM (fun _ _=>a4U) h
  · exact UM (fun _ _=>QC) h
  · simp only[Am] at h⊢
    repeat' split
    all_goals first|exact UL (by decide) (by decide)|skip
    rename_i h1 h2 h3 h4;simp[h1,h2,h3,h4] at h
  · simp only[rd1] at h⊢
    split
    · rename_i h1;rw[if_pos h1] at h;exact(h1 h).elim
    · rename_i h1;exact UK (Mc (by simpa using h1))
  · rename_i h1 h2 h3 h4
    exfalso;revert h;split
    · exact(h1 _ _ _ rfl rfl).elim
    · exact(h2 _ _ _ rfl rfl).elim
    · exact(h3 _ _ rfl rfl).elim
    · exact(h4 _ _ rfl rfl).elim
    · intro h;cases h
theorem Ao:∀(f:Nat) (ws:List ByteArray) (acc:List Mv),(∀m∈acc,m.ok)->(dV f ws acc).2=0->∀m∈(dV f ws acc).1,m.ok
  |_,[],acc,h,_=>by simpa[dV] using h
  |0,_::_,_,_,h=>by simp[dV] at h
  |f+1,k::ws,acc,ha,h=>by
    unfold dV at h⊢;cases hk:qg k with
    |none=>rw[hk] at h;simp at h
    |some kd=>
      rw[hk] at h;simp only at h⊢;by_cases hl:ws.length<kd.n
      · rw[if_pos hl] at h;simp at h
      · rw[if_neg hl] at h⊢
        by_cases hc:(E9 kd ws).2=0
        · rw[if_pos hc] at h⊢
          exact Ao f _ _ (fun m hm=>by rcases List.mem_append.1 hm with h|h;exact ha m h;simp at h;subst h;exact a2Q hc) h
        · rw[if_neg hc] at h;exact(hc h).elim
end
section
open Go.RowKit
set_option maxHeartbeats 4000000
set_option maxRecDepth 20000
attribute [local go_sem] fq
theorem UN (g c:Nat)(x1:Fr)(W:World)(k0:W.cell? (ag g 0)=some (aa x1.n))(k1:W.cell? (ag g 1)=some (aa x1.d)):
  ak 269 #[.slice (some ⟨g,0,none⟩) 1 c] W fun e w'=>e=.returned (mv (Mv.skew x1))/\Below W.heap.size W w':=by
 have HO:=oH;have lt:=ay k0;simp only at lt;have L0:=(Below.refl W.heap.size W).alloc eU (.cells zA 129);have B0:=bN.new W zA 129;go_enter func269,ntmps269;go_wp2_with(go_at_call 52;refine(HO _).mono ?_;rintro e w1 ⟨rfl,hb1⟩;have LO:=L0.trans (hb1.mono (by simp));have sz:=hb1.size;simp only[World.size_alloc] at sz;have B1:=B0.below hb1 eU;have n1:¬w1.heap.size=W.heap.size:=(by omega);have n2:¬W.heap.size=w1.heap.size:=(by omega);have n3:¬g=w1.heap.size:=(by omega);have n4:¬w1.heap.size=g:=(by omega);dsimp only[Mv.one,Fr.whole];have g0:=fun o=>ah o ((LO.cell (p:=⟨g,0,none⟩) (ay k0)).trans k0);have g1:=fun o=>ah o ((LO.cell (p:=⟨g,1,none⟩) (ay k1)).trans k1);obtain⟨mQ,A9,mV,Aa,mW,Ab,mX,Ac,rD,Fa,rE,Fb,rF,Fe,rG,Ff,rH,Fg,rJ,Fh,ic,oF,ig,oG⟩:=B1.Ut);refine bodyPost_ret (v:=mv (Mv.skew x1)) (by simp[results,results269,go_sem,Mv.skew,Fr.whole,mQ,mV,mW,mX,rD,rE,rF,rG,rH,rJ,ic,ig]) rfl ⟨rfl,?_⟩;exact(aJ (R:=W.heap.size) eU [aa 1,aa 1,aa 0,aa 1,aa x1.n,aa x1.d,aa 1,aa 1,aa 0,aa 1,aa 0,aa 1] 0 (LO.alloc (by omega) (.cells #[aa 1,aa 1,aa 0,aa 1,aa x1.n,aa x1.d,aa 1,aa 1,aa 0,aa 1,aa 0,aa 1] 129)))
theorem ve (g o c:Nat)(W:World)(a:ByteArray)(x y:Int)(h:(a=⟨#[48]⟩/\x=1/\y=0)\/(a=⟨#[49]⟩/\x=0/\y=1)\/(a=⟨#[50]⟩/\x= -1/\y=0)\/(a=⟨#[51]⟩/\x=0/\y= -1))(k0:W.cell? (ag g o)=some (.string a)):
  ak 268 #[.slice (some ⟨g,o,none⟩) 1 c] W fun e w'=>e=.returned (.tuple #[mv (Mv.turn x y),.nilIface])/\Below W.heap.size W w':=by
 have P8:∀{B R:Nat} {A U:World},B<=R->Below B A U->Below B A (put U R 0 [aa x,aa 1,aa y,aa 1,aa (-y),aa 1,aa x,aa 1]):=fun h1 h2=>aJ h1 _ 0 h2;have P12:∀{B R:Nat} {A U:World},B<=R->Below B A U->Below B A (put U R 0 [aa x,aa 1,aa y,aa 1,aa (-y),aa 1,aa x,aa 1,aa 0,aa 1,aa 0,aa 1]):=fun h1 h2=>aJ h1 _ 0 h2;rcases h with⟨rfl,rfl,rfl⟩|⟨rfl,rfl,rfl⟩|⟨rfl,rfl,rfl⟩|⟨rfl,rfl,rfl⟩
 all_goals
  have HO:=oH;obtain⟨K2,K3,K4,K5⟩:=And.intro fQ (And.intro fQ (And.intro fQ fQ));have k1:=fun o=>ah o k0;have L0:=(Below.refl W.heap.size W).alloc eU (.cells zA 129);have B0:=bN.new W zA 129;go_enter func268,ntmps268;go_wp2_with(first|(go_at_call 52;refine(HO _).mono ?_;clear HO;rintro e w1 ⟨rfl,hb1⟩;have L1:=L0.trans (hb1.mono (by simp));have GH:=hb1.size;simp only[World.size_alloc] at GH;have B1:=(B0.below hb1 eU).alloc (.cells oA 129);have M1:=bN.new w1 oA 129;have A1:=L1.alloc (by omega) (.cells oA 129);have n1:¬w1.heap.size=W.heap.size:=(by omega);have n2:¬W.heap.size=w1.heap.size:=(by omega);dsimp only[Mv.one,Fr.whole])|(go_at_call 99;refine(K2 _ _).mono ?_;clear K2;rintro e w2 ⟨rfl,hb2⟩;have B2:=B1.below hb2 eU;have M2:=M1.below hb2 eU;have A2:=A1.trans (hb2.mono A1.size))|(go_at_call 99;refine(K3 _ _).mono ?_;clear K3;rintro e w3 ⟨rfl,hb3⟩;have B3:=B2.below hb3 eU;have M3:=M2.below hb3 eU;have A3:=A2.trans (hb3.mono A2.size))|(go_at_call 99;refine(K4 _ _).mono ?_;clear K4;rintro e w4 ⟨rfl,hb4⟩;have B4:=B3.below hb4 eU;have M4:=M3.below hb4 eU;have A4:=A3.trans (hb4.mono A3.size))|(go_at_call 99;refine(K5 _ _).mono ?_;clear K5;rintro e w5 ⟨rfl,hb5⟩;have B5:=B4.below hb5 eU;have M5:=M4.below hb5 eU;have A5:=A4.trans (hb5.mono A4.size);obtain⟨mQ,A9,mV,Aa,mW,Ab,mX,Ac,rD,Fa,rE,Fb,rF,Fe,rG,Ff,rH,Fg,rJ,Fh,ic,oF,ig,oG⟩:=B5.six;obtain⟨mc0,mf0,mc1,mf1,mc2,mf2,mc3,mf3,mc4,mf4,mc5,mf5,mc6,mf6,mc7,mf7,mc8,mf8,mc9,mf9,aaN,ah6,aaO,ah7⟩:=M5.six));refine bodyPost_ret (v:=.tuple #[mv (Mv.turn _ _),.nilIface]) (by simp[results,results268,go_sem,Mv.turn,Fr.whole,mQ,mV,mW,mX,rD,rE,rF,rG,rH,rJ,ic,ig]) rfl ⟨rfl,?_⟩;exact P12 (R:=W.heap.size) eU (P8 (R:=w1.heap.size) (by omega) A5)
theorem qK {k:ByteArray}{l:List UInt8}(h:k≠⟨l.toArray⟩):(k.toList==l)=false:=by
 rw[ByteArray.toList_eq,beq_eq_false_iff_ne];intro e;exact h (ext_list (by rw[e]))
theorem kV (P:Program)(w:World)(a:Addr)(m:Mode):(store a .nilFunc m).run P w=stored P w a .nilFunc m:=run_store P w a _ m rfl
attribute [local go_sem] kV
theorem J5 (k:ByteArray)(W:World)(h0:k≠DV)(h1:k≠wS)(h2:k≠xR)(h3:k≠DY):
  ak 239 #[.string k] W fun e w'=>e=.returned (.tuple #[.agg #[aa 0,.nilFunc],.bool false])/\Below W.heap.size W w':=by
 have e0:=qK (l:=[109,111,118,101]) h0;have e1:=qK (l:=[115,99,97,108,101]) h1;have e2:=qK (l:=[116,117,114,110]) h2;have e3:=qK (l:=[115,107,101,119]) h3;go_enter func239,ntmps239;go_wp2;refine bodyPost_ret (v:=.tuple #[.agg #[aa 0,.nilFunc],.bool false]) (by simp[results,results239,go_sem]) rfl ⟨rfl,?_⟩;exact(Below.refl _ W).alloc eU _
end
section
open Go.RowKit
attribute [local go_sem] fq
def Kd.f:Kd->Nat
 | .move=>266
 | .scale=>267
 | .turn=>268
 | .skew=>269
theorem Kd.n_pos (kd:Kd):1<=kd.n/\kd.n<=2:=by cases kd<;>exact⟨by decide,by decide⟩
def lenOf:Value->Nat
 | .slice _ n _=>n
 |_=>0
abbrev uq (m:Mv):List Value:=[Value.int .i64 m.a.n,aa m.a.d,aa m.b.n,aa m.b.d,aa m.c.n,aa m.c.d,aa m.d.n,aa m.d.d,aa m.e.n,aa m.e.d,aa m.f.n,aa m.f.d]
def jV (l:List Mv):List Value:=l.flatMap uq
theorem xW (l:List Mv)(m:Mv):jV (l++[m])=jV l++uq m:=by simp[jV]
theorem UO {w:World}{base:Nat}{e:TypeId}{size n:Nat}{v:Value}{xs:List Value}(h:w.ownsRow base e size v n xs):∀k,v.ownBlock=some k->k<w.heap.size:=by
 obtain⟨_,h2⟩:=h;rcases h2 with⟨rfl,_⟩|⟨g,cap,cur,rfl,_,h5,_⟩
 ·intro k hk;cases hk
 ·intro k hk;simp only[Value.ownBlock] at hk;cases hk;exact(Array.getElem?_eq_some_iff.1 h5).1
theorem bN.drew {w:World}{R:Nat}{cs:Array Value}{t:TypeId}(h:bN w R cs t):bN w.drew R cs t:=⟨h.h⟩
theorem drop_cons {ws:List ByteArray}{j N r:Nat}(h:ws.length=N)(hj:j+(r+1)=N):∃k,ws[j]? =some k/\ws.drop j=k::ws.drop (j+1):=by
 have hlt:j<ws.length:=by omega
 exact⟨ws[j],by simp[hlt],List.drop_eq_getElem_cons hlt⟩
theorem fC {w:World}{b j:Nat}{ws:List ByteArray}{t:TypeId}{k:ByteArray}(h:bN w b (ws.map Value.string).toArray t)(hk:ws[j]? =some k):w.cell? (ag b j)=some (.string k):=h.cell j _ (by simp[hk])
def J6 (k:ByteArray)(kd:Kd):Prop:=∀V,ak 239 #[.string k] V fun e w'=>(∃B,V.heap.size<=B/\e=.returned (.tuple #[.agg #[aa kd.n,.func (.func 284) #[] #[aj B]],.bool true])/\w'.cell? (ag B 0)=some (.func (.func kd.f) #[] #[]))/\Below V.heap.size V w'
def UQ (W:World)(ws:List ByteArray)(kd:Kd):Prop:=∀V o B cap m,Below W.heap.size W V->bN V W.heap.size (ws.map Value.string).toArray 9->V.cell? (ag B 0)=some (.func (.func kd.f) #[] #[])->o+kd.n<=ws.length->E9 kd (ws.drop o)=(m,0)->
 ak 284 #[.slice (some ⟨W.heap.size,o,none⟩) kd.n cap,aj B] V fun e w'=>e=.returned (.tuple #[mv m,.nilIface])/\Below V.heap.size V w'
def UR (W:World)(ws:List ByteArray):Prop:=∀V o cap m,Below W.heap.size W V->bN V W.heap.size (ws.map Value.string).toArray 9->o+1<=ws.length->E9 .turn (ws.drop o)=(m,0)->
 ak 268 #[.slice (some ⟨W.heap.size,o,none⟩) 1 cap] V fun e w'=>e=.returned (.tuple #[mv m,.nilIface])/\Below V.heap.size V w'
end
end Go.Proofs.YtjfiehbcamfdfaaGreatDoor

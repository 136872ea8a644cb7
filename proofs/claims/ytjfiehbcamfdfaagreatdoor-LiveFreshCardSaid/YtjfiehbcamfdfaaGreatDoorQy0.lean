/-
  Parts of the proof.
-/
import Derived.Test.YtjfiehbcamfdfaaGreatDoorProg
import Derived.WalkSpells
import Derived.WalkLawsBesides
import Derived.BigQuiet
import Derived.Deep.RegionHeld3
import Derived.Test.YtjfiehbcamfdfaaGreatDoorQyb
namespace Go.Proofs.YtjfiehbcamfdfaaGreatDoor
open Go.Proofs.Tryz
section
def gu (n:Int):Bool:=decide (1073741824<n.natAbs)
theorem gD {n:Int}:gu n=true↔1073741824<n.natAbs:=by simp[gu]
def eF (n d:Int):Nat:=Nat.gcd n.natAbs d.natAbs
def bK (n d:Int):Nat:=if d<1\/eF n d≠1 then 3 else if gu n=true\/gu d=true then 2 else 0
theorem dA {n d:Int}:bK n d=0↔1<=d/\eF n d=1/\n.natAbs<=1073741824/\d.natAbs<=1073741824:=by
 unfold bK;constructor
 ·intro h;split at h
  ·cases h
  ·rename_i h1;split at h
   ·cases h
   ·rename_i h2;rw[gD,gD] at h2;refine⟨by omega,?_,by omega,by omega⟩;by_cases hg:eF n d=1
    ·exact hg
    ·exact absurd (Or.inr hg) h1
 ·rintro⟨h1,h2,h3,h4⟩;rw[if_neg (by rintro(h|h);omega;exact h h2),if_neg (by rw[gD,gD];omega)]
theorem dL (n d:Int):bK n d=0\/bK n d=2\/bK n d=3:=by
 unfold bK;split
 ·simp
 ·split<;>simp
structure R3 where
 n:Int
 d:Int
 c:Nat
def ER (n d:Int):R3:=
 if gu (n/eF n d)=true\/gu (d/eF n d)=true then⟨0,0,2⟩ else⟨n/eF n d,d/eF n d,0⟩
def low (n d:Int):R3:=if d<0 then ER (-n) (-d) else ER n d
theorem zl {n d:Int}(h:d≠0):0<eF n d:=Nat.gcd_pos_of_pos_right _ (by omega)
theorem iB (n d:Int):(eF n d:Int)∣ n:=Int.ofNat_dvd_left.2 (Nat.gcd_dvd_left _ _)
theorem dW (n d:Int):(eF n d:Int)∣ d:=Int.ofNat_dvd_left.2 (Nat.gcd_dvd_right _ _)
theorem TB {n d:Int}(h:d≠0):eF (n/eF n d) (d/eF n d)=1:=by
 have hp:=zl (n:=n) h;have e1:(n/(eF n d:Int)).natAbs=n.natAbs/eF n d:=by
  rw[Int.natAbs_ediv_of_dvd (iB n d)];simp
 have e2:(d/(eF n d:Int)).natAbs=d.natAbs/eF n d:=by
  rw[Int.natAbs_ediv_of_dvd (dW n d)];simp
 show Nat.gcd _ _=1;rw[e1,e2];exact Nat.coprime_div_gcd_div_gcd hp
theorem TC {n d:Int}:n/eF n d*d=n*(d/eF n d):=by
 obtain⟨x,hx⟩:=iB n d;obtain⟨y,hy⟩:=dW n d;rcases Nat.eq_zero_or_pos (eF n d) with h0|hp
 ·rw[h0] at hx hy;simp at hx hy;simp[hx,hy]
 ·have hp':(eF n d:Int)≠0:=by omega
  have e1:n/(eF n d:Int)=x:=by rw[Int.ediv_eq_iff_eq_mul_right hp' (iB n d)];exact hx
  have e2:d/(eF n d:Int)=y:=by rw[Int.ediv_eq_iff_eq_mul_right hp' (dW n d)];exact hy
  rw[e1,e2];generalize (eF n d:Int)=g at*;rw[hx,hy,<- Int.mul_assoc,Int.mul_comm x g]
theorem unique {n d n' d':Int}(h1:1<=d)(g1:eF n d=1)(h2:1<=d')(g2:eF n' d'=1)(e:n*d'=n'*d):n=n'/\d=d':=by
 have a1:d.natAbs∣ d'.natAbs:=by
  have:d.natAbs∣ n.natAbs*d'.natAbs:=by rw[<- Int.natAbs_mul,e,Int.natAbs_mul];exact Nat.dvd_mul_left _ _
  exact Nat.Coprime.dvd_of_dvd_mul_left (show Nat.gcd _ _=1 by rw[Nat.gcd_comm];exact g1) this
 have a2:d'.natAbs∣ d.natAbs:=by
  have:d'.natAbs∣ n'.natAbs*d.natAbs:=by rw[<- Int.natAbs_mul,<- e,Int.natAbs_mul];exact Nat.dvd_mul_left _ _
  exact Nat.Coprime.dvd_of_dvd_mul_left (show Nat.gcd _ _=1 by rw[Nat.gcd_comm];exact g2) this
 have a3:d=d':=by have:=Nat.dvd_antisymm a1 a2;omega
 subst a3;exact⟨Int.eq_of_mul_eq_mul_right (by omega) e,rfl⟩
theorem zm {n d:Int}:ER n d=⟨0,0,2⟩\/(ER n d).c=0:=by
 unfold ER;split<;>simp
theorem Dl {n d p q:Int}(hd:0<d):ER n d=⟨p,q,0⟩↔bK p q=0/\p*d=n*q:=by
 have hp:=zl (n:=n) (d:=d) (by omega);have hq:1<=d/(eF n d:Int):=by
  obtain⟨y,hy⟩:=dW n d;have e2:d/(eF n d:Int)=y:=by rw[Int.ediv_eq_iff_eq_mul_right (by omega) (dW n d)];exact hy
  rw[e2];rcases Int.lt_or_le 0 y with h|h
  ·omega
  ·have:=Int.mul_nonpos_of_nonneg_of_nonpos (show(0:Int)<=eF n d by omega) h;omega
 have hg:=TB (n:=n) (d:=d) (by omega);have hm:=TC (n:=n) (d:=d);constructor
 ·intro h;unfold ER at h;split at h
  ·cases h
  ·rename_i hb;rw[gD,gD] at hb;simp only[R3.mk.injEq] at h;obtain⟨rfl,rfl,_⟩:=h;exact⟨dA.2 ⟨hq,hg,by omega,by omega⟩,hm⟩
 ·rintro⟨hc,he⟩;obtain⟨c1,c2,c3,c4⟩:=dA.1 hc;have hx:n/(eF n d:Int)*q=p*(d/(eF n d:Int)):=by
   apply Int.eq_of_mul_eq_mul_right (show d≠0 by omega);grind
  obtain⟨e1,e2⟩:=unique hq hg c1 c2 hx;unfold ER;rw[e1,e2,if_neg (by rw[gD,gD];omega)]
theorem a0Z {n d:Int}:low n d=⟨0,0,2⟩\/(low n d).c=0:=by
 unfold low;split
 ·exact zm
 ·exact zm
theorem GR {n d p q:Int}(hd:d≠0):low n d=⟨p,q,0⟩↔bK p q=0/\p*d=n*q:=by
 unfold low;split
 ·rw[Dl (by omega)];constructor
  ·rintro⟨a,b⟩;exact⟨a,by grind⟩
  ·rintro⟨a,b⟩;exact⟨a,by grind⟩
 ·exact Dl (by omega)
def add (an ad bn bd:Int):R3:=if bK an ad≠0 then⟨0,0,bK an ad⟩ else if bK bn bd≠0 then⟨0,0,bK bn bd⟩ else low (an*bd+bn*ad) (ad*bd)
def mul (an ad bn bd:Int):R3:=if bK an ad≠0 then⟨0,0,bK an ad⟩ else if bK bn bd≠0 then⟨0,0,bK bn bd⟩ else low (an*bn) (ad*bd)
theorem zo {an ad bn bd p q:Int}:add an ad bn bd=⟨p,q,0⟩↔bK an ad=0/\bK bn bd=0/\bK p q=0/\p*(ad*bd)=(an*bd+bn*ad)*q:=by
 unfold add;by_cases h1:bK an ad=0
 ·by_cases h2:bK bn bd=0
  ·have hd:ad*bd≠0:=by
    have:=(dA.1 h1).1;have:=(dA.1 h2).1;exact Int.mul_ne_zero (by omega) (by omega)
   simp[h1,h2,GR hd]
  ·simp[h1,h2]
 ·simp[h1]
theorem TE {an ad bn bd p q:Int}:mul an ad bn bd=⟨p,q,0⟩↔bK an ad=0/\bK bn bd=0/\bK p q=0/\p*(ad*bd)=(an*bn)*q:=by
 unfold mul;by_cases h1:bK an ad=0
 ·by_cases h2:bK bn bd=0
  ·have hd:ad*bd≠0:=by
    have:=(dA.1 h1).1;have:=(dA.1 h2).1;exact Int.mul_ne_zero (by omega) (by omega)
   simp[h1,h2,GR hd]
  ·simp[h1,h2]
 ·simp[h1]
def zq (n:Int):Int:=if n<0 then -1 else if 0<n then 1 else 0
end
section
open Go.RowKit
set_option maxHeartbeats 1000000
theorem ko {k:IntKind}{a b:Int}(h:a=b):Ending.returned (.int k a)=.returned (.int k b):=by rw[h]
theorem uH {a b:Bool}(h:a=b):Ending.returned (.bool a)=.returned (.bool b):=by rw[h]
structure E3 (aB aS aZ:Addr)(w:World):Prop where
 b:w.cell? (ag 0 0)=some (.iface 390 (.pointer (some aB)))
 s:w.cell? (ag 3 0)=some (.iface 390 (.pointer (some aS)))
 q:aZ=aZ
theorem ay {w:World}{a:Addr}{v:Value}(h:w.cell? a=some v):a.block<w.heap.size:=by
 rcases Nat.lt_or_ge a.block w.heap.size with h'|h'
 ·exact h'
 ·simp[World.cell?,Array.getElem?_eq_none h'] at h
theorem E3.below {aB aS aZ:Addr}{w w':World}{B:Nat}(h:E3 aB aS aZ w)(hb:Below B w w')(hB:w.heap.size<=B):E3 aB aS aZ w':=
 ⟨(hb.cell (Nat.lt_of_lt_of_le (ay h.b) hB)).trans h.b,(hb.cell (Nat.lt_of_lt_of_le (ay h.s) hB)).trans h.s,rfl⟩
theorem E3.drewN {aB aS aZ:Addr}{w:World}(h:E3 aB aS aZ w)(k:Nat):E3 aB aS aZ (w.drewN k):=⟨h.b,h.s,rfl⟩
theorem E3.alloc {aB aS aZ:Addr}{w:World}(h:E3 aB aS aZ w)(o:Obj):E3 aB aS aZ (w.alloc o):=
 h.below ((Below.refl w.heap.size w).alloc eU o) eU
def er (aB aS aZ:Addr):Nat->Value
 |2=>.iface 390 (.pointer (some aB))
 |3=>.iface 390 (.pointer (some aS))
 |11=>.iface 390 (.pointer (some aZ))
 |_=>.nilIface
theorem kN (n:Int)(w:World)(h1: -9223372036854775808<=n)(h2:n<=9223372036854775807):
  ak 225 #[aa n] w fun e w'=>e=.returned (.int .u64 n.natAbs)/\w'=w:=by
 by_cases h:n<0
 ·go_enter func225,ntmps225;go_wp2;go_ret;exact⟨ko (by rw[IntKind.wrap_u64,IntKind.wrap_u64];omega),rfl⟩
 ·go_enter func225,ntmps225;go_wp2;go_ret;exact⟨ko (by omega),rfl⟩
theorem jK (a b:Nat)(w:World)(ha:a<=18446744073709551615)(hb:b<=18446744073709551615):
  ak 224 #[.int .u64 a,.int .u64 b] w fun e w'=>e=.returned (.int .u64 (Nat.gcd a b:Nat))/\∃k,w'=w.drewN k:=by
 go_enter func224,ntmps224;go_wp2
 go_loopw [0,1] (fun x y wr=>∃p q:Nat,p<=18446744073709551615/\q<=18446744073709551615/\x=.int .u64 p/\y=.int .u64 q/\Nat.gcd p q=Nat.gcd a b/\∃k,wr=w.drewN k) (fun _ y _=>(intOf y).toNat)
 case atStart=>exact⟨a,b,ha,hb,rfl,rfl,rfl,0,rfl⟩
 case round=>
  obtain⟨p,q,hp,hq,rfl,rfl,hg,k,rfl⟩:=hrel;have HG:Hid (Nat.gcd p q=Nat.gcd a b):=hg;clear hg;by_cases h0:q=0
  ·subst h0;go_wp2;go_ret;exact⟨ko (by have:=HG.out;simp at this;omega),k,rfl⟩
  ·have hlt:=Nat.mod_lt p (Nat.pos_of_ne_zero h0);have HL:Hid (p % q<q):=hlt;clear hlt;go_wp2
   go_quiet (fail)
   go_wp2
   go_roundw
   case rel=>exact⟨q,p % q,hq,by have:=HL.out;omega,rfl,by go_num,by rw[<- HG.out,Nat.gcd_comm p q,Nat.gcd_comm q (p % q)];exact(Nat.gcd_rec _ _).symm,_,World.drewN_drewN _ _ _⟩
   case measure=>have:=HL.out;simp[intOf];omega
theorem dI (n:Int)(w:World)(h1: -9223372036854775808<=n)(h2:n<=9223372036854775807):
  ak 226 #[aa n] w fun e w'=>e=.returned (.bool (gu n))/\w'=w:=by
 go_enter func226,ntmps226;go_wp2_with(go_at_call 225;refine(kN _ _ h1 h2).mono ?_;rintro e w' ⟨rfl,rfl⟩);go_ret;exact⟨uH (by unfold gu;rw[decide_eq_decide];omega),rfl⟩
theorem Dn (a b:Int)(w:World)(h1: -9223372036854775808<=a*b)(h2:a*b<=9223372036854775807):
  ak 271 #[aa a,aa b] w fun e w'=>e=.returned (aa (a*b))/\w'=w:=by
 go_enter func271,ntmps271;go_wp2;go_ret;exact⟨rfl,rfl⟩
theorem wB (aB aS aZ:Addr)(n d:Int)(w:World)(n1: -9223372036854775808<=n)(n2:n<=9223372036854775807)(d1: -9223372036854775808<=d)(d2:d<=9223372036854775807)(h:E3 aB aS aZ w):
  ak 183 #[aa n,aa d] w fun e w'=>e=.returned (er aB aS aZ (bK n d))/\∃k,w'=w.drewN k:=by
 obtain⟨hB,hS,_⟩:=h;by_cases hd:d<1
 ·have hc:bK n d=3:=by unfold bK;rw[if_pos (Or.inl hd)]
  rw[hc];go_enter func183,ntmps183;go_wp2;go_ret;exact⟨rfl,0,rfl⟩
 by_cases hg:eF n d=1
 ·have hgi:((Nat.gcd n.natAbs d.natAbs:Nat):Int)=1:=by unfold eF at hg;omega
  by_cases b1:gu n=true
  ·have hc:bK n d=2:=by unfold bK;rw[if_neg (by rintro(h|h);exact hd h;exact h hg),if_pos (Or.inl b1)]
   rw[hc];clear hc hg;go_enter func183,ntmps183;go_wp2_with(first|(go_at_call 225;refine(kN _ _ (by assumption) (by assumption)).mono ?_;rintro e w' ⟨rfl,rfl⟩)|(go_at_call 224;refine(jK _ _ _ (by omega) (by omega)).mono ?_;rintro e w' ⟨rfl,k,rfl⟩)|(go_at_call 226;refine(dI _ _ (by assumption) (by assumption)).mono ?_;rintro e w' ⟨rfl,rfl⟩));go_ret;exact⟨rfl,_,rfl⟩
  ·have b1:gu n=false:=by simpa using b1
   by_cases b2:gu d=true
   ·have hc:bK n d=2:=by unfold bK;rw[if_neg (by rintro(h|h);exact hd h;exact h hg),if_pos (Or.inr b2)]
    rw[hc];clear hc hg;go_enter func183,ntmps183;go_wp2_with(first|(go_at_call 225;refine(kN _ _ (by assumption) (by assumption)).mono ?_;rintro e w' ⟨rfl,rfl⟩)|(go_at_call 224;refine(jK _ _ _ (by omega) (by omega)).mono ?_;rintro e w' ⟨rfl,k,rfl⟩)|(go_at_call 226;refine(dI _ _ (by assumption) (by assumption)).mono ?_;rintro e w' ⟨rfl,rfl⟩));go_ret;exact⟨rfl,_,rfl⟩
   ·have b2:gu d=false:=by simpa using b2
    have hc:bK n d=0:=by unfold bK;rw[if_neg (by rintro(h|h);exact hd h;exact h hg),if_neg (by simp[b1,b2])]
    rw[hc];clear hc hg;go_enter func183,ntmps183;go_wp2_with(first|(go_at_call 225;refine(kN _ _ (by assumption) (by assumption)).mono ?_;rintro e w' ⟨rfl,rfl⟩)|(go_at_call 224;refine(jK _ _ _ (by omega) (by omega)).mono ?_;rintro e w' ⟨rfl,k,rfl⟩)|(go_at_call 226;refine(dI _ _ (by assumption) (by assumption)).mono ?_;rintro e w' ⟨rfl,rfl⟩));go_ret;exact⟨rfl,_,rfl⟩
 ·have hc:bK n d=3:=by unfold bK;rw[if_pos (Or.inr hg)]
  have hgi:((((Nat.gcd n.natAbs d.natAbs:Nat):Int)) !=1)=true:=by unfold eF at hg;simp;omega
  rw[hc];clear hc hg;go_enter func183,ntmps183;go_wp2_with(first|(go_at_call 225;refine(kN _ _ (by assumption) (by assumption)).mono ?_;rintro e w' ⟨rfl,rfl⟩)|(go_at_call 224;refine(jK _ _ _ (by omega) (by omega)).mono ?_;rintro e w' ⟨rfl,k,rfl⟩)|(go_at_call 226;refine(dI _ _ (by assumption) (by assumption)).mono ?_;rintro e w' ⟨rfl,rfl⟩));go_ret;exact⟨rfl,_,rfl⟩
end
section
open Go.RowKit
set_option maxHeartbeats 1000000
theorem a1h {W w1:World}(hb:Below W.heap.size W w1):(∀b o,b<W.heap.size->w1.cell? (ag b o)=W.cell? (ag b o))/\(∀b o,b<W.heap.size->w1.frozen? ⟨b,o,none⟩=W.frozen? ⟨b,o,none⟩):=
 ⟨fun b o h=>hb.cell (p:=⟨b,o,none⟩) h,fun b o h=>hb.frozen (p:=⟨b,o,none⟩) h⟩
def lH (n:Int):Prop:= -9223372036854775808<=n/\n<=9223372036854775807
theorem gU (aB aS aZ:Addr)(n d:Int)(w:World)(hn:lH n)(hd:lH d)(h:E3 aB aS aZ w):
  ak 132 #[.agg #[aa n,aa d]] w fun e w'=>e=.returned (er aB aS aZ (bK n d))/\Below w.heap.size w w':=by
 obtain⟨n1,n2⟩:=hn;obtain⟨d1,d2⟩:=hd;go_enter func132,ntmps132;go_wp2_with(go_at_call 183;refine(wB aB aS aZ _ _ _ n1 n2 d1 d2 ?_).mono ?_;exact h.alloc _;rintro e w' ⟨rfl,k,rfl⟩);go_ret;exact⟨rfl,below_drewN ((Below.refl _ _).alloc eU _) _⟩
theorem eT (aB aS aZ:Addr){c:Nat}(h:c=2\/c=3):∃a,er aB aS aZ c=.iface 390 (.pointer (some a)):=by
 rcases h with rfl|rfl
 ·exact⟨aB,rfl⟩
 ·exact⟨aS,rfl⟩
theorem nZ (aB aS aZ:Addr):er aB aS aZ 0=.nilIface:=rfl
theorem sF (aB aS aZ:Addr)(n d m f:Int)(w:World)(hn:lH n)(hd:lH d)(hm:lH m)(hf:lH f)(h:E3 aB aS aZ w):
  ak 262 #[.agg #[aa n,aa d],.agg #[aa m,aa f]] w fun e w'=>e=.returned (er aB aS aZ (if bK n d≠0 then bK n d else bK m f))/\Below w.heap.size w w':=by
 by_cases hc:bK n d=0
 ·rw[if_neg (by simp[hc])];have HC:Hid (bK n d=0):=hc;clear hc;go_enter func262,ntmps262;go_wp2_with(first|(go_at_call 132;refine(gU aB aS aZ _ _ _ (by assumption) (by assumption) ?_).mono ?_;exact(h.alloc _).alloc _;rintro e w1 ⟨he,hb⟩;rw[HC.out,nZ] at he;subst he;obtain⟨hx,hy⟩:=a1h hb)|(go_at_call 132;refine(gU aB aS aZ _ _ _ (by assumption) (by assumption) ?_).mono ?_;exact((h.alloc _).alloc _).below hb eU;rintro e w2 ⟨rfl,hb2⟩));go_ret;exact⟨rfl,(((Below.refl _ _).alloc eU _).alloc (by simp) _).trans ((hb.mono (by simp;omega)).trans (hb2.mono (by have:=hb.size;simp at this;omega)))⟩
 ·rw[if_pos hc];obtain⟨a,ha⟩:=eT aB aS aZ (show bK n d=2\/bK n d=3 by rcases dL n d with h|h|h<;>simp_all);have HC:Hid (er aB aS aZ (bK n d)=_):=ha;rw[ha];clear hc ha;go_enter func262,ntmps262;go_wp2_with(go_at_call 132;refine(gU aB aS aZ _ _ _ (by assumption) (by assumption) ?_).mono ?_;exact(h.alloc _).alloc _;rintro e w1 ⟨he,hb⟩;rw[HC.out] at he;subst he);go_ret;exact⟨rfl,(((Below.refl _ _).alloc eU _).alloc (by simp) _).trans (hb.mono (by simp;omega))⟩
structure Two (w:World)(b:Nat)(x y:Value):Prop where
 c0:w.cell? (ag b 0)=some x
 c1:w.cell? (ag b 1)=some y
 f0:w.frozen? ⟨b,0,none⟩=false
 f1:w.frozen? ⟨b,1,none⟩=false
theorem Two.below {w w':World}{b B:Nat}{x y:Value}(h:Two w b x y)(hb:Below B w w')(hB:w.heap.size<=B):Two w' b x y:=by
 have hl:b<B:=Nat.lt_of_lt_of_le (ay h.c0) hB;exact⟨(hb.cell (p:=⟨b,0,none⟩) hl).trans h.c0,(hb.cell (p:=⟨b,1,none⟩) hl).trans h.c1,(hb.frozen (p:=⟨b,0,none⟩) hl).trans h.f0,(hb.frozen (p:=⟨b,1,none⟩) hl).trans h.f1⟩
theorem Two.new (w:World)(x y:Value)(t:TypeId):Two (w.alloc (.cells #[x,y] t)) w.heap.size x y:=⟨by simp,by simp,by simp,by simp⟩
theorem Two.alloc {w:World}{b:Nat}{x y:Value}(h:Two w b x y)(o:Obj):Two (w.alloc o) b x y:=h.below ((Below.refl w.heap.size w).alloc eU o) eU
theorem Two.drewN {w:World}{b:Nat}{x y:Value}(h:Two w b x y)(k:Nat):Two (w.drewN k) b x y:=⟨h.c0,h.c1,h.f0,h.f1⟩
theorem three {w w1:World}{x0 x1 y0 y1 z0 z1:Value}{t t' t'':TypeId}(hb:Below (((w.alloc (.cells #[x0,x1] t)).alloc (.cells #[y0,y1] t')).alloc (.cells #[z0,z1] t'')).heap.size (((w.alloc (.cells #[x0,x1] t)).alloc (.cells #[y0,y1] t')).alloc (.cells #[z0,z1] t'')) w1):
  Two w1 w.heap.size x0 x1/\Two w1 (w.heap.size+1) y0 y1/\Two w1 (w.heap.size+1+1) z0 z1/\Below w.heap.size w w1/\w.heap.size+1+1+1<=w1.heap.size:=by
 refine⟨(((Two.new w x0 x1 t).alloc _).alloc _).below hb eU,?_,?_,?_,by have:=hb.size;simpa using this⟩
 ·have:=((Two.new (w.alloc (.cells #[x0,x1] t)) y0 y1 t').alloc (.cells #[z0,z1] t'')).below hb eU;simpa using this
 ·have:=(Two.new ((w.alloc (.cells #[x0,x1] t)).alloc (.cells #[y0,y1] t')) z0 z1 t'').below hb eU;simpa using this
 ·exact((((Below.refl _ _).alloc eU _).alloc (by simp) _).alloc (by simp;omega) _).trans (hb.mono (by simp;omega))
end
section
open Go.RowKit
set_option maxHeartbeats 1000000
theorem zu (a b g:Nat)(w:World)(ha:a<=18446744073709551615)(hb:b<=18446744073709551615)(hg:Nat.gcd a b=g):
  ak 224 #[.int .u64 a,.int .u64 b] w fun e w'=>e=.returned (.int .u64 g)/\∃k,w'=w.drewN k:=by
 subst hg;exact jK a b w ha hb
theorem Dq (n d:Int)(n1: -9223372036854775807<=n)(n2:n<=9223372036854775807)(d1:0<d)(d2:d<=9223372036854775807):
  ∃(g:Nat) (p q:Int),Nat.gcd n.natAbs d.natAbs=g/\1<=(g:Int)/\(g:Int)<=9223372036854775807/\n.tdiv g=p/\d/g=q/\
   -9223372036854775807<=p/\p<=9223372036854775807/\0<=q/\q<=9223372036854775807/\low n d=(if gu p=true\/gu q=true then⟨0,0,2⟩ else⟨p,q,0⟩):=by
 have hp:=zl (n:=n) (d:=d) (by omega);have hle:eF n d<=d.natAbs:=Nat.gcd_le_right _ (by omega);obtain⟨x,hx⟩:=iB n d;obtain⟨y,hy⟩:=dW n d;have h0:(eF n d:Int)≠0:=by omega
 have ex:n/(eF n d:Int)=x:=by rw[Int.ediv_eq_iff_eq_mul_right h0 (iB n d)];exact hx
 have ey:d/(eF n d:Int)=y:=by rw[Int.ediv_eq_iff_eq_mul_right h0 (dW n d)];exact hy
 have et:n.tdiv (eF n d:Int)=x:=by
  generalize (eF n d:Int)=g at*;rw[hx,Int.mul_tdiv_cancel_left _ h0]
 have bx:x.natAbs<=n.natAbs:=by
  have:n.natAbs=eF n d*x.natAbs:=by rw[hx,Int.natAbs_mul,<- hx];simp
  rw[this];exact Nat.le_mul_of_pos_left _ hp
 have yb:0<=y/\y<=d:=by
  rw[<- ey];exact⟨Int.ediv_nonneg (by omega) (by omega),Int.ediv_le_self _ (by omega)⟩
 refine⟨eF n d,x,y,rfl,by omega,by omega,et,ey,by omega,by omega,by omega,by omega,?_⟩;unfold low ER;rw[if_neg (by omega),ex,ey]
theorem YA {n d:Int}(h:d<0):low n d=low (-n) (-d):=by unfold low;rw[if_pos h,if_neg (by omega)]
theorem Lj (aB aS aZ:Addr)(n d:Int)(w:World)(n1: -9223372036854775807<=n)(n2:n<=9223372036854775807)(d1:0<d)(d2:d<=9223372036854775807)(h:E3 aB aS aZ w):
  ak 270 #[aa n,aa d] w fun e w'=>e=.returned (.tuple #[.agg #[aa (low n d).n,aa (low n d).d],er aB aS aZ (low n d).c])/\Below w.heap.size w w':=by
 obtain⟨g,p,q,hg,g1,g2,hp,hq,p1,p2,q1,q2,hl⟩:=Dq n d n1 n2 d1 d2;have HL:Hid (low n d=_):=hl;have HG:Hid (Nat.gcd n.natAbs d.natAbs=g):=hg;clear hl hg;have hcB:=(h.alloc (.cells #[aa 0,aa 0] 127)).b;have hlt:=ay h.b;simp only at hlt;have hne:¬w.heap.size=0:=by omega
 have hne':¬0=w.heap.size:=by omega
 go_enter func270,ntmps270;go_wp2_with(first|(go_at_call 225;refine(kN _ _ (by omega) (by omega)).mono ?_;rintro e w' ⟨rfl,rfl⟩)|(go_at_call 224;refine(zu _ _ g _ (by omega) (by omega) HG.out).mono ?_;rintro e w' ⟨rfl,k,rfl⟩))
 go_quiet (fail)
 rw[hq];clear hp hq;by_cases b1:gu p=true
 ·go_wp2_with(go_at_call 226;refine(dI _ _ (by omega) (by omega)).mono ?_;rintro e w' ⟨rfl,rfl⟩);go_region;go_wp2;refine bodyPost_ret (v:=.tuple #[.agg #[aa 0,aa 0],.iface 390 (.pointer (some aB))]) (by simp[results,results270,go_sem]) rfl ⟨by rw[HL.out,if_pos (Or.inl b1)];rfl,?_⟩;exact((below_drewN ((Below.refl _ _).alloc eU _) _).setCell (by simp) _).setCell (by simp) _
 ·have b1:gu p=false:=by simpa using b1
  by_cases b2:gu q=true
  ·go_wp2_with(go_at_call 226;refine(dI _ _ (by omega) (by omega)).mono ?_;rintro e w' ⟨rfl,rfl⟩);go_region;go_wp2;refine bodyPost_ret (v:=.tuple #[.agg #[aa 0,aa 0],.iface 390 (.pointer (some aB))]) (by simp[results,results270,go_sem]) rfl ⟨by rw[HL.out,if_pos (Or.inr b2)];rfl,?_⟩;exact((below_drewN ((Below.refl _ _).alloc eU _) _).setCell (by simp) _).setCell (by simp) _
  ·have b2:gu q=false:=by simpa using b2
   go_wp2_with(go_at_call 226;refine(dI _ _ (by omega) (by omega)).mono ?_;rintro e w' ⟨rfl,rfl⟩);refine bodyPost_ret (v:=.tuple #[.agg #[aa p,aa q],.nilIface]) (by simp[results,results270,go_sem]) rfl ⟨by rw[HL.out,if_neg (by simp[b1,b2])];rfl,?_⟩;exact((below_drewN ((Below.refl _ _).alloc eU _) _).setCell (by simp) _).setCell (by simp) _
theorem Ll (aB aS aZ:Addr)(n d:Int)(w:World)(n1: -9223372036854775807<=n)(n2:n<=9223372036854775807)(d1:d<0)(d2: -9223372036854775807<=d)(h:E3 aB aS aZ w):
  ak 270 #[aa n,aa d] w fun e w'=>e=.returned (.tuple #[.agg #[aa (low n d).n,aa (low n d).d],er aB aS aZ (low n d).c])/\Below w.heap.size w w':=by
 obtain⟨g,p,q,hg,g1,g2,hp,hq,p1,p2,q1,q2,hl⟩:=Dq (-n) (-d) (by omega) (by omega) (by omega) (by omega);have HL:Hid (low n d=_):=(YA d1).trans hl;have HG:Hid (Nat.gcd (-n).natAbs (-d).natAbs=g):=hg;have hq':wrap64 (-(d.tdiv g))=q:=by
  rw[<- Int.neg_tdiv,Int.tdiv_eq_ediv_of_nonneg (by omega),hq];exact IntWalk.wrap64_in q ⟨by omega,q2⟩
 clear hl hg hq;have hcB:=(h.alloc (.cells #[aa 0,aa 0] 127)).b;have hlt:=ay h.b;simp only at hlt;have hne:¬w.heap.size=0:=by omega
 have hne':¬0=w.heap.size:=by omega
 go_enter func270,ntmps270;go_wp2_with(first|(go_at_call 225;refine(kN _ _ (by omega) (by omega)).mono ?_;rintro e w' ⟨rfl,rfl⟩)|(go_at_call 224;refine(zu _ _ g _ (by omega) (by omega) (by first|exact HG.out|simpa using HG.out)).mono ?_;rintro e w' ⟨rfl,k,rfl⟩))
 go_quiet (fail)
 try rw[hq']
 clear hp hq';by_cases b1:gu p=true
 ·go_wp2_with(go_at_call 226;refine(dI _ _ (by omega) (by omega)).mono ?_;rintro e w' ⟨rfl,rfl⟩);go_region;go_wp2;refine bodyPost_ret (v:=.tuple #[.agg #[aa 0,aa 0],.iface 390 (.pointer (some aB))]) (by simp[results,results270,go_sem]) rfl ⟨by rw[HL.out,if_pos (Or.inl b1)];rfl,?_⟩;exact((below_drewN ((Below.refl _ _).alloc eU _) _).setCell (by simp) _).setCell (by simp) _
 ·have b1:gu p=false:=by simpa using b1
  by_cases b2:gu q=true
  ·go_wp2_with(go_at_call 226;refine(dI _ _ (by omega) (by omega)).mono ?_;rintro e w' ⟨rfl,rfl⟩);go_region;go_wp2;refine bodyPost_ret (v:=.tuple #[.agg #[aa 0,aa 0],.iface 390 (.pointer (some aB))]) (by simp[results,results270,go_sem]) rfl ⟨by rw[HL.out,if_pos (Or.inr b2)];rfl,?_⟩;exact((below_drewN ((Below.refl _ _).alloc eU _) _).setCell (by simp) _).setCell (by simp) _
  ·have b2:gu q=false:=by simpa using b2
   go_wp2_with(go_at_call 226;refine(dI _ _ (by omega) (by omega)).mono ?_;rintro e w' ⟨rfl,rfl⟩);refine bodyPost_ret (v:=.tuple #[.agg #[aa p,aa q],.nilIface]) (by simp[results,results270,go_sem]) rfl ⟨by rw[HL.out,if_neg (by simp[b1,b2])];rfl,?_⟩;exact((below_drewN ((Below.refl _ _).alloc eU _) _).setCell (by simp) _).setCell (by simp) _
theorem zw (aB aS aZ:Addr)(n d:Int)(w:World)(n1: -9223372036854775807<=n)(n2:n<=9223372036854775807)(d0:d≠0)(d1: -9223372036854775807<=d)(d2:d<=9223372036854775807)(h:E3 aB aS aZ w):
  ak 270 #[aa n,aa d] w fun e w'=>e=.returned (.tuple #[.agg #[aa (low n d).n,aa (low n d).d],er aB aS aZ (low n d).c])/\Below w.heap.size w w':=by
 rcases Int.lt_or_gt_of_ne d0 with h0|h0
 ·exact Ll aB aS aZ n d w n1 n2 h0 d1 h
 ·exact Lj aB aS aZ n d w n1 n2 h0 d2 h
end
section
open Go.RowKit
set_option maxHeartbeats 1000000
theorem mZ {a b:Int}(ha:a.natAbs<=1073741824)(hb:b.natAbs<=1073741824): -1152921504606846976<=a*b/\a*b<=1152921504606846976:=by
 have:(a*b).natAbs<=1073741824*1073741824:=by rw[Int.natAbs_mul];exact Nat.mul_le_mul ha hb
 omega
theorem i64_in {n:Int}(h1: -9223372036854775808<=n)(h2:n<=9223372036854775807):IntKind.i64.wrap n=n:=by
 simp[IntKind.wrap,IntKind.bits,IntKind.signed];omega
theorem YB (aB aS aZ:Addr)(an ad bn bd:Int)(w:World)(ha:bK an ad=0)(hb:bK bn bd=0)(h:E3 aB aS aZ w):
  ak 263 #[.agg #[aa an,aa ad],.agg #[aa bn,aa bd]] w fun e w'=>e=.returned (.tuple #[.agg #[aa (add an ad bn bd).n,aa (add an ad bn bd).d],er aB aS aZ (add an ad bn bd).c])/\Below w.heap.size w w':=by
 have hadd:add an ad bn bd=low (an*bd+bn*ad) (ad*bd):=by unfold add;rw[if_neg (by simp[ha]),if_neg (by simp[hb])]
 rw[hadd];obtain⟨a1,_,a3,a4⟩:=dA.1 ha;obtain⟨b1,_,b3,b4⟩:=dA.1 hb;have m1:=mZ a3 b4;have m2:=mZ b3 a4;have m3:=mZ a4 b4;have m0:ad*bd≠0:=Int.mul_ne_zero (by omega) (by omega);obtain⟨m11,m12⟩:=m1;obtain⟨m21,m22⟩:=m2;obtain⟨m31,m32⟩:=m3;have hw1:IntKind.i64.wrap (an*bd+bn*ad)=an*bd+bn*ad:=i64_in (by omega) (by omega);have hn1:¬w.heap.size+1+1=w.heap.size:=by omega
 have hn2:¬w.heap.size=w.heap.size+1+1:=by omega
 clear ha hb hadd a1 a3 a4 b1 b3 b4;go_enter func263,ntmps263;go_wp2
 go_region_held3 (fun w'=>w'.cell? ⟨w.heap.size,0,none⟩=some (aa an)/\w'.cell? ⟨w.heap.size,1,none⟩=some (aa ad)/\w'.cell? ⟨w.heap.size+1,0,none⟩=some (aa bn)/\w'.cell? ⟨w.heap.size+1,1,none⟩=some (aa bd)) (go_keep) (first|(go_at_call 271;refine(Dn _ _ _ (by omega) (by omega)).mono ?_;rintro e w' ⟨rfl,rfl⟩)|(go_at_call 270;refine(zw aB aS aZ _ _ _ (by omega) (by omega) m0 (by omega) (by omega) ?_).mono ?_;exact(((h.alloc _).alloc _).alloc _).drewN 1;rintro e w' ⟨rfl,hb⟩;obtain⟨hx,hy⟩:=a1h hb;have hx0:=hx w.heap.size 0 (by simp;omega);have hx1:=hx w.heap.size 1 (by simp;omega)))
 go_wp2;have hx2:=hx (w.heap.size+1+1) 0 (by simp);have hx3:=hx (w.heap.size+1+1) 1 (by simp);refine bodyPost_ret (v:=.tuple #[.agg #[aa (low (an*bd+bn*ad) (ad*bd)).n,aa (low (an*bd+bn*ad) (ad*bd)).d],er aB aS aZ (low (an*bd+bn*ad) (ad*bd)).c]) (by simp[results,results263,go_sem,hx2,hx3]) rfl ⟨rfl,?_⟩;exact((((((Below.refl _ _).alloc eU _).alloc (by simp) _).alloc (by simp;omega) _).drew.trans (hb.mono (by simp;omega))).setCell (by simp;omega) _).setCell (by simp;omega) _
def yD (an ad bn bd:Int):Nat:=if bK an ad≠0 then bK an ad else bK bn bd
theorem zx (an ad bn bd:Int):(bK an ad=0/\bK bn bd=0)\/(yD an ad bn bd=2\/yD an ad bn bd=3):=by
 unfold yD;rcases dL an ad with h|h|h<;>rcases dL bn bd with h'|h'|h'<;>simp[h,h']
theorem YC {an ad bn bd:Int}(h:¬(bK an ad=0/\bK bn bd=0)):add an ad bn bd=⟨0,0,yD an ad bn bd⟩:=by
 unfold add yD;by_cases h1:bK an ad=0<;>by_cases h2:bK bn bd=0<;>simp_all
theorem YD {an ad bn bd:Int}(h:¬(bK an ad=0/\bK bn bd=0)):mul an ad bn bd=⟨0,0,yD an ad bn bd⟩:=by
 unfold mul yD;by_cases h1:bK an ad=0<;>by_cases h2:bK bn bd=0<;>simp_all
theorem uI (aB aS aZ:Addr)(n d m f:Int)(w:World)(hn:lH n)(hd:lH d)(hm:lH m)(hf:lH f)(h:E3 aB aS aZ w)(h1:bK n d=0)(h2:bK m f=0):
  ak 262 #[.agg #[aa n,aa d],.agg #[aa m,aa f]] w fun e w'=>e=.returned .nilIface/\Below w.heap.size w w':=by
 have:=sF aB aS aZ n d m f w hn hd hm hf h;rw[if_neg (by simp[h1]),h2] at this;exact this
theorem uJ (aB aS aZ:Addr)(n d m f:Int)(a:Addr)(w:World)(hn:lH n)(hd:lH d)(hm:lH m)(hf:lH f)(h:E3 aB aS aZ w)(ha:er aB aS aZ (yD n d m f)=.iface 390 (.pointer (some a))):
  ak 262 #[.agg #[aa n,aa d],.agg #[aa m,aa f]] w fun e w'=>e=.returned (.iface 390 (.pointer (some a)))/\Below w.heap.size w w':=by
 rw[<- ha];exact sF aB aS aZ n d m f w hn hd hm hf h
theorem fF {n d:Int}(h:bK n d=0):lH n/\lH d:=by
 obtain⟨_,_,h3,h4⟩:=dA.1 h;exact⟨⟨by omega,by omega⟩,⟨by omega,by omega⟩⟩
theorem zy (aB aS aZ:Addr)(an ad bn bd:Int)(w:World)(i1:lH an)(i2:lH ad)(i3:lH bn)(i4:lH bd)(h:E3 aB aS aZ w):
  ak 233 #[.agg #[aa an,aa ad],.agg #[aa bn,aa bd]] w fun e w'=>e=.returned (.tuple #[.agg #[aa (add an ad bn bd).n,aa (add an ad bn bd).d],er aB aS aZ (add an ad bn bd).c])/\Below w.heap.size w w':=by
 rcases zx an ad bn bd with⟨ha,hb⟩|hbad
 ·have HA:Hid (bK an ad=0):=ha;have HB:Hid (bK bn bd=0):=hb;clear ha hb;go_enter func233,ntmps233;go_wp2_with(first|(go_at_call 262;refine(uI aB aS aZ _ _ _ _ _ i1 i2 i3 i4 ?_ HA.out HB.out).mono ?_;exact((h.alloc _).alloc _).alloc _;rintro e w1 ⟨rfl,hb⟩;obtain⟨⟨p1,p2,p3,p4⟩,⟨q1,q2,q3,q4⟩,⟨r1,r2,r3,r4⟩,hw,hz⟩:=three hb;clear hb)|(go_at_call 263;refine(YB aB aS aZ _ _ _ _ _ HA.out HB.out ?_).mono ?_;exact h.below hw eU;rintro e w2 ⟨rfl,hb2⟩;obtain⟨s1,s2,s3,s4⟩:=Two.below ⟨r1,r2,r3,r4⟩ hb2 eU));refine bodyPost_ret (v:=.tuple #[.agg #[aa (add an ad bn bd).n,aa (add an ad bn bd).d],er aB aS aZ (add an ad bn bd).c]) (by simp[results,results233,go_sem,s1,s2]) rfl ⟨rfl,?_⟩;exact((hw.trans (hb2.mono (by omega))).setCell (by simp;omega) _).setCell (by simp;omega) _
 ·obtain⟨a,ha⟩:=eT aB aS aZ hbad;have hr:=YC (an:=an) (ad:=ad) (bn:=bn) (bd:=bd) (by rintro⟨h1,h2⟩;unfold yD at hbad;simp[h1,h2] at hbad);rw[hr,ha];have HA:Hid (er aB aS aZ (yD an ad bn bd)=.iface 390 (.pointer (some a))):=ha;clear ha hr hbad;go_enter func233,ntmps233;go_wp2_with(go_at_call 262;refine(uJ aB aS aZ _ _ _ _ a _ i1 i2 i3 i4 ?_ HA.out).mono ?_;exact((h.alloc _).alloc _).alloc _;rintro e w1 ⟨rfl,hb⟩;obtain⟨⟨p1,p2,p3,p4⟩,⟨q1,q2,q3,q4⟩,⟨r1,r2,r3,r4⟩,hw,hz⟩:=three hb;clear hb);refine bodyPost_ret (v:=.tuple #[.agg #[aa 0,aa 0],.iface 390 (.pointer (some a))]) (by simp[results,results233,go_sem,r1,r2]) rfl ⟨rfl,?_⟩;exact(hw.setCell (by simp;omega) _).setCell (by simp;omega) _
end
section
open Go.RowKit
set_option maxHeartbeats 1000000
theorem YE (aB aS aZ:Addr)(an ad bn bd:Int)(w:World)(i1:lH an)(i2:lH ad)(i3:lH bn)(i4:lH bd)(h:E3 aB aS aZ w):
  ak 244 #[.agg #[aa an,aa ad],.agg #[aa bn,aa bd]] w fun e w'=>e=.returned (.tuple #[.agg #[aa (mul an ad bn bd).n,aa (mul an ad bn bd).d],er aB aS aZ (mul an ad bn bd).c])/\Below w.heap.size w w':=by
 rcases zx an ad bn bd with⟨ha,hb⟩|hbad
 ·have HA:Hid (bK an ad=0):=ha;have HB:Hid (bK bn bd=0):=hb;have hmul:mul an ad bn bd=low (an*bn) (ad*bd):=by unfold mul;rw[if_neg (by simp[ha]),if_neg (by simp[hb])]
  rw[hmul];obtain⟨a1,_,a3,a4⟩:=dA.1 ha;obtain⟨b1,_,b3,b4⟩:=dA.1 hb;obtain⟨m11,m12⟩:=mZ a3 b3;obtain⟨m31,m32⟩:=mZ a4 b4;have m0:ad*bd≠0:=Int.mul_ne_zero (by omega) (by omega);have hn1:¬w.heap.size+1+1=w.heap.size:=by omega
  have hn2:¬w.heap.size=w.heap.size+1+1:=by omega
  clear ha hb hmul a1 a3 a4 b1 b3 b4;go_enter func244,ntmps244;go_wp2_with(go_at_call 262;refine(uI aB aS aZ _ _ _ _ _ i1 i2 i3 i4 ?_ HA.out HB.out).mono ?_;exact((h.alloc _).alloc _).alloc _;rintro e w1 ⟨rfl,hb⟩;obtain⟨⟨p1,p2,p3,p4⟩,⟨q1,q2,q3,q4⟩,⟨r1,r2,r3,r4⟩,hw,hz⟩:=three hb;clear hb)
  go_region_held3 (fun w'=>w'.cell? ⟨w.heap.size,0,none⟩=some (aa an)/\w'.cell? ⟨w.heap.size,1,none⟩=some (aa ad)/\w'.cell? ⟨w.heap.size+1,0,none⟩=some (aa bn)/\w'.cell? ⟨w.heap.size+1,1,none⟩=some (aa bd)) (go_keep) (first|(go_at_call 271;refine(Dn _ _ _ (by omega) (by omega)).mono ?_;rintro e w' ⟨rfl,rfl⟩)|(go_at_call 270;refine(zw aB aS aZ _ _ _ (by omega) (by omega) m0 (by omega) (by omega) ?_).mono ?_;exact(h.below hw eU).drewN 1;rintro e w2 ⟨rfl,hb2⟩;obtain⟨s1,s2,s3,s4⟩:=Two.below (Two.drewN ⟨r1,r2,r3,r4⟩ 1) hb2 eU;obtain⟨u1,u2,u3,u4⟩:=Two.below (Two.drewN ⟨p1,p2,p3,p4⟩ 1) hb2 eU;obtain⟨v1,v2,v3,v4⟩:=Two.below (Two.drewN ⟨q1,q2,q3,q4⟩ 1) hb2 eU))
  go_wp2;refine bodyPost_ret (v:=.tuple #[.agg #[aa (low (an*bn) (ad*bd)).n,aa (low (an*bn) (ad*bd)).d],er aB aS aZ (low (an*bn) (ad*bd)).c]) (by simp[results,results244,go_sem,s1,s2]) rfl ⟨rfl,?_⟩;exact((hw.drew.trans (hb2.mono (by simp;omega))).setCell (by simp;omega) _).setCell (by simp;omega) _
 ·obtain⟨a,ha⟩:=eT aB aS aZ hbad;have hr:=YD (an:=an) (ad:=ad) (bn:=bn) (bd:=bd) (by rintro⟨h1,h2⟩;unfold yD at hbad;simp[h1,h2] at hbad);rw[hr,ha];have HA:Hid (er aB aS aZ (yD an ad bn bd)=.iface 390 (.pointer (some a))):=ha;clear ha hr hbad;go_enter func244,ntmps244;go_wp2_with(go_at_call 262;refine(uJ aB aS aZ _ _ _ _ a _ i1 i2 i3 i4 ?_ HA.out).mono ?_;exact((h.alloc _).alloc _).alloc _;rintro e w1 ⟨rfl,hb⟩;obtain⟨⟨p1,p2,p3,p4⟩,⟨q1,q2,q3,q4⟩,⟨r1,r2,r3,r4⟩,hw,hz⟩:=three hb;clear hb);refine bodyPost_ret (v:=.tuple #[.agg #[aa 0,aa 0],.iface 390 (.pointer (some a))]) (by simp[results,results244,go_sem,r1,r2]) rfl ⟨rfl,?_⟩;exact(hw.setCell (by simp;omega) _).setCell (by simp;omega) _
theorem two {w w1:World}{x0 x1 y0 y1:Value}{t t':TypeId}(hb:Below ((w.alloc (.cells #[x0,x1] t)).alloc (.cells #[y0,y1] t')).heap.size ((w.alloc (.cells #[x0,x1] t)).alloc (.cells #[y0,y1] t')) w1):
  Two w1 w.heap.size x0 x1/\Two w1 (w.heap.size+1) y0 y1/\Below w.heap.size w w1/\w.heap.size+1+1<=w1.heap.size:=by
 refine⟨((Two.new w x0 x1 t).alloc _).below hb eU,?_,?_,by have:=hb.size;simpa using this⟩
 ·have:=(Two.new (w.alloc (.cells #[x0,x1] t)) y0 y1 t').below hb eU;simpa using this
 ·exact(((Below.refl _ _).alloc eU _).alloc (by simp) _).trans (hb.mono (by simp;omega))
end
end Go.Proofs.YtjfiehbcamfdfaaGreatDoor

/- Parts of the proof. -/
import Derived.Test.YtecneflbncjhpaaGreatDoorProg
import Derived.WalkSpells
import Derived.WalkLawsBesides
import Derived.BigQuiet
import Derived.Deep.RegionHeld3
import Derived.Test.YtecneflbncjhpaaGreatDoorQpb
namespace Go.Proofs.YtecneflbncjhpaaGreatDoor
open Go.Proofs.Tryz
set_option maxHeartbeats 1000000
section
def gu (n:Int):Bool:=decide (1073741824<n.natAbs)
theorem iL {n:Int}:gu n=true↔1073741824<n.natAbs:=by simp[gu]
theorem yI {n:Int}:gu n=false↔n.natAbs<=1073741824:=by simp[gu]
def gy (n d:Int):Nat:=Nat.gcd n.natAbs d.natAbs
def dH (n d:Int):Nat:=if d<1\/gy n d≠1 then 3 else if gu n=true\/gu d=true then 2 else 0
theorem eO {n d:Int}:dH n d=0↔1<=d/\gy n d=1/\n.natAbs<=1073741824/\d.natAbs<=1073741824:=by
 unfold dH;constructor
 ·intro h;split at h
  ·cases h
  ·rename_i h1;split at h
   ·cases h
   ·rename_i h2;rw[iL,iL] at h2;refine⟨by omega,?_,by omega,by omega⟩;by_cases hg:gy n d=1
    ·exact hg
    ·exact absurd (Or.inr hg) h1
 ·rintro⟨h1,h2,h3,h4⟩;rw[if_neg (by rintro(h|h);omega;exact h h2),if_neg (by rw[iL,iL];omega)]
theorem fC (n d:Int):dH n d=0\/dH n d=2\/dH n d=3:=by
 unfold dH;split
 ·simp
 ·split<;>simp
structure R3 where
 n:Int
 d:Int
 c:Nat
def Gw (n d:Int):R3:=
 if gu (n/gy n d)=true\/gu (d/gy n d)=true then⟨0,0,2⟩ else⟨n/gy n d,d/gy n d,0⟩
def low (n d:Int):R3:=if d<0 then Gw (-n) (-d) else Gw n d
theorem Aj {n d:Int}(h:d≠0):0<gy n d:=Nat.gcd_pos_of_pos_right _ (by omega)
theorem jd (n d:Int):(gy n d:Int)∣ n:=Int.ofNat_dvd_left.2 (Nat.gcd_dvd_left _ _)
theorem fZ (n d:Int):(gy n d:Int)∣ d:=Int.ofNat_dvd_left.2 (Nat.gcd_dvd_right _ _)
theorem VH {n d:Int}(h:d≠0):gy (n/gy n d) (d/gy n d)=1:=by
 have hp:=Aj (n:=n) h;have e1:(n/(gy n d:Int)).natAbs=n.natAbs/gy n d:=by
  rw[Int.natAbs_ediv_of_dvd (jd n d)];simp
 have e2:(d/(gy n d:Int)).natAbs=d.natAbs/gy n d:=by
  rw[Int.natAbs_ediv_of_dvd (fZ n d)];simp
 show Nat.gcd _ _=1;rw[e1,e2];exact Nat.coprime_div_gcd_div_gcd hp
theorem VI {n d:Int}:n/gy n d*d=n*(d/gy n d):=by
 obtain⟨x,hx⟩:=jd n d;obtain⟨y,hy⟩:=fZ n d;rcases Nat.eq_zero_or_pos (gy n d) with h0|hp
 ·rw[h0] at hx hy;simp at hx hy;simp[hx,hy]
 ·have hp':(gy n d:Int)≠0:=by omega
  have e1:n/(gy n d:Int)=x:=by rw[Int.ediv_eq_iff_eq_mul_right hp' (jd n d)];exact hx
  have e2:d/(gy n d:Int)=y:=by rw[Int.ediv_eq_iff_eq_mul_right hp' (fZ n d)];exact hy
  rw[e1,e2];generalize (gy n d:Int)=g at*;rw[hx,hy,<- Int.mul_assoc,Int.mul_comm x g]
theorem unique {n d n' d':Int}(h1:1<=d)(g1:gy n d=1)(h2:1<=d')(g2:gy n' d'=1)(e:n*d'=n'*d):n=n'/\d=d':=by
 have a1:d.natAbs∣ d'.natAbs:=by
  have:d.natAbs∣ n.natAbs*d'.natAbs:=by rw[<- Int.natAbs_mul,e,Int.natAbs_mul];exact Nat.dvd_mul_left _ _
  exact Nat.Coprime.dvd_of_dvd_mul_left (show Nat.gcd _ _=1 by rw[Nat.gcd_comm];exact g1) this
 have a2:d'.natAbs∣ d.natAbs:=by
  have:d'.natAbs∣ n'.natAbs*d.natAbs:=by rw[<- Int.natAbs_mul,<- e,Int.natAbs_mul];exact Nat.dvd_mul_left _ _
  exact Nat.Coprime.dvd_of_dvd_mul_left (show Nat.gcd _ _=1 by rw[Nat.gcd_comm];exact g2) this
 have a3:d=d':=by have:=Nat.dvd_antisymm a1 a2;omega
 subst a3;exact⟨Int.eq_of_mul_eq_mul_right (by omega) e,rfl⟩
theorem Ak {n d:Int}:Gw n d=⟨0,0,2⟩\/(Gw n d).c=0:=by
 unfold Gw;split<;>simp
theorem F4 {n d p q:Int}(hd:0<d):Gw n d=⟨p,q,0⟩↔dH p q=0/\p*d=n*q:=by
 have hp:=Aj (n:=n) (d:=d) (by omega);have hq:1<=d/(gy n d:Int):=by
  obtain⟨y,hy⟩:=fZ n d;have e2:d/(gy n d:Int)=y:=by rw[Int.ediv_eq_iff_eq_mul_right (by omega) (fZ n d)];exact hy
  rw[e2];rcases Int.lt_or_le 0 y with h|h
  ·omega
  ·have:=Int.mul_nonpos_of_nonneg_of_nonpos (show(0:Int)<=gy n d by omega) h;omega
 have hg:=VH (n:=n) (d:=d) (by omega);have hm:=VI (n:=n) (d:=d);constructor
 ·intro h;unfold Gw at h;split at h
  ·cases h
  ·rename_i hb;rw[iL,iL] at hb;simp only[R3.mk.injEq] at h;obtain⟨rfl,rfl,_⟩:=h;exact⟨eO.2 ⟨hq,hg,by omega,by omega⟩,hm⟩
 ·rintro⟨hc,he⟩;obtain⟨c1,c2,c3,c4⟩:=eO.1 hc;have hx:n/(gy n d:Int)*q=p*(d/(gy n d:Int)):=by
   apply Int.eq_of_mul_eq_mul_right (show d≠0 by omega);grind
  obtain⟨e1,e2⟩:=unique hq hg c1 c2 hx;unfold Gw;rw[e1,e2,if_neg (by rw[iL,iL];omega)]
theorem xx {n d:Int}:low n d=⟨0,0,2⟩\/(low n d).c=0:=by
 unfold low;split
 ·exact Ak
 ·exact Ak
theorem Jh {n d p q:Int}(hd:d≠0):low n d=⟨p,q,0⟩↔dH p q=0/\p*d=n*q:=by
 unfold low;split
 ·rw[F4 (by omega)];constructor
  ·rintro⟨a,b⟩;exact⟨a,by grind⟩
  ·rintro⟨a,b⟩;exact⟨a,by grind⟩
 ·exact F4 (by omega)
def add (an ad bn bd:Int):R3:=if dH an ad≠0 then⟨0,0,dH an ad⟩ else if dH bn bd≠0 then⟨0,0,dH bn bd⟩ else low (an*bd+bn*ad) (ad*bd)
def mul (an ad bn bd:Int):R3:=if dH an ad≠0 then⟨0,0,dH an ad⟩ else if dH bn bd≠0 then⟨0,0,dH bn bd⟩ else low (an*bn) (ad*bd)
theorem Al {an ad bn bd p q:Int}:add an ad bn bd=⟨p,q,0⟩↔dH an ad=0/\dH bn bd=0/\dH p q=0/\p*(ad*bd)=(an*bd+bn*ad)*q:=by
 unfold add;by_cases h1:dH an ad=0
 ·by_cases h2:dH bn bd=0
  ·have hd:ad*bd≠0:=by
    have:=(eO.1 h1).1;have:=(eO.1 h2).1;exact Int.mul_ne_zero (by omega) (by omega)
   simp[h1,h2,Jh hd]
  ·simp[h1,h2]
 ·simp[h1]
theorem VJ {an ad bn bd p q:Int}:mul an ad bn bd=⟨p,q,0⟩↔dH an ad=0/\dH bn bd=0/\dH p q=0/\p*(ad*bd)=(an*bn)*q:=by
 unfold mul;by_cases h1:dH an ad=0
 ·by_cases h2:dH bn bd=0
  ·have hd:ad*bd≠0:=by
    have:=(eO.1 h1).1;have:=(eO.1 h2).1;exact Int.mul_ne_zero (by omega) (by omega)
   simp[h1,h2,Jh hd]
  ·simp[h1,h2]
 ·simp[h1]
def Ec (n:Int):Int:=if n<0 then -1 else if 0<n then 1 else 0
end
section
open Go.RowKit
theorem l9 {k:IntKind}{a b:Int}(h:a=b):Ending.returned (.int k a)=.returned (.int k b):=by rw[h]
theorem vT {a b:Bool}(h:a=b):Ending.returned (.bool a)=.returned (.bool b):=by rw[h]
structure E3 (aB aS aZ:Addr)(w:ag):Prop where
 b:w.cell? (ak 0 0)=some (.iface 401 (.pointer (some aB)))
 s:w.cell? (ak 3 0)=some (.iface 401 (.pointer (some aS)))
 q:aZ=aZ
theorem aF {w:ag}{a:Addr}{v:ah}(h:w.cell? a=some v):a.block<w.heap.size:=by
 rcases Nat.lt_or_ge a.block w.heap.size with h'|h'
 ·exact h'
 ·simp[World.cell?,Array.getElem?_eq_none h'] at h
theorem E3.below {aB aS aZ:Addr}{w w':ag}{B:Nat}(h:E3 aB aS aZ w)(hb:Below B w w')(hB:w.heap.size<=B):E3 aB aS aZ w':=
 ⟨(hb.cell (bI (aF h.b) hB)).trans h.b,(hb.cell (bI (aF h.s) hB)).trans h.s,rfl⟩
theorem E3.drewN {aB aS aZ:Addr}{w:ag}(h:E3 aB aS aZ w)(k:Nat):E3 aB aS aZ (w.drewN k):=⟨h.b,h.s,rfl⟩
theorem E3.alloc {aB aS aZ:Addr}{w:ag}(h:E3 aB aS aZ w)(o:Obj):E3 aB aS aZ (w.alloc o):=
 h.below ((aG w.heap.size w).alloc ai o) ai
structure EZ (aZ:Addr)(w:ag):Prop where
 z:w.cell? (ak 10 0)=some (.iface 401 (.pointer (some aZ)))
theorem EZ.below {aZ:Addr}{w w':ag}{B:Nat}(h:EZ aZ w)(hb:Below B w w')(hB:w.heap.size<=B):EZ aZ w':=⟨(hb.cell (bI (aF h.z) hB)).trans h.z⟩
theorem EZ.alloc {aZ:Addr}{w:ag}(h:EZ aZ w)(o:Obj):EZ aZ (w.alloc o):=h.below ((aG w.heap.size w).alloc ai o) ai
def er (aB aS aZ:Addr):Nat->ah
 |2=>.iface 401 (.pointer (some aB))
 |3=>.iface 401 (.pointer (some aS))
 |11=>.iface 401 (.pointer (some aZ))
 |_=>.nilIface
theorem lU (n:Int)(w:ag)(h1: -9223372036854775808<=n)(h2:n<=9223372036854775807):
  au 230 #[aa n] w fun e w'=>e=.returned (.int .u64 n.natAbs)/\w'=w:=by
 by_cases h:n<0
 ·go_enter func230,ntmps230;go_wp2;go_ret;exact⟨l9 (by rw[IntKind.wrap_u64,IntKind.wrap_u64];omega),rfl⟩
 ·go_enter func230,ntmps230;go_wp2;go_ret;exact⟨l9 (by omega),rfl⟩
theorem kI (a b:Nat)(w:ag)(ha:a<=18446744073709551615)(hb:b<=18446744073709551615):
  au 229 #[.int .u64 a,.int .u64 b] w fun e w'=>e=.returned (.int .u64 (Nat.gcd a b:Nat))/\∃k,w'=w.drewN k:=by
 go_enter func229,ntmps229;go_wp2
 go_loopw [0,1] (fun x y wr=>∃p q:Nat,p<=18446744073709551615/\q<=18446744073709551615/\x=.int .u64 p/\y=.int .u64 q/\Nat.gcd p q=Nat.gcd a b/\∃k,wr=w.drewN k) (fun _ y _=>(intOf y).toNat)
 case atStart=>exact⟨a,b,ha,hb,rfl,rfl,rfl,0,rfl⟩
 case round=>
  obtain⟨p,q,hp,hq,rfl,rfl,hg,k,rfl⟩:=hrel;have HG:=aj hg;clear hg;by_cases h0:q=0
  ·subst h0;go_wp2;go_ret;exact⟨l9 (by have:=HG.out;simp at this;omega),k,rfl⟩
  ·have hlt:=Nat.mod_lt p (Nat.pos_of_ne_zero h0);have HL:=aj hlt;clear hlt;go_wp2
   go_quiet (fail)
   go_wp2
   go_roundw
   case rel=>exact⟨q,p % q,hq,by have:=HL.out;omega,rfl,by go_num,by rw[<- HG.out,Nat.gcd_comm p q,Nat.gcd_comm q (p % q)];exact(Nat.gcd_rec _ _).symm,_,World.drewN_drewN _ _ _⟩
   case measure=>have:=HL.out;simp[intOf];omega
theorem dQ (n:Int)(w:ag)(h1: -9223372036854775808<=n)(h2:n<=9223372036854775807):
  au 215 #[aa n] w fun e w'=>e=.returned (.bool (gu n))/\w'=w:=by
 go_enter func215,ntmps215;go_wp2_with(go_at_call 230;refine(lU _ _ h1 h2).mono ?_;rintro e w' ⟨rfl,rfl⟩);go_ret;exact⟨vT (by unfold gu;rw[decide_eq_decide];omega),rfl⟩
theorem F6 (a b:Int)(w:ag)(h1: -9223372036854775808<=a*b)(h2:a*b<=9223372036854775807):
  au 282 #[aa a,aa b] w fun e w'=>e=.returned (aa (a*b))/\w'=w:=by
 go_enter func282,ntmps282;go_wp2;go_ret;exact⟨rfl,rfl⟩
theorem xy (aB aS aZ:Addr)(n d:Int)(w:ag)(n1: -9223372036854775808<=n)(n2:n<=9223372036854775807)(d1: -9223372036854775808<=d)(d2:d<=9223372036854775807)(h:E3 aB aS aZ w):
  au 182 #[aa n,aa d] w fun e w'=>e=.returned (er aB aS aZ (dH n d))/\∃k,w'=w.drewN k:=by
 obtain⟨hB,hS,_⟩:=h;by_cases hd:d<1
 ·have hc:dH n d=3:=by unfold dH;rw[if_pos (Or.inl hd)]
  rw[hc];go_enter func182,ntmps182;go_wp2;go_ret;exact⟨rfl,0,rfl⟩
 by_cases hg:gy n d=1
 ·have hgi:((Nat.gcd n.natAbs d.natAbs:Nat):Int)=1:=by unfold gy at hg;omega
  by_cases b1:gu n=true
  ·have hc:dH n d=2:=by unfold dH;rw[if_neg (by rintro(h|h);exact hd h;exact h hg),if_pos (Or.inl b1)]
   rw[hc];clear hc hg;go_enter func182,ntmps182;go_wp2_with(first|(go_at_call 230;refine(lU _ _ (by assumption) (by assumption)).mono ?_;rintro e w' ⟨rfl,rfl⟩)|(go_at_call 229;refine(kI _ _ _ (by omega) (by omega)).mono ?_;rintro e w' ⟨rfl,k,rfl⟩)|(go_at_call 215;refine(dQ _ _ (by assumption) (by assumption)).mono ?_;rintro e w' ⟨rfl,rfl⟩));go_ret;exact⟨rfl,_,rfl⟩
  ·have b1:gu n=false:=by simpa using b1
   by_cases b2:gu d=true
   ·have hc:dH n d=2:=by unfold dH;rw[if_neg (by rintro(h|h);exact hd h;exact h hg),if_pos (Or.inr b2)]
    rw[hc];clear hc hg;go_enter func182,ntmps182;go_wp2_with(first|(go_at_call 230;refine(lU _ _ (by assumption) (by assumption)).mono ?_;rintro e w' ⟨rfl,rfl⟩)|(go_at_call 229;refine(kI _ _ _ (by omega) (by omega)).mono ?_;rintro e w' ⟨rfl,k,rfl⟩)|(go_at_call 215;refine(dQ _ _ (by assumption) (by assumption)).mono ?_;rintro e w' ⟨rfl,rfl⟩));go_ret;exact⟨rfl,_,rfl⟩
   ·have b2:gu d=false:=by simpa using b2
    have hc:dH n d=0:=by unfold dH;rw[if_neg (by rintro(h|h);exact hd h;exact h hg),if_neg (by simp[b1,b2])]
    rw[hc];clear hc hg;go_enter func182,ntmps182;go_wp2_with(first|(go_at_call 230;refine(lU _ _ (by assumption) (by assumption)).mono ?_;rintro e w' ⟨rfl,rfl⟩)|(go_at_call 229;refine(kI _ _ _ (by omega) (by omega)).mono ?_;rintro e w' ⟨rfl,k,rfl⟩)|(go_at_call 215;refine(dQ _ _ (by assumption) (by assumption)).mono ?_;rintro e w' ⟨rfl,rfl⟩));go_ret;exact⟨rfl,_,rfl⟩
 ·have hc:dH n d=3:=by unfold dH;rw[if_pos (Or.inr hg)]
  have hgi:((((Nat.gcd n.natAbs d.natAbs:Nat):Int)) !=1)=true:=by unfold gy at hg;simp;omega
  rw[hc];clear hc hg;go_enter func182,ntmps182;go_wp2_with(first|(go_at_call 230;refine(lU _ _ (by assumption) (by assumption)).mono ?_;rintro e w' ⟨rfl,rfl⟩)|(go_at_call 229;refine(kI _ _ _ (by omega) (by omega)).mono ?_;rintro e w' ⟨rfl,k,rfl⟩)|(go_at_call 215;refine(dQ _ _ (by assumption) (by assumption)).mono ?_;rintro e w' ⟨rfl,rfl⟩));go_ret;exact⟨rfl,_,rfl⟩
theorem a3B {W w1:ag}(hb:Below W.heap.size W w1):(∀b o,b<W.heap.size->w1.cell? (ak b o)=W.cell? (ak b o))/\(∀b o,b<W.heap.size->w1.frozen? ⟨b,o,none⟩=W.frozen? ⟨b,o,none⟩):=
 ⟨fun b o h=>hb.cell (p:=⟨b,o,none⟩) h,fun b o h=>hb.frozen (p:=⟨b,o,none⟩) h⟩
def jH (n:Int):Prop:= -9223372036854775808<=n/\n<=9223372036854775807
theorem iR (aB aS aZ:Addr)(n d:Int)(w:ag)(hn:jH n)(hd:jH d)(h:E3 aB aS aZ w):
  au 133 #[.agg #[aa n,aa d]] w fun e w'=>e=.returned (er aB aS aZ (dH n d))/\Below w.heap.size w w':=by
 obtain⟨n1,n2⟩:=hn;obtain⟨d1,d2⟩:=hd;go_enter func133,ntmps133;go_wp2_with(go_at_call 182;refine(xy aB aS aZ _ _ _ n1 n2 d1 d2 ?_).mono ?_;exact h.alloc _;rintro e w' ⟨rfl,k,rfl⟩);go_ret;exact⟨rfl,below_drewN ((aG _ _).alloc ai _) _⟩
theorem gM (aB aS aZ:Addr){c:Nat}(h:c=2\/c=3):∃a,er aB aS aZ c=.iface 401 (.pointer (some a)):=by
 rcases h with rfl|rfl
 ·exact⟨aB,rfl⟩
 ·exact⟨aS,rfl⟩
theorem qM (aB aS aZ:Addr):er aB aS aZ 0=.nilIface:=rfl
theorem tY (aB aS aZ:Addr)(n d m f:Int)(w:ag)(hn:jH n)(hd:jH d)(hm:jH m)(hf:jH f)(h:E3 aB aS aZ w):
  au 274 #[.agg #[aa n,aa d],.agg #[aa m,aa f]] w fun e w'=>e=.returned (er aB aS aZ (if dH n d≠0 then dH n d else dH m f))/\Below w.heap.size w w':=by
 by_cases hc:dH n d=0
 ·rw[if_neg (by simp[hc])];have HC:=aj hc;clear hc;go_enter func274,ntmps274;go_wp2_with(first|(go_at_call 133;refine(iR aB aS aZ _ _ _ (by assumption) (by assumption) ?_).mono ?_;exact(h.alloc _).alloc _;rintro e w1 ⟨he,hb⟩;rw[HC.out,qM] at he;subst he;obtain⟨hx,hy⟩:=a3B hb)|(go_at_call 133;refine(iR aB aS aZ _ _ _ (by assumption) (by assumption) ?_).mono ?_;exact((h.alloc _).alloc _).below hb ai;rintro e w2 ⟨rfl,hb2⟩));go_ret;exact⟨rfl,(((aG _ _).alloc ai _).alloc (by simp) _).trans ((hb.mono (by simp;omega)).trans (hb2.mono (by have:=hb.size;simp at this;omega)))⟩
 ·rw[if_pos hc];obtain⟨a,ha⟩:=gM aB aS aZ (show dH n d=2\/dH n d=3 by rcases fC n d with h|h|h<;>simp_all);have HC:=aj ha;rw[ha];clear hc ha;go_enter func274,ntmps274;go_wp2_with(go_at_call 133;refine(iR aB aS aZ _ _ _ (by assumption) (by assumption) ?_).mono ?_;exact(h.alloc _).alloc _;rintro e w1 ⟨he,hb⟩;rw[HC.out] at he;subst he);go_ret;exact⟨rfl,(((aG _ _).alloc ai _).alloc (by simp) _).trans (hb.mono (by simp;omega))⟩
structure Two (w:ag)(b:Nat)(x y:ah):Prop where
 c0:w.cell? (ak b 0)=some x
 c1:w.cell? (ak b 1)=some y
 f0:w.frozen? ⟨b,0,none⟩=false
 f1:w.frozen? ⟨b,1,none⟩=false
theorem Two.below {w w':ag}{b B:Nat}{x y:ah}(h:Two w b x y)(hb:Below B w w')(hB:w.heap.size<=B):Two w' b x y:=by
 have hl:b<B:=bI (aF h.c0) hB;exact⟨(hb.cell (p:=⟨b,0,none⟩) hl).trans h.c0,(hb.cell (p:=⟨b,1,none⟩) hl).trans h.c1,(hb.frozen (p:=⟨b,0,none⟩) hl).trans h.f0,(hb.frozen (p:=⟨b,1,none⟩) hl).trans h.f1⟩
theorem Two.new (w:ag)(x y:ah)(t:TypeId):Two (w.alloc (.cells #[x,y] t)) w.heap.size x y:=⟨by simp,by simp,by simp,by simp⟩
theorem Two.alloc {w:ag}{b:Nat}{x y:ah}(h:Two w b x y)(o:Obj):Two (w.alloc o) b x y:=h.below ((aG w.heap.size w).alloc ai o) ai
theorem Two.drewN {w:ag}{b:Nat}{x y:ah}(h:Two w b x y)(k:Nat):Two (w.drewN k) b x y:=⟨h.c0,h.c1,h.f0,h.f1⟩
theorem three {w w1:ag}{x0 x1 y0 y1 z0 z1:ah}{t t' t'':TypeId}(hb:Below (((w.alloc (.cells #[x0,x1] t)).alloc (.cells #[y0,y1] t')).alloc (.cells #[z0,z1] t'')).heap.size (((w.alloc (.cells #[x0,x1] t)).alloc (.cells #[y0,y1] t')).alloc (.cells #[z0,z1] t'')) w1):
  Two w1 w.heap.size x0 x1/\Two w1 (w.heap.size+1) y0 y1/\Two w1 (w.heap.size+1+1) z0 z1/\Below w.heap.size w w1/\w.heap.size+1+1+1<=w1.heap.size:=by
 refine⟨(((Two.new w x0 x1 t).alloc _).alloc _).below hb ai,?_,?_,?_,by have:=hb.size;simpa using this⟩
 ·have:=((Two.new (w.alloc (.cells #[x0,x1] t)) y0 y1 t').alloc (.cells #[z0,z1] t'')).below hb ai;simpa using this
 ·have:=(Two.new ((w.alloc (.cells #[x0,x1] t)).alloc (.cells #[y0,y1] t')) z0 z1 t'').below hb ai;simpa using this
 ·exact((((aG _ _).alloc ai _).alloc (by simp) _).alloc (by simp;omega) _).trans (hb.mono (by simp;omega))
theorem Am (a b g:Nat)(w:ag)(ha:a<=18446744073709551615)(hb:b<=18446744073709551615)(hg:Nat.gcd a b=g):
  au 229 #[.int .u64 a,.int .u64 b] w fun e w'=>e=.returned (.int .u64 g)/\∃k,w'=w.drewN k:=by
 subst hg;exact kI a b w ha hb
theorem F7 (n d:Int)(n1: -9223372036854775807<=n)(n2:n<=9223372036854775807)(d1:0<d)(d2:d<=9223372036854775807):
  ∃(g:Nat) (p q:Int),Nat.gcd n.natAbs d.natAbs=g/\1<=(g:Int)/\(g:Int)<=9223372036854775807/\n.tdiv g=p/\d/g=q/\
   -9223372036854775807<=p/\p<=9223372036854775807/\0<=q/\q<=9223372036854775807/\low n d=(if gu p=true\/gu q=true then⟨0,0,2⟩ else⟨p,q,0⟩):=by
 have hp:=Aj (n:=n) (d:=d) (by omega);have hle:gy n d<=d.natAbs:=Nat.gcd_le_right _ (by omega);obtain⟨x,hx⟩:=jd n d;obtain⟨y,hy⟩:=fZ n d;have h0:(gy n d:Int)≠0:=by omega
 have ex:n/(gy n d:Int)=x:=by rw[Int.ediv_eq_iff_eq_mul_right h0 (jd n d)];exact hx
 have ey:d/(gy n d:Int)=y:=by rw[Int.ediv_eq_iff_eq_mul_right h0 (fZ n d)];exact hy
 have et:n.tdiv (gy n d:Int)=x:=by
  generalize (gy n d:Int)=g at*;rw[hx,Int.mul_tdiv_cancel_left _ h0]
 have bx:x.natAbs<=n.natAbs:=by
  have:n.natAbs=gy n d*x.natAbs:=by rw[hx,Int.natAbs_mul,<- hx];simp
  rw[this];exact Nat.le_mul_of_pos_left _ hp
 have yb:0<=y/\y<=d:=by
  rw[<- ey];exact⟨Int.ediv_nonneg (by omega) (by omega),Int.ediv_le_self _ (by omega)⟩
 refine⟨gy n d,x,y,rfl,by omega,by omega,et,ey,by omega,by omega,by omega,by omega,?_⟩;unfold low Gw;rw[if_neg (by omega),ex,ey]
theorem a0q {n d:Int}(h:d<0):low n d=low (-n) (-d):=by unfold low;rw[if_pos h,if_neg (by omega)]
theorem Nr (aB aS aZ:Addr)(n d:Int)(w:ag)(n1: -9223372036854775807<=n)(n2:n<=9223372036854775807)(d1:0<d)(d2:d<=9223372036854775807)(h:E3 aB aS aZ w):
  au 216 #[aa n,aa d] w fun e w'=>e=.returned (.tuple #[.agg #[aa (low n d).n,aa (low n d).d],er aB aS aZ (low n d).c])/\Below w.heap.size w w':=by
 obtain⟨g,p,q,hg,g1,g2,hp,hq,p1,p2,q1,q2,hl⟩:=F7 n d n1 n2 d1 d2;have HL:=aj hl;have HG:=aj hg;clear hl hg;have hcB:=(h.alloc (.cells #[aa 0,aa 0] 123)).b;have hlt:=aF h.b;simp only at hlt;go_enter func216,ntmps216;go_wp2_with(first|(go_at_call 230;refine(lU _ _ (by omega) (by omega)).mono ?_;rintro e w' ⟨rfl,rfl⟩)|(go_at_call 229;refine(Am _ _ g _ (by omega) (by omega) HG.out).mono ?_;rintro e w' ⟨rfl,k,rfl⟩))
 go_quiet (fail)
 rw[hq];clear hp hq;by_cases b1:gu p=true
 ·go_wp2_with(go_at_call 215;refine(dQ _ _ (by omega) (by omega)).mono ?_;rintro e w' ⟨rfl,rfl⟩);go_region;go_wp2;refine bodyPost_ret (v:=.tuple #[.agg #[aa 0,aa 0],.iface 401 (.pointer (some aB))]) (by simp[results,results216,go_sem]) rfl ⟨by rw[HL.out,if_pos (Or.inl b1)];rfl,?_⟩;exact((below_drewN ((aG _ _).alloc ai _) _).setCell (by simp) _).setCell (by simp) _
 ·have b1:gu p=false:=by simpa using b1
  by_cases b2:gu q=true
  ·go_wp2_with(go_at_call 215;refine(dQ _ _ (by omega) (by omega)).mono ?_;rintro e w' ⟨rfl,rfl⟩);go_region;go_wp2;refine bodyPost_ret (v:=.tuple #[.agg #[aa 0,aa 0],.iface 401 (.pointer (some aB))]) (by simp[results,results216,go_sem]) rfl ⟨by rw[HL.out,if_pos (Or.inr b2)];rfl,?_⟩;exact((below_drewN ((aG _ _).alloc ai _) _).setCell (by simp) _).setCell (by simp) _
  ·have b2:gu q=false:=by simpa using b2
   go_wp2_with(go_at_call 215;refine(dQ _ _ (by omega) (by omega)).mono ?_;rintro e w' ⟨rfl,rfl⟩);refine bodyPost_ret (v:=.tuple #[.agg #[aa p,aa q],.nilIface]) (by simp[results,results216,go_sem]) rfl ⟨by rw[HL.out,if_neg (by simp[b1,b2])];rfl,?_⟩;exact((below_drewN ((aG _ _).alloc ai _) _).setCell (by simp) _).setCell (by simp) _
theorem Ns (aB aS aZ:Addr)(n d:Int)(w:ag)(n1: -9223372036854775807<=n)(n2:n<=9223372036854775807)(d1:d<0)(d2: -9223372036854775807<=d)(h:E3 aB aS aZ w):
  au 216 #[aa n,aa d] w fun e w'=>e=.returned (.tuple #[.agg #[aa (low n d).n,aa (low n d).d],er aB aS aZ (low n d).c])/\Below w.heap.size w w':=by
 obtain⟨g,p,q,hg,g1,g2,hp,hq,p1,p2,q1,q2,hl⟩:=F7 (-n) (-d) (by omega) (by omega) (by omega) (by omega);have HL:Hid (low n d=_):=(a0q d1).trans hl;have HG:=aj hg;have hq':wrap64 (-(d.tdiv g))=q:=by
  rw[<- Int.neg_tdiv,Int.tdiv_eq_ediv_of_nonneg (by omega),hq];exact IntWalk.wrap64_in q ⟨by omega,q2⟩
 clear hl hg hq;have hcB:=(h.alloc (.cells #[aa 0,aa 0] 123)).b;have hlt:=aF h.b;simp only at hlt;go_enter func216,ntmps216;go_wp2_with(first|(go_at_call 230;refine(lU _ _ (by omega) (by omega)).mono ?_;rintro e w' ⟨rfl,rfl⟩)|(go_at_call 229;refine(Am _ _ g _ (by omega) (by omega) (by first|exact HG.out|simpa using HG.out)).mono ?_;rintro e w' ⟨rfl,k,rfl⟩))
 go_quiet (fail)
 try rw[hq']
 clear hp hq';by_cases b1:gu p=true
 ·go_wp2_with(go_at_call 215;refine(dQ _ _ (by omega) (by omega)).mono ?_;rintro e w' ⟨rfl,rfl⟩);go_region;go_wp2;refine bodyPost_ret (v:=.tuple #[.agg #[aa 0,aa 0],.iface 401 (.pointer (some aB))]) (by simp[results,results216,go_sem]) rfl ⟨by rw[HL.out,if_pos (Or.inl b1)];rfl,?_⟩;exact((below_drewN ((aG _ _).alloc ai _) _).setCell (by simp) _).setCell (by simp) _
 ·have b1:gu p=false:=by simpa using b1
  by_cases b2:gu q=true
  ·go_wp2_with(go_at_call 215;refine(dQ _ _ (by omega) (by omega)).mono ?_;rintro e w' ⟨rfl,rfl⟩);go_region;go_wp2;refine bodyPost_ret (v:=.tuple #[.agg #[aa 0,aa 0],.iface 401 (.pointer (some aB))]) (by simp[results,results216,go_sem]) rfl ⟨by rw[HL.out,if_pos (Or.inr b2)];rfl,?_⟩;exact((below_drewN ((aG _ _).alloc ai _) _).setCell (by simp) _).setCell (by simp) _
  ·have b2:gu q=false:=by simpa using b2
   go_wp2_with(go_at_call 215;refine(dQ _ _ (by omega) (by omega)).mono ?_;rintro e w' ⟨rfl,rfl⟩);refine bodyPost_ret (v:=.tuple #[.agg #[aa p,aa q],.nilIface]) (by simp[results,results216,go_sem]) rfl ⟨by rw[HL.out,if_neg (by simp[b1,b2])];rfl,?_⟩;exact((below_drewN ((aG _ _).alloc ai _) _).setCell (by simp) _).setCell (by simp) _
theorem uM (aB aS aZ:Addr)(n d:Int)(w:ag)(n1: -9223372036854775807<=n)(n2:n<=9223372036854775807)(d0:d≠0)(d1: -9223372036854775807<=d)(d2:d<=9223372036854775807)(h:E3 aB aS aZ w):
  au 216 #[aa n,aa d] w fun e w'=>e=.returned (.tuple #[.agg #[aa (low n d).n,aa (low n d).d],er aB aS aZ (low n d).c])/\Below w.heap.size w w':=by
 rcases Int.lt_or_gt_of_ne d0 with h0|h0
 ·exact Ns aB aS aZ n d w n1 n2 h0 d1 h
 ·exact Nr aB aS aZ n d w n1 n2 h0 d2 h
theorem nO {a b:Int}(ha:a.natAbs<=1073741824)(hb:b.natAbs<=1073741824): -1152921504606846976<=a*b/\a*b<=1152921504606846976:=by
 have:(a*b).natAbs<=1073741824*1073741824:=by rw[Int.natAbs_mul];exact Nat.mul_le_mul ha hb
 omega
theorem i64_in {n:Int}(h1: -9223372036854775808<=n)(h2:n<=9223372036854775807):IntKind.i64.wrap n=n:=by
 simp[IntKind.wrap,IntKind.bits,IntKind.signed];omega
theorem a0r (aB aS aZ:Addr)(an ad bn bd:Int)(w:ag)(ha:dH an ad=0)(hb:dH bn bd=0)(h:E3 aB aS aZ w):
  au 275 #[.agg #[aa an,aa ad],.agg #[aa bn,aa bd]] w fun e w'=>e=.returned (.tuple #[.agg #[aa (add an ad bn bd).n,aa (add an ad bn bd).d],er aB aS aZ (add an ad bn bd).c])/\Below w.heap.size w w':=by
 have hadd:add an ad bn bd=low (an*bd+bn*ad) (ad*bd):=by unfold add;rw[if_neg (by simp[ha]),if_neg (by simp[hb])]
 rw[hadd];obtain⟨a1,_,a3,a4⟩:=eO.1 ha;obtain⟨b1,_,b3,b4⟩:=eO.1 hb;have m1:=nO a3 b4;have m2:=nO b3 a4;have m3:=nO a4 b4;have m0:ad*bd≠0:=Int.mul_ne_zero (by omega) (by omega);obtain⟨m11,m12⟩:=m1;obtain⟨m21,m22⟩:=m2;obtain⟨m31,m32⟩:=m3;have hw1:IntKind.i64.wrap (an*bd+bn*ad)=an*bd+bn*ad:=i64_in (by omega) (by omega);have hn1:¬w.heap.size+1+1=w.heap.size:=by omega
 clear ha hb hadd a1 a3 a4 b1 b3 b4;go_enter func275,ntmps275;go_wp2
 go_region_held3 (fun w'=>w'.cell? ⟨w.heap.size,0,none⟩=some (aa an)/\w'.cell? ⟨w.heap.size,1,none⟩=some (aa ad)/\w'.cell? ⟨w.heap.size+1,0,none⟩=some (aa bn)/\w'.cell? ⟨w.heap.size+1,1,none⟩=some (aa bd)) (go_keep) (first|(go_at_call 282;refine(F6 _ _ _ (by omega) (by omega)).mono ?_;rintro e w' ⟨rfl,rfl⟩)|(go_at_call 216;refine(uM aB aS aZ _ _ _ (by omega) (by omega) m0 (by omega) (by omega) ?_).mono ?_;exact(((h.alloc _).alloc _).alloc _).drewN 1;rintro e w' ⟨rfl,hb⟩;obtain⟨hx,hy⟩:=a3B hb;have hx0:=hx w.heap.size 0 (by simp;omega);have hx1:=hx w.heap.size 1 (by simp;omega)))
 go_wp2;have hx2:=hx (w.heap.size+1+1) 0 (by simp);have hx3:=hx (w.heap.size+1+1) 1 (by simp);refine bodyPost_ret (v:=.tuple #[.agg #[aa (low (an*bd+bn*ad) (ad*bd)).n,aa (low (an*bd+bn*ad) (ad*bd)).d],er aB aS aZ (low (an*bd+bn*ad) (ad*bd)).c]) (by simp[results,results275,go_sem,hx2,hx3]) rfl ⟨rfl,?_⟩;exact((((((aG _ _).alloc ai _).alloc (by simp) _).alloc (by simp;omega) _).drew.trans (hb.mono (by simp;omega))).setCell (by simp;omega) _).setCell (by simp;omega) _
def Ee (an ad bn bd:Int):Nat:=if dH an ad≠0 then dH an ad else dH bn bd
theorem Ao (an ad bn bd:Int):(dH an ad=0/\dH bn bd=0)\/(Ee an ad bn bd=2\/Ee an ad bn bd=3):=by
 unfold Ee;rcases fC an ad with h|h|h<;>rcases fC bn bd with h'|h'|h'<;>simp[h,h']
theorem a0s {an ad bn bd:Int}(h:¬(dH an ad=0/\dH bn bd=0)):add an ad bn bd=⟨0,0,Ee an ad bn bd⟩:=by
 unfold add Ee;by_cases h1:dH an ad=0<;>by_cases h2:dH bn bd=0<;>simp_all
theorem a0t {an ad bn bd:Int}(h:¬(dH an ad=0/\dH bn bd=0)):mul an ad bn bd=⟨0,0,Ee an ad bn bd⟩:=by
 unfold mul Ee;by_cases h1:dH an ad=0<;>by_cases h2:dH bn bd=0<;>simp_all
theorem vU (aB aS aZ:Addr)(n d m f:Int)(w:ag)(hn:jH n)(hd:jH d)(hm:jH m)(hf:jH f)(h:E3 aB aS aZ w)(h1:dH n d=0)(h2:dH m f=0):
  au 274 #[.agg #[aa n,aa d],.agg #[aa m,aa f]] w fun e w'=>e=.returned .nilIface/\Below w.heap.size w w':=by
 have:=tY aB aS aZ n d m f w hn hd hm hf h;rw[if_neg (by simp[h1]),h2] at this;exact this
theorem vV (aB aS aZ:Addr)(n d m f:Int)(a:Addr)(w:ag)(hn:jH n)(hd:jH d)(hm:jH m)(hf:jH f)(h:E3 aB aS aZ w)(ha:er aB aS aZ (Ee n d m f)=.iface 401 (.pointer (some a))):
  au 274 #[.agg #[aa n,aa d],.agg #[aa m,aa f]] w fun e w'=>e=.returned (.iface 401 (.pointer (some a)))/\Below w.heap.size w w':=by
 rw[<- ha];exact tY aB aS aZ n d m f w hn hd hm hf h
theorem gV {n d:Int}(h:dH n d=0):jH n/\jH d:=by
 obtain⟨_,_,h3,h4⟩:=eO.1 h;exact⟨⟨by omega,by omega⟩,⟨by omega,by omega⟩⟩
theorem Ap (aB aS aZ:Addr)(an ad bn bd:Int)(w:ag)(i1:jH an)(i2:jH ad)(i3:jH bn)(i4:jH bd)(h:E3 aB aS aZ w):
  au 237 #[.agg #[aa an,aa ad],.agg #[aa bn,aa bd]] w fun e w'=>e=.returned (.tuple #[.agg #[aa (add an ad bn bd).n,aa (add an ad bn bd).d],er aB aS aZ (add an ad bn bd).c])/\Below w.heap.size w w':=by
 rcases Ao an ad bn bd with⟨ha,hb⟩|hbad
 ·have HA:=aj ha;have HB:=aj hb;clear ha hb;go_enter func237,ntmps237;go_wp2_with(first|(go_at_call 274;refine(vU aB aS aZ _ _ _ _ _ i1 i2 i3 i4 ?_ HA.out HB.out).mono ?_;exact((h.alloc _).alloc _).alloc _;rintro e w1 ⟨rfl,hb⟩;obtain⟨⟨p1,p2,p3,p4⟩,⟨q1,q2,q3,q4⟩,⟨r1,r2,r3,r4⟩,hw,hz⟩:=three hb;clear hb)|(go_at_call 275;refine(a0r aB aS aZ _ _ _ _ _ HA.out HB.out ?_).mono ?_;exact h.below hw ai;rintro e w2 ⟨rfl,hb2⟩;obtain⟨s1,s2,s3,s4⟩:=Two.below ⟨r1,r2,r3,r4⟩ hb2 ai));refine bodyPost_ret (v:=.tuple #[.agg #[aa (add an ad bn bd).n,aa (add an ad bn bd).d],er aB aS aZ (add an ad bn bd).c]) (by simp[results,results237,go_sem,s1,s2]) rfl ⟨rfl,?_⟩;exact((hw.trans (hb2.mono (by omega))).setCell (by simp;omega) _).setCell (by simp;omega) _
 ·obtain⟨a,ha⟩:=gM aB aS aZ hbad;have hr:=a0s (an:=an) (ad:=ad) (bn:=bn) (bd:=bd) (by rintro⟨h1,h2⟩;unfold Ee at hbad;simp[h1,h2] at hbad);rw[hr,ha];have HA:=aj ha;clear ha hr hbad;go_enter func237,ntmps237;go_wp2_with(go_at_call 274;refine(vV aB aS aZ _ _ _ _ a _ i1 i2 i3 i4 ?_ HA.out).mono ?_;exact((h.alloc _).alloc _).alloc _;rintro e w1 ⟨rfl,hb⟩;obtain⟨⟨p1,p2,p3,p4⟩,⟨q1,q2,q3,q4⟩,⟨r1,r2,r3,r4⟩,hw,hz⟩:=three hb;clear hb);refine bodyPost_ret (v:=.tuple #[.agg #[aa 0,aa 0],.iface 401 (.pointer (some a))]) (by simp[results,results237,go_sem,r1,r2]) rfl ⟨rfl,?_⟩;exact(hw.setCell (by simp;omega) _).setCell (by simp;omega) _
theorem a0u (aB aS aZ:Addr)(an ad bn bd:Int)(w:ag)(i1:jH an)(i2:jH ad)(i3:jH bn)(i4:jH bd)(h:E3 aB aS aZ w):
  au 248 #[.agg #[aa an,aa ad],.agg #[aa bn,aa bd]] w fun e w'=>e=.returned (.tuple #[.agg #[aa (mul an ad bn bd).n,aa (mul an ad bn bd).d],er aB aS aZ (mul an ad bn bd).c])/\Below w.heap.size w w':=by
 rcases Ao an ad bn bd with⟨ha,hb⟩|hbad
 ·have HA:=aj ha;have HB:=aj hb;have hmul:mul an ad bn bd=low (an*bn) (ad*bd):=by unfold mul;rw[if_neg (by simp[ha]),if_neg (by simp[hb])]
  rw[hmul];obtain⟨a1,_,a3,a4⟩:=eO.1 ha;obtain⟨b1,_,b3,b4⟩:=eO.1 hb;obtain⟨m11,m12⟩:=nO a3 b3;obtain⟨m31,m32⟩:=nO a4 b4;have m0:ad*bd≠0:=Int.mul_ne_zero (by omega) (by omega);have hn1:¬w.heap.size+1+1=w.heap.size:=by omega
  clear ha hb hmul a1 a3 a4 b1 b3 b4;go_enter func248,ntmps248;go_wp2_with(go_at_call 274;refine(vU aB aS aZ _ _ _ _ _ i1 i2 i3 i4 ?_ HA.out HB.out).mono ?_;exact((h.alloc _).alloc _).alloc _;rintro e w1 ⟨rfl,hb⟩;obtain⟨⟨p1,p2,p3,p4⟩,⟨q1,q2,q3,q4⟩,⟨r1,r2,r3,r4⟩,hw,hz⟩:=three hb;clear hb)
  go_region_held3 (fun w'=>w'.cell? ⟨w.heap.size,0,none⟩=some (aa an)/\w'.cell? ⟨w.heap.size,1,none⟩=some (aa ad)/\w'.cell? ⟨w.heap.size+1,0,none⟩=some (aa bn)/\w'.cell? ⟨w.heap.size+1,1,none⟩=some (aa bd)) (go_keep) (first|(go_at_call 282;refine(F6 _ _ _ (by omega) (by omega)).mono ?_;rintro e w' ⟨rfl,rfl⟩)|(go_at_call 216;refine(uM aB aS aZ _ _ _ (by omega) (by omega) m0 (by omega) (by omega) ?_).mono ?_;exact(h.below hw ai).drewN 1;rintro e w2 ⟨rfl,hb2⟩;obtain⟨s1,s2,s3,s4⟩:=Two.below (Two.drewN ⟨r1,r2,r3,r4⟩ 1) hb2 ai;obtain⟨u1,u2,u3,u4⟩:=Two.below (Two.drewN ⟨p1,p2,p3,p4⟩ 1) hb2 ai;obtain⟨v1,v2,v3,v4⟩:=Two.below (Two.drewN ⟨q1,q2,q3,q4⟩ 1) hb2 ai))
  go_wp2;refine bodyPost_ret (v:=.tuple #[.agg #[aa (low (an*bn) (ad*bd)).n,aa (low (an*bn) (ad*bd)).d],er aB aS aZ (low (an*bn) (ad*bd)).c]) (by simp[results,results248,go_sem,s1,s2]) rfl ⟨rfl,?_⟩;exact((hw.drew.trans (hb2.mono (by simp;omega))).setCell (by simp;omega) _).setCell (by simp;omega) _
 ·obtain⟨a,ha⟩:=gM aB aS aZ hbad;have hr:=a0t (an:=an) (ad:=ad) (bn:=bn) (bd:=bd) (by rintro⟨h1,h2⟩;unfold Ee at hbad;simp[h1,h2] at hbad);rw[hr,ha];have HA:=aj ha;clear ha hr hbad;go_enter func248,ntmps248;go_wp2_with(go_at_call 274;refine(vV aB aS aZ _ _ _ _ a _ i1 i2 i3 i4 ?_ HA.out).mono ?_;exact((h.alloc _).alloc _).alloc _;rintro e w1 ⟨rfl,hb⟩;obtain⟨⟨p1,p2,p3,p4⟩,⟨q1,q2,q3,q4⟩,⟨r1,r2,r3,r4⟩,hw,hz⟩:=three hb;clear hb);refine bodyPost_ret (v:=.tuple #[.agg #[aa 0,aa 0],.iface 401 (.pointer (some a))]) (by simp[results,results248,go_sem,r1,r2]) rfl ⟨rfl,?_⟩;exact(hw.setCell (by simp;omega) _).setCell (by simp;omega) _
theorem two {w w1:ag}{x0 x1 y0 y1:ah}{t t':TypeId}(hb:Below ((w.alloc (.cells #[x0,x1] t)).alloc (.cells #[y0,y1] t')).heap.size ((w.alloc (.cells #[x0,x1] t)).alloc (.cells #[y0,y1] t')) w1):
  Two w1 w.heap.size x0 x1/\Two w1 (w.heap.size+1) y0 y1/\Below w.heap.size w w1/\w.heap.size+1+1<=w1.heap.size:=by
 refine⟨((Two.new w x0 x1 t).alloc _).below hb ai,?_,?_,by have:=hb.size;simpa using this⟩
 ·have:=(Two.new (w.alloc (.cells #[x0,x1] t)) y0 y1 t').below hb ai;simpa using this
 ·exact(((aG _ _).alloc ai _).alloc (by simp) _).trans (hb.mono (by simp;omega))
end
end Go.Proofs.YtecneflbncjhpaaGreatDoor

/- Parts of the proof. -/
import Derived.Test.YtjfiehbcamfdfaaGreatDoorProg
import Derived.WalkSpells
import Derived.WalkLawsBesides
import Derived.Deep.RegionHeld3
import Derived.Deep.CutRange
import Derived.RangeFuncNested
import Derived.RangeFuncBound
import Derived.Shelf.RegionOpen
import Derived.OwnWalkIn
import Derived.LoopNIn
import Derived.LoopIn
import Derived.Deep.AppendLies
import Derived.Deep.RegionLaw
import Derived.Test.YtjfiehbcamfdfaaGreatDoorQzb
namespace Go.Proofs.YtjfiehbcamfdfaaGreatDoor
open Go.Proofs.Tryz
set_option maxHeartbeats 8000000
section
def gM (n:Int):Bool:=decide (1073741824<n.natAbs)
theorem gT {n:Int}:gM n=true↔1073741824<n.natAbs:=by simp[gM]
def fC (n d:Int):Nat:=Nat.gcd n.natAbs d.natAbs
def dz (n d:Int):Nat:=if d<1\/fC n d≠1 then 3 else if gM n=true\/gM d=true then 2 else 0
theorem dJ {n d:Int}:dz n d=0↔1<=d/\fC n d=1/\n.natAbs<=1073741824/\d.natAbs<=1073741824:=by
 unfold dz;constructor
 ·intro h;split at h
  ·cases h
  ·rename_i h1;split at h
   ·cases h
   ·rename_i h2;rw[gT,gT] at h2;refine⟨by omega,?_,by omega,by omega⟩;by_cases hg:fC n d=1
    ·exact hg
    ·exact absurd (Or.inr hg) h1
 ·rintro⟨h1,h2,h3,h4⟩;rw[if_neg (by rintro(h|h);omega;exact h h2),if_neg (by rw[gT,gT];omega)]
theorem eu (n d:Int):dz n d=0\/dz n d=2\/dz n d=3:=by
 unfold dz;split
 ·simp
 ·split<;>simp
structure R3 where
 n:Int
 d:Int
 c:Nat
def Fb (n d:Int):R3:=
 if gM (n/fC n d)=true\/gM (d/fC n d)=true then⟨0,0,2⟩ else⟨n/fC n d,d/fC n d,0⟩
def low (n d:Int):R3:=if d<0 then Fb (-n) (-d) else Fb n d
theorem zz {n d:Int}(h:d≠0):0<fC n d:=Nat.gcd_pos_of_pos_right _ (by omega)
theorem iI (n d:Int):(fC n d:Int)∣ n:=Int.ofNat_dvd_left.2 (Nat.gcd_dvd_left _ _)
theorem eX (n d:Int):(fC n d:Int)∣ d:=Int.ofNat_dvd_left.2 (Nat.gcd_dvd_right _ _)
theorem Uq {n d:Int}(h:d≠0):fC (n/fC n d) (d/fC n d)=1:=by
 have hp:=zz (n:=n) h;have e1:(n/(fC n d:Int)).natAbs=n.natAbs/fC n d:=by
  rw[Int.natAbs_ediv_of_dvd (iI n d)];simp
 have e2:(d/(fC n d:Int)).natAbs=d.natAbs/fC n d:=by
  rw[Int.natAbs_ediv_of_dvd (eX n d)];simp
 show Nat.gcd _ _=1;rw[e1,e2];exact Nat.coprime_div_gcd_div_gcd hp
theorem Ur {n d:Int}:n/fC n d*d=n*(d/fC n d):=by
 obtain⟨x,hx⟩:=iI n d;obtain⟨y,hy⟩:=eX n d;rcases Nat.eq_zero_or_pos (fC n d) with h0|hp
 ·rw[h0] at hx hy;simp at hx hy;simp[hx,hy]
 ·have hp':(fC n d:Int)≠0:=by omega
  have e1:n/(fC n d:Int)=x:=by rw[Int.ediv_eq_iff_eq_mul_right hp' (iI n d)];exact hx
  have e2:d/(fC n d:Int)=y:=by rw[Int.ediv_eq_iff_eq_mul_right hp' (eX n d)];exact hy
  rw[e1,e2];generalize (fC n d:Int)=g at*;rw[hx,hy,<- Int.mul_assoc,Int.mul_comm x g]
theorem unique {n d n' d':Int}(h1:1<=d)(g1:fC n d=1)(h2:1<=d')(g2:fC n' d'=1)(e:n*d'=n'*d):n=n'/\d=d':=by
 have a1:d.natAbs∣ d'.natAbs:=by
  have:d.natAbs∣ n.natAbs*d'.natAbs:=by rw[<- Int.natAbs_mul,e,Int.natAbs_mul];exact Nat.dvd_mul_left _ _
  exact Nat.Coprime.dvd_of_dvd_mul_left (show Nat.gcd _ _=1 by rw[Nat.gcd_comm];exact g1) this
 have a2:d'.natAbs∣ d.natAbs:=by
  have:d'.natAbs∣ n'.natAbs*d.natAbs:=by rw[<- Int.natAbs_mul,<- e,Int.natAbs_mul];exact Nat.dvd_mul_left _ _
  exact Nat.Coprime.dvd_of_dvd_mul_left (show Nat.gcd _ _=1 by rw[Nat.gcd_comm];exact g2) this
 have a3:d=d':=by have:=Nat.dvd_antisymm a1 a2;omega
 subst a3;exact⟨Int.eq_of_mul_eq_mul_right (by omega) e,rfl⟩
theorem zB {n d:Int}:Fb n d=⟨0,0,2⟩\/(Fb n d).c=0:=by
 unfold Fb;split<;>simp
theorem DR {n d p q:Int}(hd:0<d):Fb n d=⟨p,q,0⟩↔dz p q=0/\p*d=n*q:=by
 have hp:=zz (n:=n) (d:=d) (by omega);have hq:1<=d/(fC n d:Int):=by
  obtain⟨y,hy⟩:=eX n d;have e2:d/(fC n d:Int)=y:=by rw[Int.ediv_eq_iff_eq_mul_right (by omega) (eX n d)];exact hy
  rw[e2];rcases Int.lt_or_le 0 y with h|h
  ·omega
  ·have:=Int.mul_nonpos_of_nonneg_of_nonpos (show(0:Int)<=fC n d by omega) h;omega
 have hg:=Uq (n:=n) (d:=d) (by omega);have hm:=Ur (n:=n) (d:=d);constructor
 ·intro h;unfold Fb at h;split at h
  ·cases h
  ·rename_i hb;rw[gT,gT] at hb;simp only[R3.mk.injEq] at h;obtain⟨rfl,rfl,_⟩:=h;exact⟨dJ.2 ⟨hq,hg,by omega,by omega⟩,hm⟩
 ·rintro⟨hc,he⟩;obtain⟨c1,c2,c3,c4⟩:=dJ.1 hc;have hx:n/(fC n d:Int)*q=p*(d/(fC n d:Int)):=by
   apply Int.eq_of_mul_eq_mul_right (show d≠0 by omega);grind
  obtain⟨e1,e2⟩:=unique hq hg c1 c2 hx;unfold Fb;rw[e1,e2,if_neg (by rw[gT,gT];omega)]
theorem wC {n d:Int}:low n d=⟨0,0,2⟩\/(low n d).c=0:=by
 unfold low;split
 ·exact zB
 ·exact zB
theorem H7 {n d p q:Int}(hd:d≠0):low n d=⟨p,q,0⟩↔dz p q=0/\p*d=n*q:=by
 unfold low;split
 ·rw[DR (by omega)];constructor
  ·rintro⟨a,b⟩;exact⟨a,by grind⟩
  ·rintro⟨a,b⟩;exact⟨a,by grind⟩
 ·exact DR (by omega)
def add (an ad bn bd:Int):R3:=if dz an ad≠0 then⟨0,0,dz an ad⟩ else if dz bn bd≠0 then⟨0,0,dz bn bd⟩ else low (an*bd+bn*ad) (ad*bd)
def mul (an ad bn bd:Int):R3:=if dz an ad≠0 then⟨0,0,dz an ad⟩ else if dz bn bd≠0 then⟨0,0,dz bn bd⟩ else low (an*bn) (ad*bd)
theorem zC {an ad bn bd p q:Int}:add an ad bn bd=⟨p,q,0⟩↔dz an ad=0/\dz bn bd=0/\dz p q=0/\p*(ad*bd)=(an*bd+bn*ad)*q:=by
 unfold add;by_cases h1:dz an ad=0
 ·by_cases h2:dz bn bd=0
  ·have hd:ad*bd≠0:=by
    have:=(dJ.1 h1).1;have:=(dJ.1 h2).1;exact Int.mul_ne_zero (by omega) (by omega)
   simp[h1,h2,H7 hd]
  ·simp[h1,h2]
 ·simp[h1]
theorem Us {an ad bn bd p q:Int}:mul an ad bn bd=⟨p,q,0⟩↔dz an ad=0/\dz bn bd=0/\dz p q=0/\p*(ad*bd)=(an*bn)*q:=by
 unfold mul;by_cases h1:dz an ad=0
 ·by_cases h2:dz bn bd=0
  ·have hd:ad*bd≠0:=by
    have:=(dJ.1 h1).1;have:=(dJ.1 h2).1;exact Int.mul_ne_zero (by omega) (by omega)
   simp[h1,h2,H7 hd]
  ·simp[h1,h2]
 ·simp[h1]
def CO (n:Int):Int:=if n<0 then -1 else if 0<n then 1 else 0
end
section
open Go.RowKit
theorem jZ {k:IntKind}{a b:Int}(h:a=b):Ending.returned (.int k a)=.returned (.int k b):=by rw[h]
theorem uJ {a b:Bool}(h:a=b):Ending.returned (.bool a)=.returned (.bool b):=by rw[h]
structure E3 (aB aS aZ:Addr)(w:ag):Prop where
 b:w.cell? (ak 0 0)=some (.iface 390 (.pointer (some aB)))
 s:w.cell? (ak 3 0)=some (.iface 390 (.pointer (some aS)))
 q:aZ=aZ
theorem aC {w:ag}{a:Addr}{v:ah}(h:w.cell? a=some v):a.block<w.heap.size:=by
 rcases Nat.lt_or_ge a.block w.heap.size with h'|h'
 ·exact h'
 ·simp[World.cell?,Array.getElem?_eq_none h'] at h
theorem E3.below {aB aS aZ:Addr}{w w':ag}{B:Nat}(h:E3 aB aS aZ w)(hb:Below B w w')(hB:w.heap.size<=B):E3 aB aS aZ w':=
 ⟨(hb.cell (Nat.lt_of_lt_of_le (aC h.b) hB)).trans h.b,(hb.cell (Nat.lt_of_lt_of_le (aC h.s) hB)).trans h.s,rfl⟩
theorem E3.drewN {aB aS aZ:Addr}{w:ag}(h:E3 aB aS aZ w)(k:Nat):E3 aB aS aZ (w.drewN k):=⟨h.b,h.s,rfl⟩
theorem E3.alloc {aB aS aZ:Addr}{w:ag}(h:E3 aB aS aZ w)(o:Obj):E3 aB aS aZ (w.alloc o):=
 h.below ((Below.refl w.heap.size w).alloc ai o) ai
def er (aB aS aZ:Addr):Nat->ah
 |2=>.iface 390 (.pointer (some aB))
 |3=>.iface 390 (.pointer (some aS))
 |11=>.iface 390 (.pointer (some aZ))
 |_=>.nilIface
theorem kN (n:Int)(w:ag)(h1: -9223372036854775808<=n)(h2:n<=9223372036854775807):
  ax 225 #[aa n] w fun e w'=>e=.returned (.int .u64 n.natAbs)/\w'=w:=by
 by_cases h:n<0
 ·go_enter func225,ntmps225;go_wp2;go_ret;exact⟨jZ (by rw[IntKind.wrap_u64,IntKind.wrap_u64];omega),rfl⟩
 ·go_enter func225,ntmps225;go_wp2;go_ret;exact⟨jZ (by omega),rfl⟩
theorem jO (a b:Nat)(w:ag)(ha:a<=18446744073709551615)(hb:b<=18446744073709551615):
  ax 224 #[.int .u64 a,.int .u64 b] w fun e w'=>e=.returned (.int .u64 (Nat.gcd a b:Nat))/\∃k,w'=w.drewN k:=by
 go_enter func224,ntmps224;go_wp2
 go_loopw [0,1] (fun x y wr=>∃p q:Nat,p<=18446744073709551615/\q<=18446744073709551615/\x=.int .u64 p/\y=.int .u64 q/\Nat.gcd p q=Nat.gcd a b/\∃k,wr=w.drewN k) (fun _ y _=>(intOf y).toNat)
 case atStart=>exact⟨a,b,ha,hb,rfl,rfl,rfl,0,rfl⟩
 case round=>
  obtain⟨p,q,hp,hq,rfl,rfl,hg,k,rfl⟩:=hrel;have HG:=aj hg;clear hg;by_cases h0:q=0
  ·subst h0;go_wp2;go_ret;exact⟨jZ (by have:=HG.out;simp at this;omega),k,rfl⟩
  ·have hlt:=Nat.mod_lt p (Nat.pos_of_ne_zero h0);have HL:=aj hlt;clear hlt;go_wp2
   go_quiet (fail)
   go_wp2
   go_roundw
   case rel=>exact⟨q,p % q,hq,by have:=HL.out;omega,rfl,by go_num,by rw[<- HG.out,Nat.gcd_comm p q,Nat.gcd_comm q (p % q)];exact(Nat.gcd_rec _ _).symm,_,World.drewN_drewN _ _ _⟩
   case measure=>have:=HL.out;simp[intOf];omega
theorem dV (n:Int)(w:ag)(h1: -9223372036854775808<=n)(h2:n<=9223372036854775807):
  ax 226 #[aa n] w fun e w'=>e=.returned (.bool (gM n))/\w'=w:=by
 go_enter func226,ntmps226;go_wp2_with(go_at_call 225;refine(kN _ _ h1 h2).mono ?_;rintro e w' ⟨rfl,rfl⟩);go_ret;exact⟨uJ (by unfold gM;rw[decide_eq_decide];omega),rfl⟩
theorem DT (a b:Int)(w:ag)(h1: -9223372036854775808<=a*b)(h2:a*b<=9223372036854775807):
  ax 271 #[aa a,aa b] w fun e w'=>e=.returned (aa (a*b))/\w'=w:=by
 go_enter func271,ntmps271;go_wp2;go_ret;exact⟨rfl,rfl⟩
theorem wD (aB aS aZ:Addr)(n d:Int)(w:ag)(n1: -9223372036854775808<=n)(n2:n<=9223372036854775807)(d1: -9223372036854775808<=d)(d2:d<=9223372036854775807)(h:E3 aB aS aZ w):
  ax 183 #[aa n,aa d] w fun e w'=>e=.returned (er aB aS aZ (dz n d))/\∃k,w'=w.drewN k:=by
 obtain⟨hB,hS,_⟩:=h;by_cases hd:d<1
 ·have hc:dz n d=3:=by unfold dz;rw[if_pos (Or.inl hd)]
  rw[hc];go_enter func183,ntmps183;go_wp2;go_ret;exact⟨rfl,0,rfl⟩
 by_cases hg:fC n d=1
 ·have hgi:((Nat.gcd n.natAbs d.natAbs:Nat):Int)=1:=by unfold fC at hg;omega
  by_cases b1:gM n=true
  ·have hc:dz n d=2:=by unfold dz;rw[if_neg (by rintro(h|h);exact hd h;exact h hg),if_pos (Or.inl b1)]
   rw[hc];clear hc hg;go_enter func183,ntmps183;go_wp2_with(first|(go_at_call 225;refine(kN _ _ (by assumption) (by assumption)).mono ?_;rintro e w' ⟨rfl,rfl⟩)|(go_at_call 224;refine(jO _ _ _ (by omega) (by omega)).mono ?_;rintro e w' ⟨rfl,k,rfl⟩)|(go_at_call 226;refine(dV _ _ (by assumption) (by assumption)).mono ?_;rintro e w' ⟨rfl,rfl⟩));go_ret;exact⟨rfl,_,rfl⟩
  ·have b1:gM n=false:=by simpa using b1
   by_cases b2:gM d=true
   ·have hc:dz n d=2:=by unfold dz;rw[if_neg (by rintro(h|h);exact hd h;exact h hg),if_pos (Or.inr b2)]
    rw[hc];clear hc hg;go_enter func183,ntmps183;go_wp2_with(first|(go_at_call 225;refine(kN _ _ (by assumption) (by assumption)).mono ?_;rintro e w' ⟨rfl,rfl⟩)|(go_at_call 224;refine(jO _ _ _ (by omega) (by omega)).mono ?_;rintro e w' ⟨rfl,k,rfl⟩)|(go_at_call 226;refine(dV _ _ (by assumption) (by assumption)).mono ?_;rintro e w' ⟨rfl,rfl⟩));go_ret;exact⟨rfl,_,rfl⟩
   ·have b2:gM d=false:=by simpa using b2
    have hc:dz n d=0:=by unfold dz;rw[if_neg (by rintro(h|h);exact hd h;exact h hg),if_neg (by simp[b1,b2])]
    rw[hc];clear hc hg;go_enter func183,ntmps183;go_wp2_with(first|(go_at_call 225;refine(kN _ _ (by assumption) (by assumption)).mono ?_;rintro e w' ⟨rfl,rfl⟩)|(go_at_call 224;refine(jO _ _ _ (by omega) (by omega)).mono ?_;rintro e w' ⟨rfl,k,rfl⟩)|(go_at_call 226;refine(dV _ _ (by assumption) (by assumption)).mono ?_;rintro e w' ⟨rfl,rfl⟩));go_ret;exact⟨rfl,_,rfl⟩
 ·have hc:dz n d=3:=by unfold dz;rw[if_pos (Or.inr hg)]
  have hgi:((((Nat.gcd n.natAbs d.natAbs:Nat):Int)) !=1)=true:=by unfold fC at hg;simp;omega
  rw[hc];clear hc hg;go_enter func183,ntmps183;go_wp2_with(first|(go_at_call 225;refine(kN _ _ (by assumption) (by assumption)).mono ?_;rintro e w' ⟨rfl,rfl⟩)|(go_at_call 224;refine(jO _ _ _ (by omega) (by omega)).mono ?_;rintro e w' ⟨rfl,k,rfl⟩)|(go_at_call 226;refine(dV _ _ (by assumption) (by assumption)).mono ?_;rintro e w' ⟨rfl,rfl⟩));go_ret;exact⟨rfl,_,rfl⟩
theorem a1v {W w1:ag}(hb:Below W.heap.size W w1):(∀b o,b<W.heap.size->w1.cell? (ak b o)=W.cell? (ak b o))/\(∀b o,b<W.heap.size->w1.frozen? ⟨b,o,none⟩=W.frozen? ⟨b,o,none⟩):=
 ⟨fun b o h=>hb.cell (p:=⟨b,o,none⟩) h,fun b o h=>hb.frozen (p:=⟨b,o,none⟩) h⟩
def lI (n:Int):Prop:= -9223372036854775808<=n/\n<=9223372036854775807
theorem iq (aB aS aZ:Addr)(n d:Int)(w:ag)(hn:lI n)(hd:lI d)(h:E3 aB aS aZ w):
  ax 132 #[.agg #[aa n,aa d]] w fun e w'=>e=.returned (er aB aS aZ (dz n d))/\Below w.heap.size w w':=by
 obtain⟨n1,n2⟩:=hn;obtain⟨d1,d2⟩:=hd;go_enter func132,ntmps132;go_wp2_with(go_at_call 183;refine(wD aB aS aZ _ _ _ n1 n2 d1 d2 ?_).mono ?_;exact h.alloc _;rintro e w' ⟨rfl,k,rfl⟩);go_ret;exact⟨rfl,below_drewN ((Below.refl _ _).alloc ai _) _⟩
theorem fG (aB aS aZ:Addr){c:Nat}(h:c=2\/c=3):∃a,er aB aS aZ c=.iface 390 (.pointer (some a)):=by
 rcases h with rfl|rfl
 ·exact⟨aB,rfl⟩
 ·exact⟨aS,rfl⟩
theorem pO (aB aS aZ:Addr):er aB aS aZ 0=.nilIface:=rfl
theorem rT (aB aS aZ:Addr)(n d m f:Int)(w:ag)(hn:lI n)(hd:lI d)(hm:lI m)(hf:lI f)(h:E3 aB aS aZ w):
  ax 262 #[.agg #[aa n,aa d],.agg #[aa m,aa f]] w fun e w'=>e=.returned (er aB aS aZ (if dz n d≠0 then dz n d else dz m f))/\Below w.heap.size w w':=by
 by_cases hc:dz n d=0
 ·rw[if_neg (by simp[hc])];have HC:=aj hc;clear hc;go_enter func262,ntmps262;go_wp2_with(first|(go_at_call 132;refine(iq aB aS aZ _ _ _ (by assumption) (by assumption) ?_).mono ?_;exact(h.alloc _).alloc _;rintro e w1 ⟨he,hb⟩;rw[HC.out,pO] at he;subst he;obtain⟨hx,hy⟩:=a1v hb)|(go_at_call 132;refine(iq aB aS aZ _ _ _ (by assumption) (by assumption) ?_).mono ?_;exact((h.alloc _).alloc _).below hb ai;rintro e w2 ⟨rfl,hb2⟩));go_ret;exact⟨rfl,(((Below.refl _ _).alloc ai _).alloc (by simp) _).trans ((hb.mono (by simp;omega)).trans (hb2.mono (by have:=hb.size;simp at this;omega)))⟩
 ·rw[if_pos hc];obtain⟨a,ha⟩:=fG aB aS aZ (show dz n d=2\/dz n d=3 by rcases eu n d with h|h|h<;>simp_all);have HC:=aj ha;rw[ha];clear hc ha;go_enter func262,ntmps262;go_wp2_with(go_at_call 132;refine(iq aB aS aZ _ _ _ (by assumption) (by assumption) ?_).mono ?_;exact(h.alloc _).alloc _;rintro e w1 ⟨he,hb⟩;rw[HC.out] at he;subst he);go_ret;exact⟨rfl,(((Below.refl _ _).alloc ai _).alloc (by simp) _).trans (hb.mono (by simp;omega))⟩
structure Two (w:ag)(b:Nat)(x y:ah):Prop where
 c0:w.cell? (ak b 0)=some x
 c1:w.cell? (ak b 1)=some y
 f0:w.frozen? ⟨b,0,none⟩=false
 f1:w.frozen? ⟨b,1,none⟩=false
theorem Two.below {w w':ag}{b B:Nat}{x y:ah}(h:Two w b x y)(hb:Below B w w')(hB:w.heap.size<=B):Two w' b x y:=by
 have hl:b<B:=Nat.lt_of_lt_of_le (aC h.c0) hB;exact⟨(hb.cell (p:=⟨b,0,none⟩) hl).trans h.c0,(hb.cell (p:=⟨b,1,none⟩) hl).trans h.c1,(hb.frozen (p:=⟨b,0,none⟩) hl).trans h.f0,(hb.frozen (p:=⟨b,1,none⟩) hl).trans h.f1⟩
theorem Two.new (w:ag)(x y:ah)(t:TypeId):Two (w.alloc (.cells #[x,y] t)) w.heap.size x y:=⟨by simp,by simp,by simp,by simp⟩
theorem Two.alloc {w:ag}{b:Nat}{x y:ah}(h:Two w b x y)(o:Obj):Two (w.alloc o) b x y:=h.below ((Below.refl w.heap.size w).alloc ai o) ai
theorem Two.drewN {w:ag}{b:Nat}{x y:ah}(h:Two w b x y)(k:Nat):Two (w.drewN k) b x y:=⟨h.c0,h.c1,h.f0,h.f1⟩
theorem three {w w1:ag}{x0 x1 y0 y1 z0 z1:ah}{t t' t'':TypeId}(hb:Below (((w.alloc (.cells #[x0,x1] t)).alloc (.cells #[y0,y1] t')).alloc (.cells #[z0,z1] t'')).heap.size (((w.alloc (.cells #[x0,x1] t)).alloc (.cells #[y0,y1] t')).alloc (.cells #[z0,z1] t'')) w1):
  Two w1 w.heap.size x0 x1/\Two w1 (w.heap.size+1) y0 y1/\Two w1 (w.heap.size+1+1) z0 z1/\Below w.heap.size w w1/\w.heap.size+1+1+1<=w1.heap.size:=by
 refine⟨(((Two.new w x0 x1 t).alloc _).alloc _).below hb ai,?_,?_,?_,by have:=hb.size;simpa using this⟩
 ·have:=((Two.new (w.alloc (.cells #[x0,x1] t)) y0 y1 t').alloc (.cells #[z0,z1] t'')).below hb ai;simpa using this
 ·have:=(Two.new ((w.alloc (.cells #[x0,x1] t)).alloc (.cells #[y0,y1] t')) z0 z1 t'').below hb ai;simpa using this
 ·exact((((Below.refl _ _).alloc ai _).alloc (by simp) _).alloc (by simp;omega) _).trans (hb.mono (by simp;omega))
theorem zD (a b g:Nat)(w:ag)(ha:a<=18446744073709551615)(hb:b<=18446744073709551615)(hg:Nat.gcd a b=g):
  ax 224 #[.int .u64 a,.int .u64 b] w fun e w'=>e=.returned (.int .u64 g)/\∃k,w'=w.drewN k:=by
 subst hg;exact jO a b w ha hb
theorem DU (n d:Int)(n1: -9223372036854775807<=n)(n2:n<=9223372036854775807)(d1:0<d)(d2:d<=9223372036854775807):
  ∃(g:Nat) (p q:Int),Nat.gcd n.natAbs d.natAbs=g/\1<=(g:Int)/\(g:Int)<=9223372036854775807/\n.tdiv g=p/\d/g=q/\
   -9223372036854775807<=p/\p<=9223372036854775807/\0<=q/\q<=9223372036854775807/\low n d=(if gM p=true\/gM q=true then⟨0,0,2⟩ else⟨p,q,0⟩):=by
 have hp:=zz (n:=n) (d:=d) (by omega);have hle:fC n d<=d.natAbs:=Nat.gcd_le_right _ (by omega);obtain⟨x,hx⟩:=iI n d;obtain⟨y,hy⟩:=eX n d;have h0:(fC n d:Int)≠0:=by omega
 have ex:n/(fC n d:Int)=x:=by rw[Int.ediv_eq_iff_eq_mul_right h0 (iI n d)];exact hx
 have ey:d/(fC n d:Int)=y:=by rw[Int.ediv_eq_iff_eq_mul_right h0 (eX n d)];exact hy
 have et:n.tdiv (fC n d:Int)=x:=by
  generalize (fC n d:Int)=g at*;rw[hx,Int.mul_tdiv_cancel_left _ h0]
 have bx:x.natAbs<=n.natAbs:=by
  have:n.natAbs=fC n d*x.natAbs:=by rw[hx,Int.natAbs_mul,<- hx];simp
  rw[this];exact Nat.le_mul_of_pos_left _ hp
 have yb:0<=y/\y<=d:=by
  rw[<- ey];exact⟨Int.ediv_nonneg (by omega) (by omega),Int.ediv_le_self _ (by omega)⟩
 refine⟨fC n d,x,y,rfl,by omega,by omega,et,ey,by omega,by omega,by omega,by omega,?_⟩;unfold low Fb;rw[if_neg (by omega),ex,ey]
theorem YQ {n d:Int}(h:d<0):low n d=low (-n) (-d):=by unfold low;rw[if_pos h,if_neg (by omega)]
theorem LG (aB aS aZ:Addr)(n d:Int)(w:ag)(n1: -9223372036854775807<=n)(n2:n<=9223372036854775807)(d1:0<d)(d2:d<=9223372036854775807)(h:E3 aB aS aZ w):
  ax 270 #[aa n,aa d] w fun e w'=>e=.returned (.tuple #[.agg #[aa (low n d).n,aa (low n d).d],er aB aS aZ (low n d).c])/\Below w.heap.size w w':=by
 obtain⟨g,p,q,hg,g1,g2,hp,hq,p1,p2,q1,q2,hl⟩:=DU n d n1 n2 d1 d2;have HL:=aj hl;have HG:=aj hg;clear hl hg;have hcB:=(h.alloc (.cells #[aa 0,aa 0] 127)).b;have hlt:=aC h.b;simp only at hlt;go_enter func270,ntmps270;go_wp2_with(first|(go_at_call 225;refine(kN _ _ (by omega) (by omega)).mono ?_;rintro e w' ⟨rfl,rfl⟩)|(go_at_call 224;refine(zD _ _ g _ (by omega) (by omega) HG.out).mono ?_;rintro e w' ⟨rfl,k,rfl⟩))
 go_quiet (fail)
 rw[hq];clear hp hq;by_cases b1:gM p=true
 ·go_wp2_with(go_at_call 226;refine(dV _ _ (by omega) (by omega)).mono ?_;rintro e w' ⟨rfl,rfl⟩);go_region;go_wp2;refine bodyPost_ret (v:=.tuple #[.agg #[aa 0,aa 0],.iface 390 (.pointer (some aB))]) (by simp[results,results270,go_sem]) rfl ⟨by rw[HL.out,if_pos (Or.inl b1)];rfl,?_⟩;exact((below_drewN ((Below.refl _ _).alloc ai _) _).setCell (by simp) _).setCell (by simp) _
 ·have b1:gM p=false:=by simpa using b1
  by_cases b2:gM q=true
  ·go_wp2_with(go_at_call 226;refine(dV _ _ (by omega) (by omega)).mono ?_;rintro e w' ⟨rfl,rfl⟩);go_region;go_wp2;refine bodyPost_ret (v:=.tuple #[.agg #[aa 0,aa 0],.iface 390 (.pointer (some aB))]) (by simp[results,results270,go_sem]) rfl ⟨by rw[HL.out,if_pos (Or.inr b2)];rfl,?_⟩;exact((below_drewN ((Below.refl _ _).alloc ai _) _).setCell (by simp) _).setCell (by simp) _
  ·have b2:gM q=false:=by simpa using b2
   go_wp2_with(go_at_call 226;refine(dV _ _ (by omega) (by omega)).mono ?_;rintro e w' ⟨rfl,rfl⟩);refine bodyPost_ret (v:=.tuple #[.agg #[aa p,aa q],.nilIface]) (by simp[results,results270,go_sem]) rfl ⟨by rw[HL.out,if_neg (by simp[b1,b2])];rfl,?_⟩;exact((below_drewN ((Below.refl _ _).alloc ai _) _).setCell (by simp) _).setCell (by simp) _
theorem LH (aB aS aZ:Addr)(n d:Int)(w:ag)(n1: -9223372036854775807<=n)(n2:n<=9223372036854775807)(d1:d<0)(d2: -9223372036854775807<=d)(h:E3 aB aS aZ w):
  ax 270 #[aa n,aa d] w fun e w'=>e=.returned (.tuple #[.agg #[aa (low n d).n,aa (low n d).d],er aB aS aZ (low n d).c])/\Below w.heap.size w w':=by
 obtain⟨g,p,q,hg,g1,g2,hp,hq,p1,p2,q1,q2,hl⟩:=DU (-n) (-d) (by omega) (by omega) (by omega) (by omega);have HL:Hid (low n d=_):=(YQ d1).trans hl;have HG:=aj hg;have hq':wrap64 (-(d.tdiv g))=q:=by
  rw[<- Int.neg_tdiv,Int.tdiv_eq_ediv_of_nonneg (by omega),hq];exact IntWalk.wrap64_in q ⟨by omega,q2⟩
 clear hl hg hq;have hcB:=(h.alloc (.cells #[aa 0,aa 0] 127)).b;have hlt:=aC h.b;simp only at hlt;go_enter func270,ntmps270;go_wp2_with(first|(go_at_call 225;refine(kN _ _ (by omega) (by omega)).mono ?_;rintro e w' ⟨rfl,rfl⟩)|(go_at_call 224;refine(zD _ _ g _ (by omega) (by omega) (by first|exact HG.out|simpa using HG.out)).mono ?_;rintro e w' ⟨rfl,k,rfl⟩))
 go_quiet (fail)
 try rw[hq']
 clear hp hq';by_cases b1:gM p=true
 ·go_wp2_with(go_at_call 226;refine(dV _ _ (by omega) (by omega)).mono ?_;rintro e w' ⟨rfl,rfl⟩);go_region;go_wp2;refine bodyPost_ret (v:=.tuple #[.agg #[aa 0,aa 0],.iface 390 (.pointer (some aB))]) (by simp[results,results270,go_sem]) rfl ⟨by rw[HL.out,if_pos (Or.inl b1)];rfl,?_⟩;exact((below_drewN ((Below.refl _ _).alloc ai _) _).setCell (by simp) _).setCell (by simp) _
 ·have b1:gM p=false:=by simpa using b1
  by_cases b2:gM q=true
  ·go_wp2_with(go_at_call 226;refine(dV _ _ (by omega) (by omega)).mono ?_;rintro e w' ⟨rfl,rfl⟩);go_region;go_wp2;refine bodyPost_ret (v:=.tuple #[.agg #[aa 0,aa 0],.iface 390 (.pointer (some aB))]) (by simp[results,results270,go_sem]) rfl ⟨by rw[HL.out,if_pos (Or.inr b2)];rfl,?_⟩;exact((below_drewN ((Below.refl _ _).alloc ai _) _).setCell (by simp) _).setCell (by simp) _
  ·have b2:gM q=false:=by simpa using b2
   go_wp2_with(go_at_call 226;refine(dV _ _ (by omega) (by omega)).mono ?_;rintro e w' ⟨rfl,rfl⟩);refine bodyPost_ret (v:=.tuple #[.agg #[aa p,aa q],.nilIface]) (by simp[results,results270,go_sem]) rfl ⟨by rw[HL.out,if_neg (by simp[b1,b2])];rfl,?_⟩;exact((below_drewN ((Below.refl _ _).alloc ai _) _).setCell (by simp) _).setCell (by simp) _
theorem zF (aB aS aZ:Addr)(n d:Int)(w:ag)(n1: -9223372036854775807<=n)(n2:n<=9223372036854775807)(d0:d≠0)(d1: -9223372036854775807<=d)(d2:d<=9223372036854775807)(h:E3 aB aS aZ w):
  ax 270 #[aa n,aa d] w fun e w'=>e=.returned (.tuple #[.agg #[aa (low n d).n,aa (low n d).d],er aB aS aZ (low n d).c])/\Below w.heap.size w w':=by
 rcases Int.lt_or_gt_of_ne d0 with h0|h0
 ·exact LH aB aS aZ n d w n1 n2 h0 d1 h
 ·exact LG aB aS aZ n d w n1 n2 h0 d2 h
theorem mM {a b:Int}(ha:a.natAbs<=1073741824)(hb:b.natAbs<=1073741824): -1152921504606846976<=a*b/\a*b<=1152921504606846976:=by
 have:(a*b).natAbs<=1073741824*1073741824:=by rw[Int.natAbs_mul];exact Nat.mul_le_mul ha hb
 omega
theorem i64_in {n:Int}(h1: -9223372036854775808<=n)(h2:n<=9223372036854775807):IntKind.i64.wrap n=n:=by
 simp[IntKind.wrap,IntKind.bits,IntKind.signed];omega
theorem YR (aB aS aZ:Addr)(an ad bn bd:Int)(w:ag)(ha:dz an ad=0)(hb:dz bn bd=0)(h:E3 aB aS aZ w):
  ax 263 #[.agg #[aa an,aa ad],.agg #[aa bn,aa bd]] w fun e w'=>e=.returned (.tuple #[.agg #[aa (add an ad bn bd).n,aa (add an ad bn bd).d],er aB aS aZ (add an ad bn bd).c])/\Below w.heap.size w w':=by
 have hadd:add an ad bn bd=low (an*bd+bn*ad) (ad*bd):=by unfold add;rw[if_neg (by simp[ha]),if_neg (by simp[hb])]
 rw[hadd];obtain⟨a1,_,a3,a4⟩:=dJ.1 ha;obtain⟨b1,_,b3,b4⟩:=dJ.1 hb;have m1:=mM a3 b4;have m2:=mM b3 a4;have m3:=mM a4 b4;have m0:ad*bd≠0:=Int.mul_ne_zero (by omega) (by omega);obtain⟨m11,m12⟩:=m1;obtain⟨m21,m22⟩:=m2;obtain⟨m31,m32⟩:=m3;have hw1:IntKind.i64.wrap (an*bd+bn*ad)=an*bd+bn*ad:=i64_in (by omega) (by omega);have hn1:¬w.heap.size+1+1=w.heap.size:=by omega
 clear ha hb hadd a1 a3 a4 b1 b3 b4;go_enter func263,ntmps263;go_wp2
 go_region_held3 (fun w'=>w'.cell? ⟨w.heap.size,0,none⟩=some (aa an)/\w'.cell? ⟨w.heap.size,1,none⟩=some (aa ad)/\w'.cell? ⟨w.heap.size+1,0,none⟩=some (aa bn)/\w'.cell? ⟨w.heap.size+1,1,none⟩=some (aa bd)) (go_keep) (first|(go_at_call 271;refine(DT _ _ _ (by omega) (by omega)).mono ?_;rintro e w' ⟨rfl,rfl⟩)|(go_at_call 270;refine(zF aB aS aZ _ _ _ (by omega) (by omega) m0 (by omega) (by omega) ?_).mono ?_;exact(((h.alloc _).alloc _).alloc _).drewN 1;rintro e w' ⟨rfl,hb⟩;obtain⟨hx,hy⟩:=a1v hb;have hx0:=hx w.heap.size 0 (by simp;omega);have hx1:=hx w.heap.size 1 (by simp;omega)))
 go_wp2;have hx2:=hx (w.heap.size+1+1) 0 (by simp);have hx3:=hx (w.heap.size+1+1) 1 (by simp);refine bodyPost_ret (v:=.tuple #[.agg #[aa (low (an*bd+bn*ad) (ad*bd)).n,aa (low (an*bd+bn*ad) (ad*bd)).d],er aB aS aZ (low (an*bd+bn*ad) (ad*bd)).c]) (by simp[results,results263,go_sem,hx2,hx3]) rfl ⟨rfl,?_⟩;exact((((((Below.refl _ _).alloc ai _).alloc (by simp) _).alloc (by simp;omega) _).drew.trans (hb.mono (by simp;omega))).setCell (by simp;omega) _).setCell (by simp;omega) _
def CQ (an ad bn bd:Int):Nat:=if dz an ad≠0 then dz an ad else dz bn bd
theorem zG (an ad bn bd:Int):(dz an ad=0/\dz bn bd=0)\/(CQ an ad bn bd=2\/CQ an ad bn bd=3):=by
 unfold CQ;rcases eu an ad with h|h|h<;>rcases eu bn bd with h'|h'|h'<;>simp[h,h']
theorem YS {an ad bn bd:Int}(h:¬(dz an ad=0/\dz bn bd=0)):add an ad bn bd=⟨0,0,CQ an ad bn bd⟩:=by
 unfold add CQ;by_cases h1:dz an ad=0<;>by_cases h2:dz bn bd=0<;>simp_all
theorem YT {an ad bn bd:Int}(h:¬(dz an ad=0/\dz bn bd=0)):mul an ad bn bd=⟨0,0,CQ an ad bn bd⟩:=by
 unfold mul CQ;by_cases h1:dz an ad=0<;>by_cases h2:dz bn bd=0<;>simp_all
theorem uK (aB aS aZ:Addr)(n d m f:Int)(w:ag)(hn:lI n)(hd:lI d)(hm:lI m)(hf:lI f)(h:E3 aB aS aZ w)(h1:dz n d=0)(h2:dz m f=0):
  ax 262 #[.agg #[aa n,aa d],.agg #[aa m,aa f]] w fun e w'=>e=.returned .nilIface/\Below w.heap.size w w':=by
 have:=rT aB aS aZ n d m f w hn hd hm hf h;rw[if_neg (by simp[h1]),h2] at this;exact this
theorem uL (aB aS aZ:Addr)(n d m f:Int)(a:Addr)(w:ag)(hn:lI n)(hd:lI d)(hm:lI m)(hf:lI f)(h:E3 aB aS aZ w)(ha:er aB aS aZ (CQ n d m f)=.iface 390 (.pointer (some a))):
  ax 262 #[.agg #[aa n,aa d],.agg #[aa m,aa f]] w fun e w'=>e=.returned (.iface 390 (.pointer (some a)))/\Below w.heap.size w w':=by
 rw[<- ha];exact rT aB aS aZ n d m f w hn hd hm hf h
theorem fZ {n d:Int}(h:dz n d=0):lI n/\lI d:=by
 obtain⟨_,_,h3,h4⟩:=dJ.1 h;exact⟨⟨by omega,by omega⟩,⟨by omega,by omega⟩⟩
theorem zH (aB aS aZ:Addr)(an ad bn bd:Int)(w:ag)(i1:lI an)(i2:lI ad)(i3:lI bn)(i4:lI bd)(h:E3 aB aS aZ w):
  ax 233 #[.agg #[aa an,aa ad],.agg #[aa bn,aa bd]] w fun e w'=>e=.returned (.tuple #[.agg #[aa (add an ad bn bd).n,aa (add an ad bn bd).d],er aB aS aZ (add an ad bn bd).c])/\Below w.heap.size w w':=by
 rcases zG an ad bn bd with⟨ha,hb⟩|hbad
 ·have HA:=aj ha;have HB:=aj hb;clear ha hb;go_enter func233,ntmps233;go_wp2_with(first|(go_at_call 262;refine(uK aB aS aZ _ _ _ _ _ i1 i2 i3 i4 ?_ HA.out HB.out).mono ?_;exact((h.alloc _).alloc _).alloc _;rintro e w1 ⟨rfl,hb⟩;obtain⟨⟨p1,p2,p3,p4⟩,⟨q1,q2,q3,q4⟩,⟨r1,r2,r3,r4⟩,hw,hz⟩:=three hb;clear hb)|(go_at_call 263;refine(YR aB aS aZ _ _ _ _ _ HA.out HB.out ?_).mono ?_;exact h.below hw ai;rintro e w2 ⟨rfl,hb2⟩;obtain⟨s1,s2,s3,s4⟩:=Two.below ⟨r1,r2,r3,r4⟩ hb2 ai));refine bodyPost_ret (v:=.tuple #[.agg #[aa (add an ad bn bd).n,aa (add an ad bn bd).d],er aB aS aZ (add an ad bn bd).c]) (by simp[results,results233,go_sem,s1,s2]) rfl ⟨rfl,?_⟩;exact((hw.trans (hb2.mono (by omega))).setCell (by simp;omega) _).setCell (by simp;omega) _
 ·obtain⟨a,ha⟩:=fG aB aS aZ hbad;have hr:=YS (an:=an) (ad:=ad) (bn:=bn) (bd:=bd) (by rintro⟨h1,h2⟩;unfold CQ at hbad;simp[h1,h2] at hbad);rw[hr,ha];have HA:=aj ha;clear ha hr hbad;go_enter func233,ntmps233;go_wp2_with(go_at_call 262;refine(uL aB aS aZ _ _ _ _ a _ i1 i2 i3 i4 ?_ HA.out).mono ?_;exact((h.alloc _).alloc _).alloc _;rintro e w1 ⟨rfl,hb⟩;obtain⟨⟨p1,p2,p3,p4⟩,⟨q1,q2,q3,q4⟩,⟨r1,r2,r3,r4⟩,hw,hz⟩:=three hb;clear hb);refine bodyPost_ret (v:=.tuple #[.agg #[aa 0,aa 0],.iface 390 (.pointer (some a))]) (by simp[results,results233,go_sem,r1,r2]) rfl ⟨rfl,?_⟩;exact(hw.setCell (by simp;omega) _).setCell (by simp;omega) _
end
section
structure Qt where
 xn:Int
 xd:Int
 yn:Int
 yd:Int
deriving DecidableEq
def nX (a b:Qt):Int:=a.xn*b.xd-b.xn*a.xd
def nY (a b:Qt):Int:=a.yn*b.yd-b.yn*a.yd
def zI (f t p:Qt):Int:=nX t f*nY p f*(p.xd*f.xd)*(t.yd*f.yd)-nX p f*nY t f*(t.xd*f.xd)*(p.yd*f.yd)
def bN (p f t:Qt):Int:=
 if 0<=nY p f/\¬0<=nY p t/\0<zI f t p then 1 else if 0<=nY p t/\¬0<=nY p f/\zI f t p<0 then -1 else 0
theorem zJ (p f t:Qt):bN p f t=1\/bN p f t= -1\/bN p f t=0:=by
 unfold bN;split
 ·exact .inl rfl
 ·split
  ·exact .inr (.inl rfl)
  ·exact .inr (.inr rfl)
structure Pos (a:Qt):Prop where
 x:1<=a.xd
 y:1<=a.yd
def jP:List Qt->List (Qt×Qt)
 |[]=>[]
 |a::l=>(a::l).zip (l++[a])
theorem DV:∀l:List Qt,(jP l).length=l.length
 |[]=>rfl
 |a::l=>by unfold jP;simp
theorem QA {l:List Qt}{i:Nat}(hi:i<l.length):∃a b,l[i]? =some a/\l[(i+1) % l.length]? =some b/\(jP l)[i]? =some (a,b):=by
 cases l with
 |nil=>cases hi
 |cons a l=>
  have h1:i<(a::l).length:=hi;have h2:i<(l++[a]).length:=by simpa using hi
  refine⟨(a::l)[i],(l++[a])[i],List.getElem?_eq_getElem h1,?_,?_⟩
  ·by_cases hl:i+1=(a::l).length
   ·rw[hl,Nat.mod_self];have:i=l.length:=by simpa using hl
    subst this;simp
   ·have hlt:i+1<(a::l).length:=by omega
    have hlt':i<l.length:=by simpa using hlt
    rw[Nat.mod_eq_of_lt hlt,List.getElem?_cons_succ,List.getElem?_eq_getElem hlt',List.getElem_append_left hlt']
  ·unfold jP;rw[List.getElem?_zip_eq_some];exact⟨List.getElem?_eq_getElem h1,List.getElem?_eq_getElem h2⟩
def eH (T:Qt->Qt->Int)(l:List (Qt×Qt)):Int:=(l.map fun e=>T e.1 e.2).sum
theorem H9 (T:Qt->Qt->Int)(l m:List (Qt×Qt)):eH T (l++m)=eH T l+eH T m:=by unfold eH;rw[List.map_append,List.sum_append]
def path (T:Qt->Qt->Int):List Qt->Int
 |[]=>0
 |[_]=>0
 |a::b::l=>T a b+path T (b::l)
def rU (T:Qt->Qt->Int)(l:List Qt):Int:=eH T (jP l)
theorem Ol (T:Qt->Qt->Int)(h:∀a b,T a b=1\/T a b= -1\/T a b=0):∀l:List (Qt×Qt),(eH T l-eH (fun a b=>T a b*T a b) l) % 2=0/\eH T l<=eH (fun a b=>T a b*T a b) l/\ - eH T l<=eH (fun a b=>T a b*T a b) l/\0<=eH (fun a b=>T a b*T a b) l/\eH (fun a b=>T a b*T a b) l<=l.length/\ - (l.length:Int)<=eH T l/\eH T l<=l.length
 |[]=>by simp[eH]
 |e::l=>by
  obtain⟨h1,h2,h3,h4,h5,h6,h7⟩:=Ol T h l;have e1:eH T (e::l)=T e.1 e.2+eH T l:=by simp[eH]
  have e2:eH (fun a b=>T a b*T a b) (e::l)=T e.1 e.2*T e.1 e.2+eH (fun a b=>T a b*T a b) l:=by simp[eH]
  rw[e1,e2,List.length_cons];rcases h e.1 e.2 with h0|h0|h0<;>rw[h0]<;>omega
end
section
open Go.RowKit
abbrev lN (a:Qt):ah:=.agg #[aa a.xn,aa a.xd,aa a.yn,aa a.yd]
structure PI (a:Qt):Prop where
 xn:lI a.xn
 xd:lI a.xd
 yn:lI a.yn
 yd:lI a.yd
def QC (n d:Int):Bool:=decide (20<d\/1000*d<n\/n< -1000*d)
def eY (a:Qt):Nat:=if dz a.xn a.xd≠0 then dz a.xn a.xd else dz a.yn a.yd
def jw (a:Qt):Nat:=if QC a.xn a.xd=true\/QC a.yn a.yd=true then 2 else 0
theorem nJ (a:Qt):eY a=0\/eY a=2\/eY a=3:=by
 unfold eY;split
 ·exact eu _ _
 ·exact eu _ _
theorem kQ (a:Qt):jw a=0\/jw a=2:=by
 unfold jw;split<;>simp
theorem fE {a:Qt}:eY a=0↔dz a.xn a.xd=0/\dz a.yn a.yd=0:=by
 unfold eY;by_cases h:dz a.xn a.xd=0
 ·rw[if_neg (by simp[h])];simp[h]
 ·rw[if_pos h];simp[h]
theorem uM {a:Qt}(h:eY a=0):Pos a:=⟨(dJ.1 (fE.1 h).1).1,(dJ.1 (fE.1 h).2).1⟩
theorem aU (W:ag)(o:Obj):Below W.heap.size W (W.alloc o):=(Below.refl _ _).alloc ai o
theorem aA {W X Y:ag}(h1:Below W.heap.size W X)(h2:Below X.heap.size X Y):Below W.heap.size W Y:=h1.trans (h2.mono h1.size)
theorem xO (n d:Int)(w:ag)(hn:lI n)(h1:1<=d):
  ax 218 #[.agg #[aa n,aa d]] w fun e w'=>e=.returned (.bool (QC n d))/\Below w.heap.size w w':=by
 obtain⟨n1,n2⟩:=hn;by_cases h20:20<d
 ·have e:QC n d=true:=by unfold QC;simp;omega
  rw[e];go_enter func218,ntmps218;go_wp2;go_ret;exact⟨rfl,aU w _⟩
 ·by_cases ha:1000*d<n
  ·have e:QC n d=true:=by unfold QC;simp;omega
   rw[e];go_enter func218,ntmps218;go_wp2;go_ret;exact⟨rfl,aU w _⟩
  ·have e:QC n d=decide (n< -1000*d):=by unfold QC;simp only[decide_eq_decide];omega
   rw[e];go_enter func218,ntmps218;go_wp2;go_ret;exact⟨rfl,aU w _⟩
structure Four (w:ag)(b:Nat)(x y z u:ah):Prop where
 c0:w.cell? (ak b 0)=some x
 c1:w.cell? (ak b 1)=some y
 c2:w.cell? (ak b 2)=some z
 c3:w.cell? (ak b 3)=some u
theorem Four.below {w w':ag}{b B:Nat}{x y z u:ah}(h:Four w b x y z u)(hb:Below B w w')(hB:w.heap.size<=B):Four w' b x y z u:=by
 have hl:b<B:=Nat.lt_of_lt_of_le (aC h.c0) hB;exact⟨(hb.cell (p:=⟨b,0,none⟩) hl).trans h.c0,(hb.cell (p:=⟨b,1,none⟩) hl).trans h.c1,(hb.cell (p:=⟨b,2,none⟩) hl).trans h.c2,(hb.cell (p:=⟨b,3,none⟩) hl).trans h.c3⟩
theorem Four.new (w:ag)(x y z u:ah)(t:TypeId):Four (w.alloc (.cells #[x,y,z,u] t)) w.heap.size x y z u:=⟨by simp,by simp,by simp,by simp⟩
theorem lX (aB aS aZ:Addr)(a:Qt)(w:ag)(hI:PI a)(hp:Pos a)(h:E3 aB aS aZ w):
  ax 177 #[lN a] w fun e w'=>e=.returned (er aB aS aZ (jw a))/\Below w.heap.size w w':=by
 have hB:=h.b;have TX:=fun V=>xO a.xn a.xd V hI.xn hp.x;have TY:=fun V=>xO a.yn a.yd V hI.yn hp.y;have F0:=Four.new w (aa a.xn) (aa a.xd) (aa a.yn) (aa a.yd) 177;have hw:=aU w (.cells #[aa a.xn,aa a.xd,aa a.yn,aa a.yd] 177);cases h1:QC a.xn a.xd with
 |true=>
  have e:jw a=2:=by unfold jw;rw[if_pos (.inl h1)]
  rw[e];rw[h1] at TX;go_enter func177,ntmps177;go_wp2_with(go_at_call 218;refine(TX _).mono ?_;rintro e w1 ⟨rfl,b1⟩;have k1:=aA hw b1;have hE1:=(h.below k1 ai).b);go_ret;exact⟨rfl,k1⟩
 |false=>
  rw[h1] at TX;cases h2:QC a.yn a.yd with
  |true=>
   have e:jw a=2:=by unfold jw;rw[if_pos (.inr h2)]
   rw[e];rw[h2] at TY;go_enter func177,ntmps177;go_wp2_with(first|(go_at_call 218;refine(TY w1).mono ?_;rintro e w2 ⟨rfl,b2⟩;have k2:=aA k1 b2;have hE1:=(h.below k2 ai).b)|(go_at_call 218;refine(TX _).mono ?_;rintro e w1 ⟨rfl,b1⟩;have k1:=aA hw b1;obtain⟨x0,x1,x2,x3⟩:=F0.below b1 ai));go_ret;exact⟨rfl,k2⟩
  |false=>
   have e:jw a=0:=by unfold jw;rw[if_neg (by simp[h1,h2])]
   rw[e];rw[h2] at TY;go_enter func177,ntmps177;go_wp2_with(first|(go_at_call 218;refine(TY w1).mono ?_;rintro e w2 ⟨rfl,b2⟩;have k2:=aA k1 b2;have hE1:=(h.below k2 ai).b)|(go_at_call 218;refine(TX _).mono ?_;rintro e w1 ⟨rfl,b1⟩;have k1:=aA hw b1;obtain⟨x0,x1,x2,x3⟩:=F0.below b1 ai));go_ret;exact⟨rfl,k2⟩
theorem pQ (aB aS aZ:Addr)(a:Qt)(w:ag)(hI:PI a)(h:E3 aB aS aZ w):
  ax 176 #[lN a] w fun e w'=>e=.returned (er aB aS aZ (eY a))/\Below w.heap.size w w':=by
 have F0:=Four.new w (aa a.xn) (aa a.xd) (aa a.yn) (aa a.yd) 177;have hw:=aU w (.cells #[aa a.xn,aa a.xd,aa a.yn,aa a.yd] 177);have TX:=fun V (hv:Below w.heap.size w V)=>iq aB aS aZ a.xn a.xd V hI.xn hI.xd (h.below hv ai);have TY:=fun V (hv:Below w.heap.size w V)=>iq aB aS aZ a.yn a.yd V hI.yn hI.yd (h.below hv ai);by_cases hc:dz a.xn a.xd=0
 ·have e:eY a=dz a.yn a.yd:=by unfold eY;rw[if_neg (by simp[hc])]
  rw[e];rw[hc] at TX;clear hc;go_enter func176,ntmps176;go_wp2_with(first|(go_at_call 132;refine(TY w1 k1).mono ?_;rintro e w2 ⟨rfl,b2⟩;have k2:=aA k1 b2)|(go_at_call 132;refine(TX _ hw).mono ?_;rintro e w1 ⟨rfl,b1⟩;simp only[pO];have k1:=aA hw b1;obtain⟨x0,x1,x2,x3⟩:=F0.below b1 ai));go_ret;exact⟨rfl,k2⟩
 ·have e:eY a=dz a.xn a.xd:=by unfold eY;rw[if_pos hc]
  rw[e];obtain⟨ad,ha⟩:=fG aB aS aZ (show dz a.xn a.xd=2\/dz a.xn a.xd=3 by have:=eu a.xn a.xd;omega);rw[ha] at TX⊢;clear hc ha e;go_enter func176,ntmps176;go_wp2_with(go_at_call 132;refine(TX _ hw).mono ?_;rintro e w1 ⟨rfl,b1⟩;have k1:=aA hw b1);go_ret;exact⟨rfl,k1⟩
def gH (a:Qt):Nat:=if eY a≠0 then eY a else jw a
theorem LJ (a:Qt):gH a=0\/gH a=2\/gH a=3:=by
 unfold gH;split
 ·exact nJ a
 ·have:=kQ a;omega
theorem iw {a:Qt}:gH a=0↔eY a=0/\jw a=0:=by
 unfold gH;by_cases h:eY a=0
 ·rw[if_neg (by simp[h])];simp[h]
 ·rw[if_pos h];simp[h]
theorem zK (aB aS aZ:Addr)(a:Qt)(w:ag)(hI:PI a)(h:E3 aB aS aZ w):
  ax 219 #[lN a] w fun e w'=>e=.returned (er aB aS aZ (gH a))/\Below w.heap.size w w':=by
 have F0:=Four.new w (aa a.xn) (aa a.xd) (aa a.yn) (aa a.yd) 177;have hw:=aU w (.cells #[aa a.xn,aa a.xd,aa a.yn,aa a.yd] 177);have TX:=fun V (hv:Below w.heap.size w V)=>pQ aB aS aZ a V hI (h.below hv ai);by_cases hc:eY a=0
 ·have e:gH a=jw a:=by unfold gH;rw[if_neg (by simp[hc])]
  have TY:=fun V (hv:Below w.heap.size w V)=>lX aB aS aZ a V hI (uM hc) (h.below hv ai);rw[e];rw[hc] at TX;clear hc;go_enter func219,ntmps219;go_wp2_with(first|(go_at_call 177;refine(TY w1 k1).mono ?_;rintro e w2 ⟨rfl,b2⟩;have k2:=aA k1 b2)|(go_at_call 176;refine(TX _ hw).mono ?_;rintro e w1 ⟨rfl,b1⟩;simp only[pO];have k1:=aA hw b1;obtain⟨x0,x1,x2,x3⟩:=F0.below b1 ai));go_ret;exact⟨rfl,k2⟩
 ·have e:gH a=eY a:=by unfold gH;rw[if_pos hc]
  rw[e];obtain⟨ad,ha⟩:=fG aB aS aZ (show eY a=2\/eY a=3 by have:=nJ a;omega);rw[ha] at TX⊢;clear hc ha e;go_enter func219,ntmps219;go_wp2_with(go_at_call 176;refine(TX _ hw).mono ?_;rintro e w1 ⟨rfl,b1⟩;have k1:=aA hw b1);go_ret;exact⟨rfl,k1⟩
def sO (an ad bn bd:Int)(w:ag):ag:=((w.alloc (.cells #[aa an,aa ad] 127)).alloc (.cells #[aa bn,aa bd] 127)).alloc (.cells #[aa (an*bd-bn*ad),aa (ad*bd)] 352)
theorem Fe (an ad bn bd:Int)(w:ag):Below w.heap.size w (sO an ad bn bd w):=(((Below.refl _ _).alloc ai _).alloc (by simp) _).alloc (by simp;omega) _
theorem QD (an ad bn bd:Int)(w:ag)(h1:lI (an*bd))(h2:lI (bn*ad))(h3:lI (an*bd-bn*ad))(h4:lI (ad*bd)):
  ax 253 #[.agg #[aa an,aa ad],.agg #[aa bn,aa bd]] w fun e w'=>e=.returned (.agg #[aa (an*bd-bn*ad),aa (ad*bd)])/\w'=sO an ad bn bd w:=by
 obtain⟨a1,a2⟩:=h1;obtain⟨b1,b2⟩:=h2;obtain⟨c1,c2⟩:=h3;obtain⟨d1,d2⟩:=h4;go_enter func253,ntmps253;go_wp2;exact bodyPost_ret (v:=.agg #[aa (an*bd-bn*ad),aa (ad*bd)]) (by simp[results,results253,go_sem]) rfl ⟨rfl,rfl⟩
structure PB (a:Qt):Prop where
 x1:1<=a.xd
 x2:a.xd<=20
 x3: -20000<=a.xn
 x4:a.xn<=20000
 y1:1<=a.yd
 y2:a.yd<=20
 y3: -20000<=a.yn
 y4:a.yn<=20000
theorem PB.of {a:Qt}(h:gH a=0):PB a:=by
 obtain⟨h1,h2⟩:=iw.1 h;obtain⟨p1,p2⟩:=uM h1;unfold jw QC at h2;split at h2
 ·cases h2
 ·rename_i h3;simp at h3;exact⟨p1,by omega,by omega,by omega,p2,by omega,by omega,by omega⟩
theorem qQ {a b A B:Int}(h1: -A<=a)(h2:a<=A)(h3: -B<=b)(h4:b<=B): -(A*B)<=a*b/\a*b<=A*B:=by
 have hA:0<=A:=by omega
 have hB:0<=B:=by omega
 have h5:(a*b).natAbs<=(A*B).natAbs:=by
  rw[Int.natAbs_mul,Int.natAbs_mul];exact Nat.mul_le_mul (by omega) (by omega)
 have h6:0<=A*B:=Int.mul_nonneg hA hB;omega
theorem He {an ad bn bd:Int}(a1:1<=ad)(a2:ad<=20)(a3: -20000<=an)(a4:an<=20000)(b1:1<=bd)(b2:bd<=20)(b3: -20000<=bn)(b4:bn<=20000):
  (-400000<=an*bd/\an*bd<=400000)/\(-400000<=bn*ad/\bn*ad<=400000)/\(-800000<=an*bd-bn*ad/\an*bd-bn*ad<=800000)/\(1<=ad*bd/\ad*bd<=400):=by
 have m1:=qQ (a:=an) (b:=bd) (A:=20000) (B:=20) a3 a4 (by omega) b2;have m2:=qQ (a:=bn) (b:=ad) (A:=20000) (B:=20) b3 b4 (by omega) a2;have m3:=qQ (a:=ad) (b:=bd) (A:=20) (B:=20) (by omega) a2 (by omega) b2;have m4:0<ad*bd:=Int.mul_pos (by omega) (by omega);omega
theorem uN {an ad bn bd:Int}(w:ag)(a1:1<=ad)(a2:ad<=20)(a3: -20000<=an)(a4:an<=20000)(b1:1<=bd)(b2:bd<=20)(b3: -20000<=bn)(b4:bn<=20000):
  ax 253 #[.agg #[aa an,aa ad],.agg #[aa bn,aa bd]] w fun e w'=>e=.returned (.agg #[aa (an*bd-bn*ad),aa (ad*bd)])/\w'=sO an ad bn bd w:=by
 obtain⟨m1,m2,m3,m4⟩:=He a1 a2 a3 a4 b1 b2 b3 b4;exact QD an ad bn bd w ⟨by omega,by omega⟩ ⟨by omega,by omega⟩ ⟨by omega,by omega⟩ ⟨by omega,by omega⟩
theorem Ut {w y xd hd:Int}(h1: -800000<=w/\w<=800000)(h2: -800000<=y/\y<=800000)(h3:1<=xd/\xd<=400)(h4:1<=hd/\hd<=400):
  (-640000000000<=w*y/\w*y<=640000000000)/\(-256000000000000<=w*y*xd/\w*y*xd<=256000000000000)/\(-102400000000000000<=w*y*xd*hd/\w*y*xd*hd<=102400000000000000):=by
 have m1:=qQ (a:=w) (b:=y) (A:=800000) (B:=800000) h1.1 h1.2 h2.1 h2.2;have m2:=qQ (a:=w*y) (b:=xd) (A:=640000000000) (B:=400) (by omega) (by omega) (by omega) (by omega);have m3:=qQ (a:=w*y*xd) (b:=hd) (A:=256000000000000) (B:=400) (by omega) (by omega) (by omega) (by omega);omega
theorem Four.al {w:ag}{b:Nat}{x y z u:ah}(h:Four w b x y z u)(o:Obj):Four (w.alloc o) b x y z u:=h.below (aU w o) ai
theorem a1w (w:ag)(x0 x1 x2 x3 y0 y1 y2 y3 z0 z1 z2 z3:ah)(t t' t'':TypeId):
  Four (((w.alloc (.cells #[x0,x1,x2,x3] t)).alloc (.cells #[y0,y1,y2,y3] t')).alloc (.cells #[z0,z1,z2,z3] t'')) w.heap.size x0 x1 x2 x3/\
  Four (((w.alloc (.cells #[x0,x1,x2,x3] t)).alloc (.cells #[y0,y1,y2,y3] t')).alloc (.cells #[z0,z1,z2,z3] t'')) (w.heap.size+1) y0 y1 y2 y3/\
  Four (((w.alloc (.cells #[x0,x1,x2,x3] t)).alloc (.cells #[y0,y1,y2,y3] t')).alloc (.cells #[z0,z1,z2,z3] t'')) (w.heap.size+1+1) z0 z1 z2 z3:=by
 refine⟨((Four.new w x0 x1 x2 x3 t).al _).al _,?_,?_⟩
 ·have h:=(Four.new (w.alloc (.cells #[x0,x1,x2,x3] t)) y0 y1 y2 y3 t').al (.cells #[z0,z1,z2,z3] t'');simpa using h
 ·have h:=Four.new ((w.alloc (.cells #[x0,x1,x2,x3] t)).alloc (.cells #[y0,y1,y2,y3] t')) z0 z1 z2 z3 t'';simpa using h
structure Gap (U w:ag)(X Y:Nat)(x0 x1 y0 y1:ah):Prop where
 b:Below U.heap.size U w
 x:w.cell? (ak X 0)=some x0/\w.cell? (ak X 1)=some x1
 y:w.cell? (ak Y 0)=some y0/\w.cell? (ak Y 1)=some y1
theorem Uu (f t p:Qt)(w:ag)(hf:PB f)(ht:PB t)(hp:PB p):
  ax 254 #[lN f,lN t,lN p] w fun e w'=>e=.returned (aa (zI f t p))/\Below w.heap.size w w':=by
 have M1:=fun V=>uN (an:=t.xn) (ad:=t.xd) (bn:=f.xn) (bd:=f.xd) V ht.x1 ht.x2 ht.x3 ht.x4 hf.x1 hf.x2 hf.x3 hf.x4;have M2:=fun V=>uN (an:=t.yn) (ad:=t.yd) (bn:=f.yn) (bd:=f.yd) V ht.y1 ht.y2 ht.y3 ht.y4 hf.y1 hf.y2 hf.y3 hf.y4;have M3:=fun V=>uN (an:=p.xn) (ad:=p.xd) (bn:=f.xn) (bd:=f.xd) V hp.x1 hp.x2 hp.x3 hp.x4 hf.x1 hf.x2 hf.x3 hf.x4;have M4:=fun V=>uN (an:=p.yn) (ad:=p.yd) (bn:=f.yn) (bd:=f.yd) V hp.y1 hp.y2 hp.y3 hp.y4 hf.y1 hf.y2 hf.y3 hf.y4;obtain⟨S,hS⟩:∃S,zI f t p=S:=⟨_,rfl⟩;rw[hS];have HS:=aj hS;clear hS;go_enter func254,ntmps254;go_upto_region 1 with fail;obtain⟨U,hU⟩:∃U,((w.alloc (.cells #[aa f.xn,aa f.xd,aa f.yn,aa f.yd] 177)).alloc (.cells #[aa t.xn,aa t.xd,aa t.yn,aa t.yd] 177)).alloc (.cells #[aa p.xn,aa p.xd,aa p.yn,aa p.yd] 177)=U:=⟨_,rfl⟩;have hU3:w.heap.size+1+1<U.heap.size:=by rw[<- hU];simp
 have rV:Below w.heap.size w U:=by rw[<- hU];exact(((Below.refl _ _).alloc ai _).alloc (by simp) _).alloc (by simp;omega) _
 obtain⟨FA,FB,FC⟩:Four U (w.heap.size) (aa f.xn) (aa f.xd) (aa f.yn) (aa f.yd)/\Four U (w.heap.size+1) (aa t.xn) (aa t.xd) (aa t.yn) (aa t.yd)/\Four U (w.heap.size+1+1) (aa p.xn) (aa p.xd) (aa p.yn) (aa p.yd):=by rw[<- hU];exact a1w w _ _ _ _ _ _ _ _ _ _ _ _ _ _ _
 rw[hU];clear hU;have K12:∀V,Below U.heap.size U V->(fun w':ag=>w'.cell? ⟨w.heap.size,0,none⟩=some (aa f.xn)/\w'.cell? ⟨w.heap.size,1,none⟩=some (aa f.xd)/\w'.cell? ⟨w.heap.size,2,none⟩=some (aa f.yn)/\w'.cell? ⟨w.heap.size,3,none⟩=some (aa f.yd)/\w'.cell? ⟨w.heap.size+1,0,none⟩=some (aa t.xn)/\w'.cell? ⟨w.heap.size+1,1,none⟩=some (aa t.xd)/\w'.cell? ⟨w.heap.size+1,2,none⟩=some (aa t.yn)/\w'.cell? ⟨w.heap.size+1,3,none⟩=some (aa t.yd)/\w'.cell? ⟨w.heap.size+1+1,0,none⟩=some (aa p.xn)/\w'.cell? ⟨w.heap.size+1+1,1,none⟩=some (aa p.xd)/\w'.cell? ⟨w.heap.size+1+1,2,none⟩=some (aa p.yn)/\w'.cell? ⟨w.heap.size+1+1,3,none⟩=some (aa p.yd)) V:=fun V hV=>by
  obtain⟨a0,a1,a2,a3⟩:=FA.below hV ai;obtain⟨b0,b1,b2,b3⟩:=FB.below hV ai;obtain⟨c0,c1,c2,c3⟩:=FC.below hV ai;exact⟨a0,a1,a2,a3,b0,b1,b2,b3,c0,c1,c2,c3⟩
 obtain⟨s0,s1,s2,s3⟩:=FA;obtain⟨s4,s5,s6,s7⟩:=FB;obtain⟨s8,s9,s10,s11⟩:=FC
 go_cut [7,8] from 11 to 20 (fun p q wx=>∃X Y,p=ay X/\q=ay Y/\Gap U wx X Y (aa (nX t f)) (aa (t.xd*f.xd)) (aa (nY t f)) (aa (t.yd*f.yd)))
 case first=>
  go_region_held3 (fun w'=>w'.cell? ⟨w.heap.size,0,none⟩=some (aa f.xn)/\w'.cell? ⟨w.heap.size,1,none⟩=some (aa f.xd)/\w'.cell? ⟨w.heap.size,2,none⟩=some (aa f.yn)/\w'.cell? ⟨w.heap.size,3,none⟩=some (aa f.yd)/\w'.cell? ⟨w.heap.size+1,0,none⟩=some (aa t.xn)/\w'.cell? ⟨w.heap.size+1,1,none⟩=some (aa t.xd)/\w'.cell? ⟨w.heap.size+1,2,none⟩=some (aa t.yn)/\w'.cell? ⟨w.heap.size+1,3,none⟩=some (aa t.yd)/\w'.cell? ⟨w.heap.size+1+1,0,none⟩=some (aa p.xn)/\w'.cell? ⟨w.heap.size+1+1,1,none⟩=some (aa p.xd)/\w'.cell? ⟨w.heap.size+1+1,2,none⟩=some (aa p.yn)/\w'.cell? ⟨w.heap.size+1+1,3,none⟩=some (aa p.yd)) ((refine K12 _ ?_;repeat(first|exact Below.refl _ _|refine Below.drew ?_|refine Below.alloc ?_ (by first|omega|(simp;done)|(simp;omega)) _|refine Below.setCell ?_ (by first|omega|(simp;done)|(simp;omega)) _))) (first|(go_at_call_of 253 t.xn;refine(M1 _).mono ?_;rintro e w1 ⟨rfl,rfl⟩;unfold sO)|(go_at_call_of 253 t.yn;refine(M2 _).mono ?_;rintro e w2 ⟨rfl,rfl⟩;unfold sO))
  all_goals(go_wp2_with fail;go_meet;exact⟨_,_,rfl,rfl,⟨by repeat(first|exact Below.refl _ _|refine Below.drew ?_|refine Below.alloc ?_ (by first|omega|(simp;done)|(simp;omega)) _),⟨by simp[go_sem];rfl,by simp[go_sem]⟩,⟨by simp[go_sem];rfl,by simp[go_sem]⟩⟩⟩)
 case rest=>
  obtain⟨X,Y,rfl,rfl,xP,⟨x0,x1⟩,⟨y0,y1⟩⟩:=hcut;obtain⟨V,rfl⟩:∃V,V=wc:=⟨_,rfl⟩;have hVs:=xP.size;obtain⟨s0,s1,s2,s3,s4,s5,s6,s7,s8,s9,s10,s11⟩:=K12 V xP;go_upto_region 2 with fail
  go_cut [9,10] from 21 to 30 (fun p' q' wx=>∃X2 Y2,p'=ay X2/\q'=ay Y2/\Gap V wx X2 Y2 (aa (nX p f)) (aa (p.xd*f.xd)) (aa (nY p f)) (aa (p.yd*f.yd)))
  case first=>
   go_region_held3 (fun w'=>w'.cell? ⟨w.heap.size,0,none⟩=some (aa f.xn)/\w'.cell? ⟨w.heap.size,1,none⟩=some (aa f.xd)/\w'.cell? ⟨w.heap.size,2,none⟩=some (aa f.yn)/\w'.cell? ⟨w.heap.size,3,none⟩=some (aa f.yd)/\w'.cell? ⟨w.heap.size+1,0,none⟩=some (aa t.xn)/\w'.cell? ⟨w.heap.size+1,1,none⟩=some (aa t.xd)/\w'.cell? ⟨w.heap.size+1,2,none⟩=some (aa t.yn)/\w'.cell? ⟨w.heap.size+1,3,none⟩=some (aa t.yd)/\w'.cell? ⟨w.heap.size+1+1,0,none⟩=some (aa p.xn)/\w'.cell? ⟨w.heap.size+1+1,1,none⟩=some (aa p.xd)/\w'.cell? ⟨w.heap.size+1+1,2,none⟩=some (aa p.yn)/\w'.cell? ⟨w.heap.size+1+1,3,none⟩=some (aa p.yd)) ((refine K12 _ ?_;repeat(first|exact xP|refine Below.drew ?_|refine Below.alloc ?_ (by first|omega|(simp;done)|(simp;omega)) _|refine Below.setCell ?_ (by first|omega|(simp;done)|(simp;omega)) _))) (first|(go_at_call_of 253 p.xn;refine(M3 _).mono ?_;rintro e w1 ⟨rfl,rfl⟩;unfold sO)|(go_at_call_of 253 p.yn;refine(M4 _).mono ?_;rintro e w2 ⟨rfl,rfl⟩;unfold sO))
   all_goals(go_wp2_with fail;go_meet;exact⟨_,_,rfl,rfl,⟨by repeat(first|exact Below.refl _ _|refine Below.drew ?_|refine Below.alloc ?_ (by first|omega|(simp;done)|(simp;omega)) _),⟨by simp[go_sem];rfl,by simp[go_sem]⟩,⟨by simp[go_sem];rfl,by simp[go_sem]⟩⟩⟩)
  case rest=>
   obtain⟨X2,Y2,rfl,rfl,YU,⟨u0,u1⟩,⟨v0,v1⟩⟩:=hcut;obtain⟨Z,rfl⟩:∃Z,Z=wc:=⟨_,rfl⟩;have t0:=(YU.cell (aC x0)).trans x0;have t1:=(YU.cell (aC x1)).trans x1;have r0:=(YU.cell (aC y0)).trans y0;have r1:=(YU.cell (aC y1)).trans y1;have hbW:=rV.trans ((xP.trans (YU.mono hVs)).mono rV.size);obtain⟨-, -,B1,D1⟩:=He (an:=t.xn) (ad:=t.xd) (bn:=f.xn) (bd:=f.xd) ht.x1 ht.x2 ht.x3 ht.x4 hf.x1 hf.x2 hf.x3 hf.x4;obtain⟨-, -,B2,D2⟩:=He (an:=t.yn) (ad:=t.yd) (bn:=f.yn) (bd:=f.yd) ht.y1 ht.y2 ht.y3 ht.y4 hf.y1 hf.y2 hf.y3 hf.y4;obtain⟨-, -,B3,D3⟩:=He (an:=p.xn) (ad:=p.xd) (bn:=f.xn) (bd:=f.xd) hp.x1 hp.x2 hp.x3 hp.x4 hf.x1 hf.x2 hf.x3 hf.x4;obtain⟨-, -,B4,D4⟩:=He (an:=p.yn) (ad:=p.yd) (bn:=f.yn) (bd:=f.yd) hp.y1 hp.y2 hp.y3 hp.y4 hf.y1 hf.y2 hf.y3 hf.y4;have P1:=Ut B1 B4 D3 D2;have P2:=Ut B3 B2 D1 D4;have hS:=HS.out;unfold zI at hS;have e1:t.xn*f.xd-f.xn*t.xd=nX t f:=rfl;have e2:t.yn*f.yd-f.yn*t.yd=nY t f:=rfl;have e3:p.xn*f.xd-f.xn*p.xd=nX p f:=rfl;have e4:p.yn*f.yd-f.yn*p.yd=nY p f:=rfl;rw[e1,e4] at P1;rw[e3,e2] at P2;clear e1 e2 e3 e4 B1 B2 B3 B4 D1 D2 D3 D4 M1 M2 M3 M4 K12 s0 s1 s2 s3 s4 s5 s6 s7 s8 s9 s10 s11 x0 x1 y0 y1 hf ht hp;generalize nX t f=a1 at hS t0 t1 r0 r1 u0 u1 v0 v1 P1 P2;generalize nY t f=a2 at hS t0 t1 r0 r1 u0 u1 v0 v1 P1 P2;generalize nX p f=a3 at hS t0 t1 r0 r1 u0 u1 v0 v1 P1 P2;generalize nY p f=a4 at hS t0 t1 r0 r1 u0 u1 v0 v1 P1 P2;generalize t.xd*f.xd=d1 at hS t0 t1 r0 r1 u0 u1 v0 v1 P1 P2;generalize t.yd*f.yd=d2 at hS t0 t1 r0 r1 u0 u1 v0 v1 P1 P2;generalize p.xd*f.xd=d3 at hS t0 t1 r0 r1 u0 u1 v0 v1 P1 P2;generalize p.yd*f.yd=d4 at hS t0 t1 r0 r1 u0 u1 v0 v1 P1 P2;obtain⟨⟨p1,p2⟩,⟨p3,p4⟩,⟨p5,p6⟩⟩:=P1;obtain⟨⟨q1,q2⟩,⟨q3,q4⟩,⟨q5,q6⟩⟩:=P2;go_wp2;go_ret;exact⟨rfl,hbW⟩
end
section
open Go.RowKit
set_option maxRecDepth 20000
theorem Lm {W X Y:ag}(h1:Below W.heap.size W X)(h2:Below X.heap.size X Y):Below W.heap.size W Y:=h1.trans (h2.mono h1.size)
structure Tri (U:ag)(A B C:Nat)(a0 a1 a2 a3 b0 b1 b2 b3 c0 c1 c2 c3:ah):Prop where
 a:Four U A a0 a1 a2 a3
 b:Four U B b0 b1 b2 b3
 c:Four U C c0 c1 c2 c3
theorem Tri.below {U V:ag}{A B C n:Nat}{a0 a1 a2 a3 b0 b1 b2 b3 c0 c1 c2 c3:ah}(h:Tri U A B C a0 a1 a2 a3 b0 b1 b2 b3 c0 c1 c2 c3)(hb:Below n U V)(hn:U.heap.size<=n):Tri V A B C a0 a1 a2 a3 b0 b1 b2 b3 c0 c1 c2 c3:=⟨h.a.below hb hn,h.b.below hb hn,h.c.below hb hn⟩
theorem DX {an ad bn bd:Int}(w:ag)(a1:1<=ad)(a2:ad<=20)(a3: -20000<=an)(a4:an<=20000)(b1:1<=bd)(b2:bd<=20)(b3: -20000<=bn)(b4:bn<=20000):
  ax 253 #[.agg #[aa an,aa ad],.agg #[aa bn,aa bd]] w fun e w'=>e=.returned (.agg #[aa (an*bd-bn*ad),aa (ad*bd)])/\Below w.heap.size w w':=
 (uN w a1 a2 a3 a4 b1 b2 b3 b4).mono fun _ _ h=>⟨h.1,by rw[h.2];exact Fe _ _ _ _ _⟩
theorem a6l (x y:Int)(w:ag):(Instr.field 352 (.agg #[aa x,aa y]) 0).run prog w=.ok (aa x) w:=by kernel_rfl
theorem QE (f t p:Qt)(w:ag)(hf:PB f)(ht:PB t)(hp:PB p):
  ax 221 #[lN f,lN t,lN p] w fun e w'=>e=.returned (aa (bN p f t))/\Below w.heap.size w w':=by
 have M1:=fun V=>DX (an:=p.yn) (ad:=p.yd) (bn:=f.yn) (bd:=f.yd) V hp.y1 hp.y2 hp.y3 hp.y4 hf.y1 hf.y2 hf.y3 hf.y4;have M2:=fun V=>DX (an:=p.yn) (ad:=p.yd) (bn:=t.yn) (bd:=t.yd) V hp.y1 hp.y2 hp.y3 hp.y4 ht.y1 ht.y2 ht.y3 ht.y4;have SD:=fun V=>Uu f t p V hf ht hp;have e1:p.yn*f.yd-f.yn*p.yd=nY p f:=rfl;have e2:p.yn*t.yd-t.yn*p.yd=nY p t:=rfl;simp only[e1] at M1;simp only[e2] at M2;clear e1 e2;obtain⟨tv,htv⟩:∃v,bN p f t=v:=⟨_,rfl⟩;rw[htv];have HV:=aj htv;clear htv;clear hf ht hp;have hfd1:=fun V=>a6l (nY p f) (p.yd*f.yd) V;have ahG:=fun V=>a6l (nY p t) (p.yd*t.yd) V;go_enter func221,ntmps221;go_upto_region 1 with fail;obtain⟨U,hU⟩:∃U,((w.alloc (.cells #[aa f.xn,aa f.xd,aa f.yn,aa f.yd] 177)).alloc (.cells #[aa t.xn,aa t.xd,aa t.yn,aa t.yd] 177)).alloc (.cells #[aa p.xn,aa p.xd,aa p.yn,aa p.yd] 177)=U:=⟨_,rfl⟩;have rV:Below w.heap.size w U:=by rw[<- hU];exact(((Below.refl _ _).alloc ai _).alloc (by simp) _).alloc (by simp;omega) _
 obtain⟨FA,FB,FC⟩:Four U (w.heap.size) (aa f.xn) (aa f.xd) (aa f.yn) (aa f.yd)/\Four U (w.heap.size+1) (aa t.xn) (aa t.xd) (aa t.yn) (aa t.yd)/\Four U (w.heap.size+1+1) (aa p.xn) (aa p.xd) (aa p.yn) (aa p.yd):=by rw[<- hU];exact a1w w _ _ _ _ _ _ _ _ _ _ _ _ _ _ _
 rw[hU];clear hU;have T0:=Tri.mk FA FB FC;obtain⟨s0,s1,s2,s3⟩:=FA;obtain⟨s4,s5,s6,s7⟩:=FB;obtain⟨s8,s9,s10,s11⟩:=FC;by_cases h1:0<=nY p f
 ·by_cases h2:0<=nY p t
  ·have hv:Hid (bN p f t=0):=(by unfold bN;rw[if_neg (fun h=>h.2.1 h2),if_neg (fun h=>h.2.1 h1)]:bN p f t=_);go_wp2_with(first|(go_at_call_of 253 p.yn;refine(M2 w1).mono ?_;rintro e w2 ⟨rfl,b2⟩;have T2:=T1.below b2 ai;have yT:=T2;obtain⟨⟨y0,y1,y2,y3⟩,⟨y4,y5,y6,y7⟩,⟨y8,y9,Yv,y11⟩⟩:=yT)|(go_at_call_of 253 p.yn;refine(M1 _).mono ?_;rintro e w1 ⟨rfl,b1⟩;have T1:=T0.below b1 ai;have xT:=T1;obtain⟨⟨x0,x1,x2,x3⟩,⟨x4,x5,x6,x7⟩,⟨x8,x9,x10,x11⟩⟩:=xT));go_ret;exact⟨jZ (hv.out.symm.trans HV.out),Lm rV (Lm b1 b2)⟩
  ·have k2:(!decide (0<=nY p t))=true:=by simp;omega
   by_cases h3:0<zI f t p
   ·have hv:Hid (bN p f t=1):=(by unfold bN;rw[if_pos ⟨h1,h2,h3⟩]:bN p f t=_);go_wp2_with(first|(go_at_call 254;refine(SD w2).mono ?_;rintro e w3 ⟨rfl,b3⟩)|(go_at_call_of 253 p.yn;refine(M2 w1).mono ?_;rintro e w2 ⟨rfl,b2⟩;have T2:=T1.below b2 ai;have yT:=T2;obtain⟨⟨y0,y1,y2,y3⟩,⟨y4,y5,y6,y7⟩,⟨y8,y9,Yv,y11⟩⟩:=yT)|(go_at_call_of 253 p.yn;refine(M1 _).mono ?_;rintro e w1 ⟨rfl,b1⟩;have T1:=T0.below b1 ai;have xT:=T1;obtain⟨⟨x0,x1,x2,x3⟩,⟨x4,x5,x6,x7⟩,⟨x8,x9,x10,x11⟩⟩:=xT));go_ret;exact⟨jZ (hv.out.symm.trans HV.out),Lm rV (Lm (Lm b1 b2) b3)⟩
   ·have hv:Hid (bN p f t=0):=(by unfold bN;rw[if_neg (fun h=>h3 h.2.2),if_neg (fun h=>h2 h.1)]:bN p f t=_);go_wp2_with(first|(go_at_call 254;refine(SD w2).mono ?_;rintro e w3 ⟨rfl,b3⟩)|(go_at_call_of 253 p.yn;refine(M2 w1).mono ?_;rintro e w2 ⟨rfl,b2⟩;have T2:=T1.below b2 ai;have yT:=T2;obtain⟨⟨y0,y1,y2,y3⟩,⟨y4,y5,y6,y7⟩,⟨y8,y9,Yv,y11⟩⟩:=yT)|(go_at_call_of 253 p.yn;refine(M1 _).mono ?_;rintro e w1 ⟨rfl,b1⟩;have T1:=T0.below b1 ai;have xT:=T1;obtain⟨⟨x0,x1,x2,x3⟩,⟨x4,x5,x6,x7⟩,⟨x8,x9,x10,x11⟩⟩:=xT));go_ret;exact⟨jZ (hv.out.symm.trans HV.out),Lm rV (Lm (Lm b1 b2) b3)⟩
 ·by_cases h2:0<=nY p t
  ·by_cases h3:zI f t p<0
   ·have hv:Hid (bN p f t= -1):=(by unfold bN;rw[if_neg (fun h=>h1 h.1),if_pos ⟨h2,h1,h3⟩]:bN p f t=_);go_wp2_with(first|(go_at_call 254;refine(SD w2).mono ?_;rintro e w3 ⟨rfl,b3⟩)|(go_at_call_of 253 p.yn;refine(M2 w1).mono ?_;rintro e w2 ⟨rfl,b2⟩;have T2:=T1.below b2 ai;have yT:=T2;obtain⟨⟨y0,y1,y2,y3⟩,⟨y4,y5,y6,y7⟩,⟨y8,y9,Yv,y11⟩⟩:=yT)|(go_at_call_of 253 p.yn;refine(M1 _).mono ?_;rintro e w1 ⟨rfl,b1⟩;have T1:=T0.below b1 ai;have xT:=T1;obtain⟨⟨x0,x1,x2,x3⟩,⟨x4,x5,x6,x7⟩,⟨x8,x9,x10,x11⟩⟩:=xT));go_ret;exact⟨jZ (hv.out.symm.trans HV.out),Lm rV (Lm (Lm b1 b2) b3)⟩
   ·have hv:Hid (bN p f t=0):=(by unfold bN;rw[if_neg (fun h=>h1 h.1),if_neg (fun h=>h3 h.2.2)]:bN p f t=_);go_wp2_with(first|(go_at_call 254;refine(SD w2).mono ?_;rintro e w3 ⟨rfl,b3⟩)|(go_at_call_of 253 p.yn;refine(M2 w1).mono ?_;rintro e w2 ⟨rfl,b2⟩;have T2:=T1.below b2 ai;have yT:=T2;obtain⟨⟨y0,y1,y2,y3⟩,⟨y4,y5,y6,y7⟩,⟨y8,y9,Yv,y11⟩⟩:=yT)|(go_at_call_of 253 p.yn;refine(M1 _).mono ?_;rintro e w1 ⟨rfl,b1⟩;have T1:=T0.below b1 ai;have xT:=T1;obtain⟨⟨x0,x1,x2,x3⟩,⟨x4,x5,x6,x7⟩,⟨x8,x9,x10,x11⟩⟩:=xT));go_ret;exact⟨jZ (hv.out.symm.trans HV.out),Lm rV (Lm (Lm b1 b2) b3)⟩
  ·have hv:Hid (bN p f t=0):=(by unfold bN;rw[if_neg (fun h=>h1 h.1),if_neg (fun h=>h2 h.1)]:bN p f t=_);go_wp2_with(first|(go_at_call_of 253 p.yn;refine(M2 w1).mono ?_;rintro e w2 ⟨rfl,b2⟩;have T2:=T1.below b2 ai;have yT:=T2;obtain⟨⟨y0,y1,y2,y3⟩,⟨y4,y5,y6,y7⟩,⟨y8,y9,Yv,y11⟩⟩:=yT)|(go_at_call_of 253 p.yn;refine(M1 _).mono ?_;rintro e w1 ⟨rfl,b1⟩;have T1:=T0.below b1 ai;have xT:=T1;obtain⟨⟨x0,x1,x2,x3⟩,⟨x4,x5,x6,x7⟩,⟨x8,x9,x10,x11⟩⟩:=xT));go_ret;exact⟨jZ (hv.out.symm.trans HV.out),Lm rV (Lm b1 b2)⟩
structure PtC (w:ag)(b i:Nat)(a:Qt):Prop where
 c0:w.cell? (ak b i)=some (aa a.xn)
 c1:w.cell? (ak b (i+1))=some (aa a.xd)
 c2:w.cell? (ak b (i+2))=some (aa a.yn)
 c3:w.cell? (ak b (i+3))=some (aa a.yd)
 pi:PI a
theorem PtC.below {w w':ag}{b i n:Nat}{a:Qt}(h:PtC w b i a)(hb:Below n w w')(hn:w.heap.size<=n):PtC w' b i a:=by
 have hl:b<n:=Nat.lt_of_lt_of_le (aC h.c0) hn;exact⟨(hb.cell (p:=⟨b,i,none⟩) hl).trans h.c0,(hb.cell (p:=⟨b,i+1,none⟩) hl).trans h.c1,(hb.cell (p:=⟨b,i+2,none⟩) hl).trans h.c2,(hb.cell (p:=⟨b,i+3,none⟩) hl).trans h.c3,h.pi⟩
def eO (w:ag)(o:Option Addr)(l:List Qt):Prop:=∀i a,l[i]? =some a->∃b off,o=some ⟨b,off,none⟩/\PtC w b (off+i*4) a
theorem eO.below {w w':ag}{o:Option Addr}{l:List Qt}{n:Nat}(h:eO w o l)(hb:Below n w w')(hn:w.heap.size<=n):eO w' o l:=fun i a ha=>by
 obtain⟨b,off,h1,h2⟩:=h i a ha;exact⟨b,off,h1,h2.below hb hn⟩
def pR (aB aS aZ:Addr)(ef:Qt->Nat)(w:ag)(l:List Qt)(e:Ending)(W:ag):Prop:=
 ((∀y∈l,ef y=0)/\e=.returned .nilIface)\/
 (∃q x r pb,l=q++x::r/\(∀y∈q,ef y=0)/\ef x≠0/\w.heap.size<=pb/\e=.returned (.iface 113 (ay pb))/\W.cell? (ak pb 0)=some (aa q.length)/\W.cell? (ak pb 1)=some (er aB aS aZ (ef x)))
theorem Hf {ef:Qt->Nat}{l:List Qt}{k:Nat}{a:Qt}(h:∀y∈l.take k,ef y=0)(ha:l[k]? =some a)(h0:ef a=0):∀y∈l.take (k+1),ef y=0:=fun y hy=>by
 rw[List.take_add_one,ha] at hy;rcases List.mem_append.1 hy with hy|hy
 ·exact h y hy
 ·simp at hy;subst hy;exact h0
theorem Hg {l:List Qt}{k:Nat}{a:Qt}(ha:l[k]? =some a):l=l.take k++a::l.drop (k+1)/\(l.take k).length=k:=by
 obtain⟨hk,e⟩:=List.getElem?_eq_some_iff.1 ha;refine⟨?_,by rw[List.length_take];omega⟩;rw[<- e,List.getElem_cons_drop,List.take_append_drop]
theorem LK (aB aS aZ:Addr)(l:List Qt)(o:Option Addr)(cap:Nat)(w:ag)(hl:l.length<=1000)(h:eO w o l)(hE:E3 aB aS aZ w):
  ax 175 #[.slice o l.length cap,.func (.func 176) #[] #[]] w fun e W=>pR aB aS aZ eY w l e W/\Below w.heap.size w W:=by
 go_enter func175,ntmps175;go_wp2
 go_loopw [10] (fun y wr=>∃k:Nat,k<=l.length/\y=aa k/\(∀y∈l.take k,eY y=0)/\Below w.heap.size w wr) (fun y _=>l.length-(intOf y).toNat)
 case atStart=>exact⟨0,Nat.zero_le _,rfl,by simp,Below.refl _ _⟩
 case round=>
  obtain⟨k,hk,rfl,hall,hb⟩:=hrel;have HA:=aj hall;clear hall;by_cases hlt:k<l.length
  ·have hlt':(k:Int)<(l.length:Int):=by omega
   obtain⟨a,ha⟩:∃a,l[k]? =some a:=⟨_,List.getElem?_eq_getElem hlt⟩;obtain⟨b,off,ho,hp⟩:=h k a ha;subst ho;obtain⟨c0,c1,c2,c3,hpi⟩:=hp.below hb ai;have HL:=aj ha;have hbx:=hb.alloc hb.size (.cells #[aa a.xn,aa a.xd,aa a.yn,aa a.yd] 177);have HK:=pQ aB aS aZ a _ hpi (hE.below hbx ai);clear ha;by_cases hx:eY a=0
   ·rw[hx] at HK;have HX:=aj hx;clear hx;go_wp2_with(go_at_call 176;refine HK.mono ?_;rintro e w1 ⟨rfl,b1⟩;simp only[pO])
    go_roundw
    case rel=>exact⟨k+1,by omega,by go_num,Hf HA.out HL.out HX.out,hbx.trans (b1.mono (by have:=hbx.size;omega))⟩
    case measure=>simp[intOf];omega
   ·obtain⟨ad,GQ⟩:=fG aB aS aZ (show eY a=2\/eY a=3 by have:=nJ a;omega);have HX:=aj hx;have HC:=aj GQ;rw[GQ] at HK;clear hx GQ;go_wp2_with(go_at_call 176;refine HK.mono ?_;rintro e w1 ⟨rfl,b1⟩);have hb1:=hbx.trans (b1.mono (by have:=hbx.size;omega));go_ret;obtain⟨e1,e2⟩:=Hg HL.out;refine⟨.inr ⟨_,_,_,w1.heap.size,e1,HA.out,HX.out,hb1.size,rfl,?_,?_⟩,hb1.alloc hb1.size _⟩
    ·rw[e2];simp
    ·rw[HC.out];simp
  ·obtain rfl:k=l.length:=by omega
   go_wp2;go_ret;have hall:=HA.out;rw[List.take_length] at hall;exact⟨.inl ⟨hall,rfl⟩,hb⟩
theorem QF (aB aS aZ:Addr)(l:List Qt)(o:Option Addr)(cap:Nat)(w:ag)(hl:l.length<=1000)(h:eO w o l)(hE:E3 aB aS aZ w)(hr:∀a∈l,eY a=0):
  ax 175 #[.slice o l.length cap,.func (.func 177) #[] #[]] w fun e W=>pR aB aS aZ jw w l e W/\Below w.heap.size w W:=by
 go_enter func175,ntmps175;go_wp2
 go_loopw [10] (fun y wr=>∃k:Nat,k<=l.length/\y=aa k/\(∀y∈l.take k,jw y=0)/\Below w.heap.size w wr) (fun y _=>l.length-(intOf y).toNat)
 case atStart=>exact⟨0,Nat.zero_le _,rfl,by simp,Below.refl _ _⟩
 case round=>
  obtain⟨k,hk,rfl,hall,hb⟩:=hrel;have HA:=aj hall;clear hall;by_cases hlt:k<l.length
  ·have hlt':(k:Int)<(l.length:Int):=by omega
   obtain⟨a,ha⟩:∃a,l[k]? =some a:=⟨_,List.getElem?_eq_getElem hlt⟩;obtain⟨b,off,ho,hp⟩:=h k a ha;subst ho;obtain⟨c0,c1,c2,c3,hpi⟩:=hp.below hb ai;have HL:=aj ha;have hbx:=hb.alloc hb.size (.cells #[aa a.xn,aa a.xd,aa a.yn,aa a.yd] 177);have HK:=lX aB aS aZ a _ hpi (uM (hr a (List.mem_of_getElem? ha))) (hE.below hbx ai);clear ha;by_cases hx:jw a=0
   ·rw[hx] at HK;have HX:=aj hx;clear hx;go_wp2_with(go_at_call 177;refine HK.mono ?_;rintro e w1 ⟨rfl,b1⟩;simp only[pO])
    go_roundw
    case rel=>exact⟨k+1,by omega,by go_num,Hf HA.out HL.out HX.out,hbx.trans (b1.mono (by have:=hbx.size;omega))⟩
    case measure=>simp[intOf];omega
   ·obtain⟨ad,GQ⟩:=fG aB aS aZ (show jw a=2\/jw a=3 by have:=kQ a;omega);have HX:=aj hx;have HC:=aj GQ;rw[GQ] at HK;clear hx GQ;go_wp2_with(go_at_call 177;refine HK.mono ?_;rintro e w1 ⟨rfl,b1⟩);have hb1:=hbx.trans (b1.mono (by have:=hbx.size;omega));go_ret;obtain⟨e1,e2⟩:=Hg HL.out;refine⟨.inr ⟨_,_,_,w1.heap.size,e1,HA.out,HX.out,hb1.size,rfl,?_,?_⟩,hb1.alloc hb1.size _⟩
    ·rw[e2];simp
    ·rw[HC.out];simp
  ·obtain rfl:k=l.length:=by omega
   go_wp2;go_ret;have hall:=HA.out;rw[List.take_length] at hall;exact⟨.inl ⟨hall,rfl⟩,hb⟩
theorem pR.mono {aB aS aZ:Addr}{ef:Qt->Nat}{w u:ag}{l:List Qt}{e:Ending}{W:ag}(h:pR aB aS aZ ef u l e W)(hs:w.heap.size<=u.heap.size):pR aB aS aZ ef w l e W:=by
 rcases h with h|⟨q,x,r,pb,h1,h2,h3,h4,h5⟩
 ·exact .inl h
 ·exact .inr ⟨q,x,r,pb,h1,h2,h3,Nat.le_trans hs h4,h5⟩
def Uv (aB aS aZ:Addr)(w:ag)(l:List Qt)(e:Ending)(W:ag):Prop:=
 (30<l.length/\e=.returned (er aB aS aZ 2))\/(l.length<=30/\(∃y∈l,eY y≠0)/\pR aB aS aZ eY w l e W)\/(l.length<=30/\(∀y∈l,eY y=0)/\pR aB aS aZ jw w l e W)
def kR (l:List Qt):Prop:=l.length<=30/\∀y∈l,gH y=0
def YV (v:ah):Prop:=(∃a,v=.iface 390 (.pointer (some a)))\/(∃a,v=.iface 113 (.pointer (some a)))
theorem Uv.plain {aB aS aZ:Addr}{w:ag}{l:List Qt}{e:Ending}{W:ag}(h:Uv aB aS aZ w l e W):(kR l/\e=.returned .nilIface)\/(¬kR l/\∃v,YV v/\e=.returned v):=by
 rcases h with⟨h1,h2⟩|⟨h1,⟨y,hy,hy2⟩,h3⟩|⟨h1,h2,h3⟩
 ·exact .inr ⟨fun h=>by have:=h.1;omega,_,.inl ⟨aB,rfl⟩,h2⟩
 ·have hn:¬kR l:=fun h=>hy2 (iw.1 (h.2 y hy)).1;rcases h3 with⟨h4, -⟩|⟨q,x,r,pb, -, -, -, -,h5, -⟩
  ·exact absurd (h4 y hy) hy2
  ·exact .inr ⟨hn,_,.inr ⟨_,rfl⟩,h5⟩
 ·rcases h3 with⟨h4,h5⟩|⟨q,x,r,pb,e1, -,h4, -,h5, -⟩
  ·exact .inl ⟨⟨h1,fun y hy=>iw.2 ⟨h2 y hy,h4 y hy⟩⟩,h5⟩
  ·exact .inr ⟨fun h=>h4 (iw.1 (h.2 x (by rw[e1];simp))).2,_,.inr ⟨_,rfl⟩,h5⟩
theorem uO (aB aS aZ:Addr)(l:List Qt)(o:Option Addr)(cap:Nat)(w:ag)(h:eO w o l)(hE:E3 aB aS aZ w):
  ax 128 #[.agg #[.slice o l.length cap]] w fun e W=>Uv aB aS aZ w l e W/\Below w.heap.size w W:=by
 have hw:=aU w (.cells #[.slice o l.length cap] 136);have hE1:=(hE.below hw ai).b;by_cases h30:30<l.length
 ·have aas:30<(l.length:Int):=by omega
  go_enter func128,ntmps128;go_wp2;go_ret;exact⟨.inl ⟨h30,rfl⟩,hw⟩
 ·have aas:¬30<(l.length:Int):=by omega
  have F1:=LK aB aS aZ l o cap _ (by omega) (h.below hw ai) (hE.below hw ai);by_cases hr:∀y∈l,eY y=0
  ·have F2:=fun V (hv:Below w.heap.size w V)=>QF aB aS aZ l o cap V (by omega) (h.below hv ai) (hE.below hv ai) hr;have HR:=aj hr;clear hr;go_enter func128,ntmps128;go_wp2_with(first|(go_at_call 175;refine(F2 w1 k1).mono ?_;rintro e w2 ⟨hf2,b2⟩;obtain⟨v2,rfl⟩:∃v,e=.returned v:=(by rcases hf2 with⟨-,rfl⟩|⟨_,_,_,_, -, -, -, -,rfl, -⟩;exact⟨_,rfl⟩;exact⟨_,rfl⟩))|(go_at_call 175;refine F1.mono ?_;rintro e w1 ⟨hf1,b1⟩;have he:e=.returned .nilIface:=(by rcases hf1 with⟨-,h2⟩|⟨q,x,r,pb,e1, -,h4, -⟩;exact h2;exact absurd (HR.out x (by rw[e1];simp)) h4);subst he;clear hf1;have k1:=aA hw b1;have cb:=(b1.cell (p:=⟨w.heap.size,0,none⟩) (by simp)).trans (show(w.alloc (.cells #[.slice o l.length cap] 136)).cell? ⟨w.heap.size,0,none⟩=some (.slice o l.length cap) by simp)));go_ret;exact⟨.inr (.inr ⟨by omega,HR.out,hf2.mono k1.size⟩),aA k1 b2⟩
  ·have hex:∃y∈l,eY y≠0:=by
    apply Classical.byContradiction;intro hn;refine hr fun y hy=>?_;apply Classical.byContradiction;exact fun h0=>hn ⟨y,hy,h0⟩
   have HX:=aj hex;clear hr hex;go_enter func128,ntmps128;go_wp2_with(go_at_call 175;refine F1.mono ?_;rintro e w1 ⟨hf1,b1⟩;have he:∃a,e=.returned (.iface 113 (.pointer (some a))):=(by rcases hf1 with⟨h2, -⟩|⟨q,x,r,pb, -, -, -, -,rfl, -⟩;exact absurd HX.out (fun⟨y,hy,h0⟩=>h0 (h2 y hy));exact⟨_,rfl⟩);obtain⟨ad,rfl⟩:=he);go_ret;exact⟨.inr (.inl ⟨by omega,HX.out,hf1.mono hw.size⟩),aA hw b1⟩
end
section
open Go.RowKit Go.Shelf
set_option maxRecDepth 100000
attribute [local go_sem] Oper.semAt_some
structure Eg where
 a:Qt
 b:Qt
 ha:PB a
 hb:PB b
abbrev egV (x:Eg):Array ah:=#[lN x.a,lN x.b]
def qR (T:Nat->Prop)(A C:ag):Prop:=∀k,T k->C.heap[k]? =A.heap[k]?
theorem qR.refl {T:Nat->Prop}(X:ag):qR T X X:=fun _ _=>rfl
theorem qR.trans {T:Nat->Prop}{X Y Z:ag}(h:qR T X Y)(k:qR T Y Z):qR T X Z:=fun j hj=>(k j hj).trans (h j hj)
theorem qR.of_below {T:Nat->Prop}{A C:ag}{n:Nat}(h:Below n A C)(hT:∀k,T k->k<n):qR T A C:=fun j hj=>h.block j (hT j hj)
theorem qR.put {T:Nat->Prop}{w:ag}(hT:∀k,T k->k<w.heap.size)(W:ag)(l:Nat)(o o':Obj)(hl:w.heap.size<=l)(_:W.heap[l]? =some o)(_:o.isCells=false)(_:o.isWalk=false):qR T W (W.putObj l o'):=fun j hj=>World.putObj_heap_other (by have:=hT j hj;omega)
theorem grown_of {A C:ag}(h:Below A.heap.size A C):A.grownBy C none:=⟨h.os,h.tape,h.output,h.size,fun k hk _=>h.block k hk⟩
theorem cell_of_heap {A C:ag}{p:Addr}(h:C.heap[p.block]? =A.heap[p.block]?):C.cell? p=A.cell? p:=World.cell?_of_block h
def edT (Bs:Nat)(o:Option Addr)(l:List Qt)(k:Nat):Prop:=k=Bs\/(l≠[]/\∃off,o=some ⟨k,off,none⟩)
theorem eO.kept {w w':ag}{o:Option Addr}{l:List Qt}{Bs:Nat}(h:eO w o l)(hk:qR (edT Bs o l) w w'):eO w' o l:=fun i a ha=>by
 obtain⟨b,off,h1,c0,c1,c2,c3,hpi⟩:=h i a ha;have hb:=hk b (.inr ⟨by rintro rfl;simp at ha,off,h1⟩);exact⟨b,off,h1,(cell_of_heap (p:=⟨b,_,none⟩) hb).trans c0,(cell_of_heap (p:=⟨b,_,none⟩) hb).trans c1,(cell_of_heap (p:=⟨b,_,none⟩) hb).trans c2,(cell_of_heap (p:=⟨b,_,none⟩) hb).trans c3,hpi⟩
theorem LM {J Jx:List Eg->ag->Prop}{T:Nat->Prop}{pre:List Eg}{x:Eg}{W1 W':ag}{e:Ending}(h:(e=.returned (.bool true)/\J (pre++[x]) W'/\qR T W1 W')\/(e=.returned (.bool false)/\Jx (pre++[x]) W')):
  ∃b,e=.returned (.bool b)/\((b=true/\J (pre++[x]) W'/\qR T W1 W')\/(b=false/\Jx (pre++[x]) W')):=by
 rcases h with⟨rfl,h1,h2⟩|⟨rfl,h1⟩
 ·exact⟨true,rfl,.inl ⟨rfl,h1,h2⟩⟩
 ·exact⟨false,rfl,.inr ⟨rfl,h1⟩⟩
theorem Hl {α:Type}(xs:List α)(k:Nat)(h:k<xs.length):xs.take (k+1)=xs.take k++[xs[k]]:=by
 rw[List.take_add_one,List.getElem?_eq_getElem h];rfl
theorem Uw {k n:Nat}:((k:Int)+1).tmod (n:Int)=(((k+1) % n:Nat):Int):=by
 rw[Int.tmod_eq_emod_of_nonneg (by omega)];rfl
theorem QG (l:List Qt)(xs:List Eg)(hxs:xs.map (fun e=>(e.a,e.b))=jP l)(hl:l.length<=1000)(o:Option Addr)(cap n Bs:Nat)(w0:ag)(hB:w0.heap[Bs]? =some (.cells #[.slice o l.length cap] 136))(hP:eO w0 o l):
  SeqStopsK Fence.wide n prog 252 #[ay Bs] egV (qR (edT Bs o l)) (fun ys=>ys=xs) (fun p=>p<+:xs) xs.length w0:=by
 intro L J Jx W hW hJ hJx hY h0;have hBl:Bs<w0.heap.size:=(Array.getElem?_eq_some_iff.1 hB).1;have hBW:W.heap[Bs]? =some (.cells #[.slice o l.length cap] 136):=(hW.block Bs hBl).trans hB;have c0:W.cell? (ak Bs 0)=some (.slice o l.length cap):=by simp[World.cell?,hBW]
 have YW:∀p A C,J p A->Below A.heap.size A C->J p C:=fun p A C h hb=>hJ p A C none h (grown_of hb) (fun r e=>by cases e);have hlen:xs.length=l.length:=by rw[<- DV l,<- hxs,List.length_map]
 have hPW:=hP.below hW ai;refine callsIn_of_wp func252 rfl trivial ?_ rfl;simp only[ntmps252,List.size_toArray,List.length_cons,List.length_nil,Nat.reduceAdd,Nat.reduceSub,Array.replicate_succ,Array.replicate_zero,List.push_toArray,List.append_toArray,List.nil_append,List.cons_append]
 gi_wp2
 gi_loopw [8] (fun i wr=>∃k:Nat,k<=l.length/\i=aa k/\J (xs.take k) wr/\qR (edT Bs o l) W wr) (fun i _=>l.length-(intOf i).toNat)
 case atStart=>exact⟨0,Nat.zero_le _,rfl,h0,qR.refl _⟩
 case round=>
  obtain⟨k,hk,rfl,hJs,hnx⟩:=hrel;by_cases hlt:k<l.length
  ·have hlt':(k:Int)<(l.length:Int):=by omega
   have hkx:k<xs.length:=by omega
   obtain⟨a,b,ea,eb,eab⟩:=QA hlt;have hx:(xs[k].a,xs[k].b)=(a,b):=by
    have h1:(xs.map (fun e=>(e.a,e.b)))[k]? =some (a,b):=by rw[hxs];exact eab
    rw[List.getElem?_map,List.getElem?_eq_getElem hkx] at h1;simpa using h1
   have hts:=Hl xs k hkx;have hpl:(xs.take k).length<xs.length:=by rw[List.length_take];omega
   obtain⟨x,hxk⟩:∃x,xs[k]=x:=⟨_,rfl⟩;rw[hxk] at hx hts;obtain⟨rfl,rfl⟩:=Prod.mk.inj hx;obtain⟨bb,off,ho,q0,q1,q2,q3, -⟩:=hPW.kept hnx k x.a ea;obtain⟨bb',off',ho',r0,r1,r2,r3, -⟩:=hPW.kept hnx _ x.b eb;subst ho;cases ho';have cB:=(cell_of_heap (p:=⟨Bs,0,none⟩) (hnx Bs (.inl rfl))).trans c0;obtain⟨K,hK⟩:∃K,(k+1) % l.length=K:=⟨_,rfl⟩;have hKl:K<l.length:=by rw[<- hK];exact Nat.mod_lt _ (by omega)
   have hmod:((k:Int)+1).tmod (l.length:Int)=(K:Int):=by rw[Uw,hK]
   rw[hK] at r0 r1 r2 r3;have ahJ:(K:Int)<(l.length:Int):=by omega
   have hw1:IntKind.i64.wrap ((k:Int)+1)=(k:Int)+1:=IntWalk.i64_in _ (by omega);have hw2:IntKind.i64.wrap (K:Int)=(K:Int):=IntWalk.i64_in _ (by omega);have hK0:¬(K:Int)<0:=by omega
   have hne:¬(l.length:Int)=0:=by omega
   have ahK:((l.length:Int)==0)=false:=by rw[beq_eq_false_iff_ne];omega
   have ahL:¬l.length=0:=by omega
   have ahM:¬l=[]:=by intro h;subst h;simp at hlt
   have HTS:=aj hts;have HPL:=aj hpl;clear hts hpl hxk hx hK eab ea eb;have hal:=aU wr (.cells #[aa x.a.xn,aa x.a.xd,aa x.a.yn,aa x.a.yd] 177);have FN:=Four.new wr (aa x.a.xn) (aa x.a.xd) (aa x.a.yn) (aa x.a.yd) 177;have r0:=(hal.cell (aC r0)).trans r0;have r1:=(hal.cell (aC r1)).trans r1;have r2:=(hal.cell (aC r2)).trans r2;have r3:=(hal.cell (aC r3)).trans r3;have cV:=(hal.cell (aC cB)).trans cB
   gi_wp2
   obtain⟨V,hV⟩:∃V,wr.alloc (.cells #[aa x.a.xn,aa x.a.xd,aa x.a.yn,aa x.a.yd] 177)=V:=⟨_,rfl⟩;rw[hV] at hal FN r0 r1 r2 r3 cV⊢;have HKV:Hid (qR (edT Bs (some ⟨bb,off,none⟩) l) wr V):=qR.of_below hal (fun j hj=>by
    rcases hj with rfl|⟨-,off2,h2⟩
    ·exact aC cB
    ·cases h2;exact aC q0)
   clear hV q0 q1 q2 q3 cB;obtain⟨f0,f1,f2,f3⟩:=FN;obtain⟨fn,tmps,assign,body,hy,hR⟩:=hY (xs.take k) x V.drew (YW _ _ _ hJs hal.drew) HPL.out
   gi_region_with ((refine⟨(fun h=>by cases h),hR.mono ?_⟩;rintro e W3 h3;obtain⟨bo,rfl,hb3⟩:=LM h3))
   all_goals(rcases hb3 with⟨rfl,hJ3,hk3⟩|⟨rfl,hJx3⟩;((gi_wp2;go_roundw);(case rel=>exact⟨k+1,by omega,by simp,by rw[HTS.out];exact hJ3,(hnx.trans HKV.out).trans hk3⟩);(case measure=>simp[intOf];omega));(gi_wp2;refine bodyPost_ret (results_none rfl _ _ _) rfl ?_;exact⟨⟨_,rfl⟩,.inr ⟨_,by rw[<- HTS.out];exact List.take_prefix _ _,hJx3⟩⟩))
  ·obtain rfl:k=l.length:=by omega
   gi_wp2
   go_end0
   exact⟨⟨_,rfl⟩,.inl ⟨_,by rw[List.take_of_length_le (by omega)],hJs⟩⟩
end
section
open Go.RowKit Go.Shelf
set_option maxRecDepth 100000
attribute [local go_sem] Oper.semAt_some
def sq (p:Qt)(a b:Qt):Int:=bN p a b*bN p a b
def YX (l:List Qt)(p:Qt)(e:Ending):Prop:=
 (kR l/\gH p=0/\e=.returned (.tuple #[aa (rU (bN p) l),aa (rU (sq p) l),.nilIface]))\/
 (¬(kR l/\gH p=0)/\∃v,YV v/\e=.returned (.tuple #[aa 0,aa 0,v]))
theorem QH (o:Option Addr)(k cap:Nat)(w:ag):ax 220 #[.agg #[.slice o k cap]] w fun e w'=>e=.returned (.func (.func 252) #[] #[ay w.heap.size])/\w'=w.alloc (.cells #[.slice o k cap] 136):=by
 go_enter func220,ntmps220;go_wp2;go_ret;exact⟨rfl,rfl⟩
theorem iy (W:ag)(v:ah)(t:TypeId):(W.alloc (.cells #[v] t)).cell? ⟨W.heap.size,0,none⟩=some v/\(W.alloc (.cells #[v] t)).frozen? ⟨W.heap.size,0,none⟩=false:=⟨by simp,by simp⟩
theorem LP (w:ag)(v a b c d x y:ah)(t t' t'' t3:TypeId):
  ∀U,(((w.alloc (.cells #[v] t)).alloc (.cells #[a,b,c,d] t')).alloc (.cells #[x] t'')).alloc (.cells #[y] t3)=U->
  U.cell? ⟨w.heap.size,0,none⟩=some v/\Four U (w.heap.size+1) a b c d/\(U.cell? ⟨w.heap.size+1+1,0,none⟩=some x/\U.frozen? ⟨w.heap.size+1+1,0,none⟩=false)/\(U.cell? ⟨w.heap.size+1+1+1,0,none⟩=some y/\U.frozen? ⟨w.heap.size+1+1+1,0,none⟩=false)/\Below w.heap.size w U/\w.heap.size+1+1+1<U.heap.size:=by
 rintro U rfl;have h3:=Below.alloc (Below.refl ((((w.alloc (.cells #[v] t)).alloc (.cells #[a,b,c,d] t')).alloc (.cells #[x] t'')).heap.size) _) ai (.cells #[y] t3);have h2:=Below.alloc (Below.refl (((w.alloc (.cells #[v] t)).alloc (.cells #[a,b,c,d] t')).heap.size) _) ai (.cells #[x] t'');have h1:=Below.alloc (Below.refl ((w.alloc (.cells #[v] t)).heap.size) _) ai (.cells #[a,b,c,d] t');have h0:=aU w (.cells #[v] t);have k2:=aA h2 h3;have k1:=aA h1 k2;have hz:w.heap.size<(w.alloc (.cells #[v] t)).heap.size:=by simp
 have e1:(w.alloc (.cells #[v] t)).heap.size=w.heap.size+1:=by simp
 have e2:((w.alloc (.cells #[v] t)).alloc (.cells #[a,b,c,d] t')).heap.size=w.heap.size+1+1:=by simp
 have e3:(((w.alloc (.cells #[v] t)).alloc (.cells #[a,b,c,d] t')).alloc (.cells #[x] t'')).heap.size=w.heap.size+1+1+1:=by simp
 have F:=Four.new (w.alloc (.cells #[v] t)) a b c d t';rw[e1] at F;have C2:=iy ((w.alloc (.cells #[v] t)).alloc (.cells #[a,b,c,d] t')) x t'';rw[e2] at C2;have C3:=iy (((w.alloc (.cells #[v] t)).alloc (.cells #[a,b,c,d] t')).alloc (.cells #[x] t'')) y t3;rw[e3] at C3;have hz2:w.heap.size+1+1<(((w.alloc (.cells #[v] t)).alloc (.cells #[a,b,c,d] t')).alloc (.cells #[x] t'')).heap.size:=by rw[e3];omega
 exact⟨(k1.cell (p:=⟨w.heap.size,0,none⟩) hz).trans (iy w v t).1,F.below k2 ai,⟨(h3.cell (p:=⟨w.heap.size+1+1,0,none⟩) hz2).trans C2.1,(h3.frozen (p:=⟨w.heap.size+1+1,0,none⟩) hz2).trans C2.2⟩,C3,aA h0 k1,by simp⟩
theorem za {V:ag}{X Y:Nat}(hne:X≠Y){a b u v:ah}(hx:V.cell? (ak X 0)=some u)(hy:V.cell? (ak Y 0)=some v):
  ((V.setCell ⟨X,0,none⟩ a).setCell ⟨Y,0,none⟩ b).cell? (ak X 0)=some a/\((V.setCell ⟨X,0,none⟩ a).setCell ⟨Y,0,none⟩ b).cell? (ak Y 0)=some b:=by
 have h1:(V.setCell ⟨X,0,none⟩ a).cell? (ak X 0)=some a:=World.cell?_setCell_same' _ _ _ (by rw[hx];rfl);have h2:(V.setCell ⟨X,0,none⟩ a).cell? (ak Y 0)=some v:=by rw[World.cell?_setCell_far _ _ _ _ (by simp;exact hne)];exact hy
 refine⟨?_,World.cell?_setCell_same' _ _ _ (by rw[h2];rfl)⟩;rw[World.cell?_setCell_far _ _ _ _ (by simp;exact fun e=>hne e.symm)];exact h1
abbrev zM (xs:List Eg):List (Qt×Qt):=xs.map (fun e=>(e.a,e.b))
theorem Ux:∀L:List (Qt×Qt),(∀e∈L,PB e.1/\PB e.2)->∃xs:List Eg,zM xs=L
 |[],_=>⟨[],rfl⟩
 |e::L,h=>by
  obtain⟨xs,hx⟩:=Ux L (fun x hx=>h x (List.mem_cons_of_mem _ hx));have h0:=h e (List.mem_cons_self ..);exact⟨⟨e.1,e.2,h0.1,h0.2⟩::xs,by simp only[zM,List.map_cons] at hx⊢;rw[hx]⟩
theorem DY {l:List Qt}{e:Qt×Qt}(h:e∈jP l):e.1∈l/\e.2∈l:=by
 cases l with
 |nil=>cases h
 |cons a l=>
  unfold jP at h;obtain⟨h1,h2⟩:=List.of_mem_zip (a:=e.1) (b:=e.2) h;refine⟨h1,?_⟩;rcases List.mem_append.1 h2 with h3|h3
  ·exact List.mem_cons_of_mem _ h3
  ·simp at h3;rw[h3];exact List.mem_cons_self ..
structure Ho (p:Qt)(B1 B2 B3 N:Nat)(L:List (Qt×Qt))(W:ag):Prop where
 f:Four W B1 (aa p.xn) (aa p.xd) (aa p.yn) (aa p.yd)
 c2:W.cell? (ak B2 0)=some (aa (eH (bN p) L))
 f2:W.frozen? ⟨B2,0,none⟩=false
 c3:W.cell? (ak B3 0)=some (aa (eH (sq p) L))
 f3:W.frozen? ⟨B3,0,none⟩=false
 sz:N<=W.heap.size
theorem Ho.kept {p:Qt}{B1 B2 B3 N:Nat}{L:List (Qt×Qt)}{A B:ag}{row:Option Nat}(h:Ho p B1 B2 B3 N L A)(hg:A.grownBy B row)(hr:∀r,row=some r->∃o:Obj,A.heap[r]? =some o/\o.isCells=false):Ho p B1 B2 B3 N L B:=
 ⟨⟨cell_kept h.f.c0 hg hr,cell_kept h.f.c1 hg hr,cell_kept h.f.c2 hg hr,cell_kept h.f.c3 hg hr⟩,cell_kept h.c2 hg hr,(frozen_kept h.c2 hg hr).trans h.f2,cell_kept h.c3 hg hr,(frozen_kept h.c3 hg hr).trans h.f3,Nat.le_trans h.sz hg.size⟩
theorem YY (p:Qt)(B1 B2 B3 N:Nat):Own (fun(pre:List Eg) W=>Ho p B1 B2 B3 N (zM pre) W):=fun _ _ _ _ hs hg hr=>Ho.kept hs hg hr
theorem sQ {W W':ag}(h:Below W.heap.size W W'):KeepsOthers W W':=⟨h.size,fun k _ hk _=>(h.block k (Array.getElem?_eq_some_iff.1 hk).1).trans hk⟩
theorem qR.set {T:Nat->Prop}{A:ag}{B:Nat}{u:ah}(hT:∀k,T k->k≠B):qR T A (A.setCell ⟨B,0,none⟩ u):=fun j hj=>Below.heap_setCell _ _ _ j (fun e=>hT j hj e)
theorem Ho.set {p:Qt}{B1 B2 B3 N:Nat}{L L':List (Qt×Qt)}{W:ag}(h:Ho p B1 B2 B3 N L W)(h12:B2≠B1)(h13:B3≠B1)(h23:B2≠B3){a b:Int}(ha:eH (bN p) L'=a)(hb:eH (sq p) L'=b):
  Ho p B1 B2 B3 N L' ((W.setCell ⟨B2,0,none⟩ (aa a)).setCell ⟨B3,0,none⟩ (aa b)):=by
 obtain⟨d1,d2⟩:=za (V:=W) (X:=B2) (Y:=B3) (a:=aa a) (b:=aa b) h23 h.c2 h.c3;have far:∀o v,W.cell? (ak B1 o)=some v->((W.setCell ⟨B2,0,none⟩ (aa a)).setCell ⟨B3,0,none⟩ (aa b)).cell? (ak B1 o)=some v:=fun o v hv=>by
  rw[World.cell?_setCell_far _ _ _ _ h13,World.cell?_setCell_far _ _ _ _ h12];exact hv
 refine⟨⟨far _ _ h.f.c0,far _ _ h.f.c1,far _ _ h.f.c2,far _ _ h.f.c3⟩,by rw[ha];exact d1,?_,by rw[hb];exact d2,?_,?_⟩
 ·rw[World.frozen?_setCell,World.frozen?_setCell];exact h.f2
 ·rw[World.frozen?_setCell,World.frozen?_setCell];exact h.f3
 ·have h1:=(grownBy_setCell' W B2 (aa a)).size;have h2:=(grownBy_setCell' (W.setCell ⟨B2,0,none⟩ (aa a)) B3 (aa b)).size;have:=h.sz;omega
theorem Ho.below {p:Qt}{B1 B2 B3 N:Nat}{L:List (Qt×Qt)}{A B:ag}(h:Ho p B1 B2 B3 N L A)(hb:Below A.heap.size A B):Ho p B1 B2 B3 N L B:=h.kept (grown_of hb) (fun r e=>by cases e)
theorem Four.kept' {b:Nat}{x y z u:ah}{A B:ag}{row:Option Nat}(h:Four A b x y z u)(hg:A.grownBy B row)(hr:∀r,row=some r->∃o:Obj,A.heap[r]? =some o/\o.isCells=false):Four B b x y z u:=
 ⟨cell_kept h.c0 hg hr,cell_kept h.c1 hg hr,cell_kept h.c2 hg hr,cell_kept h.c3 hg hr⟩
theorem QI (aB aS aZ:Addr)(l:List Qt)(o:Option Addr)(cap:Nat)(p:Qt)(w:ag)(h:eO w o l)(hp:PI p)(hE:E3 aB aS aZ w):
  CallsIn Fence.wide 9 prog 178 #[.agg #[.slice o l.length cap],lN p] w fun e W=>YX l p e/\Below w.heap.size w W:=by
 refine callsIn_of_wp_marks func178 rfl trivial ?_ rfl;simp only[ntmps178,List.size_toArray,List.length_cons,List.length_nil,Nat.reduceAdd,Nat.reduceSub,Array.replicate_succ,Array.replicate_zero,List.push_toArray,List.append_toArray,List.nil_append,List.cons_append]
 gi_wp2
 obtain⟨U,hU⟩:∃U,(((w.alloc (.cells #[.slice o l.length cap] 136)).alloc (.cells #[aa p.xn,aa p.xd,aa p.yn,aa p.yd] 177)).alloc (.cells #[aa 0] 3)).alloc (.cells #[aa 0] 3)=U:=⟨_,rfl⟩;obtain⟨cS,F1,⟨c2,f2⟩,⟨c3,f3⟩,rV,hsU⟩:=LP w _ _ _ _ _ _ _ _ _ _ _ U hU;rw[hU];clear hU;have CK:=uO aB aS aZ l o cap U (h.below rV ai) (hE.below rV ai);refine⟨trivial,(callsIn_wide.2 CK).mono ?_⟩;rintro e w1 ⟨hc,b1⟩;have sS:=aA rV b1;have cS1:=(b1.cell (aC cS)).trans cS;have F11:=F1.below b1 ai;have c21:=(b1.cell (aC c2)).trans c2;have c31:=(b1.cell (aC c3)).trans c3;have f21:=(b1.frozen (aC c2)).trans f2;have f31:=(b1.frozen (aC c3)).trans f3;clear CK cS c2 c3 f2 f3;obtain⟨g0,g1,g2,g3⟩:=F11;rcases hc.plain with⟨hok,rfl⟩|⟨hno,v,hv,rfl⟩
 ·clear hc;have CP:=zK aB aS aZ p w1 hp (hE.below sS ai);by_cases hep:gH p=0
  ·rw[hep] at CP;have Uf:Hid (kR l/\gH p=0):=⟨hok,hep⟩;clear hok hep
   gi_wp2
   refine⟨trivial,(callsIn_wide.2 CP).mono ?_⟩;rintro e w2 ⟨rfl,b2⟩;simp only[pO];have cS2:=(b2.cell (aC cS1)).trans cS1
   gi_wp2
   refine⟨trivial,(callsIn_wide.2 (QH o l.length cap w2)).mono ?_⟩;rintro e w3 ⟨rfl,hw3⟩;have Om:=aA sS b2;have b3:=aU w2 (.cells #[.slice o l.length cap] 136);have hX:w3.heap[w2.heap.size]? =some (.cells #[.slice o l.length cap] 136):=by rw[hw3];exact World.alloc_heap_new w2 _
   rw[<- hw3] at b3;clear hw3;have wE:=aA Om b3;have hlt3:w2.heap.size<w3.heap.size:=(Array.getElem?_eq_some_iff.1 hX).1;have ahR:=b1.size;have ahS:=b2.size;obtain⟨Uy,hpe⟩:=Uf.out;obtain⟨xs,hxs⟩:=Ux (jP l) (fun e he=>⟨PB.of (Uy.2 _ (DY he).1),PB.of (Uy.2 _ (DY he).2)⟩);have hxl:xs.length<=30:=by have h1:=DV l;rw[<- hxs,List.length_map] at h1;have:=Uy.1;omega
   have aau:=Uy.1;have hPB:=PB.of hpe;have hP3:=h.below wE ai;have DZ:∀k,edT w2.heap.size o l k->k<w3.heap.size/\k≠w.heap.size+1+1/\k≠w.heap.size+1+1+1:=fun k hk=>by
    rcases hk with rfl|⟨hne,off,ho⟩
    ·exact⟨hlt3,by omega,by omega⟩
    ·cases l with
     |nil=>exact absurd rfl hne
     |cons a l=>
      obtain⟨b,off',e1,h2⟩:=h 0 a rfl;rw[ho] at e1;cases e1;have hk:=aC h2.c0;simp at hk;exact⟨by have:=wE.size;omega,by omega,by omega⟩
   have Yw:Ho p (w.heap.size+1) (w.heap.size+1+1) (w.heap.size+1+1+1) 0 [] w3:=Ho.below (Ho.below ⟨⟨g0,g1,g2,g3⟩,c21,f21,c31,f31,Nat.zero_le _⟩ b2) b3;have I0:Ho p (w.heap.size+1) (w.heap.size+1+1) (w.heap.size+1+1+1) w3.heap.size [] w3:=⟨Yw.f,Yw.c2,Yw.f2,Yw.c3,Yw.f3,Nat.le_refl _⟩;clear Yw;clear hpe Uy g0 g1 g2 g3 c21 f21 c31 f31 CP cS1 cS2;have HXS:=aj hxs;have hseq:=QG l xs hxs (by omega) o cap (9-1) w2.heap.size w3 hX hP3;clear hxs
   gi_wp2
   refine wpIn_rangeFunc_ownH rfl (by omega) (gf:=252) (lb:=#[ay w2.heap.size]) rfl trivial (enters_of func252 (by kernel_rfl) rfl)
    hseq qR.trans (qR.put (fun k hk=>(DZ k hk).1)) (Below.refl _ _) (fun _=>rfl)
    (fun pre W=>Ho p (w.heap.size+1) (w.heap.size+1+1) (w.heap.size+1+1+1) w3.heap.size (zM pre) W/\Below w.heap.size w W)
    (fun _ _ _=>False)
    (OwnFrom.and ((YY p _ _ _ _).from _) (ownFrom_below ai wE.size))
    (fun c=>fun s A B row hs hg hr=>hs)
    ⟨I0,wE⟩
    (fun x a' W=>∃Bx By,Four W Bx (aa x.a.xn) (aa x.a.xd) (aa x.a.yn) (aa x.a.yd)/\Four W By (aa x.b.xn) (aa x.b.xd) (aa x.b.yn) (aa x.b.yd)/\a'={tmps:=#[.agg #[.slice o l.length cap],lN p,ay w.heap.size,.pointer (some ⟨w.heap.size+1,0,none⟩),.pointer (some ⟨w.heap.size+1+1,0,none⟩),.pointer (some ⟨w.heap.size+1+1+1,0,none⟩),.nilIface,.nilIface,.nilIface,ay Bx,ay By,undef,.agg #[.slice o l.length cap],.nilIface,.nilIface,.bool false,undef,lN p,.nilIface,.nilIface,.bool false,undef,undef,undef,undef,.agg #[.slice o l.length cap],.func (.func 252) #[] #[ay w2.heap.size],lN x.a,lN x.b,undef,undef,undef,undef,undef,undef,undef,undef,undef,undef,undef,undef,undef,undef],defers:=[]})
    (fun x a' s A B row hs hg hr=>by obtain⟨Bx,By,h1,h2,h3⟩:=hs;exact⟨Bx,By,h1.kept' hg (fun r e=>(hr r e).2),h2.kept' hg (fun r e=>(hr r e).2),h3⟩)
    ?assign ?body ?done ?stop
   case assign=>
    rintro L pre x W K ⟨hI,hB⟩ hK
    gi_wp2
    have k1:=aU W (.cells #[aa x.a.xn,aa x.a.xd,aa x.a.yn,aa x.a.yd] 177);have k2:=aU (W.alloc (.cells #[aa x.a.xn,aa x.a.xd,aa x.a.yn,aa x.a.yd] 177)) (.cells #[aa x.b.xn,aa x.b.xd,aa x.b.yn,aa x.b.yd] 177);have FA:=(Four.new W (aa x.a.xn) (aa x.a.xd) (aa x.a.yn) (aa x.a.yd) 177).below k2 ai;have FB:=Four.new (W.alloc (.cells #[aa x.a.xn,aa x.a.xd,aa x.a.yn,aa x.a.yd] 177)) (aa x.b.xn) (aa x.b.xd) (aa x.b.yn) (aa x.b.yd) 177;rw[show(W.alloc (.cells #[aa x.a.xn,aa x.a.xd,aa x.a.yn,aa x.a.yd] 177)).heap.size=W.heap.size+1 from by simp] at FB;have k:=aA k1 k2;exact hK _ _ (((KeepsOthers.alloc _ _).trans (KeepsOthers.alloc _ _)).from _) (qR.of_below k (fun j hj=>by have h1:=(DZ j hj).1;have h2:=hI.sz;omega)) ⟨hI.below k,aA hB k⟩ ⟨W.heap.size,W.heap.size+1,FA,FB,rfl⟩
   case body=>
    rintro L pre x a' W hl hr ⟨hI,hB⟩ ⟨Bx,By,⟨x0,x1,x2,x3⟩,⟨y0,y1,y2,y3⟩,rfl⟩ hlt;have TO:=QE x.a x.b p W x.ha x.hb hPB;have ho:_/\eH (bN p) (zM pre)<=eH (sq p) (zM pre)/\ - eH (bN p) (zM pre)<=eH (sq p) (zM pre)/\0<=eH (sq p) (zM pre)/\eH (sq p) (zM pre)<=((zM pre).length:Int)/\_/\_:=Ol (bN p) (fun a b=>zJ p a b) (zM pre);obtain⟨-,o1,o2,o3,o4, -, -⟩:=ho;have hpl:(zM pre).length<=30:=by rw[List.length_map];omega
    have hs2:eH (bN p) (zM (pre++[x]))=eH (bN p) (zM pre)+bN p x.a x.b:=by rw[zM,List.map_append,H9];simp[eH]
    have hs3:eH (sq p) (zM (pre++[x]))=eH (sq p) (zM pre)+bN p x.a x.b*bN p x.a x.b:=by rw[zM,List.map_append,H9];simp[eH,sq]
    have hI':=hI;obtain⟨⟨z0,z1,z2,z3⟩,c2,f2,c3,f3,hsz⟩:=hI;have hTb: -1<=bN p x.a x.b/\bN p x.a x.b<=1/\0<=bN p x.a x.b*bN p x.a x.b/\bN p x.a x.b*bN p x.a x.b<=1:=by rcases zJ p x.a x.b with h|h|h<;>rw[h]<;>decide
    have HS2:Hid _:=hs2;have HS3:Hid _:=hs3;generalize hgT:bN p x.a x.b=T at TO hTb HS2 HS3;generalize hg2:eH (bN p) (zM pre)=s2 at c2 o1 o2 o3 o4 HS2;generalize hg3:eH (sq p) (zM pre)=s3 at c3 o1 o2 o3 o4 HS3;obtain⟨t1,t2,t3,t4⟩:=hTb;have HG:Hid (bN p x.a x.b=T/\eH (bN p) (zM pre)=s2/\eH (sq p) (zM pre)=s3):=⟨hgT,hg2,hg3⟩;have HI:=aj hI';clear hs2 hs3 hgT hg2 hg3 hI'
    gi_wp2_with (refine⟨trivial,?_⟩;gi_at_call 221;refine(CallsIn.inRound L (callsIn_wide.2 TO)).mono ?_;rintro e w' ⟨rfl,hb⟩;have c2':=(hb.cell (aC c2)).trans c2;have f2':=(hb.frozen (aC c2)).trans f2;have c3':=(hb.cell (aC c3)).trans c3;have f3':=(hb.frozen (aC c3)).trans f3)
    obtain⟨e1,e2,e3⟩:=HG.out;refine⟨((sQ hb).trans ((KeepsOthers.setCell _ _ _).trans (KeepsOthers.setCell _ _ _))).from _,((qR.of_below hb (fun j hj=>by have h1:=(DZ j hj).1;omega)).trans (qR.set (fun k hk=>(DZ k hk).2.1))).trans (qR.set (fun k hk=>(DZ k hk).2.2)),Ho.set (HI.out.below hb) (by omega) (by omega) (by omega) HS2.out HS3.out,?_⟩;exact((aA hB hb).setCell (by simp;omega) _).setCell (by simp;omega) _
   case done=>
    rintro D ys W hD rfl ⟨hI,hB⟩ hK;obtain⟨-,c2,f2,c3,f3,hsz⟩:=hI;rw[HXS.out] at c2 c3;have c2':W.drew.cell? ⟨w.heap.size+1+1,0,none⟩=some (aa (eH (bN p) (jP l))):=c2;have c3':W.drew.cell? ⟨w.heap.size+1+1+1,0,none⟩=some (aa (eH (sq p) (jP l))):=c3;have hwd:rU (bN p) l=eH (bN p) (jP l):=rfl;have hcr:rU (sq p) l=eH (sq p) (jP l):=rfl;have HW:Hid (rU (bN p) l=eH (bN p) (jP l)/\rU (sq p) l=eH (sq p) (jP l)):=⟨hwd,hcr⟩;clear hwd hcr;generalize eH (bN p) (jP l)=s2 at c2 c2' HW;generalize eH (sq p) (jP l)=s3 at c3 c3' HW
    gi_wp2
    have hK':=((KeepsOthers.setCell W ⟨w.heap.size+1+1,0,none⟩ (aa s2)).trans (KeepsOthers.setCell _ ⟨w.heap.size+1+1+1,0,none⟩ (aa s3))).same D _ hK rfl;have hK2:((W.setCell ⟨w.heap.size+1+1,0,none⟩ (aa s2)).setCell ⟨w.heap.size+1+1+1,0,none⟩ (aa s3)).drew.heap[D]? =some (.deferred (some [])):=hK';obtain⟨d1,d2⟩:=za (V:=W) (X:=w.heap.size+1+1) (Y:=w.heap.size+1+1+1) (a:=aa s2) (b:=aa s3) (by omega) c2 c3;have d1':((W.setCell ⟨w.heap.size+1+1,0,none⟩ (aa s2)).setCell ⟨w.heap.size+1+1+1,0,none⟩ (aa s3)).drew.cell? ⟨w.heap.size+1+1,0,none⟩=some (aa s2):=d1;have d2':((W.setCell ⟨w.heap.size+1+1,0,none⟩ (aa s2)).setCell ⟨w.heap.size+1+1+1,0,none⟩ (aa s3)).drew.cell? ⟨w.heap.size+1+1+1,0,none⟩=some (aa s3):=d2;have bz:=((hB.setCell (p:=⟨w.heap.size+1+1,0,none⟩) (by simp;omega) (aa s2)).setCell (p:=⟨w.heap.size+1+1+1,0,none⟩) (by simp;omega) (aa s3)).drew
    gi_region
    all_goals
     gi_wp2
     clear d1 d2;generalize ((W.setCell ⟨w.heap.size+1+1,0,none⟩ (aa s2)).setCell ⟨w.heap.size+1+1+1,0,none⟩ (aa s3)).drew=Z at hK2 d1' d2' bz⊢;refine⟨by simp,.inl ⟨_,_,rfl,run_takeDeferred hK2,?_⟩⟩;have hc5:=cell_kept d1' (grownBy_putObj' _ D (.deferred none)) (fun r e=>by cases e;exact⟨_,hK2,rfl⟩);have hc6:=cell_kept d2' (grownBy_putObj' _ D (.deferred none)) (fun r e=>by cases e;exact⟨_,hK2,rfl⟩);refine⟨.tuple #[aa s2,aa s3,.nilIface],?_,.inl ⟨Uf.out.1,Uf.out.2,by rw[HW.out.1,HW.out.2]⟩,bz.trans (belowK_b (w:=w) ai Z D _ _ (by have:=wE.size;omega) hK2 rfl rfl)⟩;simp[results,results178,go_sem,hc5,hc6]
   case stop=>exact fun D c pre W hD hpre hf=>hf.elim
  ·have hno:¬(kR l/\gH p=0):=fun h=>hep h.2;obtain⟨ad,GQ⟩:=fG aB aS aZ (show gH p=2\/gH p=3 by have:=LJ p;omega);rw[GQ] at CP;clear GQ hep hok
   gi_wp2
   refine⟨trivial,(callsIn_wide.2 CP).mono ?_⟩;rintro e w2 ⟨rfl,b2⟩;have c22:=(b2.cell (aC c21)).trans c21;have c32:=(b2.cell (aC c31)).trans c31;have f22:=(b2.frozen (aC c21)).trans f21;have f32:=(b2.frozen (aC c31)).trans f31;have k22:=fun o=>cell_kept c22 (World.grownBy_alloc w2 o none) (fun r e=>by cases e);have k32:=fun o=>cell_kept c32 (World.grownBy_alloc w2 o none) (fun r e=>by cases e);have j22:=fun o=>(frozen_kept c22 (World.grownBy_alloc w2 o none) (fun r e=>by cases e)).trans f22;have j32:=fun o=>(frozen_kept c32 (World.grownBy_alloc w2 o none) (fun r e=>by cases e)).trans f32
   gi_wp2
   obtain⟨d1,d2⟩:=za (V:=w2.alloc (.cells #[aa 30,.iface 390 (.pointer (some ad))] 115)) (X:=w.heap.size+1+1) (Y:=w.heap.size+1+1+1) (a:=aa 0) (b:=aa 0) (by omega) (k22 _) (k32 _);exact⟨.tuple #[aa 0,aa 0,.iface 113 (ay w2.heap.size)],by simp[results,results178,go_sem,d1,d2],.inr ⟨hno,_,.inr ⟨_,rfl⟩,rfl⟩,(((aA sS b2).alloc (aA sS b2).size _).setCell (by simp;omega) _).setCell (by simp;omega) _⟩
 ·clear hc;have hno':¬(kR l/\gH p=0):=fun h=>hno h.1;obtain⟨d1,d2⟩:=za (V:=w1) (X:=w.heap.size+1+1) (Y:=w.heap.size+1+1+1) (a:=aa 0) (b:=aa 0) (by omega) c21 c31;have bz:=(sS.setCell (p:=⟨w.heap.size+1+1,0,none⟩) (by simp;omega) (aa 0)).setCell (p:=⟨w.heap.size+1+1+1,0,none⟩) (by simp;omega) (aa 0);rcases hv with⟨a,rfl⟩|⟨a,rfl⟩
  ·gi_wp2
   exact⟨.tuple #[aa 0,aa 0,.iface 390 (.pointer (some a))],by simp[results,results178,go_sem,d1,d2],.inr ⟨hno',_,.inl ⟨a,rfl⟩,rfl⟩,bz⟩
  ·gi_wp2
   exact⟨.tuple #[aa 0,aa 0,.iface 113 (.pointer (some a))],by simp[results,results178,go_sem,d1,d2],.inr ⟨hno',_,.inr ⟨a,rfl⟩,rfl⟩,bz⟩
end
section
open Go.RowKit
set_option maxRecDepth 20000
def Ff (l:List Qt)(p:Qt)(wd cr:Int)(v:ah):Prop:=
  (kR l/\gH p=0/\wd=rU (bN p) l/\cr=rU (sq p) l/\v=.nilIface)\/(¬(kR l/\gH p=0)/\wd=0/\cr=0/\YV v)
theorem zN (aB aS aZ:Addr)(l:List Qt)(o:Option Addr)(cap:Nat)(p:Qt)(w:ag)(h:eO w o l)(hp:PI p)(hE:E3 aB aS aZ w):
    ax 178 #[.agg #[.slice o l.length cap],lN p] w fun e W=>∃wd cr v,Ff l p wd cr v/\e=.returned (.tuple #[aa wd,aa cr,v])/\Below w.heap.size w W:=
  (callsIn_wide.1 (QI aB aS aZ l o cap p w h hp hE)).mono fun e W h=>by
    obtain⟨h1|h1,hb⟩:=h
    · obtain⟨h1,h2,h3⟩:=h1
      exact⟨_,_,_,.inl ⟨h1,h2,rfl,rfl,rfl⟩,h3,hb⟩
    · obtain⟨h1,v,h2,h3⟩:=h1
      exact⟨_,_,_,.inr ⟨h1,rfl,rfl,h2⟩,h3,hb⟩
theorem wF (w:ag)(v a b c d:ah)(t t':TypeId):
    ∀U,(w.alloc (.cells #[v] t)).alloc (.cells #[a,b,c,d] t')=U->U.cell? ⟨w.heap.size,0,none⟩=some v/\Four U (w.heap.size+1) a b c d/\Below w.heap.size w U:=by
  rintro U rfl;have h1:=aU (w.alloc (.cells #[v] t)) (.cells #[a,b,c,d] t');have F:=Four.new (w.alloc (.cells #[v] t)) a b c d t';rw[show(w.alloc (.cells #[v] t)).heap.size=w.heap.size+1 from by simp] at F;exact⟨(h1.cell (p:=⟨w.heap.size,0,none⟩) (by simp)).trans (iy w v t).1,F,aA (aU w _) h1⟩
abbrev a6r:ah:=.string ⟨#[119,105,110,100]⟩
abbrev a6s:ah:=.string ⟨#[101,118,101,110]⟩
theorem LQ (aB aS aZ:Addr)(l:List Qt)(o:Option Addr)(cap:Nat)(p:Qt)(w:ag)(h:eO w o l)(hp:PI p)(hE:E3 aB aS aZ w):
    ax 129 #[.agg #[.slice o l.length cap],lN p,a6r] w fun e W=>∃wd cr v,Ff l p wd cr v/\e=.returned (.tuple #[.bool (wd !=0),v])/\Below w.heap.size w W:=by
  have AR:=fun V (hv:Below w.heap.size w V)=>zN aB aS aZ l o cap p V (h.below hv ai) hp (hE.below hv ai);go_enter func129,ntmps129;go_upto_region 1 with fail;obtain⟨U,hU⟩:∃U,(w.alloc (.cells #[.slice o l.length cap] 136)).alloc (.cells #[aa p.xn,aa p.xd,aa p.yn,aa p.yd] 177)=U:=⟨_,rfl⟩;obtain⟨cS,⟨g0,g1,g2,g3⟩,rV⟩:=wF w _ _ _ _ _ _ _ U hU;rw[hU];clear hU;have AR:=AR U rV;go_wp2_with(go_at_call 178;refine AR.mono ?_;rintro e w1 ⟨wd,cr,v,hv,rfl,b1⟩);refine bodyPost_ret (results_tmp2 rfl _ _ _) rfl ?_;exact⟨_,_,_,hv,rfl,aA rV b1⟩
theorem LU (aB aS aZ:Addr)(l:List Qt)(o:Option Addr)(cap:Nat)(p:Qt)(w:ag)(h:eO w o l)(hp:PI p)(hE:E3 aB aS aZ w):
    ax 129 #[.agg #[.slice o l.length cap],lN p,a6s] w fun e W=>∃wd cr v,Ff l p wd cr v/\e=.returned (.tuple #[.bool (cr.tmod 2==1),v])/\Below w.heap.size w W:=by
  have AR:=fun V (hv:Below w.heap.size w V)=>zN aB aS aZ l o cap p V (h.below hv ai) hp (hE.below hv ai);go_enter func129,ntmps129;go_upto_region 1 with fail;obtain⟨U,hU⟩:∃U,(w.alloc (.cells #[.slice o l.length cap] 136)).alloc (.cells #[aa p.xn,aa p.xd,aa p.yn,aa p.yd] 177)=U:=⟨_,rfl⟩;obtain⟨cS,⟨g0,g1,g2,g3⟩,rV⟩:=wF w _ _ _ _ _ _ _ U hU;rw[hU];clear hU;have AR:=AR U rV;go_wp2_with(go_at_call 178;refine AR.mono ?_;rintro e w1 ⟨wd,cr,v,hv,rfl,b1⟩);refine bodyPost_ret (results_tmp2 rfl _ _ _) rfl ?_;exact⟨_,_,_,hv,rfl,aA rV b1⟩
end
section
open Go.RowKit
theorem Uz {w:ag}{b:Nat}{a0 a1 a2 a3:Qt}{t:TypeId}{f:Nat×Nat}(h:w.heap[b]? =some (.cells #[aa a0.xn,aa a0.xd,aa a0.yn,aa a0.yd,aa a1.xn,aa a1.xd,aa a1.yn,aa a1.yd,aa a2.xn,aa a2.xd,aa a2.yn,aa a2.yd,aa a3.xn,aa a3.xd,aa a3.yn,aa a3.yd] t f))
  (h0:PI a0) (h1:PI a1) (h2:PI a2) (h3:PI a3):eO w (some ⟨b,0,none⟩) [a0,a1,a2,a3]:=by
 have key:∀k v,#[Value.int .i64 a0.xn,aa a0.xd,aa a0.yn,aa a0.yd,aa a1.xn,aa a1.xd,aa a1.yn,aa a1.yd,aa a2.xn,aa a2.xd,aa a2.yn,aa a2.yd,aa a3.xn,aa a3.xd,aa a3.yn,aa a3.yd][k]? =some v->w.cell? (ak b k)=some v:=fun k v hv=>by
  simp only[World.cell?,h];exact hv
 intro i a ha
 match i,ha with
 |0,ha=>cases ha;exact⟨b,0,rfl,key 0 _ rfl,key 1 _ rfl,key 2 _ rfl,key 3 _ rfl,h0⟩
 |1,ha=>cases ha;exact⟨b,0,rfl,key 4 _ rfl,key 5 _ rfl,key 6 _ rfl,key 7 _ rfl,h1⟩
 |2,ha=>cases ha;exact⟨b,0,rfl,key 8 _ rfl,key 9 _ rfl,key 10 _ rfl,key 11 _ rfl,h2⟩
 |3,ha=>cases ha;exact⟨b,0,rfl,key 12 _ rfl,key 13 _ rfl,key 14 _ rfl,key 15 _ rfl,h3⟩
 |(k+4),ha=>simp at ha
def dI:List Qt->List ah
 |[]=>[]
 |a::r=>aa a.xn::aa a.xd::aa a.yn::aa a.yd::dI r
theorem tq:∀l:List Qt,(dI l).length=l.length*4
 |[]=>rfl
 |x::r=>by simp[dI,tq r];omega
theorem zO:∀l m:List Qt,dI (l++m)=dI l++dI m
 |[],_=>rfl
 |x::r,m=>by simp[dI,zO r m]
theorem zP:∀(l:List Qt) (j:Nat) (u:ah),(dI l)[j]? =some u->∃i x,l[i]? =some x/\((j=i*4/\u=aa x.xn)\/(j=i*4+1/\u=aa x.xd)\/(j=i*4+2/\u=aa x.yn)\/(j=i*4+3/\u=aa x.yd))
 |[],j,u,h=>by simp[dI] at h
 |x::r,0,u,h=>by simp[dI] at h;exact⟨0,x,rfl,.inl ⟨rfl,h.symm⟩⟩
 |x::r,1,u,h=>by simp[dI] at h;exact⟨0,x,rfl,.inr (.inl ⟨rfl,h.symm⟩)⟩
 |x::r,2,u,h=>by simp[dI] at h;exact⟨0,x,rfl,.inr (.inr (.inl ⟨rfl,h.symm⟩))⟩
 |x::r,3,u,h=>by simp[dI] at h;exact⟨0,x,rfl,.inr (.inr (.inr ⟨rfl,h.symm⟩))⟩
 |x::r,j+4,u,h=>by
  have h':(dI r)[j]? =some u:=by simpa[dI] using h
  obtain⟨i,y,h1,h2⟩:=zP r j u h';refine⟨i+1,y,by simpa using h1,?_⟩;rcases h2 with⟨rfl,h3⟩|⟨rfl,h3⟩|⟨rfl,h3⟩|⟨rfl,h3⟩
  ·exact .inl ⟨by omega,h3⟩
  ·exact .inr (.inl ⟨by omega,h3⟩)
  ·exact .inr (.inr (.inl ⟨by omega,h3⟩))
  ·exact .inr (.inr (.inr ⟨by omega,h3⟩))
theorem zQ:∀(l:List Qt) (i:Nat) (x:Qt),l[i]? =some x->(dI l)[i*4]? =some (aa x.xn)/\(dI l)[i*4+1]? =some (aa x.xd)/\(dI l)[i*4+2]? =some (aa x.yn)/\(dI l)[i*4+3]? =some (aa x.yd)
 |[],i,x,h=>by simp at h
 |y::r,0,x,h=>by simp at h;subst h;exact⟨rfl,rfl,rfl,rfl⟩
 |y::r,i+1,x,h=>by
  have h1:=zQ r i x (by simpa using h);rw[show(i+1)*4=i*4+4 from by omega];simpa[dI,Nat.add_right_comm _ 4] using h1
theorem zR (l:List Qt):∀u∈dI l,u.oneCell'=true:=fun u hu=>by
 obtain⟨j,hj⟩:=List.getElem?_of_mem hu;obtain⟨i,x, -,⟨-,rfl⟩|⟨-,rfl⟩|⟨-,rfl⟩|⟨-,rfl⟩⟩:=zP l j u hj<;>rfl
theorem addr_add (b off k:Nat):(⟨b,off,none⟩:Addr).add k=⟨b,off+k,none⟩:=by unfold Addr.add;split<;>simp_all
def gU (w:ag)(base:Nat)(v:ah)(l:List Qt):Prop:=w.ownsRow base 177 4 v l.length (dI l)
theorem gU.at_ {w:ag}{base:Nat}{v:ah}{l:List Qt}(h:gU w base v l)(hl:∀a∈l,PI a):∃o cap,v=.slice o l.length cap/\eO w o l:=by
 rcases h.2 with⟨rfl,h0⟩|⟨g,cap,cur,rfl, -⟩
 ·have:l=[]:=List.length_eq_zero_iff.1 h0;subst this;exact⟨none,0,rfl,fun i a ha=>by simp at ha⟩
 ·refine⟨_,cap,rfl,fun i a ha=>⟨g,0,rfl,?_⟩⟩;have hc:∀j u,(dI l)[j]? =some u->w.cell? (ak g j)=some u:=fun j u hj=>by
   have:=World.ownsRow.cells h (g:=g) rfl j u hj;rw[addr_add,Nat.zero_add] at this;exact this
  obtain⟨h0,h1,h2,h3⟩:=zQ l i a ha;rw[Nat.zero_add];exact⟨hc _ _ h0,hc _ _ h1,hc _ _ h2,hc _ _ h3,hl a (List.mem_of_getElem? ha)⟩
theorem UA:(prog.info? 177).map (fun i=>(i.zero,i.size,i.bytes))=some (some (.agg #[aa 0,aa 0,aa 0,aa 0]),4,32):=by kernel_rfl
theorem Oo {w:ag}{base:Nat}{e:TypeId}{size:Nat}{v:ah}{n:Nat}{xs:List ah}(h:w.ownsRow base e size v n xs):∀k,v.ownBlock=some k->base<=k:=by
 obtain⟨_,h2⟩:=h;rcases h2 with⟨rfl,_⟩|⟨g,cap,cur,rfl,hg,_⟩
 ·intro k hk;cases hk
 ·intro k hk;cases hk;exact hg
end
section
def LV (xn xd yn yd Xn Xd Yn Yd:Int):List Qt:=[⟨xn,xd,yn,yd⟩,⟨Xn,Xd,yn,yd⟩,⟨Xn,Xd,Yn,Yd⟩,⟨xn,xd,Yn,Yd⟩]
structure Pm where
 pts:List Qt
 fill:aD
 rule:aD
def jC (x y:Int):Qt:=⟨2*x+1,2,2*y+1,2⟩
def jQ (y n d:Int):Int:=2*n-(2*y+1)*d
def UB:List UInt8:=[119,105,110,100]
def a1z:List UInt8:=[101,118,101,110]
def a2y:aD:=⟨#[46]⟩
def holdB (l:List Qt)(rule:aD)(c:Qt):Bool:=if rule.toList=UB then rU (bN c) l !=0 else(rU (fun a b=>bN c a b*bN c a b) l).tmod 2==1
def pW:List Pm->Qt->aD
 |[],_=>a2y
 |s::l,c=>if holdB s.pts s.rule c then s.fill else pW l c
def gI (l:List Pm)(c:Qt):aD:=pW l.reverse c
theorem zS (a b:List Pm)(c:Qt)(h:∀s∈a,holdB s.pts s.rule c=false):pW (a++b) c=pW b c:=by
 induction a with
 |nil=>rfl
 |cons s a ih=>
  rw[List.cons_append,pW,h s (List.mem_cons_self ..),if_neg (by simp)];exact ih (fun x hx=>h x (List.mem_cons_of_mem _ hx))
theorem LW (a b:List Pm)(s:Pm)(c:Qt)(h:∀s∈a,holdB s.pts s.rule c=false)(hs:holdB s.pts s.rule c=true):pW (a++s::b) c=s.fill:=by
 rw[zS a _ c h,pW,if_pos hs]
theorem Hq (a:List Pm)(c:Qt)(h:∀s∈a,holdB s.pts s.rule c=false):pW a c=a2y:=by
 have:=zS a [] c h;rwa[List.append_nil] at this
section
variable (rc:List Qt->Int->Bool)
def mO (l:List Pm)(w:Nat)(y:Int):List aD:=(List.range w).map fun(x:Nat)=>gI (l.filter fun s=>rc s.pts y) (jC (x:Int) y)
def jD (l:List Pm)(w h:Nat):List aD:=(List.range h).flatMap fun(y:Nat)=>mO rc l w (y:Int)
theorem mP (l:List Pm)(w:Nat)(y:Int):(mO rc l w y).length=w:=by simp[mO]
theorem wG (l:List Pm)(w h:Nat):jD rc l w (h+1)=jD rc l w h++mO rc l w h:=by
 unfold jD;rw[List.range_succ,List.flatMap_append];simp
theorem iJ (l:List Pm)(w:Nat):∀h:Nat,(jD rc l w h).length=w*h
 |0=>rfl
 |h+1=>by rw[wG,List.length_append,iJ l w h,mP,Nat.mul_succ]
theorem uP (l:List Pm)(w:Nat):∀h y:Nat,y<h->((jD rc l w h).drop (w*y)).take w=mO rc l w y
 |0,y,hy=>by omega
 |h+1,y,hy=>by
  rw[wG];by_cases e:y=h
  ·subst e;rw[List.drop_append_of_le_length (by rw[iJ];exact Nat.le_refl _),List.drop_eq_nil_of_le (by rw[iJ];exact Nat.le_refl _),List.nil_append,List.take_of_length_le (by rw[mP];exact Nat.le_refl _)]
  ·have h1:y+1<=h:=by omega
   have h2:w*(y+1)<=w*h:=Nat.mul_le_mul_left w h1;rw[Nat.mul_succ] at h2;rw[List.drop_append_of_le_length (by rw[iJ];omega),List.take_append_of_le_length (by rw[List.length_drop,iJ];omega)];exact uP l w h y (by omega)
end
def Oq (l:List Qt)(y:Int):Bool:=l.any fun a=>decide (jQ y a.yn a.yd<=0)
def Fg (l:List Qt)(y:Int):Bool:=l.any fun a=>decide (0<=jQ y a.yn a.yd)
def aI (l:List Qt)(y:Int):Bool:=
 if y< -1073741824\/1073741824<=y then false else l.all (fun a=>decide (dz a.xn a.xd=0) && decide (dz a.yn a.yd=0)) && (Oq l y && Fg l y)
end
end Go.Proofs.YtjfiehbcamfdfaaGreatDoor

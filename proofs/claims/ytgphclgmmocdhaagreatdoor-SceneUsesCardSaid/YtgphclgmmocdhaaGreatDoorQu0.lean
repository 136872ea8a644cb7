/-
  Parts of the proof.
-/
import Derived.Test.YtgphclgmmocdhaaGreatDoorProg
import Derived.WalkSpells
import Derived.WalkLawsBesides
import Derived.BigQuiet
import Derived.Deep.RegionHeld3
namespace Go.Proofs.YtgphclgmmocdhaaGreatDoor
section
def isBig (n:Int):Bool:=decide (1073741824<n.natAbs)
theorem isBig_true {n:Int}:isBig n=true↔1073741824<n.natAbs:=by simp [isBig]
theorem isBig_false {n:Int}:isBig n=false↔n.natAbs<=1073741824:=by simp [isBig]
def gcdI (n d:Int):Nat:=Nat.gcd n.natAbs d.natAbs
def chk (n d:Int):Nat:=if d<1\/gcdI n d≠1 then 3 else if isBig n=true\/isBig d=true then 2 else 0
theorem chk_zero {n d:Int}:chk n d=0↔1<=d/\gcdI n d=1/\n.natAbs<=1073741824/\d.natAbs<=1073741824:=by
 unfold chk
 constructor
 ·intro h
  split at h
  ·cases h
  ·rename_i h1
   split at h
   ·cases h
   ·rename_i h2
    rw [isBig_true,isBig_true] at h2
    refine ⟨by omega,?_,by omega,by omega⟩
    by_cases hg:gcdI n d=1
    ·exact hg
    ·exact absurd (Or.inr hg) h1
 ·rintro ⟨h1,h2,h3,h4⟩
  rw [if_neg (by rintro (h | h);omega;exact h h2),if_neg (by rw [isBig_true,isBig_true];omega)]
theorem chk_cases (n d:Int):chk n d=0\/chk n d=2\/chk n d=3:=by
 unfold chk
 split
 ·simp
 ·split <;> simp
structure R3 where
 n:Int
 d:Int
 c:Nat
def lowP (n d:Int):R3:=
 if isBig (n / gcdI n d)=true\/isBig (d / gcdI n d)=true then ⟨0,0,2⟩ else ⟨n / gcdI n d,d / gcdI n d,0⟩
def low (n d:Int):R3:=if d<0 then lowP (-n) (-d) else lowP n d
theorem gcdI_pos {n d:Int} (h:d≠0):0<gcdI n d:=Nat.gcd_pos_of_pos_right _ (by omega)
theorem gcdI_dvd_left (n d:Int):(gcdI n d:Int) ∣ n:=Int.ofNat_dvd_left.2 (Nat.gcd_dvd_left _ _)
theorem gcdI_dvd_right (n d:Int):(gcdI n d:Int) ∣ d:=Int.ofNat_dvd_left.2 (Nat.gcd_dvd_right _ _)
theorem gcdI_div {n d:Int} (h:d≠0):gcdI (n / gcdI n d) (d / gcdI n d)=1:=by
 have hp:=gcdI_pos (n:=n) h
 have e1:(n / (gcdI n d:Int)).natAbs=n.natAbs / gcdI n d:=by
  rw [Int.natAbs_ediv_of_dvd (gcdI_dvd_left n d)];simp
 have e2:(d / (gcdI n d:Int)).natAbs=d.natAbs / gcdI n d:=by
  rw [Int.natAbs_ediv_of_dvd (gcdI_dvd_right n d)];simp
 show Nat.gcd _ _=1
 rw [e1,e2]
 exact Nat.coprime_div_gcd_div_gcd hp
theorem lowP_mul {n d:Int}:n / gcdI n d * d=n * (d / gcdI n d):=by
 obtain ⟨x,hx⟩:=gcdI_dvd_left n d
 obtain ⟨y,hy⟩:=gcdI_dvd_right n d
 rcases Nat.eq_zero_or_pos (gcdI n d) with h0 | hp
 ·rw [h0] at hx hy
  simp at hx hy
  simp [hx,hy]
 ·have hp':(gcdI n d:Int)≠0:=by omega
  have e1:n / (gcdI n d:Int)=x:=by rw [Int.ediv_eq_iff_eq_mul_right hp' (gcdI_dvd_left n d)];exact hx
  have e2:d / (gcdI n d:Int)=y:=by rw [Int.ediv_eq_iff_eq_mul_right hp' (gcdI_dvd_right n d)];exact hy
  rw [e1,e2]
  generalize (gcdI n d:Int)=g at *
  rw [hx,hy,<- Int.mul_assoc,Int.mul_comm x g]
theorem unique {n d n' d':Int} (h1:1<=d) (g1:gcdI n d=1) (h2:1<=d') (g2:gcdI n' d'=1) (e:n * d'=n' * d):n=n'/\d=d':=by
 have a1:d.natAbs ∣ d'.natAbs:=by
  have:d.natAbs ∣ n.natAbs * d'.natAbs:=by rw [<- Int.natAbs_mul,e,Int.natAbs_mul];exact Nat.dvd_mul_left _ _
  exact Nat.Coprime.dvd_of_dvd_mul_left (show Nat.gcd _ _=1 by rw [Nat.gcd_comm];exact g1) this
 have a2:d'.natAbs ∣ d.natAbs:=by
  have:d'.natAbs ∣ n'.natAbs * d.natAbs:=by rw [<- Int.natAbs_mul,<- e,Int.natAbs_mul];exact Nat.dvd_mul_left _ _
  exact Nat.Coprime.dvd_of_dvd_mul_left (show Nat.gcd _ _=1 by rw [Nat.gcd_comm];exact g2) this
 have a3:d=d':=by have:=Nat.dvd_antisymm a1 a2;omega
 subst a3
 exact ⟨Int.eq_of_mul_eq_mul_right (by omega) e,rfl⟩
theorem lowP_cases {n d:Int}:lowP n d=⟨0,0,2⟩\/(lowP n d).c=0:=by
 unfold lowP;split <;> simp
theorem lowP_some {n d p q:Int} (hd:0<d):lowP n d=⟨p,q,0⟩↔chk p q=0/\p * d=n * q:=by
 have hp:=gcdI_pos (n:=n) (d:=d) (by omega)
 have hq:1<=d / (gcdI n d:Int):=by
  obtain ⟨y,hy⟩:=gcdI_dvd_right n d
  have e2:d / (gcdI n d:Int)=y:=by rw [Int.ediv_eq_iff_eq_mul_right (by omega) (gcdI_dvd_right n d)];exact hy
  rw [e2]
  rcases Int.lt_or_le 0 y with h | h
  ·omega
  ·have:=Int.mul_nonpos_of_nonneg_of_nonpos (show (0:Int)<=gcdI n d by omega) h
   omega
 have hg:=gcdI_div (n:=n) (d:=d) (by omega)
 have hm:=lowP_mul (n:=n) (d:=d)
 constructor
 ·intro h
  unfold lowP at h
  split at h
  ·cases h
  ·rename_i hb
   rw [isBig_true,isBig_true] at hb
   simp only [R3.mk.injEq] at h
   obtain ⟨rfl,rfl,_⟩:=h
   exact ⟨chk_zero.2 ⟨hq,hg,by omega,by omega⟩,hm⟩
 ·rintro ⟨hc,he⟩
  obtain ⟨c1,c2,c3,c4⟩:=chk_zero.1 hc
  have hx:n / (gcdI n d:Int) * q=p * (d / (gcdI n d:Int)):=by
   apply Int.eq_of_mul_eq_mul_right (show d≠0 by omega)
   grind
  obtain ⟨e1,e2⟩:=unique hq hg c1 c2 hx
  unfold lowP
  rw [e1,e2,if_neg (by rw [isBig_true,isBig_true];omega)]
theorem low_cases {n d:Int}:low n d=⟨0,0,2⟩\/(low n d).c=0:=by
 unfold low;split
 ·exact lowP_cases
 ·exact lowP_cases
theorem low_some {n d p q:Int} (hd:d≠0):low n d=⟨p,q,0⟩↔chk p q=0/\p * d=n * q:=by
 unfold low;split
 ·rw [lowP_some (by omega)]
  constructor
  ·rintro ⟨a,b⟩;exact ⟨a,by grind⟩
  ·rintro ⟨a,b⟩;exact ⟨a,by grind⟩
 ·exact lowP_some (by omega)
def add (an ad bn bd:Int):R3:=if chk an ad≠0 then ⟨0,0,chk an ad⟩ else if chk bn bd≠0 then ⟨0,0,chk bn bd⟩ else low (an * bd+bn * ad) (ad * bd)
def mul (an ad bn bd:Int):R3:=if chk an ad≠0 then ⟨0,0,chk an ad⟩ else if chk bn bd≠0 then ⟨0,0,chk bn bd⟩ else low (an * bn) (ad * bd)
theorem add_some {an ad bn bd p q:Int}:add an ad bn bd=⟨p,q,0⟩↔chk an ad=0/\chk bn bd=0/\chk p q=0/\p * (ad * bd)=(an * bd+bn * ad) * q:=by
 unfold add
 by_cases h1:chk an ad=0
 ·by_cases h2:chk bn bd=0
  ·have hd:ad * bd≠0:=by
    have:=(chk_zero.1 h1).1;have:=(chk_zero.1 h2).1
    exact Int.mul_ne_zero (by omega) (by omega)
   simp [h1,h2,low_some hd]
  ·simp [h1,h2]
 ·simp [h1]
theorem mul_some {an ad bn bd p q:Int}:mul an ad bn bd=⟨p,q,0⟩↔chk an ad=0/\chk bn bd=0/\chk p q=0/\p * (ad * bd)=(an * bn) * q:=by
 unfold mul
 by_cases h1:chk an ad=0
 ·by_cases h2:chk bn bd=0
  ·have hd:ad * bd≠0:=by
    have:=(chk_zero.1 h1).1;have:=(chk_zero.1 h2).1
    exact Int.mul_ne_zero (by omega) (by omega)
   simp [h1,h2,low_some hd]
  ·simp [h1,h2]
 ·simp [h1]
def sgn (n:Int):Int:=if n<0 then -1 else if 0<n then 1 else 0
end
section
open Go.RowKit
set_option maxHeartbeats 1000000
theorem ret_int {k:IntKind} {a b:Int} (h:a=b):Ending.returned (.int k a)=.returned (.int k b):=by rw [h]
theorem ret_bool {a b:Bool} (h:a=b):Ending.returned (.bool a)=.returned (.bool b):=by rw [h]
structure E3 (aB aS aZ:Addr) (w:World):Prop where
 b:w.cell? ⟨6,0,none⟩=some (.iface 409 (.pointer (some aB)))
 s:w.cell? ⟨4,0,none⟩=some (.iface 409 (.pointer (some aS)))
 q:aZ=aZ
theorem cell_lt {w:World} {a:Addr} {v:Value} (h:w.cell? a=some v):a.block<w.heap.size:=by
 rcases Nat.lt_or_ge a.block w.heap.size with h' | h'
 ·exact h'
 ·simp [World.cell?,Array.getElem?_eq_none h'] at h
theorem E3.below {aB aS aZ:Addr} {w w':World} {B:Nat} (h:E3 aB aS aZ w) (hb:Below B w w') (hB:w.heap.size<=B):E3 aB aS aZ w':=
 ⟨(hb.cell (Nat.lt_of_lt_of_le (cell_lt h.b) hB)).trans h.b,(hb.cell (Nat.lt_of_lt_of_le (cell_lt h.s) hB)).trans h.s,rfl⟩
theorem E3.drewN {aB aS aZ:Addr} {w:World} (h:E3 aB aS aZ w) (k:Nat):E3 aB aS aZ (w.drewN k):=⟨h.b,h.s,rfl⟩
theorem E3.alloc {aB aS aZ:Addr} {w:World} (h:E3 aB aS aZ w) (o:Obj):E3 aB aS aZ (w.alloc o):=
 h.below ((Below.refl w.heap.size w).alloc Nat.le.refl o) Nat.le.refl
def er (aB aS aZ:Addr):Nat->Value
 | 2=>.iface 409 (.pointer (some aB))
 | 3=>.iface 409 (.pointer (some aS))
 | 11=>.iface 409 (.pointer (some aZ))
 | _=>.nilIface
theorem size_any (n:Int) (w:World) (h1 : -9223372036854775808<=n) (h2:n<=9223372036854775807) :
  Calls Tryz.prog 283 #[.int .i64 n] w fun e w'=>e=.returned (.int .u64 n.natAbs)/\w'=w:=by
 by_cases h:n<0
 ·go_enter Tryz.func283,Tryz.ntmps283
  go_wp2
  go_ret
  exact ⟨ret_int (by rw [IntKind.wrap_u64,IntKind.wrap_u64];omega),rfl⟩
 ·go_enter Tryz.func283,Tryz.ntmps283
  go_wp2
  go_ret
  exact ⟨ret_int (by omega),rfl⟩
theorem divisor_any (a b:Nat) (w:World) (ha:a<=18446744073709551615) (hb:b<=18446744073709551615) :
  Calls Tryz.prog 282 #[.int .u64 a,.int .u64 b] w fun e w'=>e=.returned (.int .u64 (Nat.gcd a b:Nat))/\∃ k,w'=w.drewN k:=by
 go_enter Tryz.func282,Tryz.ntmps282
 go_wp2
 go_loopw [0,1] (fun x y wr=>∃ p q:Nat,p<=18446744073709551615/\q<=18446744073709551615/\x=.int .u64 p/\y=.int .u64 q/\Nat.gcd p q=Nat.gcd a b/\∃ k,wr=w.drewN k) (fun _ y _=>(intOf y).toNat)
 case atStart=>exact ⟨a,b,ha,hb,rfl,rfl,rfl,0,rfl⟩
 case round=>
  obtain ⟨p,q,hp,hq,rfl,rfl,hg,k,rfl⟩:=hrel
  have HG:Hid (Nat.gcd p q=Nat.gcd a b):=hg
  clear hg
  by_cases h0:q=0
  ·subst h0
   go_wp2
   go_ret
   exact ⟨ret_int (by have:=HG.out;simp at this;omega),k,rfl⟩
  ·have hlt:=Nat.mod_lt p (Nat.pos_of_ne_zero h0)
   have HL:Hid (p % q<q):=hlt
   clear hlt
   go_wp2
   go_quiet (fail)
   go_wp2
   go_roundw
   case rel=>exact ⟨q,p % q,hq,by have:=HL.out;omega,rfl,by go_num,by rw [<- HG.out,Nat.gcd_comm p q,Nat.gcd_comm q (p % q)];exact (Nat.gcd_rec _ _).symm,_,World.drewN_drewN _ _ _⟩
   case measure=>have:=HL.out;simp [intOf];omega
theorem tooGreat_any (n:Int) (w:World) (h1 : -9223372036854775808<=n) (h2:n<=9223372036854775807) :
  Calls Tryz.prog 284 #[.int .i64 n] w fun e w'=>e=.returned (.bool (isBig n))/\w'=w:=by
 go_enter Tryz.func284,Tryz.ntmps284
 go_wp2_with (go_at_call 283;refine (size_any _ _ h1 h2).mono ?_;rintro e w' ⟨rfl,rfl⟩)
 go_ret
 exact ⟨ret_bool (by unfold isBig;rw [decide_eq_decide];omega),rfl⟩
theorem times_any (a b:Int) (w:World) (h1 : -9223372036854775808<=a * b) (h2:a * b<=9223372036854775807) :
  Calls Tryz.prog 272 #[.int .i64 a,.int .i64 b] w fun e w'=>e=.returned (.int .i64 (a * b))/\w'=w:=by
 go_enter Tryz.func272,Tryz.ntmps272
 go_wp2
 go_ret
 exact ⟨rfl,rfl⟩
theorem check_any (aB aS aZ:Addr) (n d:Int) (w:World) (n1 : -9223372036854775808<=n) (n2:n<=9223372036854775807) (d1 : -9223372036854775808<=d) (d2:d<=9223372036854775807) (h:E3 aB aS aZ w) :
  Calls Tryz.prog 247 #[.int .i64 n,.int .i64 d] w fun e w'=>e=.returned (er aB aS aZ (chk n d))/\∃ k,w'=w.drewN k:=by
 obtain ⟨hB,hS,_⟩:=h
 by_cases hd:d<1
 ·have hc:chk n d=3:=by unfold chk;rw [if_pos (Or.inl hd)]
  rw [hc]
  go_enter Tryz.func247,Tryz.ntmps247
  go_wp2
  go_ret
  exact ⟨rfl,0,rfl⟩
 by_cases hg:gcdI n d=1
 ·have hgi:((Nat.gcd n.natAbs d.natAbs:Nat):Int)=1:=by unfold gcdI at hg;omega
  by_cases b1:isBig n=true
  ·have hc:chk n d=2:=by unfold chk;rw [if_neg (by rintro (h | h);exact hd h;exact h hg),if_pos (Or.inl b1)]
   rw [hc]
   clear hc hg
   go_enter Tryz.func247,Tryz.ntmps247
   go_wp2_with (first | (go_at_call 283;refine (size_any _ _ (by assumption) (by assumption)).mono ?_;rintro e w' ⟨rfl,rfl⟩) | (go_at_call 282;refine (divisor_any _ _ _ (by omega) (by omega)).mono ?_;rintro e w' ⟨rfl,k,rfl⟩) | (go_at_call 284;refine (tooGreat_any _ _ (by assumption) (by assumption)).mono ?_;rintro e w' ⟨rfl,rfl⟩))
   go_ret
   exact ⟨rfl,_,rfl⟩
  ·have b1:isBig n=false:=by simpa using b1
   by_cases b2:isBig d=true
   ·have hc:chk n d=2:=by unfold chk;rw [if_neg (by rintro (h | h);exact hd h;exact h hg),if_pos (Or.inr b2)]
    rw [hc]
    clear hc hg
    go_enter Tryz.func247,Tryz.ntmps247
    go_wp2_with (first | (go_at_call 283;refine (size_any _ _ (by assumption) (by assumption)).mono ?_;rintro e w' ⟨rfl,rfl⟩) | (go_at_call 282;refine (divisor_any _ _ _ (by omega) (by omega)).mono ?_;rintro e w' ⟨rfl,k,rfl⟩) | (go_at_call 284;refine (tooGreat_any _ _ (by assumption) (by assumption)).mono ?_;rintro e w' ⟨rfl,rfl⟩))
    go_ret
    exact ⟨rfl,_,rfl⟩
   ·have b2:isBig d=false:=by simpa using b2
    have hc:chk n d=0:=by unfold chk;rw [if_neg (by rintro (h | h);exact hd h;exact h hg),if_neg (by simp [b1,b2])]
    rw [hc]
    clear hc hg
    go_enter Tryz.func247,Tryz.ntmps247
    go_wp2_with (first | (go_at_call 283;refine (size_any _ _ (by assumption) (by assumption)).mono ?_;rintro e w' ⟨rfl,rfl⟩) | (go_at_call 282;refine (divisor_any _ _ _ (by omega) (by omega)).mono ?_;rintro e w' ⟨rfl,k,rfl⟩) | (go_at_call 284;refine (tooGreat_any _ _ (by assumption) (by assumption)).mono ?_;rintro e w' ⟨rfl,rfl⟩))
    go_ret
    exact ⟨rfl,_,rfl⟩
 ·have hc:chk n d=3:=by unfold chk;rw [if_pos (Or.inr hg)]
  have hgi:((((Nat.gcd n.natAbs d.natAbs:Nat):Int)) != 1)=true:=by unfold gcdI at hg;simp;omega
  rw [hc]
  clear hc hg
  go_enter Tryz.func247,Tryz.ntmps247
  go_wp2_with (first | (go_at_call 283;refine (size_any _ _ (by assumption) (by assumption)).mono ?_;rintro e w' ⟨rfl,rfl⟩) | (go_at_call 282;refine (divisor_any _ _ _ (by omega) (by omega)).mono ?_;rintro e w' ⟨rfl,k,rfl⟩) | (go_at_call 284;refine (tooGreat_any _ _ (by assumption) (by assumption)).mono ?_;rintro e w' ⟨rfl,rfl⟩))
  go_ret
  exact ⟨rfl,_,rfl⟩
end
section
open Go.RowKit
set_option maxHeartbeats 1000000
theorem fcell {W w1:World} (hb:Below W.heap.size W w1):(∀ b o,b<W.heap.size->w1.cell? ⟨b,o,none⟩=W.cell? ⟨b,o,none⟩)/\(∀ b o,b<W.heap.size->w1.frozen? ⟨b,o,none⟩=W.frozen? ⟨b,o,none⟩):=
 ⟨fun b o h=>hb.cell (p:=⟨b,o,none⟩) h,fun b o h=>hb.frozen (p:=⟨b,o,none⟩) h⟩
def I64 (n:Int):Prop := -9223372036854775808<=n/\n<=9223372036854775807
theorem Check_any (aB aS aZ:Addr) (n d:Int) (w:World) (hn:I64 n) (hd:I64 d) (h:E3 aB aS aZ w) :
  Calls Tryz.prog 198 #[.agg #[.int .i64 n,.int .i64 d]] w fun e w'=>e=.returned (er aB aS aZ (chk n d))/\Below w.heap.size w w':=by
 obtain ⟨n1,n2⟩:=hn
 obtain ⟨d1,d2⟩:=hd
 go_enter Tryz.func198,Tryz.ntmps198
 go_wp2_with (go_at_call 247;refine (check_any aB aS aZ _ _ _ n1 n2 d1 d2 ?_).mono ?_;exact h.alloc _;rintro e w' ⟨rfl,k,rfl⟩)
 go_ret
 exact ⟨rfl,below_drewN ((Below.refl _ _).alloc Nat.le.refl _) _⟩
theorem er_cases (aB aS aZ:Addr) {c:Nat} (h:c=2\/c=3):∃ a,er aB aS aZ c=.iface 409 (.pointer (some a)):=by
 rcases h with rfl | rfl
 ·exact ⟨aB,rfl⟩
 ·exact ⟨aS,rfl⟩
theorem er_0 (aB aS aZ:Addr):er aB aS aZ 0=.nilIface:=rfl
theorem checkBoth_any (aB aS aZ:Addr) (n d m f:Int) (w:World) (hn:I64 n) (hd:I64 d) (hm:I64 m) (hf:I64 f) (h:E3 aB aS aZ w) :
  Calls Tryz.prog 263 #[.agg #[.int .i64 n,.int .i64 d],.agg #[.int .i64 m,.int .i64 f]] w fun e w'=>e=.returned (er aB aS aZ (if chk n d≠0 then chk n d else chk m f))/\Below w.heap.size w w':=by
 by_cases hc:chk n d=0
 ·rw [if_neg (by simp [hc])]
  have HC:Hid (chk n d=0):=hc
  clear hc
  go_enter Tryz.func263,Tryz.ntmps263
  go_wp2_with (first | (go_at_call 198;refine (Check_any aB aS aZ _ _ _ (by assumption) (by assumption) ?_).mono ?_;exact (h.alloc _).alloc _;rintro e w1 ⟨he,hb⟩;rw [HC.out,er_0] at he;subst he;obtain ⟨hx,hy⟩:=fcell hb) | (go_at_call 198;refine (Check_any aB aS aZ _ _ _ (by assumption) (by assumption) ?_).mono ?_;exact ((h.alloc _).alloc _).below hb Nat.le.refl;rintro e w2 ⟨rfl,hb2⟩))
  go_ret
  exact ⟨rfl,(((Below.refl _ _).alloc Nat.le.refl _).alloc (by simp) _).trans ((hb.mono (by simp;omega)).trans (hb2.mono (by have:=hb.size;simp at this;omega)))⟩
 ·rw [if_pos hc]
  obtain ⟨a,ha⟩:=er_cases aB aS aZ (show chk n d=2\/chk n d=3 by rcases chk_cases n d with h | h | h <;> simp_all)
  have HC:Hid (er aB aS aZ (chk n d)=_):=ha
  rw [ha]
  clear hc ha
  go_enter Tryz.func263,Tryz.ntmps263
  go_wp2_with (go_at_call 198;refine (Check_any aB aS aZ _ _ _ (by assumption) (by assumption) ?_).mono ?_;exact (h.alloc _).alloc _;rintro e w1 ⟨he,hb⟩;rw [HC.out] at he;subst he)
  go_ret
  exact ⟨rfl,(((Below.refl _ _).alloc Nat.le.refl _).alloc (by simp) _).trans (hb.mono (by simp;omega))⟩
structure Two (w:World) (b:Nat) (x y:Value):Prop where
 c0:w.cell? ⟨b,0,none⟩=some x
 c1:w.cell? ⟨b,1,none⟩=some y
 f0:w.frozen? ⟨b,0,none⟩=false
 f1:w.frozen? ⟨b,1,none⟩=false
theorem Two.below {w w':World} {b B:Nat} {x y:Value} (h:Two w b x y) (hb:Below B w w') (hB:w.heap.size<=B):Two w' b x y:=by
 have hl:b<B:=Nat.lt_of_lt_of_le (cell_lt h.c0) hB
 exact ⟨(hb.cell (p:=⟨b,0,none⟩) hl).trans h.c0,(hb.cell (p:=⟨b,1,none⟩) hl).trans h.c1,(hb.frozen (p:=⟨b,0,none⟩) hl).trans h.f0,(hb.frozen (p:=⟨b,1,none⟩) hl).trans h.f1⟩
theorem Two.new (w:World) (x y:Value) (t:TypeId):Two (w.alloc (.cells #[x,y] t)) w.heap.size x y:=⟨by simp,by simp,by simp,by simp⟩
theorem Two.alloc {w:World} {b:Nat} {x y:Value} (h:Two w b x y) (o:Obj):Two (w.alloc o) b x y:=h.below ((Below.refl w.heap.size w).alloc Nat.le.refl o) Nat.le.refl
theorem Two.drewN {w:World} {b:Nat} {x y:Value} (h:Two w b x y) (k:Nat):Two (w.drewN k) b x y:=⟨h.c0,h.c1,h.f0,h.f1⟩
theorem three {w w1:World} {x0 x1 y0 y1 z0 z1:Value} {t t' t'':TypeId} (hb:Below (((w.alloc (.cells #[x0,x1] t)).alloc (.cells #[y0,y1] t')).alloc (.cells #[z0,z1] t'')).heap.size (((w.alloc (.cells #[x0,x1] t)).alloc (.cells #[y0,y1] t')).alloc (.cells #[z0,z1] t'')) w1) :
  Two w1 w.heap.size x0 x1/\Two w1 (w.heap.size+1) y0 y1/\Two w1 (w.heap.size+1+1) z0 z1/\Below w.heap.size w w1/\w.heap.size+1+1+1<=w1.heap.size:=by
 refine ⟨(((Two.new w x0 x1 t).alloc _).alloc _).below hb Nat.le.refl,?_,?_,?_,by have:=hb.size;simpa using this⟩
 ·have:=((Two.new (w.alloc (.cells #[x0,x1] t)) y0 y1 t').alloc (.cells #[z0,z1] t'')).below hb Nat.le.refl
  simpa using this
 ·have:=(Two.new ((w.alloc (.cells #[x0,x1] t)).alloc (.cells #[y0,y1] t')) z0 z1 t'').below hb Nat.le.refl
  simpa using this
 ·exact ((((Below.refl _ _).alloc Nat.le.refl _).alloc (by simp) _).alloc (by simp;omega) _).trans (hb.mono (by simp;omega))
end
section
open Go.RowKit
set_option maxHeartbeats 1000000
theorem divisor_at (a b g:Nat) (w:World) (ha:a<=18446744073709551615) (hb:b<=18446744073709551615) (hg:Nat.gcd a b=g) :
  Calls Tryz.prog 282 #[.int .u64 a,.int .u64 b] w fun e w'=>e=.returned (.int .u64 g)/\∃ k,w'=w.drewN k:=by
 subst hg;exact divisor_any a b w ha hb
theorem gcd_parts (n d:Int) (n1 : -9223372036854775807<=n) (n2:n<=9223372036854775807) (d1:0<d) (d2:d<=9223372036854775807) :
  ∃ (g:Nat) (p q:Int),Nat.gcd n.natAbs d.natAbs=g/\1<=(g:Int)/\(g:Int)<=9223372036854775807/\n.tdiv g=p/\d / g=q/\
   -9223372036854775807<=p/\p<=9223372036854775807/\0<=q/\q<=9223372036854775807/\low n d=(if isBig p=true\/isBig q=true then ⟨0,0,2⟩ else ⟨p,q,0⟩):=by
 have hp:=gcdI_pos (n:=n) (d:=d) (by omega)
 have hle:gcdI n d<=d.natAbs:=Nat.gcd_le_right _ (by omega)
 obtain ⟨x,hx⟩:=gcdI_dvd_left n d
 obtain ⟨y,hy⟩:=gcdI_dvd_right n d
 have h0:(gcdI n d:Int)≠0:=by omega
 have ex:n / (gcdI n d:Int)=x:=by rw [Int.ediv_eq_iff_eq_mul_right h0 (gcdI_dvd_left n d)];exact hx
 have ey:d / (gcdI n d:Int)=y:=by rw [Int.ediv_eq_iff_eq_mul_right h0 (gcdI_dvd_right n d)];exact hy
 have et:n.tdiv (gcdI n d:Int)=x:=by
  generalize (gcdI n d:Int)=g at *
  rw [hx,Int.mul_tdiv_cancel_left _ h0]
 have bx:x.natAbs<=n.natAbs:=by
  have:n.natAbs=gcdI n d * x.natAbs:=by rw [hx,Int.natAbs_mul,<- hx];simp
  rw [this]
  exact Nat.le_mul_of_pos_left _ hp
 have yb:0<=y/\y<=d:=by
  rw [<- ey]
  exact ⟨Int.ediv_nonneg (by omega) (by omega),Int.ediv_le_self _ (by omega)⟩
 refine ⟨gcdI n d,x,y,rfl,by omega,by omega,et,ey,by omega,by omega,by omega,by omega,?_⟩
 unfold low lowP
 rw [if_neg (by omega),ex,ey]
theorem low_neg {n d:Int} (h:d<0):low n d=low (-n) (-d):=by unfold low;rw [if_pos h,if_neg (by omega)]
theorem lowest_pos (aB aS aZ:Addr) (n d:Int) (w:World) (n1 : -9223372036854775807<=n) (n2:n<=9223372036854775807) (d1:0<d) (d2:d<=9223372036854775807) (h:E3 aB aS aZ w) :
  Calls Tryz.prog 271 #[.int .i64 n,.int .i64 d] w fun e w'=>e=.returned (.tuple #[.agg #[.int .i64 (low n d).n,.int .i64 (low n d).d],er aB aS aZ (low n d).c])/\Below w.heap.size w w':=by
 obtain ⟨g,p,q,hg,g1,g2,hp,hq,p1,p2,q1,q2,hl⟩:=gcd_parts n d n1 n2 d1 d2
 have HL:Hid (low n d=_):=hl
 have HG:Hid (Nat.gcd n.natAbs d.natAbs=g):=hg
 clear hl hg
 have hcB:=(h.alloc (.cells #[.int .i64 0,.int .i64 0] 52)).b
 have hlt:=cell_lt h.b
 simp only at hlt
 have hne:¬ w.heap.size=6:=by omega
 have hne':¬ 6=w.heap.size:=by omega
 go_enter Tryz.func271,Tryz.ntmps271
 go_wp2_with (first | (go_at_call 283;refine (size_any _ _ (by omega) (by omega)).mono ?_;rintro e w' ⟨rfl,rfl⟩) | (go_at_call 282;refine (divisor_at _ _ g _ (by omega) (by omega) HG.out).mono ?_;rintro e w' ⟨rfl,k,rfl⟩))
 go_quiet (fail)
 rw [hq]
 clear hp hq
 by_cases b1:isBig p=true
 ·go_wp2_with (go_at_call 284;refine (tooGreat_any _ _ (by omega) (by omega)).mono ?_;rintro e w' ⟨rfl,rfl⟩)
  go_region
  go_wp2
  refine bodyPost_ret (v:=.tuple #[.agg #[.int .i64 0,.int .i64 0],.iface 409 (.pointer (some aB))]) (by simp [results,Tryz.results271,go_sem]) rfl ⟨by rw [HL.out,if_pos (Or.inl b1)];rfl,?_⟩
  exact ((below_drewN ((Below.refl _ _).alloc Nat.le.refl _) _).setCell (by simp) _).setCell (by simp) _
 ·have b1:isBig p=false:=by simpa using b1
  by_cases b2:isBig q=true
  ·go_wp2_with (go_at_call 284;refine (tooGreat_any _ _ (by omega) (by omega)).mono ?_;rintro e w' ⟨rfl,rfl⟩)
   go_region
   go_wp2
   refine bodyPost_ret (v:=.tuple #[.agg #[.int .i64 0,.int .i64 0],.iface 409 (.pointer (some aB))]) (by simp [results,Tryz.results271,go_sem]) rfl ⟨by rw [HL.out,if_pos (Or.inr b2)];rfl,?_⟩
   exact ((below_drewN ((Below.refl _ _).alloc Nat.le.refl _) _).setCell (by simp) _).setCell (by simp) _
  ·have b2:isBig q=false:=by simpa using b2
   go_wp2_with (go_at_call 284;refine (tooGreat_any _ _ (by omega) (by omega)).mono ?_;rintro e w' ⟨rfl,rfl⟩)
   refine bodyPost_ret (v:=.tuple #[.agg #[.int .i64 p,.int .i64 q],.nilIface]) (by simp [results,Tryz.results271,go_sem]) rfl ⟨by rw [HL.out,if_neg (by simp [b1,b2])];rfl,?_⟩
   exact ((below_drewN ((Below.refl _ _).alloc Nat.le.refl _) _).setCell (by simp) _).setCell (by simp) _
theorem lowest_neg (aB aS aZ:Addr) (n d:Int) (w:World) (n1 : -9223372036854775807<=n) (n2:n<=9223372036854775807) (d1:d<0) (d2 : -9223372036854775807<=d) (h:E3 aB aS aZ w) :
  Calls Tryz.prog 271 #[.int .i64 n,.int .i64 d] w fun e w'=>e=.returned (.tuple #[.agg #[.int .i64 (low n d).n,.int .i64 (low n d).d],er aB aS aZ (low n d).c])/\Below w.heap.size w w':=by
 obtain ⟨g,p,q,hg,g1,g2,hp,hq,p1,p2,q1,q2,hl⟩:=gcd_parts (-n) (-d) (by omega) (by omega) (by omega) (by omega)
 have HL:Hid (low n d=_):=(low_neg d1).trans hl
 have HG:Hid (Nat.gcd (-n).natAbs (-d).natAbs=g):=hg
 have hq':wrap64 (-(d.tdiv g))=q:=by
  rw [<- Int.neg_tdiv,Int.tdiv_eq_ediv_of_nonneg (by omega),hq]
  exact IntWalk.wrap64_in q ⟨by omega,q2⟩
 clear hl hg hq
 have hcB:=(h.alloc (.cells #[.int .i64 0,.int .i64 0] 52)).b
 have hlt:=cell_lt h.b
 simp only at hlt
 have hne:¬ w.heap.size=6:=by omega
 have hne':¬ 6=w.heap.size:=by omega
 go_enter Tryz.func271,Tryz.ntmps271
 go_wp2_with (first | (go_at_call 283;refine (size_any _ _ (by omega) (by omega)).mono ?_;rintro e w' ⟨rfl,rfl⟩) | (go_at_call 282;refine (divisor_at _ _ g _ (by omega) (by omega) (by first | exact HG.out | simpa using HG.out)).mono ?_;rintro e w' ⟨rfl,k,rfl⟩))
 go_quiet (fail)
 try rw [hq']
 clear hp hq'
 by_cases b1:isBig p=true
 ·go_wp2_with (go_at_call 284;refine (tooGreat_any _ _ (by omega) (by omega)).mono ?_;rintro e w' ⟨rfl,rfl⟩)
  go_region
  go_wp2
  refine bodyPost_ret (v:=.tuple #[.agg #[.int .i64 0,.int .i64 0],.iface 409 (.pointer (some aB))]) (by simp [results,Tryz.results271,go_sem]) rfl ⟨by rw [HL.out,if_pos (Or.inl b1)];rfl,?_⟩
  exact ((below_drewN ((Below.refl _ _).alloc Nat.le.refl _) _).setCell (by simp) _).setCell (by simp) _
 ·have b1:isBig p=false:=by simpa using b1
  by_cases b2:isBig q=true
  ·go_wp2_with (go_at_call 284;refine (tooGreat_any _ _ (by omega) (by omega)).mono ?_;rintro e w' ⟨rfl,rfl⟩)
   go_region
   go_wp2
   refine bodyPost_ret (v:=.tuple #[.agg #[.int .i64 0,.int .i64 0],.iface 409 (.pointer (some aB))]) (by simp [results,Tryz.results271,go_sem]) rfl ⟨by rw [HL.out,if_pos (Or.inr b2)];rfl,?_⟩
   exact ((below_drewN ((Below.refl _ _).alloc Nat.le.refl _) _).setCell (by simp) _).setCell (by simp) _
  ·have b2:isBig q=false:=by simpa using b2
   go_wp2_with (go_at_call 284;refine (tooGreat_any _ _ (by omega) (by omega)).mono ?_;rintro e w' ⟨rfl,rfl⟩)
   refine bodyPost_ret (v:=.tuple #[.agg #[.int .i64 p,.int .i64 q],.nilIface]) (by simp [results,Tryz.results271,go_sem]) rfl ⟨by rw [HL.out,if_neg (by simp [b1,b2])];rfl,?_⟩
   exact ((below_drewN ((Below.refl _ _).alloc Nat.le.refl _) _).setCell (by simp) _).setCell (by simp) _
theorem lowest_any (aB aS aZ:Addr) (n d:Int) (w:World) (n1 : -9223372036854775807<=n) (n2:n<=9223372036854775807) (d0:d≠0) (d1 : -9223372036854775807<=d) (d2:d<=9223372036854775807) (h:E3 aB aS aZ w) :
  Calls Tryz.prog 271 #[.int .i64 n,.int .i64 d] w fun e w'=>e=.returned (.tuple #[.agg #[.int .i64 (low n d).n,.int .i64 (low n d).d],er aB aS aZ (low n d).c])/\Below w.heap.size w w':=by
 rcases Int.lt_or_gt_of_ne d0 with h0 | h0
 ·exact lowest_neg aB aS aZ n d w n1 n2 h0 d1 h
 ·exact lowest_pos aB aS aZ n d w n1 n2 h0 d2 h
end
section
open Go.RowKit
set_option maxHeartbeats 1000000
theorem mul_bound {a b:Int} (ha:a.natAbs<=1073741824) (hb:b.natAbs<=1073741824) : -1152921504606846976<=a * b/\a * b<=1152921504606846976:=by
 have:(a * b).natAbs<=1073741824 * 1073741824:=by rw [Int.natAbs_mul];exact Nat.mul_le_mul ha hb
 omega
theorem i64_in {n:Int} (h1 : -9223372036854775808<=n) (h2:n<=9223372036854775807):IntKind.i64.wrap n=n:=by
 simp [IntKind.wrap,IntKind.bits,IntKind.signed];omega
theorem sum_any (aB aS aZ:Addr) (an ad bn bd:Int) (w:World) (ha:chk an ad=0) (hb:chk bn bd=0) (h:E3 aB aS aZ w) :
  Calls Tryz.prog 264 #[.agg #[.int .i64 an,.int .i64 ad],.agg #[.int .i64 bn,.int .i64 bd]] w fun e w'=>e=.returned (.tuple #[.agg #[.int .i64 (add an ad bn bd).n,.int .i64 (add an ad bn bd).d],er aB aS aZ (add an ad bn bd).c])/\Below w.heap.size w w':=by
 have hadd:add an ad bn bd=low (an * bd+bn * ad) (ad * bd):=by unfold add;rw [if_neg (by simp [ha]),if_neg (by simp [hb])]
 rw [hadd]
 obtain ⟨a1,_,a3,a4⟩:=chk_zero.1 ha
 obtain ⟨b1,_,b3,b4⟩:=chk_zero.1 hb
 have m1:=mul_bound a3 b4
 have m2:=mul_bound b3 a4
 have m3:=mul_bound a4 b4
 have m0:ad * bd≠0:=Int.mul_ne_zero (by omega) (by omega)
 obtain ⟨m11,m12⟩:=m1
 obtain ⟨m21,m22⟩:=m2
 obtain ⟨m31,m32⟩:=m3
 have hw1:IntKind.i64.wrap (an * bd+bn * ad)=an * bd+bn * ad:=i64_in (by omega) (by omega)
 have hn1:¬ w.heap.size+1+1=w.heap.size:=by omega
 have hn2:¬ w.heap.size=w.heap.size+1+1:=by omega
 clear ha hb hadd a1 a3 a4 b1 b3 b4
 go_enter Tryz.func264,Tryz.ntmps264
 go_wp2
 go_region_held3 (fun w'=>w'.cell? ⟨w.heap.size,0,none⟩=some (.int .i64 an)/\w'.cell? ⟨w.heap.size,1,none⟩=some (.int .i64 ad)/\w'.cell? ⟨w.heap.size+1,0,none⟩=some (.int .i64 bn)/\w'.cell? ⟨w.heap.size+1,1,none⟩=some (.int .i64 bd)) (go_keep) (first | (go_at_call 272;refine (times_any _ _ _ (by omega) (by omega)).mono ?_;rintro e w' ⟨rfl,rfl⟩) | (go_at_call 271;refine (lowest_any aB aS aZ _ _ _ (by omega) (by omega) m0 (by omega) (by omega) ?_).mono ?_;exact (((h.alloc _).alloc _).alloc _).drewN 1;rintro e w' ⟨rfl,hb⟩;obtain ⟨hx,hy⟩:=fcell hb;have hx0:=hx w.heap.size 0 (by simp;omega);have hx1:=hx w.heap.size 1 (by simp;omega)))
 go_wp2
 have hx2:=hx (w.heap.size+1+1) 0 (by simp)
 have hx3:=hx (w.heap.size+1+1) 1 (by simp)
 refine bodyPost_ret (v:=.tuple #[.agg #[.int .i64 (low (an * bd+bn * ad) (ad * bd)).n,.int .i64 (low (an * bd+bn * ad) (ad * bd)).d],er aB aS aZ (low (an * bd+bn * ad) (ad * bd)).c]) (by simp [results,Tryz.results264,go_sem,hx2,hx3]) rfl ⟨rfl,?_⟩
 exact ((((((Below.refl _ _).alloc Nat.le.refl _).alloc (by simp) _).alloc (by simp;omega) _).drew.trans (hb.mono (by simp;omega))).setCell (by simp;omega) _).setCell (by simp;omega) _
def chk2 (an ad bn bd:Int):Nat:=if chk an ad≠0 then chk an ad else chk bn bd
theorem chk2_cases (an ad bn bd:Int):(chk an ad=0/\chk bn bd=0)\/(chk2 an ad bn bd=2\/chk2 an ad bn bd=3):=by
 unfold chk2
 rcases chk_cases an ad with h | h | h <;> rcases chk_cases bn bd with h' | h' | h' <;> simp [h,h']
theorem add_err {an ad bn bd:Int} (h:¬ (chk an ad=0/\chk bn bd=0)):add an ad bn bd=⟨0,0,chk2 an ad bn bd⟩:=by
 unfold add chk2;by_cases h1:chk an ad=0 <;> by_cases h2:chk bn bd=0 <;> simp_all
theorem mul_err {an ad bn bd:Int} (h:¬ (chk an ad=0/\chk bn bd=0)):mul an ad bn bd=⟨0,0,chk2 an ad bn bd⟩:=by
 unfold mul chk2;by_cases h1:chk an ad=0 <;> by_cases h2:chk bn bd=0 <;> simp_all
theorem checkBoth_ok (aB aS aZ:Addr) (n d m f:Int) (w:World) (hn:I64 n) (hd:I64 d) (hm:I64 m) (hf:I64 f) (h:E3 aB aS aZ w) (h1:chk n d=0) (h2:chk m f=0) :
  Calls Tryz.prog 263 #[.agg #[.int .i64 n,.int .i64 d],.agg #[.int .i64 m,.int .i64 f]] w fun e w'=>e=.returned .nilIface/\Below w.heap.size w w':=by
 have:=checkBoth_any aB aS aZ n d m f w hn hd hm hf h
 rw [if_neg (by simp [h1]),h2] at this
 exact this
theorem checkBoth_no (aB aS aZ:Addr) (n d m f:Int) (a:Addr) (w:World) (hn:I64 n) (hd:I64 d) (hm:I64 m) (hf:I64 f) (h:E3 aB aS aZ w) (ha:er aB aS aZ (chk2 n d m f)=.iface 409 (.pointer (some a))) :
  Calls Tryz.prog 263 #[.agg #[.int .i64 n,.int .i64 d],.agg #[.int .i64 m,.int .i64 f]] w fun e w'=>e=.returned (.iface 409 (.pointer (some a)))/\Below w.heap.size w w':=by
 rw [<- ha];exact checkBoth_any aB aS aZ n d m f w hn hd hm hf h
theorem i64_of_chk {n d:Int} (h:chk n d=0):I64 n/\I64 d:=by
 obtain ⟨_,_,h3,h4⟩:=chk_zero.1 h
 exact ⟨⟨by omega,by omega⟩,⟨by omega,by omega⟩⟩
theorem AddF_any (aB aS aZ:Addr) (an ad bn bd:Int) (w:World) (i1:I64 an) (i2:I64 ad) (i3:I64 bn) (i4:I64 bd) (h:E3 aB aS aZ w) :
  Calls Tryz.prog 215 #[.agg #[.int .i64 an,.int .i64 ad],.agg #[.int .i64 bn,.int .i64 bd]] w fun e w'=>e=.returned (.tuple #[.agg #[.int .i64 (add an ad bn bd).n,.int .i64 (add an ad bn bd).d],er aB aS aZ (add an ad bn bd).c])/\Below w.heap.size w w':=by
 rcases chk2_cases an ad bn bd with ⟨ha,hb⟩ | hbad
 ·have HA:Hid (chk an ad=0):=ha
  have HB:Hid (chk bn bd=0):=hb
  clear ha hb
  go_enter Tryz.func215,Tryz.ntmps215
  go_wp2_with (first | (go_at_call 263;refine (checkBoth_ok aB aS aZ _ _ _ _ _ i1 i2 i3 i4 ?_ HA.out HB.out).mono ?_;exact ((h.alloc _).alloc _).alloc _;rintro e w1 ⟨rfl,hb⟩;obtain ⟨⟨p1,p2,p3,p4⟩,⟨q1,q2,q3,q4⟩,⟨r1,r2,r3,r4⟩,hw,hz⟩:=three hb;clear hb) | (go_at_call 264;refine (sum_any aB aS aZ _ _ _ _ _ HA.out HB.out ?_).mono ?_;exact h.below hw Nat.le.refl;rintro e w2 ⟨rfl,hb2⟩;obtain ⟨s1,s2,s3,s4⟩:=Two.below ⟨r1,r2,r3,r4⟩ hb2 Nat.le.refl))
  refine bodyPost_ret (v:=.tuple #[.agg #[.int .i64 (add an ad bn bd).n,.int .i64 (add an ad bn bd).d],er aB aS aZ (add an ad bn bd).c]) (by simp [results,Tryz.results215,go_sem,s1,s2]) rfl ⟨rfl,?_⟩
  exact ((hw.trans (hb2.mono (by omega))).setCell (by simp;omega) _).setCell (by simp;omega) _
 ·obtain ⟨a,ha⟩:=er_cases aB aS aZ hbad
  have hr:=add_err (an:=an) (ad:=ad) (bn:=bn) (bd:=bd) (by rintro ⟨h1,h2⟩;unfold chk2 at hbad;simp [h1,h2] at hbad)
  rw [hr,ha]
  have HA:Hid (er aB aS aZ (chk2 an ad bn bd)=.iface 409 (.pointer (some a))):=ha
  clear ha hr hbad
  go_enter Tryz.func215,Tryz.ntmps215
  go_wp2_with (go_at_call 263;refine (checkBoth_no aB aS aZ _ _ _ _ a _ i1 i2 i3 i4 ?_ HA.out).mono ?_;exact ((h.alloc _).alloc _).alloc _;rintro e w1 ⟨rfl,hb⟩;obtain ⟨⟨p1,p2,p3,p4⟩,⟨q1,q2,q3,q4⟩,⟨r1,r2,r3,r4⟩,hw,hz⟩:=three hb;clear hb)
  refine bodyPost_ret (v:=.tuple #[.agg #[.int .i64 0,.int .i64 0],.iface 409 (.pointer (some a))]) (by simp [results,Tryz.results215,go_sem,r1,r2]) rfl ⟨rfl,?_⟩
  exact (hw.setCell (by simp;omega) _).setCell (by simp;omega) _
end
section
open Go.RowKit
set_option maxHeartbeats 1000000
theorem tmod_facts (p q:Int) (hq:q≠0) (q1 : -9223372036854775807<=q) (q2:q<=9223372036854775807):∃ r,p.tmod q=r /\ -9223372036854775807<=r/\r<=9223372036854775807/\Nat.gcd q.natAbs r.natAbs=Nat.gcd p.natAbs q.natAbs/\r.natAbs<q.natAbs:=by
 have e:(p.tmod q).natAbs=p.natAbs % q.natAbs:=Int.natAbs_tmod p q
 have hl:=Nat.mod_lt p.natAbs (show 0<q.natAbs by omega)
 refine ⟨_,rfl,by omega,by omega,?_,by omega⟩
 rw [e,Nat.gcd_comm q.natAbs,<- Nat.gcd_rec,Nat.gcd_comm]
theorem Divisor_any (a b:Int) (w:World) (ha:I64 a) (b1:1<=b) (b2:b<=9223372036854775807) :
  Calls Tryz.prog 127 #[.int .i64 a,.int .i64 b] w fun e w'=>e=.returned (.int .i64 (gcdI a b:Nat))/\w'=w:=by
 obtain ⟨a1,a2⟩:=ha
 go_enter Tryz.func127,Tryz.ntmps127
 go_wp2
 go_loop [0,1] (fun x y=>∃ p q:Int, -9223372036854775808<=p/\p<=9223372036854775807 /\ -9223372036854775807<=q/\q<=9223372036854775807/\x=.int .i64 p/\y=.int .i64 q/\Nat.gcd p.natAbs q.natAbs=gcdI a b/\(q=0 -> -9223372036854775807<=p)) (fun _ y=>(intOf y).natAbs)
 case atStart=>exact ⟨a,b,a1,a2,by omega,b2,rfl,rfl,rfl,by omega⟩
 case round=>
  obtain ⟨p,q,p1,p2,q1,q2,rfl,rfl,hg,hz⟩:=hrel
  have HG:Hid (Nat.gcd p.natAbs q.natAbs=gcdI a b):=hg
  clear hg
  by_cases h0:q=0
  ·subst h0
   have hp:=hz rfl
   clear hz
   by_cases hn:p<0
   ·go_wp2
    go_ret
    exact ⟨ret_int (by have:=HG.out;simp at this;omega),rfl⟩
   ·go_wp2
    go_ret
    exact ⟨ret_int (by have:=HG.out;simp at this;omega),rfl⟩
  ·obtain ⟨r,hr,r1,r2,hgr,hlt⟩:=tmod_facts p q h0 q1 q2
   have HR:Hid (Nat.gcd q.natAbs r.natAbs=Nat.gcd p.natAbs q.natAbs):=hgr
   have HL:Hid (r.natAbs<q.natAbs):=hlt
   have hw:wrap64 r=r:=IntWalk.wrap64_in r ⟨by omega,r2⟩
   clear hgr hlt hz
   go_wp2
   go_round
   case rel=>exact ⟨q,r,by omega,q2,r1,r2,rfl,by first | rfl | rw [hr],HR.out.trans HG.out,by omega⟩
   case measure=>have:=HL.out;simp [intOf];omega
theorem isSmall_any (n:Int) (w:World) :
  Calls Tryz.prog 128 #[.int .i64 n] w fun e w'=>e=.returned (.bool (!isBig n))/\w'=w:=by
 by_cases h1 : -1073741824<=n
 ·by_cases h2:n<=1073741824
  ·have hb:isBig n=false:=isBig_false.2 (by omega)
   rw [hb];clear hb
   go_enter Tryz.func128,Tryz.ntmps128
   go_wp2
   go_ret
   exact ⟨rfl,rfl⟩
  ·have hb:isBig n=true:=isBig_true.2 (by omega)
   rw [hb];clear hb
   go_enter Tryz.func128,Tryz.ntmps128
   go_wp2
   go_ret
   exact ⟨rfl,rfl⟩
 ·have hb:isBig n=true:=isBig_true.2 (by omega)
  rw [hb];clear hb
  go_enter Tryz.func128,Tryz.ntmps128
  go_wp2
  go_ret
  exact ⟨rfl,rfl⟩
theorem Divisor_at (a b g:Int) (w:World) (ha:I64 a) (b1:1<=b) (b2:b<=9223372036854775807) (hg:((gcdI a b:Nat):Int)=g) :
  Calls Tryz.prog 127 #[.int .i64 a,.int .i64 b] w fun e w'=>e=.returned (.int .i64 g)/\w'=w:=by
 subst hg;exact Divisor_any a b w ha b1 b2
theorem isSmall_at (n:Int) (b:Bool) (w:World) (h:(!isBig n)=b) :
  Calls Tryz.prog 128 #[.int .i64 n] w fun e w'=>e=.returned (.bool b)/\w'=w:=by
 subst h;exact isSmall_any n w
theorem FracError_any (n d:Int) (w:World) (hn:I64 n) (hd:I64 d) :
  Calls Tryz.prog 91 #[.agg #[.int .i64 n,.int .i64 d]] w fun e w'=>e=.returned (.int .i64 (chk n d:Nat))/\Below w.heap.size w w':=by
 have hB:∀ o,Below w.heap.size w (w.alloc o):=fun o=>(Below.refl _ _).alloc Nat.le.refl o
 have HB:Hid (∀ o,Below w.heap.size w (w.alloc o)):=hB
 clear hB
 obtain ⟨d1,d2⟩:=id hd
 by_cases hd1:d<1
 ·have hc:chk n d=3:=by unfold chk;rw [if_pos (Or.inl hd1)]
  rw [hc];clear hc
  go_enter Tryz.func91,Tryz.ntmps91
  go_wp2
  go_ret
  exact ⟨rfl,HB.out _⟩
 by_cases hg:gcdI n d=1
 ·have HG:Hid (((gcdI n d:Nat):Int)=1):=by show _=_;omega
  rcases Bool.eq_false_or_eq_true (isBig n) with b1 | b1
  ·have hc:chk n d=2:=by unfold chk;rw [if_neg (by rintro (h | h);exact hd1 h;exact h hg),if_pos (Or.inl b1)]
   rw [hc];clear hc hg
   have B1:Hid ((!isBig n)=false):=by show _=_;rw [b1];rfl
   clear b1
   go_enter Tryz.func91,Tryz.ntmps91
   go_wp2_with (first | (go_at_call 127;refine (Divisor_at _ _ 1 _ hn (by omega) d2 HG.out).mono ?_;rintro e w' ⟨rfl,rfl⟩) | (go_at_call_of 128 (Value.int IntKind.i64 n);refine (isSmall_at _ false _ B1.out).mono ?_;rintro e w' ⟨rfl,rfl⟩) | (go_at_call 128;refine (isSmall_any _ _).mono ?_;rintro e w' ⟨rfl,rfl⟩))
   go_ret
   exact ⟨rfl,HB.out _⟩
  ·rcases Bool.eq_false_or_eq_true (isBig d) with b2 | b2
   ·have hc:chk n d=2:=by unfold chk;rw [if_neg (by rintro (h | h);exact hd1 h;exact h hg),if_pos (Or.inr b2)]
    rw [hc];clear hc hg
    go_enter Tryz.func91,Tryz.ntmps91
    go_wp2_with (first | (go_at_call 127;refine (Divisor_at _ _ 1 _ hn (by omega) d2 HG.out).mono ?_;rintro e w' ⟨rfl,rfl⟩) | (go_at_call 128;refine (isSmall_any _ _).mono ?_;rintro e w' ⟨rfl,rfl⟩))
    go_ret
    exact ⟨rfl,HB.out _⟩
   ·have hc:chk n d=0:=by unfold chk;rw [if_neg (by rintro (h | h);exact hd1 h;exact h hg),if_neg (by simp [b1,b2])]
    rw [hc];clear hc hg
    go_enter Tryz.func91,Tryz.ntmps91
    go_wp2_with (first | (go_at_call 127;refine (Divisor_at _ _ 1 _ hn (by omega) d2 HG.out).mono ?_;rintro e w' ⟨rfl,rfl⟩) | (go_at_call 128;refine (isSmall_any _ _).mono ?_;rintro e w' ⟨rfl,rfl⟩))
    go_ret
    exact ⟨rfl,HB.out _⟩
 ·have hc:chk n d=3:=by unfold chk;rw [if_pos (Or.inr hg)]
  obtain ⟨g,hgg⟩:∃ g:Int,((gcdI n d:Nat):Int)=g:=⟨_,rfl⟩
  have hg1:(g != 1)=true:=by simp;omega
  have HG:Hid (((gcdI n d:Nat):Int)=g):=hgg
  rw [hc];clear hc hg hgg
  go_enter Tryz.func91,Tryz.ntmps91
  go_wp2_with (go_at_call 127;refine (Divisor_at _ _ g _ hn (by omega) d2 HG.out).mono ?_;rintro e w' ⟨rfl,rfl⟩)
  go_ret
  exact ⟨rfl,HB.out _⟩
end
end Go.Proofs.YtgphclgmmocdhaaGreatDoor

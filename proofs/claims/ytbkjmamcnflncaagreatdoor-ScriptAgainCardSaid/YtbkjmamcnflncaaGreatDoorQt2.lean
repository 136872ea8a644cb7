import Derived.Test.YtbkjmamcnflncaaGreatDoorProg
import Derived.WalkSpells
import Derived.WalkLawsBesides
import Derived.BigQuiet
import Derived.Deep.RegionHeld3
import Derived.Test.YtbkjmamcnflncaaGreatDoorQtb
namespace Go.Proofs.YtbkjmamcnflncaaGreatDoor
open Go.Proofs.Tryz
set_option maxHeartbeats 1000000
variable{n d p q:Int}{w:ai}
section
def kF (n:Int):Bool:=decide (1073741824<n.natAbs)
theorem kK :kF n=true↔1073741824<n.natAbs:=by simp[kF]
def ji (n d:Int):Nat:=Nat.gcd n.natAbs d.natAbs
def fV (n d:Int):Nat:=if d<1\/ji n d≠1 then 3 else if kF n=true\/kF d=true then 2 else 0
theorem gU :fV n d=0↔1<=d/\ji n d=1/\n.natAbs<=1073741824/\d.natAbs<=1073741824:=by
 unfold fV;constructor
 .intro h;split at h
  .cases h
  .rename_i b;split at h
   .cases h
   .rename_i a;rw[kK,kK] at a;omega
 .rintro⟨b,a,c,e⟩;rw[aG (by rintro(h|h);omega;exact h a),aG (by rw[kK,kK];omega)]
theorem iD (n d:Int):fV n d=0\/fV n d=2\/fV n d=3:=by
 unfold fV;grind
structure R3 where
 n:Int
 d:Int
 c:Nat
def Mx (n d:Int):R3:=
 if kF (n/ji n d)=true\/kF (d/ji n d)=true then⟨0,0,2⟩ else⟨n/ji n d,d/ji n d,0⟩
def low (n d:Int):R3:=if d<0 then Mx (-n) (-d) else Mx n d
theorem FW {n d:Int}(h:d≠0):0<ji n d:=Nat.gcd_pos_of_pos_right _ aa
theorem lN (n d:Int):(ji n d:Int)∣ n:=Int.ofNat_dvd_left.2 (Nat.gcd_dvd_left _ _)
theorem iV (n d:Int):(ji n d:Int)∣ d:=Int.ofNat_dvd_left.2 (Nat.gcd_dvd_right _ _)
theorem a1s {n d:Int}(h:d≠0):ji (n/ji n d) (d/ji n d)=1:=by
 have a:=FW (n:=n) h;have b:(n/(ji n d:Int)).natAbs=n.natAbs/ji n d:=by
  rw[Int.natAbs_ediv_of_dvd (lN n d)];simp
 have c:(d/(ji n d:Int)).natAbs=d.natAbs/ji n d:=by
  rw[Int.natAbs_ediv_of_dvd (iV n d)];simp
 show Nat.gcd _ _=1;rw[b,c];exact Nat.coprime_div_gcd_div_gcd a
theorem a1t {n d:Int}:n/ji n d*d=n*(d/ji n d):=by
 obtain⟨x,b⟩:=lN n d;obtain⟨y,c⟩:=iV n d;rcases Nat.eq_zero_or_pos (ji n d) with e|f
 .grind
 .have a:(ji n d:Int)≠0:=aa;have g:n/(ji n d:Int)=x:=by rw[Int.ediv_eq_iff_eq_mul_right a (lN n d)];exact b
  have h:d/(ji n d:Int)=y:=by rw[Int.ediv_eq_iff_eq_mul_right a (iV n d)];exact c
  grind
theorem unique {b a:Int}(j:1<=d)(c:ji n d=1)(k:1<=a)(f:ji b a=1)(e:n*a=b*d):n=b/\d=a:=by
 have g:d.natAbs∣ a.natAbs:=by
  have:d.natAbs∣ n.natAbs*a.natAbs:=by rw[<- Int.natAbs_mul,e,Int.natAbs_mul];exact Nat.dvd_mul_left _ _
  exact Nat.Coprime.dvd_of_dvd_mul_left (show Nat.gcd _ _=1 by rw[Nat.gcd_comm];exact c) this
 have h:a.natAbs∣ d.natAbs:=by
  have:a.natAbs∣ b.natAbs*d.natAbs:=by rw[<- Int.natAbs_mul,<- e,Int.natAbs_mul];exact Nat.dvd_mul_left _ _
  exact Nat.Coprime.dvd_of_dvd_mul_left (show Nat.gcd _ _=1 by rw[Nat.gcd_comm];exact f) this
 have i:d=a:=by have:=Nat.dvd_antisymm g h;omega
 subst i;exact⟨Int.eq_of_mul_eq_mul_right aa e,rfl⟩
theorem FX :Mx n d=⟨0,0,2⟩\/(Mx n d).c=0:=by
 unfold Mx;split<;>simp
theorem KH {n d:Int}(o:0<d):Mx n d=⟨p,q,0⟩↔fV p q=0/\p*d=n*q:=by
 have r:=FW (n:=n) (d:=d) aa;have b:1<=d/(ji n d:Int):=by
  obtain⟨y,e⟩:=iV n d;have a:d/(ji n d:Int)=y:=by rw[Int.ediv_eq_iff_eq_mul_right aa (iV n d)];exact e
  rw[a];rcases Int.lt_or_le 0 y with h|h
  .omega
  .have:=Int.mul_nonpos_of_nonneg_of_nonpos (show(0:Int)<=ji n d by omega) h;omega
 have c:=a1s (n:=n) (d:=d) aa;have f:=a1t (n:=n) (d:=d);constructor
 .intro h;unfold Mx at h;split at h
  .cases h
  .rename_i g;rw[kK,kK] at g;simp only[R3.mk.injEq] at h;obtain⟨rfl,rfl,_⟩:=h;exact⟨gU.2 ⟨b,c,aa,aa⟩,f⟩
 .rintro⟨i,s⟩;obtain⟨j,k,t,u⟩:=gU.1 i;have l:n/(ji n d:Int)*q=p*(d/(ji n d:Int)):=by
   apply Int.eq_of_mul_eq_mul_right (show d≠0 by omega);grind
  obtain⟨m,a⟩:=unique b c j k l;unfold Mx;rw[m,a,aG (by rw[kK,kK];omega)]
theorem C8 {n d:Int}:low n d=⟨0,0,2⟩\/(low n d).c=0:=by
 unfold low;split
 .exact FX
 .exact FX
theorem OP (a:d≠0):low n d=⟨p,q,0⟩↔fV p q=0/\p*d=n*q:=by
 unfold low;split
 .rw[KH aa];grind
 .exact KH aa
def add (an ad bn bd:Int):R3:=if fV an ad≠0 then⟨0,0,fV an ad⟩ else if fV bn bd≠0 then⟨0,0,fV bn bd⟩ else low (an*bd+bn*ad) (ad*bd)
def mul (an ad bn bd:Int):R3:=if fV an ad≠0 then⟨0,0,fV an ad⟩ else if fV bn bd≠0 then⟨0,0,fV bn bd⟩ else low (an*bn) (ad*bd)
theorem FY {an ad bn bd:Int}:add an ad bn bd=⟨p,q,0⟩↔fV an ad=0/\fV bn bd=0/\fV p q=0/\p*(ad*bd)=(an*bd+bn*ad)*q:=by
 unfold add;by_cases a:fV an ad=0
 .by_cases b:fV bn bd=0
  .have c:ad*bd≠0:=by
    have:=(gU.1 a).1;have:=(gU.1 b).1;exact Int.mul_ne_zero aa aa
   simp[a,b,OP c]
  .simp[a,b]
 .simp[a]
theorem a1u {an ad bn bd:Int}:mul an ad bn bd=⟨p,q,0⟩↔fV an ad=0/\fV bn bd=0/\fV p q=0/\p*(ad*bd)=(an*bn)*q:=by
 unfold mul;by_cases a:fV an ad=0
 .by_cases b:fV bn bd=0
  .have c:ad*bd≠0:=by
    have:=(gU.1 a).1;have:=(gU.1 b).1;exact Int.mul_ne_zero aa aa
   simp[a,b,OP c]
  .simp[a,b]
 .simp[a]
def JJ (n:Int):Int:=if n<0 then -1 else if 0<n then 1 else 0
end
open Go.RowKit
theorem pR {k:IntKind}{a b:Int}(h:a=b):Ending.returned (.int k a)=ay (.int k b):=by rw[h]
theorem Ae {a b:Bool}(h:a=b):Ending.returned (.bool a)=ay (.bool b):=by rw[h]
structure E3 (aB aS aZ:Addr)(w:ai):Prop where
 b:w.cell? (aJ 0 0)=some (aU 453 (.pointer (some aB)))
 s:w.cell? (aJ 2 0)=some (aU 453 (.pointer (some aS)))
 q:aZ=aZ
theorem aX {w:ai}{a:Addr}{v:ax}(h:w.cell? a=some v):a.block<w.heap.size:=by
 rcases Nat.lt_or_ge a.block w.heap.size with b|b
 .exact b
 .simp[World.cell?,qK b] at h
theorem E3.below {aB aS aZ:Addr}{w w':ai}{B:Nat}(h:E3 aB aS aZ w)(a:Below B w w')(b:w.heap.size<=B):E3 aB aS aZ w':=
 ⟨(a.cell (fK (aX h.b) b)).trans h.b,(a.cell (fK (aX h.s) b)).trans h.s,rfl⟩
theorem E3.drewN {aB aS aZ:Addr}(h:E3 aB aS aZ w)(k:Nat):E3 aB aS aZ (w.drewN k):=⟨h.b,h.s,rfl⟩
theorem E3.alloc {aB aS aZ:Addr}(h:E3 aB aS aZ w)(o:Obj):E3 aB aS aZ (w.alloc o):=
 h.below ((aW w.heap.size w).alloc az o) az
structure EZ (aZ:Addr)(w:ai):Prop where
 z:w.cell? (aJ 10 0)=some (aU 453 (.pointer (some aZ)))
def er (aB aS aZ:Addr):Nat->ax
 |2=>aU 453 (.pointer (some aB))
 |3=>aU 453 (.pointer (some aS))
 |11=>aU 453 (.pointer (some aZ))
 |_=>aY
theorem qQ (n:Int)(w:ai)(a: -9223372036854775808<=n)(b:n<=9223372036854775807):
  aL 316 #[ag n] w λe w'=>e=ay (.int .u64 n.natAbs)/\w'=w:=by
 by_cases h:n<0
 .go_enter func316,ntmps316;go_wp2;go_ret;exact⟨pR (by rw[IntKind.wrap_u64,IntKind.wrap_u64];omega),rfl⟩
 .go_enter func316,ntmps316;go_wp2;go_ret;exact⟨pR aa,rfl⟩
theorem oV (a b:Nat)(w:ai)(i:a<=18446744073709551615)(j:b<=18446744073709551615):
  aL 315 #[.int .u64 a,.int .u64 b] w λe w'=>e=ay (.int .u64 (Nat.gcd a b:Nat))/\∃k,w'=w.drewN k:=by
 go_enter func315,ntmps315;go_wp2
 go_loopw [0,1] (λx y wr=>∃p q:Nat,p<=18446744073709551615/\q<=18446744073709551615/\x=.int .u64 p/\y=.int .u64 q/\Nat.gcd p q=Nat.gcd a b/\∃k,wr=w.drewN k) (λ_ y _=>(intOf y).toNat)
 case atStart=>exact⟨a,b,i,j,rfl,rfl,rfl,0,rfl⟩
 case round=>
  obtain⟨p,q,m,l,rfl,rfl,d,k,rfl⟩:=hrel;have f:=aF d;clear d;by_cases g:q=0
  .subst g;go_wp2;go_ret;exact⟨pR (by have:=f.out;simp at this;omega),k,rfl⟩
  .have c:=Nat.mod_lt p (Nat.pos_of_ne_zero g);have h:=aF c;clear c;go_wp2
   go_quiet (fail)
   go_wp2
   go_roundw
   case rel=>exact⟨q,p % q,l,by have:=h.out;omega,rfl,by go_num,by rw[<- f.out,Nat.gcd_comm p q,Nat.gcd_comm q (p % q)];exact(Nat.gcd_rec _ _).symm,_,World.drewN_drewN _ _ _⟩
   case measure=>have:=h.out;simp[intOf];omega
theorem iA (n:Int)(w:ai)(a: -9223372036854775808<=n)(b:n<=9223372036854775807):
  aL 317 #[ag n] w λe w'=>e=ay (.bool (kF n))/\w'=w:=by
 go_enter func317,ntmps317;go_wp2_with(go_at_call 316;refine(qQ _ _ a b).mono ?_;rintro e w' ⟨rfl,rfl⟩);go_ret;exact⟨Ae (by unfold kF;rw[decide_eq_decide];omega),rfl⟩
theorem KI (a b:Int)(w:ai)(c: -9223372036854775808<=a*b)(d:a*b<=9223372036854775807):
  aL 360 #[ag a,ag b] w λe w'=>e=ay (ag (a*b))/\w'=w:=by
 go_enter func360,ntmps360;go_wp2;go_ret;exact⟨rfl,rfl⟩
theorem C9 (aB aS aZ:Addr)(n d:Int)(w:ai)(j: -9223372036854775808<=n)(l:n<=9223372036854775807)(m: -9223372036854775808<=d)(o:d<=9223372036854775807)(h:E3 aB aS aZ w):
  aL 253 #[ag n,ag d] w λe w'=>e=ay (er aB aS aZ (fV n d))/\∃k,w'=w.drewN k:=by
 obtain⟨p,hS,_⟩:=h;by_cases c:d<1
 .have a:fV n d=3:=by unfold fV;rw[aR (Or.inl c)]
  rw[a];go_enter func253,ntmps253;go_wp2;go_ret;exact⟨rfl,0,rfl⟩
 by_cases b:ji n d=1
 .have i:((Nat.gcd n.natAbs d.natAbs:Nat):Int)=1:=by unfold ji at b;omega
  by_cases f:kF n=true
  .have a:fV n d=2:=by unfold fV;rw[aG (by rintro(h|h);exact c h;exact h b),aR (Or.inl f)]
   rw[a];clear a b;go_enter func253,ntmps253;go_wp2_with(first|(go_at_call 316;refine(qQ _ _ gm gm).mono ?_;rintro e w' ⟨rfl,rfl⟩)|(go_at_call 315;refine(oV _ _ _ aa aa).mono ?_;rintro e w' ⟨rfl,k,rfl⟩)|(go_at_call 317;refine(iA _ _ gm gm).mono ?_;rintro e w' ⟨rfl,rfl⟩));go_ret;exact⟨rfl,_,rfl⟩
  .have f:kF n=false:=by simpa using f
   by_cases g:kF d=true
   .have a:fV n d=2:=by unfold fV;rw[aG (by rintro(h|h);exact c h;exact h b),aR (Or.inr g)]
    rw[a];clear a b;go_enter func253,ntmps253;go_wp2_with(first|(go_at_call 316;refine(qQ _ _ gm gm).mono ?_;rintro e w' ⟨rfl,rfl⟩)|(go_at_call 315;refine(oV _ _ _ aa aa).mono ?_;rintro e w' ⟨rfl,k,rfl⟩)|(go_at_call 317;refine(iA _ _ gm gm).mono ?_;rintro e w' ⟨rfl,rfl⟩));go_ret;exact⟨rfl,_,rfl⟩
   .have g:kF d=false:=by simpa using g
    have a:fV n d=0:=by unfold fV;rw[aG (by rintro(h|h);exact c h;exact h b),aG (by simp[f,g])]
    rw[a];clear a b;go_enter func253,ntmps253;go_wp2_with(first|(go_at_call 316;refine(qQ _ _ gm gm).mono ?_;rintro e w' ⟨rfl,rfl⟩)|(go_at_call 315;refine(oV _ _ _ aa aa).mono ?_;rintro e w' ⟨rfl,k,rfl⟩)|(go_at_call 317;refine(iA _ _ gm gm).mono ?_;rintro e w' ⟨rfl,rfl⟩));go_ret;exact⟨rfl,_,rfl⟩
 .have a:fV n d=3:=by unfold fV;rw[aR (Or.inr b)]
  have i:((((Nat.gcd n.natAbs d.natAbs:Nat):Int)) !=1)=true:=by unfold ji at b;simp;omega
  rw[a];clear a b;go_enter func253,ntmps253;go_wp2_with(first|(go_at_call 316;refine(qQ _ _ gm gm).mono ?_;rintro e w' ⟨rfl,rfl⟩)|(go_at_call 315;refine(oV _ _ _ aa aa).mono ?_;rintro e w' ⟨rfl,k,rfl⟩)|(go_at_call 317;refine(iA _ _ gm gm).mono ?_;rintro e w' ⟨rfl,rfl⟩));go_ret;exact⟨rfl,_,rfl⟩
theorem a9H {W a:ai}(c:aD W a):(∀b o,b<W.heap.size->a.cell? (aJ b o)=W.cell? (aJ b o))/\(∀b o,b<W.heap.size->a.frozen? ⟨b,o,none⟩=W.frozen? ⟨b,o,none⟩):=
 ⟨λb o h=>c.cell (p:=⟨b,o,none⟩) h,λb o h=>c.frozen (p:=⟨b,o,none⟩) h⟩
def kU (n:Int):Prop:= -9223372036854775808<=n/\n<=9223372036854775807
theorem kZ (aB aS aZ:Addr)(n d:Int)(w:ai)(a:kU n)(b:kU d)(h:E3 aB aS aZ w):
  aL 185 #[.agg #[ag n,ag d]] w λe w'=>e=ay (er aB aS aZ (fV n d))/\aD w w':=by
 obtain⟨c,f⟩:=a;obtain⟨g,i⟩:=b;go_enter func185,ntmps185;go_wp2_with(go_at_call 253;refine(C9 aB aS aZ _ _ _ c f g i ?_).mono ?_;exact h.alloc _;rintro e w' ⟨rfl,k,rfl⟩);go_ret;exact⟨rfl,below_drewN ((aW _ _).alloc az _) _⟩
theorem jy (aB aS aZ:Addr){c:Nat}(h:c=2\/c=3):∃a,er aB aS aZ c=aU 453 (.pointer (some a)):=by
 rcases h with rfl|rfl
 .exact⟨aB,rfl⟩
 .exact⟨aS,rfl⟩
theorem wF (aB aS aZ:Addr):er aB aS aZ 0=aY:=rfl
theorem yI (aB aS aZ:Addr)(n d m f:Int)(w:ai)(o:kU n)(p:kU d)(q:kU m)(r:kU f)(h:E3 aB aS aZ w):
  aL 352 #[.agg #[ag n,ag d],.agg #[ag m,ag f]] w λe w'=>e=ay (er aB aS aZ (if fV n d≠0 then fV n d else fV m f))/\aD w w':=by
 by_cases c:fV n d=0
 .rw[aG (by simp[c])];have i:=aF c;clear c;go_enter func352,ntmps352;go_wp2_with(first|(go_at_call 185;refine(kZ aB aS aZ _ _ _ gm gm ?_).mono ?_;exact(h.alloc _).alloc _;rintro e l ⟨g,b⟩;rw[i.out,wF] at g;subst g;obtain⟨s,t⟩:=a9H b)|(go_at_call 185;refine(kZ aB aS aZ _ _ _ gm gm ?_).mono ?_;exact((h.alloc _).alloc _).below b az;rintro e u ⟨rfl,j⟩));go_ret;exact⟨rfl,(((aW _ _).alloc az _).alloc aI _).trans ((b.mono bq).trans (j.mono (by have:=b.size;simp at this;omega)))⟩
 .rw[aR c];obtain⟨a,k⟩:=jy aB aS aZ (show fV n d=2\/fV n d=3 by rcases iD n d with h|h|h<;>simp_all);have i:=aF k;rw[k];clear c k;go_enter func352,ntmps352;go_wp2_with(go_at_call 185;refine(kZ aB aS aZ _ _ _ gm gm ?_).mono ?_;exact(h.alloc _).alloc _;rintro e l ⟨g,b⟩;rw[i.out] at g;subst g);go_ret;exact⟨rfl,(((aW _ _).alloc az _).alloc aI _).trans (b.mono bq)⟩
structure Two (w:ai)(b:Nat)(x y:ax):Prop where
 c0:w.cell? (aJ b 0)=some x
 c1:w.cell? (aJ b 1)=some y
 f0:w.frozen? ⟨b,0,none⟩=false
 f1:w.frozen? ⟨b,1,none⟩=false
theorem Two.below {w w':ai}{b B:Nat}{x y:ax}(h:Two w b x y)(a:Below B w w')(d:w.heap.size<=B):Two w' b x y:=by
 have c:b<B:=fK (aX h.c0) d;exact⟨(a.cell (p:=⟨b,0,none⟩) c).trans h.c0,(a.cell (p:=⟨b,1,none⟩) c).trans h.c1,(a.frozen (p:=⟨b,0,none⟩) c).trans h.f0,(a.frozen (p:=⟨b,1,none⟩) c).trans h.f1⟩
theorem Two.new (w:ai)(x y:ax)(t:TypeId):Two (w.alloc (ak #[x,y] t)) w.heap.size x y:=⟨aI,aI,aI,aI⟩
theorem Two.alloc {b:Nat}{x y:ax}(h:Two w b x y)(o:Obj):Two (w.alloc o) b x y:=h.below ((aW w.heap.size w).alloc az o) az
theorem Two.drewN {b:Nat}{x y:ax}(h:Two w b x y)(k:Nat):Two (w.drewN k) b x y:=⟨h.c0,h.c1,h.f0,h.f1⟩
theorem three {b:ai}{c d e f g h:ax}{t j a:TypeId}(i:Below (((w.alloc (ak #[c,d] t)).alloc (ak #[e,f] j)).alloc (ak #[g,h] a)).heap.size (((w.alloc (ak #[c,d] t)).alloc (ak #[e,f] j)).alloc (ak #[g,h] a)) b):
  Two b w.heap.size c d/\Two b (w.heap.size+1) e f/\Two b (w.heap.size+1+1) g h/\aD w b/\w.heap.size+1+1+1<=b.heap.size:=by
 refine⟨(((Two.new w c d t).alloc _).alloc _).below i az,?_,?_,?_,by have:=i.size;simpa using this⟩
 .have:=((Two.new (w.alloc (ak #[c,d] t)) e f j).alloc (ak #[g,h] a)).below i az;simpa using this
 .have:=(Two.new ((w.alloc (ak #[c,d] t)).alloc (ak #[e,f] j)) g h a).below i az;simpa using this
 .exact((((aW _ _).alloc az _).alloc aI _).alloc bq _).trans (i.mono bq)
theorem FZ (a b g:Nat)(w:ai)(c:a<=18446744073709551615)(d:b<=18446744073709551615)(f:Nat.gcd a b=g):
  aL 315 #[.int .u64 a,.int .u64 b] w λe w'=>e=ay (.int .u64 g)/\∃k,w'=w.drewN k:=by
 subst f;exact oV a b w c d
theorem KJ (n d:Int)(j: -9223372036854775807<=n)(k:n<=9223372036854775807)(l:0<d)(m:d<=9223372036854775807):
  ∃(g:Nat) (p q:Int),Nat.gcd n.natAbs d.natAbs=g/\1<=(g:Int)/\(g:Int)<=9223372036854775807/\n.tdiv g=p/\d/g=q/\
   -9223372036854775807<=p/\p<=9223372036854775807/\0<=q/\q<=9223372036854775807/\low n d=(if kF p=true\/kF q=true then⟨0,0,2⟩ else⟨p,q,0⟩):=by
 have e:=FW (n:=n) (d:=d) aa;have f:ji n d<=d.natAbs:=Nat.gcd_le_right _ aa;obtain⟨x,a⟩:=lN n d;obtain⟨y,h⟩:=iV n d;have b:(ji n d:Int)≠0:=aa;have o:n/(ji n d:Int)=x:=by rw[Int.ediv_eq_iff_eq_mul_right b (lN n d)];exact a
 have c:d/(ji n d:Int)=y:=by rw[Int.ediv_eq_iff_eq_mul_right b (iV n d)];exact h
 have i:n.tdiv (ji n d:Int)=x:=by
  generalize (ji n d:Int)=g at*;rw[a,Int.mul_tdiv_cancel_left _ b]
 have r:x.natAbs<=n.natAbs:=by
  have:n.natAbs=ji n d*x.natAbs:=by rw[a,Int.natAbs_mul,<- a];simp
  rw[this];exact Nat.le_mul_of_pos_left _ e
 have s:0<=y/\y<=d:=by
  rw[<- c];exact⟨Int.ediv_nonneg aa aa,Int.ediv_le_self _ aa⟩
 refine⟨ji n d,x,y,rfl,aa,aa,i,c,aa,aa,aa,aa,?_⟩;unfold low Mx;grind
theorem a6d (h:d<0):low n d=low (-n) (-d):=by unfold low;rw[aR h,aG aa]
theorem U5 (aB aS aZ:Addr)(n d:Int)(w:ai)(m: -9223372036854775807<=n)(o:n<=9223372036854775807)(r:0<d)(s:d<=9223372036854775807)(h:E3 aB aS aZ w):
  aL 359 #[ag n,ag d] w λe w'=>e=ay (aH #[.agg #[ag (low n d).n,ag (low n d).d],er aB aS aZ (low n d).c])/\aD w w':=by
 obtain⟨g,p,q,i,y,z,t,j,A,B,C,D,l⟩:=KJ n d m o r s;have c:=aF l;have u:=aF i;clear l i;have x:=(h.alloc (ak #[ag 0,ag 0] 163)).b;have f:=aX h.b;simp only at f;go_enter func359,ntmps359;go_wp2_with(first|(go_at_call 316;refine(qQ _ _ aa aa).mono ?_;rintro e w' ⟨rfl,rfl⟩)|(go_at_call 315;refine(FZ _ _ g _ aa aa u.out).mono ?_;rintro e w' ⟨rfl,k,rfl⟩))
 go_quiet (fail)
 rw[j];clear t j;by_cases a:kF p=true
 .go_wp2_with(go_at_call 317;refine(iA _ _ aa aa).mono ?_;rintro e w' ⟨rfl,rfl⟩);go_region;go_wp2;refine bg (v:=aH #[.agg #[ag 0,ag 0],aU 453 (.pointer (some aB))]) (by simp[results,results359,go_sem]) rfl ⟨by rw[c.out,aR (Or.inl a)];rfl,?_⟩;exact((below_drewN ((aW _ _).alloc az _) _).setCell aI _).setCell aI _
 .have a:kF p=false:=by simpa using a
  by_cases b:kF q=true
  .go_wp2_with(go_at_call 317;refine(iA _ _ aa aa).mono ?_;rintro e w' ⟨rfl,rfl⟩);go_region;go_wp2;refine bg (v:=aH #[.agg #[ag 0,ag 0],aU 453 (.pointer (some aB))]) (by simp[results,results359,go_sem]) rfl ⟨by rw[c.out,aR (Or.inr b)];rfl,?_⟩;exact((below_drewN ((aW _ _).alloc az _) _).setCell aI _).setCell aI _
  .have b:kF q=false:=by simpa using b
   go_wp2_with(go_at_call 317;refine(iA _ _ aa aa).mono ?_;rintro e w' ⟨rfl,rfl⟩);refine bg (v:=aH #[.agg #[ag p,ag q],aY]) (by simp[results,results359,go_sem]) rfl ⟨by rw[c.out,aG (by simp[a,b])];rfl,?_⟩;exact((below_drewN ((aW _ _).alloc az _) _).setCell aI _).setCell aI _
theorem U6 (aB aS aZ:Addr)(n d:Int)(w:ai)(x: -9223372036854775807<=n)(y:n<=9223372036854775807)(r:d<0)(z: -9223372036854775807<=d)(h:E3 aB aS aZ w):
  aL 359 #[ag n,ag d] w λe w'=>e=ay (aH #[.agg #[ag (low n d).n,ag (low n d).d],er aB aS aZ (low n d).c])/\aD w w':=by
 obtain⟨g,p,q,j,A,B,s,l,C,D,E,t,m⟩:=KJ (-n) (-d) aa aa aa aa;have f:Hid (low n d=_):=(a6d r).trans m;have o:=aF j;have a:wrap64 (-(d.tdiv g))=q:=by
  rw[<- Int.neg_tdiv,Int.tdiv_eq_ediv_of_nonneg aa,l];exact IntWalk.wrap64_in q ⟨aa,t⟩
 clear m j l;have u:=(h.alloc (ak #[ag 0,ag 0] 163)).b;have i:=aX h.b;simp only at i;go_enter func359,ntmps359;go_wp2_with(first|(go_at_call 316;refine(qQ _ _ aa aa).mono ?_;rintro e w' ⟨rfl,rfl⟩)|(go_at_call 315;refine(FZ _ _ g _ aa aa (by first|exact o.out|simpa using o.out)).mono ?_;rintro e w' ⟨rfl,k,rfl⟩))
 go_quiet (fail)
 try rw[a]
 clear s a;by_cases b:kF p=true
 .go_wp2_with(go_at_call 317;refine(iA _ _ aa aa).mono ?_;rintro e w' ⟨rfl,rfl⟩);go_region;go_wp2;refine bg (v:=aH #[.agg #[ag 0,ag 0],aU 453 (.pointer (some aB))]) (by simp[results,results359,go_sem]) rfl ⟨by rw[f.out,aR (Or.inl b)];rfl,?_⟩;exact((below_drewN ((aW _ _).alloc az _) _).setCell aI _).setCell aI _
 .have b:kF p=false:=by simpa using b
  by_cases c:kF q=true
  .go_wp2_with(go_at_call 317;refine(iA _ _ aa aa).mono ?_;rintro e w' ⟨rfl,rfl⟩);go_region;go_wp2;refine bg (v:=aH #[.agg #[ag 0,ag 0],aU 453 (.pointer (some aB))]) (by simp[results,results359,go_sem]) rfl ⟨by rw[f.out,aR (Or.inr c)];rfl,?_⟩;exact((below_drewN ((aW _ _).alloc az _) _).setCell aI _).setCell aI _
  .have c:kF q=false:=by simpa using c
   go_wp2_with(go_at_call 317;refine(iA _ _ aa aa).mono ?_;rintro e w' ⟨rfl,rfl⟩);refine bg (v:=aH #[.agg #[ag p,ag q],aY]) (by simp[results,results359,go_sem]) rfl ⟨by rw[f.out,aG (by simp[b,c])];rfl,?_⟩;exact((below_drewN ((aW _ _).alloc az _) _).setCell aI _).setCell aI _
theorem G6 (aB aS aZ:Addr)(n d:Int)(w:ai)(b: -9223372036854775807<=n)(c:n<=9223372036854775807)(f:d≠0)(g: -9223372036854775807<=d)(i:d<=9223372036854775807)(h:E3 aB aS aZ w):
  aL 359 #[ag n,ag d] w λe w'=>e=ay (aH #[.agg #[ag (low n d).n,ag (low n d).d],er aB aS aZ (low n d).c])/\aD w w':=by
 rcases Int.lt_or_gt_of_ne f with a|a
 .exact U6 aB aS aZ n d w b c a g h
 .exact U5 aB aS aZ n d w b c a i h
theorem tF {a b:Int}(c:a.natAbs<=1073741824)(d:b.natAbs<=1073741824): -1152921504606846976<=a*b/\a*b<=1152921504606846976:=by
 have:(a*b).natAbs<=1073741824*1073741824:=by rw[Int.natAbs_mul];exact Nat.mul_le_mul c d
 omega
theorem i64_in (a: -9223372036854775808<=n)(b:n<=9223372036854775807):IntKind.i64.wrap n=n:=by
 simp[IntKind.wrap,IntKind.bits,IntKind.signed];omega
theorem a6e (aB aS aZ:Addr)(an ad bn bd:Int)(w:ai)(d:fV an ad=0)(b:fV bn bd=0)(h:E3 aB aS aZ w):
  aL 353 #[.agg #[ag an,ag ad],.agg #[ag bn,ag bd]] w λe w'=>e=ay (aH #[.agg #[ag (add an ad bn bd).n,ag (add an ad bn bd).d],er aB aS aZ (add an ad bn bd).c])/\aD w w':=by
 have a:add an ad bn bd=low (an*bd+bn*ad) (ad*bd):=by unfold add;rw[aG (by simp[d]),aG (by simp[b])]
 rw[a];obtain⟨m,_,k,f⟩:=gU.1 d;obtain⟨n,_,l,g⟩:=gU.1 b;have o:=tF k g;have p:=tF l f;have q:=tF f g;have r:ad*bd≠0:=Int.mul_ne_zero aa aa;obtain⟨s,t⟩:=o;obtain⟨u,x⟩:=p;obtain⟨y,z⟩:=q;have A:IntKind.i64.wrap (an*bd+bn*ad)=an*bd+bn*ad:=i64_in aa aa;have B:¬w.heap.size+1+1=w.heap.size:=aa;clear d b a m k f n l g;go_enter func353,ntmps353;go_wp2
 go_region_held3 (λw'=>w'.cell? ⟨w.heap.size,0,none⟩=some (ag an)/\w'.cell? ⟨w.heap.size,1,none⟩=some (ag ad)/\w'.cell? ⟨w.heap.size+1,0,none⟩=some (ag bn)/\w'.cell? ⟨w.heap.size+1,1,none⟩=some (ag bd)) (go_keep) (first|(go_at_call 360;refine(KI _ _ _ aa aa).mono ?_;rintro e w' ⟨rfl,rfl⟩)|(go_at_call 359;refine(G6 aB aS aZ _ _ _ aa aa r aa aa ?_).mono ?_;exact(((h.alloc _).alloc _).alloc _).drewN 1;rintro e w' ⟨rfl,b⟩;obtain⟨c,E⟩:=a9H b;have C:=c w.heap.size 0 bq;have D:=c w.heap.size 1 bq))
 go_wp2;have i:=c (w.heap.size+1+1) 0 aI;have j:=c (w.heap.size+1+1) 1 aI;refine bg (v:=aH #[.agg #[ag (low (an*bd+bn*ad) (ad*bd)).n,ag (low (an*bd+bn*ad) (ad*bd)).d],er aB aS aZ (low (an*bd+bn*ad) (ad*bd)).c]) (by simp[results,results353,go_sem,i,j]) rfl ⟨rfl,?_⟩;exact((((((aW _ _).alloc az _).alloc aI _).alloc bq _).drew.trans (b.mono bq)).setCell bq _).setCell bq _
def JK (an ad bn bd:Int):Nat:=if fV an ad≠0 then fV an ad else fV bn bd
theorem G8 (an ad bn bd:Int):(fV an ad=0/\fV bn bd=0)\/(JK an ad bn bd=2\/JK an ad bn bd=3):=by
 unfold JK;rcases iD an ad with h|h|h<;>rcases iD bn bd with a|a|a<;>simp[h,a]
theorem a6f {an ad bn bd:Int}(h:¬(fV an ad=0/\fV bn bd=0)):add an ad bn bd=⟨0,0,JK an ad bn bd⟩:=by
 unfold add JK;by_cases a:fV an ad=0<;>by_cases b:fV bn bd=0<;>simp_all
theorem a6g {an ad bn bd:Int}(h:¬(fV an ad=0/\fV bn bd=0)):mul an ad bn bd=⟨0,0,JK an ad bn bd⟩:=by
 unfold mul JK;by_cases a:fV an ad=0<;>by_cases b:fV bn bd=0<;>simp_all
theorem Af (aB aS aZ:Addr)(n d m f:Int)(w:ai)(a:kU n)(b:kU d)(c:kU m)(g:kU f)(h:E3 aB aS aZ w)(i:fV n d=0)(j:fV m f=0):
  aL 352 #[.agg #[ag n,ag d],.agg #[ag m,ag f]] w λe w'=>e=ay aY/\aD w w':=by
 have:=yI aB aS aZ n d m f w a b c g h;rw[aG (by simp[i]),j] at this;exact this
theorem Ag (aB aS aZ:Addr)(n d m f:Int)(a:Addr)(w:ai)(b:kU n)(c:kU d)(g:kU m)(i:kU f)(h:E3 aB aS aZ w)(j:er aB aS aZ (JK n d m f)=aU 453 (.pointer (some a))):
  aL 352 #[.agg #[ag n,ag d],.agg #[ag m,ag f]] w λe w'=>e=ay (aU 453 (.pointer (some a)))/\aD w w':=by
 rw[<- j];exact yI aB aS aZ n d m f w b c g i h
theorem jJ (h:fV n d=0):kU n/\kU d:=by
 obtain⟨_,_,a,b⟩:=gU.1 h;exact⟨⟨aa,aa⟩,⟨aa,aa⟩⟩
theorem G9 (aB aS aZ:Addr)(an ad bn bd:Int)(w:ai)(l:kU an)(m:kU ad)(n:kU bn)(o:kU bd)(h:E3 aB aS aZ w):
  aL 320 #[.agg #[ag an,ag ad],.agg #[ag bn,ag bd]] w λe w'=>e=ay (aH #[.agg #[ag (add an ad bn bd).n,ag (add an ad bn bd).d],er aB aS aZ (add an ad bn bd).c])/\aD w w':=by
 rcases G8 an ad bn bd with⟨d,c⟩|b
 .have g:=aF d;have p:=aF c;clear d c;go_enter func320,ntmps320;go_wp2_with(first|(go_at_call 352;refine(Af aB aS aZ _ _ _ _ _ l m n o ?_ g.out p.out).mono ?_;exact((h.alloc _).alloc _).alloc _;rintro e t ⟨rfl,c⟩;obtain⟨⟨u,x,y,z⟩,⟨A,B,C,D⟩,⟨j,k,q,r⟩,i,E⟩:=three c;clear c)|(go_at_call 353;refine(a6e aB aS aZ _ _ _ _ _ g.out p.out ?_).mono ?_;exact h.below i az;rintro e K ⟨rfl,f⟩;obtain⟨F,H,L,M⟩:=Two.below ⟨j,k,q,r⟩ f az));refine bg (v:=aH #[.agg #[ag (add an ad bn bd).n,ag (add an ad bn bd).d],er aB aS aZ (add an ad bn bd).c]) (by simp[results,results320,go_sem,F,H]) rfl ⟨rfl,?_⟩;exact((i.trans (f.mono aa)).setCell bq _).setCell bq _
 .obtain⟨a,d⟩:=jy aB aS aZ b;have s:=a6f (an:=an) (ad:=ad) (bn:=bn) (bd:=bd) (by rintro⟨I,J⟩;unfold JK at b;simp[I,J] at b);rw[s,d];have g:=aF d;clear d s b;go_enter func320,ntmps320;go_wp2_with(go_at_call 352;refine(Ag aB aS aZ _ _ _ _ a _ l m n o ?_ g.out).mono ?_;exact((h.alloc _).alloc _).alloc _;rintro e t ⟨rfl,c⟩;obtain⟨⟨u,x,y,z⟩,⟨A,B,C,D⟩,⟨j,k,q,r⟩,i,E⟩:=three c;clear c);refine bg (v:=aH #[.agg #[ag 0,ag 0],aU 453 (.pointer (some a))]) (by simp[results,results320,go_sem,j,k]) rfl ⟨rfl,?_⟩;exact(i.setCell bq _).setCell bq _
theorem a6h (aB aS aZ:Addr)(an ad bn bd:Int)(w:ai)(m:kU an)(n:kU ad)(o:kU bn)(p:kU bd)(h:E3 aB aS aZ w):
  aL 329 #[.agg #[ag an,ag ad],.agg #[ag bn,ag bd]] w λe w'=>e=ay (aH #[.agg #[ag (mul an ad bn bd).n,ag (mul an ad bn bd).d],er aB aS aZ (mul an ad bn bd).c])/\aD w w':=by
 rcases G8 an ad bn bd with⟨f,c⟩|b
 .have j:=aF f;have I:=aF c;have g:mul an ad bn bd=low (an*bn) (ad*bd):=by unfold mul;rw[aG (by simp[f]),aG (by simp[c])]
  rw[g];obtain⟨J,_,q,r⟩:=gU.1 f;obtain⟨K,_,s,t⟩:=gU.1 c;obtain⟨L,M⟩:=tF q s;obtain⟨N,O⟩:=tF r t;have P:ad*bd≠0:=Int.mul_ne_zero aa aa;have Q:¬w.heap.size+1+1=w.heap.size:=aa;clear f c g J q r K s t;go_enter func329,ntmps329;go_wp2_with(go_at_call 352;refine(Af aB aS aZ _ _ _ _ _ m n o p ?_ j.out I.out).mono ?_;exact((h.alloc _).alloc _).alloc _;rintro e R ⟨rfl,c⟩;obtain⟨⟨u,x,y,z⟩,⟨A,B,C,D⟩,⟨k,l,E,F⟩,i,S⟩:=three c;clear c)
  go_region_held3 (λw'=>w'.cell? ⟨w.heap.size,0,none⟩=some (ag an)/\w'.cell? ⟨w.heap.size,1,none⟩=some (ag ad)/\w'.cell? ⟨w.heap.size+1,0,none⟩=some (ag bn)/\w'.cell? ⟨w.heap.size+1,1,none⟩=some (ag bd)) (go_keep) (first|(go_at_call 360;refine(KI _ _ _ aa aa).mono ?_;rintro e w' ⟨rfl,rfl⟩)|(go_at_call 359;refine(G6 aB aS aZ _ _ _ aa aa P aa aa ?_).mono ?_;exact(h.below i az).drewN 1;rintro e X ⟨rfl,d⟩;obtain⟨T,U,Y,Z⟩:=Two.below (Two.drewN ⟨k,l,E,F⟩ 1) d az;obtain⟨u1,u2,u3,u4⟩:=Two.below (Two.drewN ⟨u,x,y,z⟩ 1) d az;obtain⟨v1,v2,v3,v4⟩:=Two.below (Two.drewN ⟨A,B,C,D⟩ 1) d az))
  go_wp2;refine bg (v:=aH #[.agg #[ag (low (an*bn) (ad*bd)).n,ag (low (an*bn) (ad*bd)).d],er aB aS aZ (low (an*bn) (ad*bd)).c]) (by simp[results,results329,go_sem,T,U]) rfl ⟨rfl,?_⟩;exact((i.drew.trans (d.mono bq)).setCell bq _).setCell bq _
 .obtain⟨a,f⟩:=jy aB aS aZ b;have H:=a6g (an:=an) (ad:=ad) (bn:=bn) (bd:=bd) (by rintro⟨V,W⟩;unfold JK at b;simp[V,W] at b);rw[H,f];have j:=aF f;clear f H b;go_enter func329,ntmps329;go_wp2_with(go_at_call 352;refine(Ag aB aS aZ _ _ _ _ a _ m n o p ?_ j.out).mono ?_;exact((h.alloc _).alloc _).alloc _;rintro e R ⟨rfl,c⟩;obtain⟨⟨u,x,y,z⟩,⟨A,B,C,D⟩,⟨k,l,E,F⟩,i,S⟩:=three c;clear c);refine bg (v:=aH #[.agg #[ag 0,ag 0],aU 453 (.pointer (some a))]) (by simp[results,results329,go_sem,k,l]) rfl ⟨rfl,?_⟩;exact(i.setCell bq _).setCell bq _

import Derived.WalkSpells
import Derived.WalkLawsBesides
import Derived.BigQuiet
import Derived.Deep.RegionHeld3
import Derived.Test.YtbkjmamcnflncaaGreatDoorQsb
namespace Go.Proofs.YtbkjmamcnflncaaGreatDoor
open Go.Proofs.Tryz
set_option maxHeartbeats 1000000
section
def jV (n:Int):Bool:=decide (1073741824<n.natAbs)
theorem kg {n:Int}:jV n=true↔1073741824<n.natAbs:=by simp[jV]
def iZ (n d:Int):Nat:=Nat.gcd n.natAbs d.natAbs
def fH (n d:Int):Nat:=if d<1\/iZ n d≠1 then 3 else if jV n=true\/jV d=true then 2 else 0
theorem gI {n d:Int}:fH n d=0↔1<=d/\iZ n d=1/\n.natAbs<=1073741824/\d.natAbs<=1073741824:=by
 unfold fH;constructor
 .intro h;split at h
  .cases h
  .rename_i b;split at h
   .cases h
   .rename_i a;rw[kg,kg] at a;omega
 .rintro⟨b,a,c,e⟩;rw[if_neg (by rintro(h|h);omega;exact h a),if_neg (by rw[kg,kg];omega)]
theorem gZ (n d:Int):fH n d=0\/fH n d=2\/fH n d=3:=by
 unfold fH;grind
structure R3 where
 n:Int
 d:Int
 c:Nat
def LG (n d:Int):R3:=
 if jV (n/iZ n d)=true\/jV (d/iZ n d)=true then⟨0,0,2⟩ else⟨n/iZ n d,d/iZ n d,0⟩
def low (n d:Int):R3:=if d<0 then LG (-n) (-d) else LG n d
theorem F6 {n d:Int}(h:d≠0):0<iZ n d:=Nat.gcd_pos_of_pos_right _ aa
theorem lg (n d:Int):(iZ n d:Int)∣ n:=Int.ofNat_dvd_left.2 (Nat.gcd_dvd_left _ _)
theorem iI (n d:Int):(iZ n d:Int)∣ d:=Int.ofNat_dvd_left.2 (Nat.gcd_dvd_right _ _)
theorem a0J {n d:Int}(h:d≠0):iZ (n/iZ n d) (d/iZ n d)=1:=by
 have a:=F6 (n:=n) h;have b:(n/(iZ n d:Int)).natAbs=n.natAbs/iZ n d:=by
  rw[Int.natAbs_ediv_of_dvd (lg n d)];simp
 have c:(d/(iZ n d:Int)).natAbs=d.natAbs/iZ n d:=by
  rw[Int.natAbs_ediv_of_dvd (iI n d)];simp
 show Nat.gcd _ _=1;rw[b,c];exact Nat.coprime_div_gcd_div_gcd a
theorem a0K {n d:Int}:n/iZ n d*d=n*(d/iZ n d):=by
 obtain⟨x,b⟩:=lg n d;obtain⟨y,c⟩:=iI n d;rcases Nat.eq_zero_or_pos (iZ n d) with e|f
 .grind
 .have a:(iZ n d:Int)≠0:=aa;have g:n/(iZ n d:Int)=x:=by rw[Int.ediv_eq_iff_eq_mul_right a (lg n d)];exact b
  have h:d/(iZ n d:Int)=y:=by rw[Int.ediv_eq_iff_eq_mul_right a (iI n d)];exact c
  grind
theorem unique {n d b a:Int}(j:1<=d)(c:iZ n d=1)(k:1<=a)(f:iZ b a=1)(e:n*a=b*d):n=b/\d=a:=by
 have g:d.natAbs∣ a.natAbs:=by
  have:d.natAbs∣ n.natAbs*a.natAbs:=by rw[<- Int.natAbs_mul,e,Int.natAbs_mul];exact Nat.dvd_mul_left _ _
  exact Nat.Coprime.dvd_of_dvd_mul_left (show Nat.gcd _ _=1 by rw[Nat.gcd_comm];exact c) this
 have h:a.natAbs∣ d.natAbs:=by
  have:a.natAbs∣ b.natAbs*d.natAbs:=by rw[<- Int.natAbs_mul,<- e,Int.natAbs_mul];exact Nat.dvd_mul_left _ _
  exact Nat.Coprime.dvd_of_dvd_mul_left (show Nat.gcd _ _=1 by rw[Nat.gcd_comm];exact f) this
 have i:d=a:=by have:=Nat.dvd_antisymm g h;omega
 subst i;exact⟨Int.eq_of_mul_eq_mul_right aa e,rfl⟩
theorem F7 {n d:Int}:LG n d=⟨0,0,2⟩\/(LG n d).c=0:=by
 unfold LG;split<;>simp
theorem JO {n d p q:Int}(o:0<d):LG n d=⟨p,q,0⟩↔fH p q=0/\p*d=n*q:=by
 have r:=F6 (n:=n) (d:=d) aa;have b:1<=d/(iZ n d:Int):=by
  obtain⟨y,e⟩:=iI n d;have a:d/(iZ n d:Int)=y:=by rw[Int.ediv_eq_iff_eq_mul_right aa (iI n d)];exact e
  rw[a];rcases Int.lt_or_le 0 y with h|h
  .omega
  .have:=Int.mul_nonpos_of_nonneg_of_nonpos (show(0:Int)<=iZ n d by omega) h;omega
 have c:=a0J (n:=n) (d:=d) aa;have f:=a0K (n:=n) (d:=d);constructor
 .intro h;unfold LG at h;split at h
  .cases h
  .rename_i g;rw[kg,kg] at g;simp only[R3.mk.injEq] at h;obtain⟨rfl,rfl,_⟩:=h;exact⟨gI.2 ⟨b,c,aa,aa⟩,f⟩
 .rintro⟨i,s⟩;obtain⟨j,k,t,u⟩:=gI.1 i;have l:n/(iZ n d:Int)*q=p*(d/(iZ n d:Int)):=by
   apply Int.eq_of_mul_eq_mul_right (show d≠0 by omega);grind
  obtain⟨m,a⟩:=unique b c j k l;unfold LG;rw[m,a,if_neg (by rw[kg,kg];omega)]
theorem AZ {n d:Int}:low n d=⟨0,0,2⟩\/(low n d).c=0:=by
 unfold low;split
 .exact F7
 .exact F7
theorem O6 {n d p q:Int}(a:d≠0):low n d=⟨p,q,0⟩↔fH p q=0/\p*d=n*q:=by
 unfold low;split
 .rw[JO aa];grind
 .exact JO aa
def add (an ad bn bd:Int):R3:=if fH an ad≠0 then⟨0,0,fH an ad⟩ else if fH bn bd≠0 then⟨0,0,fH bn bd⟩ else low (an*bd+bn*ad) (ad*bd)
def mul (an ad bn bd:Int):R3:=if fH an ad≠0 then⟨0,0,fH an ad⟩ else if fH bn bd≠0 then⟨0,0,fH bn bd⟩ else low (an*bn) (ad*bd)
theorem F8 {an ad bn bd p q:Int}:add an ad bn bd=⟨p,q,0⟩↔fH an ad=0/\fH bn bd=0/\fH p q=0/\p*(ad*bd)=(an*bd+bn*ad)*q:=by
 unfold add;by_cases a:fH an ad=0
 .by_cases b:fH bn bd=0
  .have c:ad*bd≠0:=by
    have:=(gI.1 a).1;have:=(gI.1 b).1;exact Int.mul_ne_zero aa aa
   simp[a,b,O6 c]
  .simp[a,b]
 .simp[a]
theorem a0L {an ad bn bd p q:Int}:mul an ad bn bd=⟨p,q,0⟩↔fH an ad=0/\fH bn bd=0/\fH p q=0/\p*(ad*bd)=(an*bn)*q:=by
 unfold mul;by_cases a:fH an ad=0
 .by_cases b:fH bn bd=0
  .have c:ad*bd≠0:=by
    have:=(gI.1 a).1;have:=(gI.1 b).1;exact Int.mul_ne_zero aa aa
   simp[a,b,O6 c]
  .simp[a,b]
 .simp[a]
def Ja (n:Int):Int:=if n<0 then -1 else if 0<n then 1 else 0
end
open Go.RowKit
theorem oN {k:IntKind}{a b:Int}(h:a=b):Ending.returned (.int k a)=ax (.int k b):=by rw[h]
theorem zC {a b:Bool}(h:a=b):Ending.returned (.bool a)=ax (.bool b):=by rw[h]
structure E3 (aB aS aZ:Addr)(w:ah):Prop where
 b:w.cell? (aH 0 0)=some (aP 453 (.pointer (some aB)))
 s:w.cell? (aH 2 0)=some (aP 453 (.pointer (some aS)))
 q:aZ=aZ
theorem aR {w:ah}{a:Addr}{v:au}(h:w.cell? a=some v):a.block<w.heap.size:=by
 rcases Nat.lt_or_ge a.block w.heap.size with b|b
 .exact b
 .simp[World.cell?,qd b] at h
theorem E3.below {aB aS aZ:Addr}{w w':ah}{B:Nat}(h:E3 aB aS aZ w)(a:Below B w w')(b:w.heap.size<=B):E3 aB aS aZ w':=
 ⟨(a.cell (dP (aR h.b) b)).trans h.b,(a.cell (dP (aR h.s) b)).trans h.s,rfl⟩
theorem E3.drewN {aB aS aZ:Addr}{w:ah}(h:E3 aB aS aZ w)(k:Nat):E3 aB aS aZ (w.drewN k):=⟨h.b,h.s,rfl⟩
theorem E3.alloc {aB aS aZ:Addr}{w:ah}(h:E3 aB aS aZ w)(o:Obj):E3 aB aS aZ (w.alloc o):=
 h.below ((aQ w.heap.size w).alloc ay o) ay
structure EZ (aZ:Addr)(w:ah):Prop where
 z:w.cell? (aH 10 0)=some (aP 453 (.pointer (some aZ)))
def er (aB aS aZ:Addr):Nat->au
 |2=>aP 453 (.pointer (some aB))
 |3=>aP 453 (.pointer (some aS))
 |11=>aP 453 (.pointer (some aZ))
 |_=>aU
theorem qo (n:Int)(w:ah)(a: -9223372036854775808<=n)(b:n<=9223372036854775807):
  aJ 316 #[ag n] w λe w'=>e=ax (.int .u64 n.natAbs)/\w'=w:=by
 by_cases h:n<0
 .go_enter func316,ntmps316;go_wp2;go_ret;exact⟨oN (by rw[IntKind.wrap_u64,IntKind.wrap_u64];omega),rfl⟩
 .go_enter func316,ntmps316;go_wp2;go_ret;exact⟨oN aa,rfl⟩
theorem og (a b:Nat)(w:ah)(i:a<=18446744073709551615)(j:b<=18446744073709551615):
  aJ 315 #[.int .u64 a,.int .u64 b] w λe w'=>e=ax (.int .u64 (Nat.gcd a b:Nat))/\∃k,w'=w.drewN k:=by
 go_enter func315,ntmps315;go_wp2
 go_loopw [0,1] (λx y wr=>∃p q:Nat,p<=18446744073709551615/\q<=18446744073709551615/\x=.int .u64 p/\y=.int .u64 q/\Nat.gcd p q=Nat.gcd a b/\∃k,wr=w.drewN k) (λ_ y _=>(intOf y).toNat)
 case atStart=>exact⟨a,b,i,j,rfl,rfl,rfl,0,rfl⟩
 case round=>
  obtain⟨p,q,m,l,rfl,rfl,d,k,rfl⟩:=hrel;have f:=aA d;clear d;by_cases g:q=0
  .subst g;go_wp2;go_ret;exact⟨oN (by have:=f.out;simp at this;omega),k,rfl⟩
  .have c:=Nat.mod_lt p (Nat.pos_of_ne_zero g);have h:=aA c;clear c;go_wp2
   go_quiet (fail)
   go_wp2
   go_roundw
   case rel=>exact⟨q,p % q,l,by have:=h.out;omega,rfl,by go_num,by rw[<- f.out,Nat.gcd_comm p q,Nat.gcd_comm q (p % q)];exact(Nat.gcd_rec _ _).symm,_,World.drewN_drewN _ _ _⟩
   case measure=>have:=h.out;simp[intOf];omega
theorem gV (n:Int)(w:ah)(a: -9223372036854775808<=n)(b:n<=9223372036854775807):
  aJ 317 #[ag n] w λe w'=>e=ax (.bool (jV n))/\w'=w:=by
 go_enter func317,ntmps317;go_wp2_with(go_at_call 316;refine(qo _ _ a b).mono ?_;rintro e w' ⟨rfl,rfl⟩);go_ret;exact⟨zC (by unfold jV;rw[decide_eq_decide];omega),rfl⟩
theorem JP (a b:Int)(w:ah)(c: -9223372036854775808<=a*b)(d:a*b<=9223372036854775807):
  aJ 360 #[ag a,ag b] w λe w'=>e=ax (ag (a*b))/\w'=w:=by
 go_enter func360,ntmps360;go_wp2;go_ret;exact⟨rfl,rfl⟩
theorem Ba (aB aS aZ:Addr)(n d:Int)(w:ah)(j: -9223372036854775808<=n)(l:n<=9223372036854775807)(m: -9223372036854775808<=d)(o:d<=9223372036854775807)(h:E3 aB aS aZ w):
  aJ 253 #[ag n,ag d] w λe w'=>e=ax (er aB aS aZ (fH n d))/\∃k,w'=w.drewN k:=by
 obtain⟨p,hS,_⟩:=h;by_cases c:d<1
 .have a:fH n d=3:=by unfold fH;rw[if_pos (Or.inl c)]
  rw[a];go_enter func253,ntmps253;go_wp2;go_ret;exact⟨rfl,0,rfl⟩
 by_cases b:iZ n d=1
 .have i:((Nat.gcd n.natAbs d.natAbs:Nat):Int)=1:=by unfold iZ at b;omega
  by_cases f:jV n=true
  .have a:fH n d=2:=by unfold fH;rw[if_neg (by rintro(h|h);exact c h;exact h b),if_pos (Or.inl f)]
   rw[a];clear a b;go_enter func253,ntmps253;go_wp2_with(first|(go_at_call 316;refine(qo _ _ fC fC).mono ?_;rintro e w' ⟨rfl,rfl⟩)|(go_at_call 315;refine(og _ _ _ aa aa).mono ?_;rintro e w' ⟨rfl,k,rfl⟩)|(go_at_call 317;refine(gV _ _ fC fC).mono ?_;rintro e w' ⟨rfl,rfl⟩));go_ret;exact⟨rfl,_,rfl⟩
  .have f:jV n=false:=by simpa using f
   by_cases g:jV d=true
   .have a:fH n d=2:=by unfold fH;rw[if_neg (by rintro(h|h);exact c h;exact h b),if_pos (Or.inr g)]
    rw[a];clear a b;go_enter func253,ntmps253;go_wp2_with(first|(go_at_call 316;refine(qo _ _ fC fC).mono ?_;rintro e w' ⟨rfl,rfl⟩)|(go_at_call 315;refine(og _ _ _ aa aa).mono ?_;rintro e w' ⟨rfl,k,rfl⟩)|(go_at_call 317;refine(gV _ _ fC fC).mono ?_;rintro e w' ⟨rfl,rfl⟩));go_ret;exact⟨rfl,_,rfl⟩
   .have g:jV d=false:=by simpa using g
    have a:fH n d=0:=by unfold fH;rw[if_neg (by rintro(h|h);exact c h;exact h b),if_neg (by simp[f,g])]
    rw[a];clear a b;go_enter func253,ntmps253;go_wp2_with(first|(go_at_call 316;refine(qo _ _ fC fC).mono ?_;rintro e w' ⟨rfl,rfl⟩)|(go_at_call 315;refine(og _ _ _ aa aa).mono ?_;rintro e w' ⟨rfl,k,rfl⟩)|(go_at_call 317;refine(gV _ _ fC fC).mono ?_;rintro e w' ⟨rfl,rfl⟩));go_ret;exact⟨rfl,_,rfl⟩
 .have a:fH n d=3:=by unfold fH;rw[if_pos (Or.inr b)]
  have i:((((Nat.gcd n.natAbs d.natAbs:Nat):Int)) !=1)=true:=by unfold iZ at b;simp;omega
  rw[a];clear a b;go_enter func253,ntmps253;go_wp2_with(first|(go_at_call 316;refine(qo _ _ fC fC).mono ?_;rintro e w' ⟨rfl,rfl⟩)|(go_at_call 315;refine(og _ _ _ aa aa).mono ?_;rintro e w' ⟨rfl,k,rfl⟩)|(go_at_call 317;refine(gV _ _ fC fC).mono ?_;rintro e w' ⟨rfl,rfl⟩));go_ret;exact⟨rfl,_,rfl⟩
theorem a8W {W a:ah}(c:aD W a):(∀b o,b<W.heap.size->a.cell? (aH b o)=W.cell? (aH b o))/\(∀b o,b<W.heap.size->a.frozen? ⟨b,o,none⟩=W.frozen? ⟨b,o,none⟩):=
 ⟨λb o h=>c.cell (p:=⟨b,o,none⟩) h,λb o h=>c.frozen (p:=⟨b,o,none⟩) h⟩
def kS (n:Int):Prop:= -9223372036854775808<=n/\n<=9223372036854775807
theorem kI (aB aS aZ:Addr)(n d:Int)(w:ah)(a:kS n)(b:kS d)(h:E3 aB aS aZ w):
  aJ 185 #[.agg #[ag n,ag d]] w λe w'=>e=ax (er aB aS aZ (fH n d))/\aD w w':=by
 obtain⟨c,f⟩:=a;obtain⟨g,i⟩:=b;go_enter func185,ntmps185;go_wp2_with(go_at_call 253;refine(Ba aB aS aZ _ _ _ c f g i ?_).mono ?_;exact h.alloc _;rintro e w' ⟨rfl,k,rfl⟩);go_ret;exact⟨rfl,below_drewN ((aQ _ _).alloc ay _) _⟩
theorem jk (aB aS aZ:Addr){c:Nat}(h:c=2\/c=3):∃a,er aB aS aZ c=aP 453 (.pointer (some a)):=by
 rcases h with rfl|rfl
 .exact⟨aB,rfl⟩
 .exact⟨aS,rfl⟩
theorem vG (aB aS aZ:Addr):er aB aS aZ 0=aU:=rfl
theorem xU (aB aS aZ:Addr)(n d m f:Int)(w:ah)(o:kS n)(p:kS d)(q:kS m)(r:kS f)(h:E3 aB aS aZ w):
  aJ 352 #[.agg #[ag n,ag d],.agg #[ag m,ag f]] w λe w'=>e=ax (er aB aS aZ (if fH n d≠0 then fH n d else fH m f))/\aD w w':=by
 by_cases c:fH n d=0
 .rw[if_neg (by simp[c])];have i:=aA c;clear c;go_enter func352,ntmps352;go_wp2_with(first|(go_at_call 185;refine(kI aB aS aZ _ _ _ fC fC ?_).mono ?_;exact(h.alloc _).alloc _;rintro e l ⟨g,b⟩;rw[i.out,vG] at g;subst g;obtain⟨s,t⟩:=a8W b)|(go_at_call 185;refine(kI aB aS aZ _ _ _ fC fC ?_).mono ?_;exact((h.alloc _).alloc _).below b ay;rintro e u ⟨rfl,j⟩));go_ret;exact⟨rfl,(((aQ _ _).alloc ay _).alloc aG _).trans ((b.mono aX).trans (j.mono (by have:=b.size;simp at this;omega)))⟩
 .rw[if_pos c];obtain⟨a,k⟩:=jk aB aS aZ (show fH n d=2\/fH n d=3 by rcases gZ n d with h|h|h<;>simp_all);have i:=aA k;rw[k];clear c k;go_enter func352,ntmps352;go_wp2_with(go_at_call 185;refine(kI aB aS aZ _ _ _ fC fC ?_).mono ?_;exact(h.alloc _).alloc _;rintro e l ⟨g,b⟩;rw[i.out] at g;subst g);go_ret;exact⟨rfl,(((aQ _ _).alloc ay _).alloc aG _).trans (b.mono aX)⟩
structure Two (w:ah)(b:Nat)(x y:au):Prop where
 c0:w.cell? (aH b 0)=some x
 c1:w.cell? (aH b 1)=some y
 f0:w.frozen? ⟨b,0,none⟩=false
 f1:w.frozen? ⟨b,1,none⟩=false
theorem Two.below {w w':ah}{b B:Nat}{x y:au}(h:Two w b x y)(a:Below B w w')(d:w.heap.size<=B):Two w' b x y:=by
 have c:b<B:=dP (aR h.c0) d;exact⟨(a.cell (p:=⟨b,0,none⟩) c).trans h.c0,(a.cell (p:=⟨b,1,none⟩) c).trans h.c1,(a.frozen (p:=⟨b,0,none⟩) c).trans h.f0,(a.frozen (p:=⟨b,1,none⟩) c).trans h.f1⟩
theorem Two.new (w:ah)(x y:au)(t:TypeId):Two (w.alloc (ai #[x,y] t)) w.heap.size x y:=⟨aG,aG,aG,aG⟩
theorem Two.alloc {w:ah}{b:Nat}{x y:au}(h:Two w b x y)(o:Obj):Two (w.alloc o) b x y:=h.below ((aQ w.heap.size w).alloc ay o) ay
theorem Two.drewN {w:ah}{b:Nat}{x y:au}(h:Two w b x y)(k:Nat):Two (w.drewN k) b x y:=⟨h.c0,h.c1,h.f0,h.f1⟩
theorem three {w b:ah}{c d e f g h:au}{t j a:TypeId}(i:Below (((w.alloc (ai #[c,d] t)).alloc (ai #[e,f] j)).alloc (ai #[g,h] a)).heap.size (((w.alloc (ai #[c,d] t)).alloc (ai #[e,f] j)).alloc (ai #[g,h] a)) b):
  Two b w.heap.size c d/\Two b (w.heap.size+1) e f/\Two b (w.heap.size+1+1) g h/\aD w b/\w.heap.size+1+1+1<=b.heap.size:=by
 refine⟨(((Two.new w c d t).alloc _).alloc _).below i ay,?_,?_,?_,by have:=i.size;simpa using this⟩
 .have:=((Two.new (w.alloc (ai #[c,d] t)) e f j).alloc (ai #[g,h] a)).below i ay;simpa using this
 .have:=(Two.new ((w.alloc (ai #[c,d] t)).alloc (ai #[e,f] j)) g h a).below i ay;simpa using this
 .exact((((aQ _ _).alloc ay _).alloc aG _).alloc aX _).trans (i.mono aX)
theorem F9 (a b g:Nat)(w:ah)(c:a<=18446744073709551615)(d:b<=18446744073709551615)(f:Nat.gcd a b=g):
  aJ 315 #[.int .u64 a,.int .u64 b] w λe w'=>e=ax (.int .u64 g)/\∃k,w'=w.drewN k:=by
 subst f;exact og a b w c d
theorem JQ (n d:Int)(j: -9223372036854775807<=n)(k:n<=9223372036854775807)(l:0<d)(m:d<=9223372036854775807):
  ∃(g:Nat) (p q:Int),Nat.gcd n.natAbs d.natAbs=g/\1<=(g:Int)/\(g:Int)<=9223372036854775807/\n.tdiv g=p/\d/g=q/\
   -9223372036854775807<=p/\p<=9223372036854775807/\0<=q/\q<=9223372036854775807/\low n d=(if jV p=true\/jV q=true then⟨0,0,2⟩ else⟨p,q,0⟩):=by
 have e:=F6 (n:=n) (d:=d) aa;have f:iZ n d<=d.natAbs:=Nat.gcd_le_right _ aa;obtain⟨x,a⟩:=lg n d;obtain⟨y,h⟩:=iI n d;have b:(iZ n d:Int)≠0:=aa;have o:n/(iZ n d:Int)=x:=by rw[Int.ediv_eq_iff_eq_mul_right b (lg n d)];exact a
 have c:d/(iZ n d:Int)=y:=by rw[Int.ediv_eq_iff_eq_mul_right b (iI n d)];exact h
 have i:n.tdiv (iZ n d:Int)=x:=by
  generalize (iZ n d:Int)=g at*;rw[a,Int.mul_tdiv_cancel_left _ b]
 have r:x.natAbs<=n.natAbs:=by
  have:n.natAbs=iZ n d*x.natAbs:=by rw[a,Int.natAbs_mul,<- a];simp
  rw[this];exact Nat.le_mul_of_pos_left _ e
 have s:0<=y/\y<=d:=by
  rw[<- c];exact⟨Int.ediv_nonneg aa aa,Int.ediv_le_self _ aa⟩
 refine⟨iZ n d,x,y,rfl,aa,aa,i,c,aa,aa,aa,aa,?_⟩;unfold low LG;grind
theorem a5k {n d:Int}(h:d<0):low n d=low (-n) (-d):=by unfold low;rw[if_pos h,if_neg aa]
theorem Ta (aB aS aZ:Addr)(n d:Int)(w:ah)(m: -9223372036854775807<=n)(o:n<=9223372036854775807)(r:0<d)(s:d<=9223372036854775807)(h:E3 aB aS aZ w):
  aJ 359 #[ag n,ag d] w λe w'=>e=ax (aF #[.agg #[ag (low n d).n,ag (low n d).d],er aB aS aZ (low n d).c])/\aD w w':=by
 obtain⟨g,p,q,i,y,z,t,j,A,B,C,D,l⟩:=JQ n d m o r s;have c:=aA l;have u:=aA i;clear l i;have x:=(h.alloc (ai #[ag 0,ag 0] 163)).b;have f:=aR h.b;simp only at f;go_enter func359,ntmps359;go_wp2_with(first|(go_at_call 316;refine(qo _ _ aa aa).mono ?_;rintro e w' ⟨rfl,rfl⟩)|(go_at_call 315;refine(F9 _ _ g _ aa aa u.out).mono ?_;rintro e w' ⟨rfl,k,rfl⟩))
 go_quiet (fail)
 rw[j];clear t j;by_cases a:jV p=true
 .go_wp2_with(go_at_call 317;refine(gV _ _ aa aa).mono ?_;rintro e w' ⟨rfl,rfl⟩);go_region;go_wp2;refine bodyPost_ret (v:=aF #[.agg #[ag 0,ag 0],aP 453 (.pointer (some aB))]) (by simp[results,results359,go_sem]) rfl ⟨by rw[c.out,if_pos (Or.inl a)];rfl,?_⟩;exact((below_drewN ((aQ _ _).alloc ay _) _).setCell aG _).setCell aG _
 .have a:jV p=false:=by simpa using a
  by_cases b:jV q=true
  .go_wp2_with(go_at_call 317;refine(gV _ _ aa aa).mono ?_;rintro e w' ⟨rfl,rfl⟩);go_region;go_wp2;refine bodyPost_ret (v:=aF #[.agg #[ag 0,ag 0],aP 453 (.pointer (some aB))]) (by simp[results,results359,go_sem]) rfl ⟨by rw[c.out,if_pos (Or.inr b)];rfl,?_⟩;exact((below_drewN ((aQ _ _).alloc ay _) _).setCell aG _).setCell aG _
  .have b:jV q=false:=by simpa using b
   go_wp2_with(go_at_call 317;refine(gV _ _ aa aa).mono ?_;rintro e w' ⟨rfl,rfl⟩);refine bodyPost_ret (v:=aF #[.agg #[ag p,ag q],aU]) (by simp[results,results359,go_sem]) rfl ⟨by rw[c.out,if_neg (by simp[a,b])];rfl,?_⟩;exact((below_drewN ((aQ _ _).alloc ay _) _).setCell aG _).setCell aG _
theorem Tc (aB aS aZ:Addr)(n d:Int)(w:ah)(x: -9223372036854775807<=n)(y:n<=9223372036854775807)(r:d<0)(z: -9223372036854775807<=d)(h:E3 aB aS aZ w):
  aJ 359 #[ag n,ag d] w λe w'=>e=ax (aF #[.agg #[ag (low n d).n,ag (low n d).d],er aB aS aZ (low n d).c])/\aD w w':=by
 obtain⟨g,p,q,j,A,B,s,l,C,D,E,t,m⟩:=JQ (-n) (-d) aa aa aa aa;have f:Hid (low n d=_):=(a5k r).trans m;have o:=aA j;have a:wrap64 (-(d.tdiv g))=q:=by
  rw[<- Int.neg_tdiv,Int.tdiv_eq_ediv_of_nonneg aa,l];exact IntWalk.wrap64_in q ⟨aa,t⟩
 clear m j l;have u:=(h.alloc (ai #[ag 0,ag 0] 163)).b;have i:=aR h.b;simp only at i;go_enter func359,ntmps359;go_wp2_with(first|(go_at_call 316;refine(qo _ _ aa aa).mono ?_;rintro e w' ⟨rfl,rfl⟩)|(go_at_call 315;refine(F9 _ _ g _ aa aa (by first|exact o.out|simpa using o.out)).mono ?_;rintro e w' ⟨rfl,k,rfl⟩))
 go_quiet (fail)
 try rw[a]
 clear s a;by_cases b:jV p=true
 .go_wp2_with(go_at_call 317;refine(gV _ _ aa aa).mono ?_;rintro e w' ⟨rfl,rfl⟩);go_region;go_wp2;refine bodyPost_ret (v:=aF #[.agg #[ag 0,ag 0],aP 453 (.pointer (some aB))]) (by simp[results,results359,go_sem]) rfl ⟨by rw[f.out,if_pos (Or.inl b)];rfl,?_⟩;exact((below_drewN ((aQ _ _).alloc ay _) _).setCell aG _).setCell aG _
 .have b:jV p=false:=by simpa using b
  by_cases c:jV q=true
  .go_wp2_with(go_at_call 317;refine(gV _ _ aa aa).mono ?_;rintro e w' ⟨rfl,rfl⟩);go_region;go_wp2;refine bodyPost_ret (v:=aF #[.agg #[ag 0,ag 0],aP 453 (.pointer (some aB))]) (by simp[results,results359,go_sem]) rfl ⟨by rw[f.out,if_pos (Or.inr c)];rfl,?_⟩;exact((below_drewN ((aQ _ _).alloc ay _) _).setCell aG _).setCell aG _
  .have c:jV q=false:=by simpa using c
   go_wp2_with(go_at_call 317;refine(gV _ _ aa aa).mono ?_;rintro e w' ⟨rfl,rfl⟩);refine bodyPost_ret (v:=aF #[.agg #[ag p,ag q],aU]) (by simp[results,results359,go_sem]) rfl ⟨by rw[f.out,if_neg (by simp[b,c])];rfl,?_⟩;exact((below_drewN ((aQ _ _).alloc ay _) _).setCell aG _).setCell aG _
theorem Fa (aB aS aZ:Addr)(n d:Int)(w:ah)(b: -9223372036854775807<=n)(c:n<=9223372036854775807)(f:d≠0)(g: -9223372036854775807<=d)(i:d<=9223372036854775807)(h:E3 aB aS aZ w):
  aJ 359 #[ag n,ag d] w λe w'=>e=ax (aF #[.agg #[ag (low n d).n,ag (low n d).d],er aB aS aZ (low n d).c])/\aD w w':=by
 rcases Int.lt_or_gt_of_ne f with a|a
 .exact Tc aB aS aZ n d w b c a g h
 .exact Ta aB aS aZ n d w b c a i h
theorem rR {a b:Int}(c:a.natAbs<=1073741824)(d:b.natAbs<=1073741824): -1152921504606846976<=a*b/\a*b<=1152921504606846976:=by
 have:(a*b).natAbs<=1073741824*1073741824:=by rw[Int.natAbs_mul];exact Nat.mul_le_mul c d
 omega
theorem i64_in {n:Int}(a: -9223372036854775808<=n)(b:n<=9223372036854775807):IntKind.i64.wrap n=n:=by
 simp[IntKind.wrap,IntKind.bits,IntKind.signed];omega
theorem a5l (aB aS aZ:Addr)(an ad bn bd:Int)(w:ah)(d:fH an ad=0)(b:fH bn bd=0)(h:E3 aB aS aZ w):
  aJ 353 #[.agg #[ag an,ag ad],.agg #[ag bn,ag bd]] w λe w'=>e=ax (aF #[.agg #[ag (add an ad bn bd).n,ag (add an ad bn bd).d],er aB aS aZ (add an ad bn bd).c])/\aD w w':=by
 have a:add an ad bn bd=low (an*bd+bn*ad) (ad*bd):=by unfold add;rw[if_neg (by simp[d]),if_neg (by simp[b])]
 rw[a];obtain⟨m,_,k,f⟩:=gI.1 d;obtain⟨n,_,l,g⟩:=gI.1 b;have o:=rR k g;have p:=rR l f;have q:=rR f g;have r:ad*bd≠0:=Int.mul_ne_zero aa aa;obtain⟨s,t⟩:=o;obtain⟨u,x⟩:=p;obtain⟨y,z⟩:=q;have A:IntKind.i64.wrap (an*bd+bn*ad)=an*bd+bn*ad:=i64_in aa aa;have B:¬w.heap.size+1+1=w.heap.size:=aa;clear d b a m k f n l g;go_enter func353,ntmps353;go_wp2
 go_region_held3 (λw'=>w'.cell? ⟨w.heap.size,0,none⟩=some (ag an)/\w'.cell? ⟨w.heap.size,1,none⟩=some (ag ad)/\w'.cell? ⟨w.heap.size+1,0,none⟩=some (ag bn)/\w'.cell? ⟨w.heap.size+1,1,none⟩=some (ag bd)) (go_keep) (first|(go_at_call 360;refine(JP _ _ _ aa aa).mono ?_;rintro e w' ⟨rfl,rfl⟩)|(go_at_call 359;refine(Fa aB aS aZ _ _ _ aa aa r aa aa ?_).mono ?_;exact(((h.alloc _).alloc _).alloc _).drewN 1;rintro e w' ⟨rfl,b⟩;obtain⟨c,E⟩:=a8W b;have C:=c w.heap.size 0 aX;have D:=c w.heap.size 1 aX))
 go_wp2;have i:=c (w.heap.size+1+1) 0 aG;have j:=c (w.heap.size+1+1) 1 aG;refine bodyPost_ret (v:=aF #[.agg #[ag (low (an*bd+bn*ad) (ad*bd)).n,ag (low (an*bd+bn*ad) (ad*bd)).d],er aB aS aZ (low (an*bd+bn*ad) (ad*bd)).c]) (by simp[results,results353,go_sem,i,j]) rfl ⟨rfl,?_⟩;exact((((((aQ _ _).alloc ay _).alloc aG _).alloc aX _).drew.trans (b.mono aX)).setCell aX _).setCell aX _
def Jb (an ad bn bd:Int):Nat:=if fH an ad≠0 then fH an ad else fH bn bd
theorem Fb (an ad bn bd:Int):(fH an ad=0/\fH bn bd=0)\/(Jb an ad bn bd=2\/Jb an ad bn bd=3):=by
 unfold Jb;rcases gZ an ad with h|h|h<;>rcases gZ bn bd with a|a|a<;>simp[h,a]
theorem a5m {an ad bn bd:Int}(h:¬(fH an ad=0/\fH bn bd=0)):add an ad bn bd=⟨0,0,Jb an ad bn bd⟩:=by
 unfold add Jb;by_cases a:fH an ad=0<;>by_cases b:fH bn bd=0<;>simp_all
theorem a5n {an ad bn bd:Int}(h:¬(fH an ad=0/\fH bn bd=0)):mul an ad bn bd=⟨0,0,Jb an ad bn bd⟩:=by
 unfold mul Jb;by_cases a:fH an ad=0<;>by_cases b:fH bn bd=0<;>simp_all
theorem zD (aB aS aZ:Addr)(n d m f:Int)(w:ah)(a:kS n)(b:kS d)(c:kS m)(g:kS f)(h:E3 aB aS aZ w)(i:fH n d=0)(j:fH m f=0):
  aJ 352 #[.agg #[ag n,ag d],.agg #[ag m,ag f]] w λe w'=>e=ax aU/\aD w w':=by
 have:=xU aB aS aZ n d m f w a b c g h;rw[if_neg (by simp[i]),j] at this;exact this
theorem zF (aB aS aZ:Addr)(n d m f:Int)(a:Addr)(w:ah)(b:kS n)(c:kS d)(g:kS m)(i:kS f)(h:E3 aB aS aZ w)(j:er aB aS aZ (Jb n d m f)=aP 453 (.pointer (some a))):
  aJ 352 #[.agg #[ag n,ag d],.agg #[ag m,ag f]] w λe w'=>e=ax (aP 453 (.pointer (some a)))/\aD w w':=by
 rw[<- j];exact xU aB aS aZ n d m f w b c g i h
theorem jy {n d:Int}(h:fH n d=0):kS n/\kS d:=by
 obtain⟨_,_,a,b⟩:=gI.1 h;exact⟨⟨aa,aa⟩,⟨aa,aa⟩⟩
theorem Fe (aB aS aZ:Addr)(an ad bn bd:Int)(w:ah)(l:kS an)(m:kS ad)(n:kS bn)(o:kS bd)(h:E3 aB aS aZ w):
  aJ 320 #[.agg #[ag an,ag ad],.agg #[ag bn,ag bd]] w λe w'=>e=ax (aF #[.agg #[ag (add an ad bn bd).n,ag (add an ad bn bd).d],er aB aS aZ (add an ad bn bd).c])/\aD w w':=by
 rcases Fb an ad bn bd with⟨d,c⟩|b
 .have g:=aA d;have p:=aA c;clear d c;go_enter func320,ntmps320;go_wp2_with(first|(go_at_call 352;refine(zD aB aS aZ _ _ _ _ _ l m n o ?_ g.out p.out).mono ?_;exact((h.alloc _).alloc _).alloc _;rintro e t ⟨rfl,c⟩;obtain⟨⟨u,x,y,z⟩,⟨A,B,C,D⟩,⟨j,k,q,r⟩,i,E⟩:=three c;clear c)|(go_at_call 353;refine(a5l aB aS aZ _ _ _ _ _ g.out p.out ?_).mono ?_;exact h.below i ay;rintro e K ⟨rfl,f⟩;obtain⟨F,H,L,M⟩:=Two.below ⟨j,k,q,r⟩ f ay));refine bodyPost_ret (v:=aF #[.agg #[ag (add an ad bn bd).n,ag (add an ad bn bd).d],er aB aS aZ (add an ad bn bd).c]) (by simp[results,results320,go_sem,F,H]) rfl ⟨rfl,?_⟩;exact((i.trans (f.mono aa)).setCell aX _).setCell aX _
 .obtain⟨a,d⟩:=jk aB aS aZ b;have s:=a5m (an:=an) (ad:=ad) (bn:=bn) (bd:=bd) (by rintro⟨I,J⟩;unfold Jb at b;simp[I,J] at b);rw[s,d];have g:=aA d;clear d s b;go_enter func320,ntmps320;go_wp2_with(go_at_call 352;refine(zF aB aS aZ _ _ _ _ a _ l m n o ?_ g.out).mono ?_;exact((h.alloc _).alloc _).alloc _;rintro e t ⟨rfl,c⟩;obtain⟨⟨u,x,y,z⟩,⟨A,B,C,D⟩,⟨j,k,q,r⟩,i,E⟩:=three c;clear c);refine bodyPost_ret (v:=aF #[.agg #[ag 0,ag 0],aP 453 (.pointer (some a))]) (by simp[results,results320,go_sem,j,k]) rfl ⟨rfl,?_⟩;exact(i.setCell aX _).setCell aX _
theorem a5o (aB aS aZ:Addr)(an ad bn bd:Int)(w:ah)(m:kS an)(n:kS ad)(o:kS bn)(p:kS bd)(h:E3 aB aS aZ w):
  aJ 329 #[.agg #[ag an,ag ad],.agg #[ag bn,ag bd]] w λe w'=>e=ax (aF #[.agg #[ag (mul an ad bn bd).n,ag (mul an ad bn bd).d],er aB aS aZ (mul an ad bn bd).c])/\aD w w':=by
 rcases Fb an ad bn bd with⟨f,c⟩|b
 .have j:=aA f;have I:=aA c;have g:mul an ad bn bd=low (an*bn) (ad*bd):=by unfold mul;rw[if_neg (by simp[f]),if_neg (by simp[c])]
  rw[g];obtain⟨J,_,q,r⟩:=gI.1 f;obtain⟨K,_,s,t⟩:=gI.1 c;obtain⟨L,M⟩:=rR q s;obtain⟨N,O⟩:=rR r t;have P:ad*bd≠0:=Int.mul_ne_zero aa aa;have Q:¬w.heap.size+1+1=w.heap.size:=aa;clear f c g J q r K s t;go_enter func329,ntmps329;go_wp2_with(go_at_call 352;refine(zD aB aS aZ _ _ _ _ _ m n o p ?_ j.out I.out).mono ?_;exact((h.alloc _).alloc _).alloc _;rintro e R ⟨rfl,c⟩;obtain⟨⟨u,x,y,z⟩,⟨A,B,C,D⟩,⟨k,l,E,F⟩,i,S⟩:=three c;clear c)
  go_region_held3 (λw'=>w'.cell? ⟨w.heap.size,0,none⟩=some (ag an)/\w'.cell? ⟨w.heap.size,1,none⟩=some (ag ad)/\w'.cell? ⟨w.heap.size+1,0,none⟩=some (ag bn)/\w'.cell? ⟨w.heap.size+1,1,none⟩=some (ag bd)) (go_keep) (first|(go_at_call 360;refine(JP _ _ _ aa aa).mono ?_;rintro e w' ⟨rfl,rfl⟩)|(go_at_call 359;refine(Fa aB aS aZ _ _ _ aa aa P aa aa ?_).mono ?_;exact(h.below i ay).drewN 1;rintro e X ⟨rfl,d⟩;obtain⟨T,U,Y,Z⟩:=Two.below (Two.drewN ⟨k,l,E,F⟩ 1) d ay;obtain⟨u1,u2,u3,u4⟩:=Two.below (Two.drewN ⟨u,x,y,z⟩ 1) d ay;obtain⟨v1,v2,v3,v4⟩:=Two.below (Two.drewN ⟨A,B,C,D⟩ 1) d ay))
  go_wp2;refine bodyPost_ret (v:=aF #[.agg #[ag (low (an*bn) (ad*bd)).n,ag (low (an*bn) (ad*bd)).d],er aB aS aZ (low (an*bn) (ad*bd)).c]) (by simp[results,results329,go_sem,T,U]) rfl ⟨rfl,?_⟩;exact((i.drew.trans (d.mono aX)).setCell aX _).setCell aX _
 .obtain⟨a,f⟩:=jk aB aS aZ b;have H:=a5n (an:=an) (ad:=ad) (bn:=bn) (bd:=bd) (by rintro⟨V,W⟩;unfold Jb at b;simp[V,W] at b);rw[H,f];have j:=aA f;clear f H b;go_enter func329,ntmps329;go_wp2_with(go_at_call 352;refine(zF aB aS aZ _ _ _ _ a _ m n o p ?_ j.out).mono ?_;exact((h.alloc _).alloc _).alloc _;rintro e R ⟨rfl,c⟩;obtain⟨⟨u,x,y,z⟩,⟨A,B,C,D⟩,⟨k,l,E,F⟩,i,S⟩:=three c;clear c);refine bodyPost_ret (v:=aF #[.agg #[ag 0,ag 0],aP 453 (.pointer (some a))]) (by simp[results,results329,go_sem,k,l]) rfl ⟨rfl,?_⟩;exact(i.setCell aX _).setCell aX _

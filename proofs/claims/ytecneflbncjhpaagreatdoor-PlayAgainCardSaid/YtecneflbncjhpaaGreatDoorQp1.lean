/- Parts of the proof. -/
import Derived.Test.YtecneflbncjhpaaGreatDoorQp0
import Derived.Deep.CutRange
import Derived.RangeFuncNested
import Derived.RangeFuncBound
import Derived.Shelf.RegionOpen
import Derived.OwnWalkIn
import Derived.LoopNIn
import Derived.LoopIn
import Derived.Deep.AppendLies
import Derived.Deep.RegionLaw
namespace Go.Proofs.YtecneflbncjhpaaGreatDoor
open Go.Proofs.Tryz
set_option maxHeartbeats 8000000
section
structure Qt where
 xn:Int
 xd:Int
 yn:Int
 yd:Int
deriving DecidableEq
def nX (a b:Qt):Int:=a.xn*b.xd-b.xn*a.xd
def nY (a b:Qt):Int:=a.yn*b.yd-b.yn*a.yd
def Aq (f t p:Qt):Int:=nX t f*nY p f*(p.xd*f.xd)*(t.yd*f.yd)-nX p f*nY t f*(t.xd*f.xd)*(p.yd*f.yd)
def cO (p f t:Qt):Int:=
 if 0<=nY p f/\¬0<=nY p t/\0<Aq f t p then 1 else if 0<=nY p t/\¬0<=nY p f/\Aq f t p<0 then -1 else 0
theorem Ar (p f t:Qt):cO p f t=1\/cO p f t= -1\/cO p f t=0:=by
 unfold cO;split
 ·exact .inl rfl
 ·split
  ·exact .inr (.inl rfl)
  ·exact .inr (.inr rfl)
structure Pos (a:Qt):Prop where
 x:1<=a.xd
 y:1<=a.yd
def kJ:List Qt->List (Qt×Qt)
 |[]=>[]
 |a::l=>(a::l).zip (l++[a])
theorem F8:∀l:List Qt,(kJ l).length=l.length
 |[]=>rfl
 |a::l=>by unfold kJ;simp
theorem Sn {l:List Qt}{i:Nat}(hi:i<l.length):∃a b,l[i]? =some a/\l[(i+1) % l.length]? =some b/\(kJ l)[i]? =some (a,b):=by
 cases l with
 |nil=>cases hi
 |cons a l=>
  have h1:i<(a::l).length:=hi;have h2:i<(l++[a]).length:=by simpa using hi
  refine⟨(a::l)[i],(l++[a])[i],dK h1,?_,?_⟩
  ·by_cases hl:i+1=(a::l).length
   ·rw[hl,Nat.mod_self];have:i=l.length:=by simpa using hl
    subst this;simp
   ·have hlt:i+1<(a::l).length:=by omega
    have hlt':i<l.length:=by simpa using hlt
    rw[Nat.mod_eq_of_lt hlt,List.getElem?_cons_succ,dK hlt',List.getElem_append_left hlt']
  ·unfold kJ;rw[List.getElem?_zip_eq_some];exact⟨dK h1,dK h2⟩
def fG (T:Qt->Qt->Int)(l:List (Qt×Qt)):Int:=(l.map fun e=>T e.1 e.2).sum
theorem Ji (T:Qt->Qt->Int)(l m:List (Qt×Qt)):fG T (l++m)=fG T l+fG T m:=by unfold fG;rw[List.map_append,List.sum_append]
def path (T:Qt->Qt->Int):List Qt->Int
 |[]=>0
 |[_]=>0
 |a::b::l=>T a b+path T (b::l)
def tZ (T:Qt->Qt->Int)(l:List Qt):Int:=fG T (kJ l)
theorem Qc (T:Qt->Qt->Int)(h:∀a b,T a b=1\/T a b= -1\/T a b=0):∀l:List (Qt×Qt),(fG T l-fG (fun a b=>T a b*T a b) l) % 2=0/\fG T l<=fG (fun a b=>T a b*T a b) l/\ - fG T l<=fG (fun a b=>T a b*T a b) l/\0<=fG (fun a b=>T a b*T a b) l/\fG (fun a b=>T a b*T a b) l<=l.length/\ - (l.length:Int)<=fG T l/\fG T l<=l.length
 |[]=>by simp[fG]
 |e::l=>by
  obtain⟨h1,h2,h3,h4,h5,h6,h7⟩:=Qc T h l;have e1:fG T (e::l)=T e.1 e.2+fG T l:=by simp[fG]
  have e2:fG (fun a b=>T a b*T a b) (e::l)=T e.1 e.2*T e.1 e.2+fG (fun a b=>T a b*T a b) l:=by simp[fG]
  rw[e1,e2,List.length_cons];rcases h e.1 e.2 with h0|h0|h0<;>rw[h0]<;>omega
end
section
open Go.RowKit
abbrev mW (a:Qt):ah:=.agg #[aa a.xn,aa a.xd,aa a.yn,aa a.yd]
structure PI (a:Qt):Prop where
 xn:jH a.xn
 xd:jH a.xd
 yn:jH a.yn
 yd:jH a.yd
def Sq (n d:Int):Bool:=decide (20<d\/1000*d<n\/n< -1000*d)
def fT (a:Qt):Nat:=if dH a.xn a.xd≠0 then dH a.xn a.xd else dH a.yn a.yd
def jI (a:Qt):Nat:=if Sq a.xn a.xd=true\/Sq a.yn a.yd=true then 2 else 0
theorem oU (a:Qt):fT a=0\/fT a=2\/fT a=3:=by
 unfold fT;split
 ·exact fC _ _
 ·exact fC _ _
theorem lV (a:Qt):jI a=0\/jI a=2:=by
 unfold jI;split<;>simp
theorem gF {a:Qt}:fT a=0↔dH a.xn a.xd=0/\dH a.yn a.yd=0:=by
 unfold fT;by_cases h:dH a.xn a.xd=0
 ·rw[if_neg (by simp[h])];simp[h]
 ·rw[if_pos h];simp[h]
theorem vW {a:Qt}(h:fT a=0):Pos a:=⟨(eO.1 (gF.1 h).1).1,(eO.1 (gF.1 h).2).1⟩
theorem bg (W:ag)(o:Obj):Below W.heap.size W (W.alloc o):=(aG _ _).alloc ai o
theorem aA {W X Y:ag}(h1:Below W.heap.size W X)(h2:Below X.heap.size X Y):Below W.heap.size W Y:=h1.trans (h2.mono h1.size)
theorem yJ (n d:Int)(w:ag)(hn:jH n)(h1:1<=d):
  au 225 #[.agg #[aa n,aa d]] w fun e w'=>e=.returned (.bool (Sq n d))/\Below w.heap.size w w':=by
 obtain⟨n1,n2⟩:=hn;by_cases h20:20<d
 ·have e:Sq n d=true:=by unfold Sq;simp;omega
  rw[e];go_enter func225,ntmps225;go_wp2;go_ret;exact⟨rfl,bg w _⟩
 ·by_cases ha:1000*d<n
  ·have e:Sq n d=true:=by unfold Sq;simp;omega
   rw[e];go_enter func225,ntmps225;go_wp2;go_ret;exact⟨rfl,bg w _⟩
  ·have e:Sq n d=decide (n< -1000*d):=by unfold Sq;simp only[decide_eq_decide];omega
   rw[e];go_enter func225,ntmps225;go_wp2;go_ret;exact⟨rfl,bg w _⟩
structure Four (w:ag)(b:Nat)(x y z u:ah):Prop where
 c0:w.cell? (ak b 0)=some x
 c1:w.cell? (ak b 1)=some y
 c2:w.cell? (ak b 2)=some z
 c3:w.cell? (ak b 3)=some u
theorem Four.below {w w':ag}{b B:Nat}{x y z u:ah}(h:Four w b x y z u)(hb:Below B w w')(hB:w.heap.size<=B):Four w' b x y z u:=by
 have hl:b<B:=bI (aF h.c0) hB;exact⟨(hb.cell (p:=⟨b,0,none⟩) hl).trans h.c0,(hb.cell (p:=⟨b,1,none⟩) hl).trans h.c1,(hb.cell (p:=⟨b,2,none⟩) hl).trans h.c2,(hb.cell (p:=⟨b,3,none⟩) hl).trans h.c3⟩
theorem Four.new (w:ag)(x y z u:ah)(t:TypeId):Four (w.alloc (.cells #[x,y,z,u] t)) w.heap.size x y z u:=⟨by simp,by simp,by simp,by simp⟩
theorem ni (aB aS aZ:Addr)(a:Qt)(w:ag)(hI:PI a)(hp:Pos a)(h:E3 aB aS aZ w):
  au 180 #[mW a] w fun e w'=>e=.returned (er aB aS aZ (jI a))/\Below w.heap.size w w':=by
 have hB:=h.b;have TX:=fun V=>yJ a.xn a.xd V hI.xn hp.x;have TY:=fun V=>yJ a.yn a.yd V hI.yn hp.y;have F0:=Four.new w (aa a.xn) (aa a.xd) (aa a.yn) (aa a.yd) 168;have hw:=bg w (.cells #[aa a.xn,aa a.xd,aa a.yn,aa a.yd] 168);cases h1:Sq a.xn a.xd with
 |true=>
  have e:jI a=2:=by unfold jI;rw[if_pos (.inl h1)]
  rw[e];rw[h1] at TX;go_enter func180,ntmps180;go_wp2_with(go_at_call 225;refine(TX _).mono ?_;rintro e w1 ⟨rfl,b1⟩;have k1:=aA hw b1;have hE1:=(h.below k1 ai).b);go_ret;exact⟨rfl,k1⟩
 |false=>
  rw[h1] at TX;cases h2:Sq a.yn a.yd with
  |true=>
   have e:jI a=2:=by unfold jI;rw[if_pos (.inr h2)]
   rw[e];rw[h2] at TY;go_enter func180,ntmps180;go_wp2_with(first|(go_at_call 225;refine(TY w1).mono ?_;rintro e w2 ⟨rfl,b2⟩;have k2:=aA k1 b2;have hE1:=(h.below k2 ai).b)|(go_at_call 225;refine(TX _).mono ?_;rintro e w1 ⟨rfl,b1⟩;have k1:=aA hw b1;obtain⟨x0,x1,x2,x3⟩:=F0.below b1 ai));go_ret;exact⟨rfl,k2⟩
  |false=>
   have e:jI a=0:=by unfold jI;rw[if_neg (by simp[h1,h2])]
   rw[e];rw[h2] at TY;go_enter func180,ntmps180;go_wp2_with(first|(go_at_call 225;refine(TY w1).mono ?_;rintro e w2 ⟨rfl,b2⟩;have k2:=aA k1 b2;have hE1:=(h.below k2 ai).b)|(go_at_call 225;refine(TX _).mono ?_;rintro e w1 ⟨rfl,b1⟩;have k1:=aA hw b1;obtain⟨x0,x1,x2,x3⟩:=F0.below b1 ai));go_ret;exact⟨rfl,k2⟩
theorem qN (aB aS aZ:Addr)(a:Qt)(w:ag)(hI:PI a)(h:E3 aB aS aZ w):
  au 179 #[mW a] w fun e w'=>e=.returned (er aB aS aZ (fT a))/\Below w.heap.size w w':=by
 have F0:=Four.new w (aa a.xn) (aa a.xd) (aa a.yn) (aa a.yd) 168;have hw:=bg w (.cells #[aa a.xn,aa a.xd,aa a.yn,aa a.yd] 168);have TX:=fun V (hv:Below w.heap.size w V)=>iR aB aS aZ a.xn a.xd V hI.xn hI.xd (h.below hv ai);have TY:=fun V (hv:Below w.heap.size w V)=>iR aB aS aZ a.yn a.yd V hI.yn hI.yd (h.below hv ai);by_cases hc:dH a.xn a.xd=0
 ·have e:fT a=dH a.yn a.yd:=by unfold fT;rw[if_neg (by simp[hc])]
  rw[e];rw[hc] at TX;clear hc;go_enter func179,ntmps179;go_wp2_with(first|(go_at_call 133;refine(TY w1 k1).mono ?_;rintro e w2 ⟨rfl,b2⟩;have k2:=aA k1 b2)|(go_at_call 133;refine(TX _ hw).mono ?_;rintro e w1 ⟨rfl,b1⟩;simp only[qM];have k1:=aA hw b1;obtain⟨x0,x1,x2,x3⟩:=F0.below b1 ai));go_ret;exact⟨rfl,k2⟩
 ·have e:fT a=dH a.xn a.xd:=by unfold fT;rw[if_pos hc]
  rw[e];obtain⟨ad,ha⟩:=gM aB aS aZ (show dH a.xn a.xd=2\/dH a.xn a.xd=3 by have:=fC a.xn a.xd;omega);rw[ha] at TX⊢;clear hc ha e;go_enter func179,ntmps179;go_wp2_with(go_at_call 133;refine(TX _ hw).mono ?_;rintro e w1 ⟨rfl,b1⟩;have k1:=aA hw b1);go_ret;exact⟨rfl,k1⟩
def iq (a:Qt):Nat:=if fT a≠0 then fT a else jI a
theorem Nt (a:Qt):iq a=0\/iq a=2\/iq a=3:=by
 unfold iq;split
 ·exact oU a
 ·have:=lV a;omega
theorem gN {a:Qt}:iq a=0↔fT a=0/\jI a=0:=by
 unfold iq;by_cases h:fT a=0
 ·rw[if_neg (by simp[h])];simp[h]
 ·rw[if_pos h];simp[h]
theorem Au (aB aS aZ:Addr)(a:Qt)(w:ag)(hI:PI a)(h:E3 aB aS aZ w):
  au 226 #[mW a] w fun e w'=>e=.returned (er aB aS aZ (iq a))/\Below w.heap.size w w':=by
 have F0:=Four.new w (aa a.xn) (aa a.xd) (aa a.yn) (aa a.yd) 168;have hw:=bg w (.cells #[aa a.xn,aa a.xd,aa a.yn,aa a.yd] 168);have TX:=fun V (hv:Below w.heap.size w V)=>qN aB aS aZ a V hI (h.below hv ai);by_cases hc:fT a=0
 ·have e:iq a=jI a:=by unfold iq;rw[if_neg (by simp[hc])]
  have TY:=fun V (hv:Below w.heap.size w V)=>ni aB aS aZ a V hI (vW hc) (h.below hv ai);rw[e];rw[hc] at TX;clear hc;go_enter func226,ntmps226;go_wp2_with(first|(go_at_call 180;refine(TY w1 k1).mono ?_;rintro e w2 ⟨rfl,b2⟩;have k2:=aA k1 b2)|(go_at_call 179;refine(TX _ hw).mono ?_;rintro e w1 ⟨rfl,b1⟩;simp only[qM];have k1:=aA hw b1;obtain⟨x0,x1,x2,x3⟩:=F0.below b1 ai));go_ret;exact⟨rfl,k2⟩
 ·have e:iq a=fT a:=by unfold iq;rw[if_pos hc]
  rw[e];obtain⟨ad,ha⟩:=gM aB aS aZ (show fT a=2\/fT a=3 by have:=oU a;omega);rw[ha] at TX⊢;clear hc ha e;go_enter func226,ntmps226;go_wp2_with(go_at_call 179;refine(TX _ hw).mono ?_;rintro e w1 ⟨rfl,b1⟩;have k1:=aA hw b1);go_ret;exact⟨rfl,k1⟩
def uN (an ad bn bd:Int)(w:ag):ag:=((w.alloc (.cells #[aa an,aa ad] 123)).alloc (.cells #[aa bn,aa bd] 123)).alloc (.cells #[aa (an*bd-bn*ad),aa (ad*bd)] 362)
theorem Gx (an ad bn bd:Int)(w:ag):Below w.heap.size w (uN an ad bn bd w):=(((aG _ _).alloc ai _).alloc (by simp) _).alloc (by simp;omega) _
theorem Sr (an ad bn bd:Int)(w:ag)(h1:jH (an*bd))(h2:jH (bn*ad))(h3:jH (an*bd-bn*ad))(h4:jH (ad*bd)):
  au 266 #[.agg #[aa an,aa ad],.agg #[aa bn,aa bd]] w fun e w'=>e=.returned (.agg #[aa (an*bd-bn*ad),aa (ad*bd)])/\w'=uN an ad bn bd w:=by
 obtain⟨a1,a2⟩:=h1;obtain⟨b1,b2⟩:=h2;obtain⟨c1,c2⟩:=h3;obtain⟨d1,d2⟩:=h4;go_enter func266,ntmps266;go_wp2;exact bodyPost_ret (v:=.agg #[aa (an*bd-bn*ad),aa (ad*bd)]) (by simp[results,results266,go_sem]) rfl ⟨rfl,rfl⟩
structure PB (a:Qt):Prop where
 x1:1<=a.xd
 x2:a.xd<=20
 x3: -20000<=a.xn
 x4:a.xn<=20000
 y1:1<=a.yd
 y2:a.yd<=20
 y3: -20000<=a.yn
 y4:a.yn<=20000
theorem PB.of {a:Qt}(h:iq a=0):PB a:=by
 obtain⟨h1,h2⟩:=gN.1 h;obtain⟨p1,p2⟩:=vW h1;unfold jI Sq at h2;split at h2
 ·cases h2
 ·rename_i h3;simp at h3;exact⟨p1,by omega,by omega,by omega,p2,by omega,by omega,by omega⟩
theorem rX {a b A B:Int}(h1: -A<=a)(h2:a<=A)(h3: -B<=b)(h4:b<=B): -(A*B)<=a*b/\a*b<=A*B:=by
 have hA:0<=A:=by omega
 have hB:0<=B:=by omega
 have h5:(a*b).natAbs<=(A*B).natAbs:=by
  rw[Int.natAbs_mul,Int.natAbs_mul];exact Nat.mul_le_mul (by omega) (by omega)
 have h6:0<=A*B:=Int.mul_nonneg hA hB;omega
theorem Jj {an ad bn bd:Int}(a1:1<=ad)(a2:ad<=20)(a3: -20000<=an)(a4:an<=20000)(b1:1<=bd)(b2:bd<=20)(b3: -20000<=bn)(b4:bn<=20000):
  (-400000<=an*bd/\an*bd<=400000)/\(-400000<=bn*ad/\bn*ad<=400000)/\(-800000<=an*bd-bn*ad/\an*bd-bn*ad<=800000)/\(1<=ad*bd/\ad*bd<=400):=by
 have m1:=rX (a:=an) (b:=bd) (A:=20000) (B:=20) a3 a4 (by omega) b2;have m2:=rX (a:=bn) (b:=ad) (A:=20000) (B:=20) b3 b4 (by omega) a2;have m3:=rX (a:=ad) (b:=bd) (A:=20) (B:=20) (by omega) a2 (by omega) b2;have m4:0<ad*bd:=Int.mul_pos (by omega) (by omega);omega
theorem vX {an ad bn bd:Int}(w:ag)(a1:1<=ad)(a2:ad<=20)(a3: -20000<=an)(a4:an<=20000)(b1:1<=bd)(b2:bd<=20)(b3: -20000<=bn)(b4:bn<=20000):
  au 266 #[.agg #[aa an,aa ad],.agg #[aa bn,aa bd]] w fun e w'=>e=.returned (.agg #[aa (an*bd-bn*ad),aa (ad*bd)])/\w'=uN an ad bn bd w:=by
 obtain⟨m1,m2,m3,m4⟩:=Jj a1 a2 a3 a4 b1 b2 b3 b4;exact Sr an ad bn bd w ⟨by omega,by omega⟩ ⟨by omega,by omega⟩ ⟨by omega,by omega⟩ ⟨by omega,by omega⟩
theorem VK {w y xd hd:Int}(h1: -800000<=w/\w<=800000)(h2: -800000<=y/\y<=800000)(h3:1<=xd/\xd<=400)(h4:1<=hd/\hd<=400):
  (-640000000000<=w*y/\w*y<=640000000000)/\(-256000000000000<=w*y*xd/\w*y*xd<=256000000000000)/\(-102400000000000000<=w*y*xd*hd/\w*y*xd*hd<=102400000000000000):=by
 have m1:=rX (a:=w) (b:=y) (A:=800000) (B:=800000) h1.1 h1.2 h2.1 h2.2;have m2:=rX (a:=w*y) (b:=xd) (A:=640000000000) (B:=400) (by omega) (by omega) (by omega) (by omega);have m3:=rX (a:=w*y*xd) (b:=hd) (A:=256000000000000) (B:=400) (by omega) (by omega) (by omega) (by omega);omega
theorem Four.al {w:ag}{b:Nat}{x y z u:ah}(h:Four w b x y z u)(o:Obj):Four (w.alloc o) b x y z u:=h.below (bg w o) ai
theorem a3C (w:ag)(x0 x1 x2 x3 y0 y1 y2 y3 z0 z1 z2 z3:ah)(t t' t'':TypeId):
  Four (((w.alloc (.cells #[x0,x1,x2,x3] t)).alloc (.cells #[y0,y1,y2,y3] t')).alloc (.cells #[z0,z1,z2,z3] t'')) w.heap.size x0 x1 x2 x3/\
  Four (((w.alloc (.cells #[x0,x1,x2,x3] t)).alloc (.cells #[y0,y1,y2,y3] t')).alloc (.cells #[z0,z1,z2,z3] t'')) (w.heap.size+1) y0 y1 y2 y3/\
  Four (((w.alloc (.cells #[x0,x1,x2,x3] t)).alloc (.cells #[y0,y1,y2,y3] t')).alloc (.cells #[z0,z1,z2,z3] t'')) (w.heap.size+1+1) z0 z1 z2 z3:=by
 refine⟨((Four.new w x0 x1 x2 x3 t).al _).al _,?_,?_⟩
 ·have h:=(Four.new (w.alloc (.cells #[x0,x1,x2,x3] t)) y0 y1 y2 y3 t').al (.cells #[z0,z1,z2,z3] t'');simpa using h
 ·have h:=Four.new ((w.alloc (.cells #[x0,x1,x2,x3] t)).alloc (.cells #[y0,y1,y2,y3] t')) z0 z1 z2 z3 t'';simpa using h
structure Gap (U w:ag)(X Y:Nat)(x0 x1 y0 y1:ah):Prop where
 b:Below U.heap.size U w
 x:w.cell? (ak X 0)=some x0/\w.cell? (ak X 1)=some x1
 y:w.cell? (ak Y 0)=some y0/\w.cell? (ak Y 1)=some y1
theorem VM (f t p:Qt)(w:ag)(hf:PB f)(ht:PB t)(hp:PB p):
  au 267 #[mW f,mW t,mW p] w fun e w'=>e=.returned (aa (Aq f t p))/\Below w.heap.size w w':=by
 have M1:=fun V=>vX (an:=t.xn) (ad:=t.xd) (bn:=f.xn) (bd:=f.xd) V ht.x1 ht.x2 ht.x3 ht.x4 hf.x1 hf.x2 hf.x3 hf.x4;have M2:=fun V=>vX (an:=t.yn) (ad:=t.yd) (bn:=f.yn) (bd:=f.yd) V ht.y1 ht.y2 ht.y3 ht.y4 hf.y1 hf.y2 hf.y3 hf.y4;have M3:=fun V=>vX (an:=p.xn) (ad:=p.xd) (bn:=f.xn) (bd:=f.xd) V hp.x1 hp.x2 hp.x3 hp.x4 hf.x1 hf.x2 hf.x3 hf.x4;have M4:=fun V=>vX (an:=p.yn) (ad:=p.yd) (bn:=f.yn) (bd:=f.yd) V hp.y1 hp.y2 hp.y3 hp.y4 hf.y1 hf.y2 hf.y3 hf.y4;obtain⟨S,hS⟩:∃S,Aq f t p=S:=⟨_,rfl⟩;rw[hS];have HS:=aj hS;clear hS;go_enter func267,ntmps267;go_upto_region 1 with fail;obtain⟨U,hU⟩:∃U,((w.alloc (.cells #[aa f.xn,aa f.xd,aa f.yn,aa f.yd] 168)).alloc (.cells #[aa t.xn,aa t.xd,aa t.yn,aa t.yd] 168)).alloc (.cells #[aa p.xn,aa p.xd,aa p.yn,aa p.yd] 168)=U:=⟨_,rfl⟩;have hU3:w.heap.size+1+1<U.heap.size:=by rw[<- hU];simp
 have u7:Below w.heap.size w U:=by rw[<- hU];exact(((aG _ _).alloc ai _).alloc (by simp) _).alloc (by simp;omega) _
 obtain⟨FA,FB,FC⟩:Four U (w.heap.size) (aa f.xn) (aa f.xd) (aa f.yn) (aa f.yd)/\Four U (w.heap.size+1) (aa t.xn) (aa t.xd) (aa t.yn) (aa t.yd)/\Four U (w.heap.size+1+1) (aa p.xn) (aa p.xd) (aa p.yn) (aa p.yd):=by rw[<- hU];exact a3C w _ _ _ _ _ _ _ _ _ _ _ _ _ _ _
 rw[hU];clear hU;have K12:∀V,Below U.heap.size U V->(fun w':ag=>w'.cell? ⟨w.heap.size,0,none⟩=some (aa f.xn)/\w'.cell? ⟨w.heap.size,1,none⟩=some (aa f.xd)/\w'.cell? ⟨w.heap.size,2,none⟩=some (aa f.yn)/\w'.cell? ⟨w.heap.size,3,none⟩=some (aa f.yd)/\w'.cell? ⟨w.heap.size+1,0,none⟩=some (aa t.xn)/\w'.cell? ⟨w.heap.size+1,1,none⟩=some (aa t.xd)/\w'.cell? ⟨w.heap.size+1,2,none⟩=some (aa t.yn)/\w'.cell? ⟨w.heap.size+1,3,none⟩=some (aa t.yd)/\w'.cell? ⟨w.heap.size+1+1,0,none⟩=some (aa p.xn)/\w'.cell? ⟨w.heap.size+1+1,1,none⟩=some (aa p.xd)/\w'.cell? ⟨w.heap.size+1+1,2,none⟩=some (aa p.yn)/\w'.cell? ⟨w.heap.size+1+1,3,none⟩=some (aa p.yd)) V:=fun V hV=>by
  obtain⟨a0,a1,a2,a3⟩:=FA.below hV ai;obtain⟨b0,b1,b2,b3⟩:=FB.below hV ai;obtain⟨c0,c1,c2,c3⟩:=FC.below hV ai;exact⟨a0,a1,a2,a3,b0,b1,b2,b3,c0,c1,c2,c3⟩
 obtain⟨s0,s1,s2,s3⟩:=FA;obtain⟨s4,s5,s6,s7⟩:=FB;obtain⟨s8,s9,s10,s11⟩:=FC
 go_cut [7,8] from 11 to 20 (fun p q wx=>∃X Y,p=ay X/\q=ay Y/\Gap U wx X Y (aa (nX t f)) (aa (t.xd*f.xd)) (aa (nY t f)) (aa (t.yd*f.yd)))
 case first=>
  go_region_held3 (fun w'=>w'.cell? ⟨w.heap.size,0,none⟩=some (aa f.xn)/\w'.cell? ⟨w.heap.size,1,none⟩=some (aa f.xd)/\w'.cell? ⟨w.heap.size,2,none⟩=some (aa f.yn)/\w'.cell? ⟨w.heap.size,3,none⟩=some (aa f.yd)/\w'.cell? ⟨w.heap.size+1,0,none⟩=some (aa t.xn)/\w'.cell? ⟨w.heap.size+1,1,none⟩=some (aa t.xd)/\w'.cell? ⟨w.heap.size+1,2,none⟩=some (aa t.yn)/\w'.cell? ⟨w.heap.size+1,3,none⟩=some (aa t.yd)/\w'.cell? ⟨w.heap.size+1+1,0,none⟩=some (aa p.xn)/\w'.cell? ⟨w.heap.size+1+1,1,none⟩=some (aa p.xd)/\w'.cell? ⟨w.heap.size+1+1,2,none⟩=some (aa p.yn)/\w'.cell? ⟨w.heap.size+1+1,3,none⟩=some (aa p.yd)) ((refine K12 _ ?_;repeat(first|exact aG _ _|refine Below.drew ?_|refine Below.alloc ?_ (by first|omega|(simp;done)|(simp;omega)) _|refine Below.setCell ?_ (by first|omega|(simp;done)|(simp;omega)) _))) (first|(go_at_call_of 266 t.xn;refine(M1 _).mono ?_;rintro e w1 ⟨rfl,rfl⟩;unfold uN)|(go_at_call_of 266 t.yn;refine(M2 _).mono ?_;rintro e w2 ⟨rfl,rfl⟩;unfold uN))
  all_goals(go_wp2_with fail;go_meet;exact⟨_,_,rfl,rfl,⟨by repeat(first|exact aG _ _|refine Below.drew ?_|refine Below.alloc ?_ (by first|omega|(simp;done)|(simp;omega)) _),⟨by simp[go_sem];rfl,by simp[go_sem]⟩,⟨by simp[go_sem];rfl,by simp[go_sem]⟩⟩⟩)
 case rest=>
  obtain⟨X,Y,rfl,rfl,yK,⟨x0,x1⟩,⟨y0,y1⟩⟩:=hcut;obtain⟨V,rfl⟩:∃V,V=wc:=⟨_,rfl⟩;have hVs:=yK.size;obtain⟨s0,s1,s2,s3,s4,s5,s6,s7,s8,s9,s10,s11⟩:=K12 V yK;go_upto_region 2 with fail
  go_cut [9,10] from 21 to 30 (fun p' q' wx=>∃X2 Y2,p'=ay X2/\q'=ay Y2/\Gap V wx X2 Y2 (aa (nX p f)) (aa (p.xd*f.xd)) (aa (nY p f)) (aa (p.yd*f.yd)))
  case first=>
   go_region_held3 (fun w'=>w'.cell? ⟨w.heap.size,0,none⟩=some (aa f.xn)/\w'.cell? ⟨w.heap.size,1,none⟩=some (aa f.xd)/\w'.cell? ⟨w.heap.size,2,none⟩=some (aa f.yn)/\w'.cell? ⟨w.heap.size,3,none⟩=some (aa f.yd)/\w'.cell? ⟨w.heap.size+1,0,none⟩=some (aa t.xn)/\w'.cell? ⟨w.heap.size+1,1,none⟩=some (aa t.xd)/\w'.cell? ⟨w.heap.size+1,2,none⟩=some (aa t.yn)/\w'.cell? ⟨w.heap.size+1,3,none⟩=some (aa t.yd)/\w'.cell? ⟨w.heap.size+1+1,0,none⟩=some (aa p.xn)/\w'.cell? ⟨w.heap.size+1+1,1,none⟩=some (aa p.xd)/\w'.cell? ⟨w.heap.size+1+1,2,none⟩=some (aa p.yn)/\w'.cell? ⟨w.heap.size+1+1,3,none⟩=some (aa p.yd)) ((refine K12 _ ?_;repeat(first|exact yK|refine Below.drew ?_|refine Below.alloc ?_ (by first|omega|(simp;done)|(simp;omega)) _|refine Below.setCell ?_ (by first|omega|(simp;done)|(simp;omega)) _))) (first|(go_at_call_of 266 p.xn;refine(M3 _).mono ?_;rintro e w1 ⟨rfl,rfl⟩;unfold uN)|(go_at_call_of 266 p.yn;refine(M4 _).mono ?_;rintro e w2 ⟨rfl,rfl⟩;unfold uN))
   all_goals(go_wp2_with fail;go_meet;exact⟨_,_,rfl,rfl,⟨by repeat(first|exact aG _ _|refine Below.drew ?_|refine Below.alloc ?_ (by first|omega|(simp;done)|(simp;omega)) _),⟨by simp[go_sem];rfl,by simp[go_sem]⟩,⟨by simp[go_sem];rfl,by simp[go_sem]⟩⟩⟩)
  case rest=>
   obtain⟨X2,Y2,rfl,rfl,hbZ,⟨u0,u1⟩,⟨v0,v1⟩⟩:=hcut;obtain⟨Z,rfl⟩:∃Z,Z=wc:=⟨_,rfl⟩;have t0:=(hbZ.cell (aF x0)).trans x0;have t1:=(hbZ.cell (aF x1)).trans x1;have r0:=(hbZ.cell (aF y0)).trans y0;have r1:=(hbZ.cell (aF y1)).trans y1;have hbW:=u7.trans ((yK.trans (hbZ.mono hVs)).mono u7.size);obtain⟨-, -,B1,D1⟩:=Jj (an:=t.xn) (ad:=t.xd) (bn:=f.xn) (bd:=f.xd) ht.x1 ht.x2 ht.x3 ht.x4 hf.x1 hf.x2 hf.x3 hf.x4;obtain⟨-, -,B2,D2⟩:=Jj (an:=t.yn) (ad:=t.yd) (bn:=f.yn) (bd:=f.yd) ht.y1 ht.y2 ht.y3 ht.y4 hf.y1 hf.y2 hf.y3 hf.y4;obtain⟨-, -,B3,D3⟩:=Jj (an:=p.xn) (ad:=p.xd) (bn:=f.xn) (bd:=f.xd) hp.x1 hp.x2 hp.x3 hp.x4 hf.x1 hf.x2 hf.x3 hf.x4;obtain⟨-, -,B4,D4⟩:=Jj (an:=p.yn) (ad:=p.yd) (bn:=f.yn) (bd:=f.yd) hp.y1 hp.y2 hp.y3 hp.y4 hf.y1 hf.y2 hf.y3 hf.y4;have P1:=VK B1 B4 D3 D2;have P2:=VK B3 B2 D1 D4;have hS:=HS.out;unfold Aq at hS;have e1:t.xn*f.xd-f.xn*t.xd=nX t f:=rfl;have e2:t.yn*f.yd-f.yn*t.yd=nY t f:=rfl;have e3:p.xn*f.xd-f.xn*p.xd=nX p f:=rfl;have e4:p.yn*f.yd-f.yn*p.yd=nY p f:=rfl;rw[e1,e4] at P1;rw[e3,e2] at P2;clear e1 e2 e3 e4 B1 B2 B3 B4 D1 D2 D3 D4 M1 M2 M3 M4 K12 s0 s1 s2 s3 s4 s5 s6 s7 s8 s9 s10 s11 x0 x1 y0 y1 hf ht hp;generalize nX t f=a1 at hS t0 t1 r0 r1 u0 u1 v0 v1 P1 P2;generalize nY t f=a2 at hS t0 t1 r0 r1 u0 u1 v0 v1 P1 P2;generalize nX p f=a3 at hS t0 t1 r0 r1 u0 u1 v0 v1 P1 P2;generalize nY p f=a4 at hS t0 t1 r0 r1 u0 u1 v0 v1 P1 P2;generalize t.xd*f.xd=d1 at hS t0 t1 r0 r1 u0 u1 v0 v1 P1 P2;generalize t.yd*f.yd=d2 at hS t0 t1 r0 r1 u0 u1 v0 v1 P1 P2;generalize p.xd*f.xd=d3 at hS t0 t1 r0 r1 u0 u1 v0 v1 P1 P2;generalize p.yd*f.yd=d4 at hS t0 t1 r0 r1 u0 u1 v0 v1 P1 P2;obtain⟨⟨p1,p2⟩,⟨p3,p4⟩,⟨p5,p6⟩⟩:=P1;obtain⟨⟨q1,q2⟩,⟨q3,q4⟩,⟨q5,q6⟩⟩:=P2;go_wp2;go_ret;exact⟨rfl,hbW⟩
end
section
open Go.RowKit
set_option maxRecDepth 20000
theorem Na {W X Y:ag}(h1:Below W.heap.size W X)(h2:Below X.heap.size X Y):Below W.heap.size W Y:=h1.trans (h2.mono h1.size)
structure Tri (U:ag)(A B C:Nat)(a0 a1 a2 a3 b0 b1 b2 b3 c0 c1 c2 c3:ah):Prop where
 a:Four U A a0 a1 a2 a3
 b:Four U B b0 b1 b2 b3
 c:Four U C c0 c1 c2 c3
theorem Tri.below {U V:ag}{A B C n:Nat}{a0 a1 a2 a3 b0 b1 b2 b3 c0 c1 c2 c3:ah}(h:Tri U A B C a0 a1 a2 a3 b0 b1 b2 b3 c0 c1 c2 c3)(hb:Below n U V)(hn:U.heap.size<=n):Tri V A B C a0 a1 a2 a3 b0 b1 b2 b3 c0 c1 c2 c3:=⟨h.a.below hb hn,h.b.below hb hn,h.c.below hb hn⟩
theorem F9 {an ad bn bd:Int}(w:ag)(a1:1<=ad)(a2:ad<=20)(a3: -20000<=an)(a4:an<=20000)(b1:1<=bd)(b2:bd<=20)(b3: -20000<=bn)(b4:bn<=20000):
  au 266 #[.agg #[aa an,aa ad],.agg #[aa bn,aa bd]] w fun e w'=>e=.returned (.agg #[aa (an*bd-bn*ad),aa (ad*bd)])/\Below w.heap.size w w':=
 (vX w a1 a2 a3 a4 b1 b2 b3 b4).mono fun _ _ h=>⟨h.1,by rw[h.2];exact Gx _ _ _ _ _⟩
theorem a8F (x y:Int)(w:ag):(Instr.field 362 (.agg #[aa x,aa y]) 0).run prog w=.ok (aa x) w:=by kernel_rfl
theorem Su (f t p:Qt)(w:ag)(hf:PB f)(ht:PB t)(hp:PB p):
  au 228 #[mW f,mW t,mW p] w fun e w'=>e=.returned (aa (cO p f t))/\Below w.heap.size w w':=by
 have M1:=fun V=>F9 (an:=p.yn) (ad:=p.yd) (bn:=f.yn) (bd:=f.yd) V hp.y1 hp.y2 hp.y3 hp.y4 hf.y1 hf.y2 hf.y3 hf.y4;have M2:=fun V=>F9 (an:=p.yn) (ad:=p.yd) (bn:=t.yn) (bd:=t.yd) V hp.y1 hp.y2 hp.y3 hp.y4 ht.y1 ht.y2 ht.y3 ht.y4;have SD:=fun V=>VM f t p V hf ht hp;have e1:p.yn*f.yd-f.yn*p.yd=nY p f:=rfl;have e2:p.yn*t.yd-t.yn*p.yd=nY p t:=rfl;simp only[e1] at M1;simp only[e2] at M2;clear e1 e2;obtain⟨tv,htv⟩:∃v,cO p f t=v:=⟨_,rfl⟩;rw[htv];have HV:=aj htv;clear htv;clear hf ht hp;have hfd1:=fun V=>a8F (nY p f) (p.yd*f.yd) V;have aj5:=fun V=>a8F (nY p t) (p.yd*t.yd) V;go_enter func228,ntmps228;go_upto_region 1 with fail;obtain⟨U,hU⟩:∃U,((w.alloc (.cells #[aa f.xn,aa f.xd,aa f.yn,aa f.yd] 168)).alloc (.cells #[aa t.xn,aa t.xd,aa t.yn,aa t.yd] 168)).alloc (.cells #[aa p.xn,aa p.xd,aa p.yn,aa p.yd] 168)=U:=⟨_,rfl⟩;have u7:Below w.heap.size w U:=by rw[<- hU];exact(((aG _ _).alloc ai _).alloc (by simp) _).alloc (by simp;omega) _
 obtain⟨FA,FB,FC⟩:Four U (w.heap.size) (aa f.xn) (aa f.xd) (aa f.yn) (aa f.yd)/\Four U (w.heap.size+1) (aa t.xn) (aa t.xd) (aa t.yn) (aa t.yd)/\Four U (w.heap.size+1+1) (aa p.xn) (aa p.xd) (aa p.yn) (aa p.yd):=by rw[<- hU];exact a3C w _ _ _ _ _ _ _ _ _ _ _ _ _ _ _
 rw[hU];clear hU;have T0:=Tri.mk FA FB FC;obtain⟨s0,s1,s2,s3⟩:=FA;obtain⟨s4,s5,s6,s7⟩:=FB;obtain⟨s8,s9,s10,s11⟩:=FC;by_cases h1:0<=nY p f
 ·by_cases h2:0<=nY p t
  ·have hv:Hid (cO p f t=0):=(by unfold cO;rw[if_neg (fun h=>h.2.1 h2),if_neg (fun h=>h.2.1 h1)]:cO p f t=_);go_wp2_with(first|(go_at_call_of 266 p.yn;refine(M2 w1).mono ?_;rintro e w2 ⟨rfl,b2⟩;have T2:=T1.below b2 ai;have yT:=T2;obtain⟨⟨y0,y1,y2,y3⟩,⟨y4,y5,y6,y7⟩,⟨y8,y9,y10,y11⟩⟩:=yT)|(go_at_call_of 266 p.yn;refine(M1 _).mono ?_;rintro e w1 ⟨rfl,b1⟩;have T1:=T0.below b1 ai;have xT:=T1;obtain⟨⟨x0,x1,x2,x3⟩,⟨x4,x5,x6,x7⟩,⟨x8,x9,x10,x11⟩⟩:=xT));go_ret;exact⟨l9 (hv.out.symm.trans HV.out),Na u7 (Na b1 b2)⟩
  ·have k2:(!decide (0<=nY p t))=true:=by simp;omega
   by_cases h3:0<Aq f t p
   ·have hv:Hid (cO p f t=1):=(by unfold cO;rw[if_pos ⟨h1,h2,h3⟩]:cO p f t=_);go_wp2_with(first|(go_at_call 267;refine(SD w2).mono ?_;rintro e w3 ⟨rfl,b3⟩)|(go_at_call_of 266 p.yn;refine(M2 w1).mono ?_;rintro e w2 ⟨rfl,b2⟩;have T2:=T1.below b2 ai;have yT:=T2;obtain⟨⟨y0,y1,y2,y3⟩,⟨y4,y5,y6,y7⟩,⟨y8,y9,y10,y11⟩⟩:=yT)|(go_at_call_of 266 p.yn;refine(M1 _).mono ?_;rintro e w1 ⟨rfl,b1⟩;have T1:=T0.below b1 ai;have xT:=T1;obtain⟨⟨x0,x1,x2,x3⟩,⟨x4,x5,x6,x7⟩,⟨x8,x9,x10,x11⟩⟩:=xT));go_ret;exact⟨l9 (hv.out.symm.trans HV.out),Na u7 (Na (Na b1 b2) b3)⟩
   ·have hv:Hid (cO p f t=0):=(by unfold cO;rw[if_neg (fun h=>h3 h.2.2),if_neg (fun h=>h2 h.1)]:cO p f t=_);go_wp2_with(first|(go_at_call 267;refine(SD w2).mono ?_;rintro e w3 ⟨rfl,b3⟩)|(go_at_call_of 266 p.yn;refine(M2 w1).mono ?_;rintro e w2 ⟨rfl,b2⟩;have T2:=T1.below b2 ai;have yT:=T2;obtain⟨⟨y0,y1,y2,y3⟩,⟨y4,y5,y6,y7⟩,⟨y8,y9,y10,y11⟩⟩:=yT)|(go_at_call_of 266 p.yn;refine(M1 _).mono ?_;rintro e w1 ⟨rfl,b1⟩;have T1:=T0.below b1 ai;have xT:=T1;obtain⟨⟨x0,x1,x2,x3⟩,⟨x4,x5,x6,x7⟩,⟨x8,x9,x10,x11⟩⟩:=xT));go_ret;exact⟨l9 (hv.out.symm.trans HV.out),Na u7 (Na (Na b1 b2) b3)⟩
 ·by_cases h2:0<=nY p t
  ·by_cases h3:Aq f t p<0
   ·have hv:Hid (cO p f t= -1):=(by unfold cO;rw[if_neg (fun h=>h1 h.1),if_pos ⟨h2,h1,h3⟩]:cO p f t=_);go_wp2_with(first|(go_at_call 267;refine(SD w2).mono ?_;rintro e w3 ⟨rfl,b3⟩)|(go_at_call_of 266 p.yn;refine(M2 w1).mono ?_;rintro e w2 ⟨rfl,b2⟩;have T2:=T1.below b2 ai;have yT:=T2;obtain⟨⟨y0,y1,y2,y3⟩,⟨y4,y5,y6,y7⟩,⟨y8,y9,y10,y11⟩⟩:=yT)|(go_at_call_of 266 p.yn;refine(M1 _).mono ?_;rintro e w1 ⟨rfl,b1⟩;have T1:=T0.below b1 ai;have xT:=T1;obtain⟨⟨x0,x1,x2,x3⟩,⟨x4,x5,x6,x7⟩,⟨x8,x9,x10,x11⟩⟩:=xT));go_ret;exact⟨l9 (hv.out.symm.trans HV.out),Na u7 (Na (Na b1 b2) b3)⟩
   ·have hv:Hid (cO p f t=0):=(by unfold cO;rw[if_neg (fun h=>h1 h.1),if_neg (fun h=>h3 h.2.2)]:cO p f t=_);go_wp2_with(first|(go_at_call 267;refine(SD w2).mono ?_;rintro e w3 ⟨rfl,b3⟩)|(go_at_call_of 266 p.yn;refine(M2 w1).mono ?_;rintro e w2 ⟨rfl,b2⟩;have T2:=T1.below b2 ai;have yT:=T2;obtain⟨⟨y0,y1,y2,y3⟩,⟨y4,y5,y6,y7⟩,⟨y8,y9,y10,y11⟩⟩:=yT)|(go_at_call_of 266 p.yn;refine(M1 _).mono ?_;rintro e w1 ⟨rfl,b1⟩;have T1:=T0.below b1 ai;have xT:=T1;obtain⟨⟨x0,x1,x2,x3⟩,⟨x4,x5,x6,x7⟩,⟨x8,x9,x10,x11⟩⟩:=xT));go_ret;exact⟨l9 (hv.out.symm.trans HV.out),Na u7 (Na (Na b1 b2) b3)⟩
  ·have hv:Hid (cO p f t=0):=(by unfold cO;rw[if_neg (fun h=>h1 h.1),if_neg (fun h=>h2 h.1)]:cO p f t=_);go_wp2_with(first|(go_at_call_of 266 p.yn;refine(M2 w1).mono ?_;rintro e w2 ⟨rfl,b2⟩;have T2:=T1.below b2 ai;have yT:=T2;obtain⟨⟨y0,y1,y2,y3⟩,⟨y4,y5,y6,y7⟩,⟨y8,y9,y10,y11⟩⟩:=yT)|(go_at_call_of 266 p.yn;refine(M1 _).mono ?_;rintro e w1 ⟨rfl,b1⟩;have T1:=T0.below b1 ai;have xT:=T1;obtain⟨⟨x0,x1,x2,x3⟩,⟨x4,x5,x6,x7⟩,⟨x8,x9,x10,x11⟩⟩:=xT));go_ret;exact⟨l9 (hv.out.symm.trans HV.out),Na u7 (Na b1 b2)⟩
structure PtC (w:ag)(b i:Nat)(a:Qt):Prop where
 c0:w.cell? (ak b i)=some (aa a.xn)
 c1:w.cell? (ak b (i+1))=some (aa a.xd)
 c2:w.cell? (ak b (i+2))=some (aa a.yn)
 c3:w.cell? (ak b (i+3))=some (aa a.yd)
 pi:PI a
theorem PtC.below {w w':ag}{b i n:Nat}{a:Qt}(h:PtC w b i a)(hb:Below n w w')(hn:w.heap.size<=n):PtC w' b i a:=by
 have hl:b<n:=bI (aF h.c0) hn;exact⟨(hb.cell (p:=⟨b,i,none⟩) hl).trans h.c0,(hb.cell (p:=⟨b,i+1,none⟩) hl).trans h.c1,(hb.cell (p:=⟨b,i+2,none⟩) hl).trans h.c2,(hb.cell (p:=⟨b,i+3,none⟩) hl).trans h.c3,h.pi⟩
def fH (w:ag)(o:Option Addr)(l:List Qt):Prop:=∀i a,l[i]? =some a->∃b off,o=some ⟨b,off,none⟩/\PtC w b (off+i*4) a
theorem fH.below {w w':ag}{o:Option Addr}{l:List Qt}{n:Nat}(h:fH w o l)(hb:Below n w w')(hn:w.heap.size<=n):fH w' o l:=fun i a ha=>by
 obtain⟨b,off,h1,h2⟩:=h i a ha;exact⟨b,off,h1,h2.below hb hn⟩
def qO (aB aS aZ:Addr)(ef:Qt->Nat)(w:ag)(l:List Qt)(e:Ending)(W:ag):Prop:=
 ((∀y∈l,ef y=0)/\e=.returned .nilIface)\/
 (∃q x r pb,l=q++x::r/\(∀y∈q,ef y=0)/\ef x≠0/\w.heap.size<=pb/\e=.returned (.iface 90 (ay pb))/\W.cell? (ak pb 0)=some (aa q.length)/\W.cell? (ak pb 1)=some (er aB aS aZ (ef x)))
theorem Jk {ef:Qt->Nat}{l:List Qt}{k:Nat}{a:Qt}(h:∀y∈l.take k,ef y=0)(ha:l[k]? =some a)(h0:ef a=0):∀y∈l.take (k+1),ef y=0:=fun y hy=>by
 rw[List.take_add_one,ha] at hy;rcases List.mem_append.1 hy with hy|hy
 ·exact h y hy
 ·simp at hy;subst hy;exact h0
theorem Jl {l:List Qt}{k:Nat}{a:Qt}(ha:l[k]? =some a):l=l.take k++a::l.drop (k+1)/\(l.take k).length=k:=by
 obtain⟨hk,e⟩:=jc.1 ha;refine⟨?_,by rw[List.length_take];omega⟩;rw[<- e,List.getElem_cons_drop,List.take_append_drop]
theorem Nu (aB aS aZ:Addr)(l:List Qt)(o:Option Addr)(cap:Nat)(w:ag)(hl:l.length<=1000)(h:fH w o l)(hE:E3 aB aS aZ w):
  au 178 #[.slice o l.length cap,.func (.func 179) #[] #[]] w fun e W=>qO aB aS aZ fT w l e W/\Below w.heap.size w W:=by
 go_enter func178,ntmps178;go_wp2
 go_loopw [10] (fun y wr=>∃k:Nat,k<=l.length/\y=aa k/\(∀y∈l.take k,fT y=0)/\Below w.heap.size w wr) (fun y _=>l.length-(intOf y).toNat)
 case atStart=>exact⟨0,aP _,rfl,by simp,aG _ _⟩
 case round=>
  obtain⟨k,hk,rfl,hall,hb⟩:=hrel;have HA:=aj hall;clear hall;by_cases hlt:k<l.length
  ·have hlt':(k:Int)<(l.length:Int):=by omega
   obtain⟨a,ha⟩:∃a,l[k]? =some a:=⟨_,dK hlt⟩;obtain⟨b,off,ho,hp⟩:=h k a ha;subst ho;obtain⟨c0,c1,c2,c3,hpi⟩:=hp.below hb ai;have HL:=aj ha;have hbx:=hb.alloc hb.size (.cells #[aa a.xn,aa a.xd,aa a.yn,aa a.yd] 168);have HK:=qN aB aS aZ a _ hpi (hE.below hbx ai);clear ha;by_cases hx:fT a=0
   ·rw[hx] at HK;have HX:=aj hx;clear hx;go_wp2_with(go_at_call 179;refine HK.mono ?_;rintro e w1 ⟨rfl,b1⟩;simp only[qM])
    go_roundw
    case rel=>exact⟨k+1,by omega,by go_num,Jk HA.out HL.out HX.out,hbx.trans (b1.mono (by have:=hbx.size;omega))⟩
    case measure=>simp[intOf];omega
   ·obtain⟨ad,Nb⟩:=gM aB aS aZ (show fT a=2\/fT a=3 by have:=oU a;omega);have HX:=aj hx;have HC:=aj Nb;rw[Nb] at HK;clear hx Nb;go_wp2_with(go_at_call 179;refine HK.mono ?_;rintro e w1 ⟨rfl,b1⟩);have hb1:=hbx.trans (b1.mono (by have:=hbx.size;omega));go_ret;obtain⟨e1,e2⟩:=Jl HL.out;refine⟨.inr ⟨_,_,_,w1.heap.size,e1,HA.out,HX.out,hb1.size,rfl,?_,?_⟩,hb1.alloc hb1.size _⟩
    ·rw[e2];simp
    ·rw[HC.out];simp
  ·obtain rfl:k=l.length:=by omega
   go_wp2;go_ret;have hall:=HA.out;rw[List.take_length] at hall;exact⟨.inl ⟨hall,rfl⟩,hb⟩
theorem Sv (aB aS aZ:Addr)(l:List Qt)(o:Option Addr)(cap:Nat)(w:ag)(hl:l.length<=1000)(h:fH w o l)(hE:E3 aB aS aZ w)(hr:∀a∈l,fT a=0):
  au 178 #[.slice o l.length cap,.func (.func 180) #[] #[]] w fun e W=>qO aB aS aZ jI w l e W/\Below w.heap.size w W:=by
 go_enter func178,ntmps178;go_wp2
 go_loopw [10] (fun y wr=>∃k:Nat,k<=l.length/\y=aa k/\(∀y∈l.take k,jI y=0)/\Below w.heap.size w wr) (fun y _=>l.length-(intOf y).toNat)
 case atStart=>exact⟨0,aP _,rfl,by simp,aG _ _⟩
 case round=>
  obtain⟨k,hk,rfl,hall,hb⟩:=hrel;have HA:=aj hall;clear hall;by_cases hlt:k<l.length
  ·have hlt':(k:Int)<(l.length:Int):=by omega
   obtain⟨a,ha⟩:∃a,l[k]? =some a:=⟨_,dK hlt⟩;obtain⟨b,off,ho,hp⟩:=h k a ha;subst ho;obtain⟨c0,c1,c2,c3,hpi⟩:=hp.below hb ai;have HL:=aj ha;have hbx:=hb.alloc hb.size (.cells #[aa a.xn,aa a.xd,aa a.yn,aa a.yd] 168);have HK:=ni aB aS aZ a _ hpi (vW (hr a (fV ha))) (hE.below hbx ai);clear ha;by_cases hx:jI a=0
   ·rw[hx] at HK;have HX:=aj hx;clear hx;go_wp2_with(go_at_call 180;refine HK.mono ?_;rintro e w1 ⟨rfl,b1⟩;simp only[qM])
    go_roundw
    case rel=>exact⟨k+1,by omega,by go_num,Jk HA.out HL.out HX.out,hbx.trans (b1.mono (by have:=hbx.size;omega))⟩
    case measure=>simp[intOf];omega
   ·obtain⟨ad,Nb⟩:=gM aB aS aZ (show jI a=2\/jI a=3 by have:=lV a;omega);have HX:=aj hx;have HC:=aj Nb;rw[Nb] at HK;clear hx Nb;go_wp2_with(go_at_call 180;refine HK.mono ?_;rintro e w1 ⟨rfl,b1⟩);have hb1:=hbx.trans (b1.mono (by have:=hbx.size;omega));go_ret;obtain⟨e1,e2⟩:=Jl HL.out;refine⟨.inr ⟨_,_,_,w1.heap.size,e1,HA.out,HX.out,hb1.size,rfl,?_,?_⟩,hb1.alloc hb1.size _⟩
    ·rw[e2];simp
    ·rw[HC.out];simp
  ·obtain rfl:k=l.length:=by omega
   go_wp2;go_ret;have hall:=HA.out;rw[List.take_length] at hall;exact⟨.inl ⟨hall,rfl⟩,hb⟩
theorem qO.mono {aB aS aZ:Addr}{ef:Qt->Nat}{w u:ag}{l:List Qt}{e:Ending}{W:ag}(h:qO aB aS aZ ef u l e W)(hs:w.heap.size<=u.heap.size):qO aB aS aZ ef w l e W:=by
 rcases h with h|⟨q,x,r,pb,h1,h2,h3,h4,h5⟩
 ·exact .inl h
 ·exact .inr ⟨q,x,r,pb,h1,h2,h3,aJ hs h4,h5⟩
def VN (aB aS aZ:Addr)(w:ag)(l:List Qt)(e:Ending)(W:ag):Prop:=
 (30<l.length/\e=.returned (er aB aS aZ 2))\/(l.length<=30/\(∃y∈l,fT y≠0)/\qO aB aS aZ fT w l e W)\/(l.length<=30/\(∀y∈l,fT y=0)/\qO aB aS aZ jI w l e W)
def lg (l:List Qt):Prop:=l.length<=30/\∀y∈l,iq y=0
def a0w (v:ah):Prop:=(∃a,v=.iface 401 (.pointer (some a)))\/(∃a,v=.iface 90 (.pointer (some a)))
theorem VN.plain {aB aS aZ:Addr}{w:ag}{l:List Qt}{e:Ending}{W:ag}(h:VN aB aS aZ w l e W):(lg l/\e=.returned .nilIface)\/(¬lg l/\∃v,a0w v/\e=.returned v):=by
 rcases h with⟨h1,h2⟩|⟨h1,⟨y,hy,hy2⟩,h3⟩|⟨h1,h2,h3⟩
 ·exact .inr ⟨fun h=>by have:=h.1;omega,_,.inl ⟨aB,rfl⟩,h2⟩
 ·have hn:¬lg l:=fun h=>hy2 (gN.1 (h.2 y hy)).1;rcases h3 with⟨h4, -⟩|⟨q,x,r,pb, -, -, -, -,h5, -⟩
  ·exact absurd (h4 y hy) hy2
  ·exact .inr ⟨hn,_,.inr ⟨_,rfl⟩,h5⟩
 ·rcases h3 with⟨h4,h5⟩|⟨q,x,r,pb,e1, -,h4, -,h5, -⟩
  ·exact .inl ⟨⟨h1,fun y hy=>gN.2 ⟨h2 y hy,h4 y hy⟩⟩,h5⟩
  ·exact .inr ⟨fun h=>h4 (gN.1 (h.2 x (by rw[e1];simp))).2,_,.inr ⟨_,rfl⟩,h5⟩
theorem vY (aB aS aZ:Addr)(l:List Qt)(o:Option Addr)(cap:Nat)(w:ag)(h:fH w o l)(hE:E3 aB aS aZ w):
  au 130 #[.agg #[.slice o l.length cap]] w fun e W=>VN aB aS aZ w l e W/\Below w.heap.size w W:=by
 have hw:=bg w (.cells #[.slice o l.length cap] 132);have hE1:=(hE.below hw ai).b;by_cases h30:30<l.length
 ·have acM:30<(l.length:Int):=by omega
  go_enter func130,ntmps130;go_wp2;go_ret;exact⟨.inl ⟨h30,rfl⟩,hw⟩
 ·have acM:¬30<(l.length:Int):=by omega
  have F1:=Nu aB aS aZ l o cap _ (by omega) (h.below hw ai) (hE.below hw ai);by_cases hr:∀y∈l,fT y=0
  ·have F2:=fun V (hv:Below w.heap.size w V)=>Sv aB aS aZ l o cap V (by omega) (h.below hv ai) (hE.below hv ai) hr;have HR:=aj hr;clear hr;go_enter func130,ntmps130;go_wp2_with(first|(go_at_call 178;refine(F2 w1 k1).mono ?_;rintro e w2 ⟨hf2,b2⟩;obtain⟨v2,rfl⟩:∃v,e=.returned v:=(by rcases hf2 with⟨-,rfl⟩|⟨_,_,_,_, -, -, -, -,rfl, -⟩;exact⟨_,rfl⟩;exact⟨_,rfl⟩))|(go_at_call 178;refine F1.mono ?_;rintro e w1 ⟨hf1,b1⟩;have he:e=.returned .nilIface:=(by rcases hf1 with⟨-,h2⟩|⟨q,x,r,pb,e1, -,h4, -⟩;exact h2;exact absurd (HR.out x (by rw[e1];simp)) h4);subst he;clear hf1;have k1:=aA hw b1;have cb:=(b1.cell (p:=⟨w.heap.size,0,none⟩) (by simp)).trans (show(w.alloc (.cells #[.slice o l.length cap] 132)).cell? ⟨w.heap.size,0,none⟩=some (.slice o l.length cap) by simp)));go_ret;exact⟨.inr (.inr ⟨by omega,HR.out,hf2.mono k1.size⟩),aA k1 b2⟩
  ·have hex:∃y∈l,fT y≠0:=by
    apply Classical.byContradiction;intro hn;refine hr fun y hy=>?_;apply Classical.byContradiction;exact fun h0=>hn ⟨y,hy,h0⟩
   have HX:=aj hex;clear hr hex;go_enter func130,ntmps130;go_wp2_with(go_at_call 178;refine F1.mono ?_;rintro e w1 ⟨hf1,b1⟩;have he:∃a,e=.returned (.iface 90 (.pointer (some a))):=(by rcases hf1 with⟨h2, -⟩|⟨q,x,r,pb, -, -, -, -,rfl, -⟩;exact absurd HX.out (fun⟨y,hy,h0⟩=>h0 (h2 y hy));exact⟨_,rfl⟩);obtain⟨ad,rfl⟩:=he);go_ret;exact⟨.inr (.inl ⟨by omega,HX.out,hf1.mono hw.size⟩),aA hw b1⟩
end
section
open Go.RowKit Go.Shelf
set_option maxRecDepth 100000
attribute [local go_sem] Oper.semAt_some
structure Eg where
 a:Qt
 b:Qt
 ha:PB a
 hb:PB b
abbrev egV (x:Eg):Array ah:=#[mW x.a,mW x.b]
def rY (T:Nat->Prop)(A C:ag):Prop:=∀k,T k->C.heap[k]? =A.heap[k]?
theorem rY.refl {T:Nat->Prop}(X:ag):rY T X X:=fun _ _=>rfl
theorem rY.trans {T:Nat->Prop}{X Y Z:ag}(h:rY T X Y)(k:rY T Y Z):rY T X Z:=fun j hj=>(k j hj).trans (h j hj)
theorem rY.of_below {T:Nat->Prop}{A C:ag}{n:Nat}(h:Below n A C)(hT:∀k,T k->k<n):rY T A C:=fun j hj=>h.block j (hT j hj)
theorem rY.put {T:Nat->Prop}{w:ag}(hT:∀k,T k->k<w.heap.size)(W:ag)(l:Nat)(o o':Obj)(hl:w.heap.size<=l)(_:W.heap[l]? =some o)(_:o.isCells=false)(_:o.isWalk=false):rY T W (W.putObj l o'):=fun j hj=>World.putObj_heap_other (by have:=hT j hj;omega)
theorem grown_of {A C:ag}(h:Below A.heap.size A C):A.grownBy C none:=⟨h.os,h.tape,h.output,h.size,fun k hk _=>h.block k hk⟩
theorem cell_of_heap {A C:ag}{p:Addr}(h:C.heap[p.block]? =A.heap[p.block]?):C.cell? p=A.cell? p:=World.cell?_of_block h
def edT (Bs:Nat)(o:Option Addr)(l:List Qt)(k:Nat):Prop:=k=Bs\/(l≠[]/\∃off,o=some ⟨k,off,none⟩)
theorem fH.kept {w w':ag}{o:Option Addr}{l:List Qt}{Bs:Nat}(h:fH w o l)(hk:rY (edT Bs o l) w w'):fH w' o l:=fun i a ha=>by
 obtain⟨b,off,h1,c0,c1,c2,c3,hpi⟩:=h i a ha;have hb:=hk b (.inr ⟨by rintro rfl;simp at ha,off,h1⟩);exact⟨b,off,h1,(cell_of_heap (p:=⟨b,_,none⟩) hb).trans c0,(cell_of_heap (p:=⟨b,_,none⟩) hb).trans c1,(cell_of_heap (p:=⟨b,_,none⟩) hb).trans c2,(cell_of_heap (p:=⟨b,_,none⟩) hb).trans c3,hpi⟩
theorem Nv {J Jx:List Eg->ag->Prop}{T:Nat->Prop}{pre:List Eg}{x:Eg}{W1 W':ag}{e:Ending}(h:(e=.returned (.bool true)/\J (pre++[x]) W'/\rY T W1 W')\/(e=.returned (.bool false)/\Jx (pre++[x]) W')):
  ∃b,e=.returned (.bool b)/\((b=true/\J (pre++[x]) W'/\rY T W1 W')\/(b=false/\Jx (pre++[x]) W')):=by
 rcases h with⟨rfl,h1,h2⟩|⟨rfl,h1⟩
 ·exact⟨true,rfl,.inl ⟨rfl,h1,h2⟩⟩
 ·exact⟨false,rfl,.inr ⟨rfl,h1⟩⟩
theorem Jm {α:Type}(xs:List α)(k:Nat)(h:k<xs.length):xs.take (k+1)=xs.take k++[xs[k]]:=by
 rw[List.take_add_one,dK h];rfl
theorem VO {k n:Nat}:((k:Int)+1).tmod (n:Int)=(((k+1) % n:Nat):Int):=by
 rw[Int.tmod_eq_emod_of_nonneg (by omega)];rfl
theorem Sw (l:List Qt)(xs:List Eg)(hxs:xs.map (fun e=>(e.a,e.b))=kJ l)(hl:l.length<=1000)(o:Option Addr)(cap n Bs:Nat)(w0:ag)(hB:w0.heap[Bs]? =some (.cells #[.slice o l.length cap] 132))(hP:fH w0 o l):
  SeqStopsK Fence.wide n prog 265 #[ay Bs] egV (rY (edT Bs o l)) (fun ys=>ys=xs) (fun p=>p<+:xs) xs.length w0:=by
 intro L J Jx W hW hJ hJx hY h0;have hBl:Bs<w0.heap.size:=(cZ.1 hB).1;have hBW:W.heap[Bs]? =some (.cells #[.slice o l.length cap] 132):=(hW.block Bs hBl).trans hB;have c0:W.cell? (ak Bs 0)=some (.slice o l.length cap):=by simp[World.cell?,hBW]
 have hJb:∀p A C,J p A->Below A.heap.size A C->J p C:=fun p A C h hb=>hJ p A C none h (grown_of hb) (fun r e=>by cases e);have hlen:xs.length=l.length:=by rw[<- F8 l,<- hxs,List.length_map]
 have hPW:=hP.below hW ai;refine callsIn_of_wp func265 rfl trivial ?_ rfl;simp only[ntmps265,List.size_toArray,List.length_cons,List.length_nil,Nat.reduceAdd,Nat.reduceSub,Array.replicate_succ,Array.replicate_zero,List.push_toArray,List.append_toArray,List.nil_append,List.cons_append]
 gi_wp2
 gi_loopw [8] (fun i wr=>∃k:Nat,k<=l.length/\i=aa k/\J (xs.take k) wr/\rY (edT Bs o l) W wr) (fun i _=>l.length-(intOf i).toNat)
 case atStart=>exact⟨0,aP _,rfl,h0,rY.refl _⟩
 case round=>
  obtain⟨k,hk,rfl,hJs,hnx⟩:=hrel;by_cases hlt:k<l.length
  ·have hlt':(k:Int)<(l.length:Int):=by omega
   have hkx:k<xs.length:=by omega
   obtain⟨a,b,ea,eb,eab⟩:=Sn hlt;have hx:(xs[k].a,xs[k].b)=(a,b):=by
    have h1:(xs.map (fun e=>(e.a,e.b)))[k]? =some (a,b):=by rw[hxs];exact eab
    rw[List.getElem?_map,dK hkx] at h1;simpa using h1
   have hts:=Jm xs k hkx;have hpl:(xs.take k).length<xs.length:=by rw[List.length_take];omega
   obtain⟨x,hxk⟩:∃x,xs[k]=x:=⟨_,rfl⟩;rw[hxk] at hx hts;obtain⟨rfl,rfl⟩:=Prod.mk.inj hx;obtain⟨bb,off,ho,q0,q1,q2,q3, -⟩:=hPW.kept hnx k x.a ea;obtain⟨bb',off',ho',r0,r1,r2,r3, -⟩:=hPW.kept hnx _ x.b eb;subst ho;cases ho';have cB:=(cell_of_heap (p:=⟨Bs,0,none⟩) (hnx Bs (.inl rfl))).trans c0;obtain⟨K,hK⟩:∃K,(k+1) % l.length=K:=⟨_,rfl⟩;have hKl:K<l.length:=by rw[<- hK];exact Nat.mod_lt _ (by omega)
   have hmod:((k:Int)+1).tmod (l.length:Int)=(K:Int):=by rw[VO,hK]
   rw[hK] at r0 r1 r2 r3;have aj8:(K:Int)<(l.length:Int):=by omega
   have hw1:IntKind.i64.wrap ((k:Int)+1)=(k:Int)+1:=IntWalk.i64_in _ (by omega);have hw2:IntKind.i64.wrap (K:Int)=(K:Int):=IntWalk.i64_in _ (by omega);have hK0:¬(K:Int)<0:=by omega
   have hne:¬(l.length:Int)=0:=by omega
   have aj9:((l.length:Int)==0)=false:=by rw[beq_eq_false_iff_ne];omega
   have aja:¬l.length=0:=by omega
   have ajb:¬l=[]:=by intro h;subst h;simp at hlt
   have HTS:=aj hts;have HPL:=aj hpl;clear hts hpl hxk hx hK eab ea eb;have hal:=bg wr (.cells #[aa x.a.xn,aa x.a.xd,aa x.a.yn,aa x.a.yd] 168);have FN:=Four.new wr (aa x.a.xn) (aa x.a.xd) (aa x.a.yn) (aa x.a.yd) 168;have r0:=(hal.cell (aF r0)).trans r0;have r1:=(hal.cell (aF r1)).trans r1;have r2:=(hal.cell (aF r2)).trans r2;have r3:=(hal.cell (aF r3)).trans r3;have cV:=(hal.cell (aF cB)).trans cB
   gi_wp2
   obtain⟨V,hV⟩:∃V,wr.alloc (.cells #[aa x.a.xn,aa x.a.xd,aa x.a.yn,aa x.a.yd] 168)=V:=⟨_,rfl⟩;rw[hV] at hal FN r0 r1 r2 r3 cV⊢;have HKV:Hid (rY (edT Bs (some ⟨bb,off,none⟩) l) wr V):=rY.of_below hal (fun j hj=>by
    rcases hj with rfl|⟨-,off2,h2⟩
    ·exact aF cB
    ·cases h2;exact aF q0)
   clear hV q0 q1 q2 q3 cB;obtain⟨f0,f1,f2,f3⟩:=FN;obtain⟨fn,tmps,assign,body,hy,hR⟩:=hY (xs.take k) x V.drew (hJb _ _ _ hJs hal.drew) HPL.out
   gi_region_with ((refine⟨(fun h=>by cases h),hR.mono ?_⟩;rintro e W3 h3;obtain⟨bo,rfl,hb3⟩:=Nv h3))
   all_goals(rcases hb3 with⟨rfl,hJ3,hk3⟩|⟨rfl,hJx3⟩;((gi_wp2;go_roundw);(case rel=>exact⟨k+1,by omega,by simp,by rw[HTS.out];exact hJ3,(hnx.trans HKV.out).trans hk3⟩);(case measure=>simp[intOf];omega));(gi_wp2;refine bodyPost_ret (results_none rfl _ _ _) rfl ?_;exact⟨⟨_,rfl⟩,.inr ⟨_,by rw[<- HTS.out];exact List.take_prefix _ _,hJx3⟩⟩))
  ·obtain rfl:k=l.length:=by omega
   gi_wp2
   go_end0
   exact⟨⟨_,rfl⟩,.inl ⟨_,by rw[List.take_of_length_le (by omega)],hJs⟩⟩
end
section
open Go.RowKit Go.Shelf
set_option maxRecDepth 100000
attribute [local go_sem] Oper.semAt_some
def sq (p:Qt)(a b:Qt):Int:=cO p a b*cO p a b
def a0y (l:List Qt)(p:Qt)(e:Ending):Prop:=
 (lg l/\iq p=0/\e=.returned (.tuple #[aa (tZ (cO p) l),aa (tZ (sq p) l),.nilIface]))\/
 (¬(lg l/\iq p=0)/\∃v,a0w v/\e=.returned (.tuple #[aa 0,aa 0,v]))
theorem Sy (o:Option Addr)(k cap:Nat)(w:ag):au 227 #[.agg #[.slice o k cap]] w fun e w'=>e=.returned (.func (.func 265) #[] #[ay w.heap.size])/\w'=w.alloc (.cells #[.slice o k cap] 132):=by
 go_enter func227,ntmps227;go_wp2;go_ret;exact⟨rfl,rfl⟩
theorem iT (W:ag)(v:ah)(t:TypeId):(W.alloc (.cells #[v] t)).cell? ⟨W.heap.size,0,none⟩=some v/\(W.alloc (.cells #[v] t)).frozen? ⟨W.heap.size,0,none⟩=false:=⟨by simp,by simp⟩
theorem Nw (w:ag)(v a b c d x y:ah)(t t' t'' t3:TypeId):
  ∀U,(((w.alloc (.cells #[v] t)).alloc (.cells #[a,b,c,d] t')).alloc (.cells #[x] t'')).alloc (.cells #[y] t3)=U->
  U.cell? ⟨w.heap.size,0,none⟩=some v/\Four U (w.heap.size+1) a b c d/\(U.cell? ⟨w.heap.size+1+1,0,none⟩=some x/\U.frozen? ⟨w.heap.size+1+1,0,none⟩=false)/\(U.cell? ⟨w.heap.size+1+1+1,0,none⟩=some y/\U.frozen? ⟨w.heap.size+1+1+1,0,none⟩=false)/\Below w.heap.size w U/\w.heap.size+1+1+1<U.heap.size:=by
 rintro U rfl;have h3:=Below.alloc (aG ((((w.alloc (.cells #[v] t)).alloc (.cells #[a,b,c,d] t')).alloc (.cells #[x] t'')).heap.size) _) ai (.cells #[y] t3);have h2:=Below.alloc (aG (((w.alloc (.cells #[v] t)).alloc (.cells #[a,b,c,d] t')).heap.size) _) ai (.cells #[x] t'');have h1:=Below.alloc (aG ((w.alloc (.cells #[v] t)).heap.size) _) ai (.cells #[a,b,c,d] t');have h0:=bg w (.cells #[v] t);have k2:=aA h2 h3;have k1:=aA h1 k2;have hz:w.heap.size<(w.alloc (.cells #[v] t)).heap.size:=by simp
 have e1:(w.alloc (.cells #[v] t)).heap.size=w.heap.size+1:=by simp
 have e2:((w.alloc (.cells #[v] t)).alloc (.cells #[a,b,c,d] t')).heap.size=w.heap.size+1+1:=by simp
 have e3:(((w.alloc (.cells #[v] t)).alloc (.cells #[a,b,c,d] t')).alloc (.cells #[x] t'')).heap.size=w.heap.size+1+1+1:=by simp
 have F:=Four.new (w.alloc (.cells #[v] t)) a b c d t';rw[e1] at F;have C2:=iT ((w.alloc (.cells #[v] t)).alloc (.cells #[a,b,c,d] t')) x t'';rw[e2] at C2;have C3:=iT (((w.alloc (.cells #[v] t)).alloc (.cells #[a,b,c,d] t')).alloc (.cells #[x] t'')) y t3;rw[e3] at C3;have hz2:w.heap.size+1+1<(((w.alloc (.cells #[v] t)).alloc (.cells #[a,b,c,d] t')).alloc (.cells #[x] t'')).heap.size:=by rw[e3];omega
 exact⟨(k1.cell (p:=⟨w.heap.size,0,none⟩) hz).trans (iT w v t).1,F.below k2 ai,⟨(h3.cell (p:=⟨w.heap.size+1+1,0,none⟩) hz2).trans C2.1,(h3.frozen (p:=⟨w.heap.size+1+1,0,none⟩) hz2).trans C2.2⟩,C3,aA h0 k1,by simp⟩
theorem zZ {V:ag}{X Y:Nat}(hne:X≠Y){a b u v:ah}(hx:V.cell? (ak X 0)=some u)(hy:V.cell? (ak Y 0)=some v):
  ((V.setCell ⟨X,0,none⟩ a).setCell ⟨Y,0,none⟩ b).cell? (ak X 0)=some a/\((V.setCell ⟨X,0,none⟩ a).setCell ⟨Y,0,none⟩ b).cell? (ak Y 0)=some b:=by
 have h1:(V.setCell ⟨X,0,none⟩ a).cell? (ak X 0)=some a:=fM _ _ _ (by rw[hx];rfl);have h2:(V.setCell ⟨X,0,none⟩ a).cell? (ak Y 0)=some v:=by rw[aO _ _ _ _ (by simp;exact hne)];exact hy
 refine⟨?_,fM _ _ _ (by rw[h2];rfl)⟩;rw[aO _ _ _ _ (by simp;exact fun e=>hne e.symm)];exact h1
abbrev Av (xs:List Eg):List (Qt×Qt):=xs.map (fun e=>(e.a,e.b))
theorem VP:∀L:List (Qt×Qt),(∀e∈L,PB e.1/\PB e.2)->∃xs:List Eg,Av xs=L
 |[],_=>⟨[],rfl⟩
 |e::L,h=>by
  obtain⟨xs,hx⟩:=VP L (fun x hx=>h x (List.mem_cons_of_mem _ hx));have h0:=h e (List.mem_cons_self ..);exact⟨⟨e.1,e.2,h0.1,h0.2⟩::xs,by simp only[Av,List.map_cons] at hx⊢;rw[hx]⟩
theorem Fa {l:List Qt}{e:Qt×Qt}(h:e∈kJ l):e.1∈l/\e.2∈l:=by
 cases l with
 |nil=>cases h
 |cons a l=>
  unfold kJ at h;obtain⟨h1,h2⟩:=List.of_mem_zip (a:=e.1) (b:=e.2) h;refine⟨h1,?_⟩;rcases List.mem_append.1 h2 with h3|h3
  ·exact List.mem_cons_of_mem _ h3
  ·simp at h3;rw[h3];exact List.mem_cons_self ..
structure Jn (p:Qt)(B1 B2 B3 N:Nat)(L:List (Qt×Qt))(W:ag):Prop where
 f:Four W B1 (aa p.xn) (aa p.xd) (aa p.yn) (aa p.yd)
 c2:W.cell? (ak B2 0)=some (aa (fG (cO p) L))
 f2:W.frozen? ⟨B2,0,none⟩=false
 c3:W.cell? (ak B3 0)=some (aa (fG (sq p) L))
 f3:W.frozen? ⟨B3,0,none⟩=false
 sz:N<=W.heap.size
theorem Jn.kept {p:Qt}{B1 B2 B3 N:Nat}{L:List (Qt×Qt)}{A B:ag}{row:Option Nat}(h:Jn p B1 B2 B3 N L A)(hg:A.grownBy B row)(hr:∀r,row=some r->∃o:Obj,A.heap[r]? =some o/\o.isCells=false):Jn p B1 B2 B3 N L B:=
 ⟨⟨cell_kept h.f.c0 hg hr,cell_kept h.f.c1 hg hr,cell_kept h.f.c2 hg hr,cell_kept h.f.c3 hg hr⟩,cell_kept h.c2 hg hr,(frozen_kept h.c2 hg hr).trans h.f2,cell_kept h.c3 hg hr,(frozen_kept h.c3 hg hr).trans h.f3,aJ h.sz hg.size⟩
theorem a0z (p:Qt)(B1 B2 B3 N:Nat):Own (fun(pre:List Eg) W=>Jn p B1 B2 B3 N (Av pre) W):=fun _ _ _ _ hs hg hr=>Jn.kept hs hg hr
theorem uO {W W':ag}(h:Below W.heap.size W W'):KeepsOthers W W':=⟨h.size,fun k _ hk _=>(h.block k (cZ.1 hk).1).trans hk⟩
theorem rY.set {T:Nat->Prop}{A:ag}{B:Nat}{u:ah}(hT:∀k,T k->k≠B):rY T A (A.setCell ⟨B,0,none⟩ u):=fun j hj=>aY _ _ _ j (fun e=>hT j hj e)
theorem Jn.set {p:Qt}{B1 B2 B3 N:Nat}{L L':List (Qt×Qt)}{W:ag}(h:Jn p B1 B2 B3 N L W)(h12:B2≠B1)(h13:B3≠B1)(h23:B2≠B3){a b:Int}(ha:fG (cO p) L'=a)(hb:fG (sq p) L'=b):
  Jn p B1 B2 B3 N L' ((W.setCell ⟨B2,0,none⟩ (aa a)).setCell ⟨B3,0,none⟩ (aa b)):=by
 obtain⟨d1,d2⟩:=zZ (V:=W) (X:=B2) (Y:=B3) (a:=aa a) (b:=aa b) h23 h.c2 h.c3;have far:∀o v,W.cell? (ak B1 o)=some v->((W.setCell ⟨B2,0,none⟩ (aa a)).setCell ⟨B3,0,none⟩ (aa b)).cell? (ak B1 o)=some v:=fun o v hv=>by
  rw[aO _ _ _ _ h13,aO _ _ _ _ h12];exact hv
 refine⟨⟨far _ _ h.f.c0,far _ _ h.f.c1,far _ _ h.f.c2,far _ _ h.f.c3⟩,by rw[ha];exact d1,?_,by rw[hb];exact d2,?_,?_⟩
 ·rw[World.frozen?_setCell,World.frozen?_setCell];exact h.f2
 ·rw[World.frozen?_setCell,World.frozen?_setCell];exact h.f3
 ·have h1:=(grownBy_setCell' W B2 (aa a)).size;have h2:=(grownBy_setCell' (W.setCell ⟨B2,0,none⟩ (aa a)) B3 (aa b)).size;have:=h.sz;omega
theorem Jn.below {p:Qt}{B1 B2 B3 N:Nat}{L:List (Qt×Qt)}{A B:ag}(h:Jn p B1 B2 B3 N L A)(hb:Below A.heap.size A B):Jn p B1 B2 B3 N L B:=h.kept (grown_of hb) (fun r e=>by cases e)
theorem Four.kept' {b:Nat}{x y z u:ah}{A B:ag}{row:Option Nat}(h:Four A b x y z u)(hg:A.grownBy B row)(hr:∀r,row=some r->∃o:Obj,A.heap[r]? =some o/\o.isCells=false):Four B b x y z u:=
 ⟨cell_kept h.c0 hg hr,cell_kept h.c1 hg hr,cell_kept h.c2 hg hr,cell_kept h.c3 hg hr⟩
theorem Sz (aB aS aZ:Addr)(l:List Qt)(o:Option Addr)(cap:Nat)(p:Qt)(w:ag)(h:fH w o l)(hp:PI p)(hE:E3 aB aS aZ w):
  CallsIn Fence.wide 9 prog 181 #[.agg #[.slice o l.length cap],mW p] w fun e W=>a0y l p e/\Below w.heap.size w W:=by
 refine callsIn_of_wp_marks func181 rfl trivial ?_ rfl;simp only[ntmps181,List.size_toArray,List.length_cons,List.length_nil,Nat.reduceAdd,Nat.reduceSub,Array.replicate_succ,Array.replicate_zero,List.push_toArray,List.append_toArray,List.nil_append,List.cons_append]
 gi_wp2
 obtain⟨U,hU⟩:∃U,(((w.alloc (.cells #[.slice o l.length cap] 132)).alloc (.cells #[aa p.xn,aa p.xd,aa p.yn,aa p.yd] 168)).alloc (.cells #[aa 0] 3)).alloc (.cells #[aa 0] 3)=U:=⟨_,rfl⟩;obtain⟨cS,F1,⟨c2,f2⟩,⟨c3,f3⟩,u7,hsU⟩:=Nw w _ _ _ _ _ _ _ _ _ _ _ U hU;rw[hU];clear hU;have CK:=vY aB aS aZ l o cap U (h.below u7 ai) (hE.below u7 ai);refine⟨trivial,(callsIn_wide.2 CK).mono ?_⟩;rintro e w1 ⟨hc,b1⟩;have uP:=aA u7 b1;have cS1:=(b1.cell (aF cS)).trans cS;have F11:=F1.below b1 ai;have c21:=(b1.cell (aF c2)).trans c2;have c31:=(b1.cell (aF c3)).trans c3;have f21:=(b1.frozen (aF c2)).trans f2;have f31:=(b1.frozen (aF c3)).trans f3;clear CK cS c2 c3 f2 f3;obtain⟨g0,g1,g2,g3⟩:=F11;rcases hc.plain with⟨hok,rfl⟩|⟨hno,v,hv,rfl⟩
 ·clear hc;have CP:=Au aB aS aZ p w1 hp (hE.below uP ai);by_cases hep:iq p=0
  ·rw[hep] at CP;have Vv:Hid (lg l/\iq p=0):=⟨hok,hep⟩;clear hok hep
   gi_wp2
   refine⟨trivial,(callsIn_wide.2 CP).mono ?_⟩;rintro e w2 ⟨rfl,b2⟩;simp only[qM];have cS2:=(b2.cell (aF cS1)).trans cS1
   gi_wp2
   refine⟨trivial,(callsIn_wide.2 (Sy o l.length cap w2)).mono ?_⟩;rintro e w3 ⟨rfl,hw3⟩;have Jb:=aA uP b2;have b3:=bg w2 (.cells #[.slice o l.length cap] 132);have hX:w3.heap[w2.heap.size]? =some (.cells #[.slice o l.length cap] 132):=by rw[hw3];exact dW w2 _
   rw[<- hw3] at b3;clear hw3;have vZ:=aA Jb b3;have hlt3:w2.heap.size<w3.heap.size:=(cZ.1 hX).1;have ajf:=b1.size;have ajg:=b2.size;obtain⟨VQ,hpe⟩:=Vv.out;obtain⟨xs,hxs⟩:=VP (kJ l) (fun e he=>⟨PB.of (VQ.2 _ (Fa he).1),PB.of (VQ.2 _ (Fa he).2)⟩);have hxl:xs.length<=30:=by have h1:=F8 l;rw[<- hxs,List.length_map] at h1;have:=VQ.1;omega
   have acO:=VQ.1;have hPB:=PB.of hpe;have hP3:=h.below vZ ai;have Fb:∀k,edT w2.heap.size o l k->k<w3.heap.size/\k≠w.heap.size+1+1/\k≠w.heap.size+1+1+1:=fun k hk=>by
    rcases hk with rfl|⟨hne,off,ho⟩
    ·exact⟨hlt3,by omega,by omega⟩
    ·cases l with
     |nil=>exact absurd rfl hne
     |cons a l=>
      obtain⟨b,off',e1,h2⟩:=h 0 a rfl;rw[ho] at e1;cases e1;have hk:=aF h2.c0;simp at hk;exact⟨by have:=vZ.size;omega,by omega,by omega⟩
   have I0':Jn p (w.heap.size+1) (w.heap.size+1+1) (w.heap.size+1+1+1) 0 [] w3:=Jn.below (Jn.below ⟨⟨g0,g1,g2,g3⟩,c21,f21,c31,f31,aP _⟩ b2) b3;have I0:Jn p (w.heap.size+1) (w.heap.size+1+1) (w.heap.size+1+1+1) w3.heap.size [] w3:=⟨I0'.f,I0'.c2,I0'.f2,I0'.c3,I0'.f3,Nat.le_refl _⟩;clear I0';clear hpe VQ g0 g1 g2 g3 c21 f21 c31 f31 CP cS1 cS2;have HXS:=aj hxs;have hseq:=Sw l xs hxs (by omega) o cap (9-1) w2.heap.size w3 hX hP3;clear hxs
   gi_wp2
   refine wpIn_rangeFunc_ownH rfl (by omega) (gf:=265) (lb:=#[ay w2.heap.size]) rfl trivial (enters_of func265 (by kernel_rfl) rfl)
    hseq rY.trans (rY.put (fun k hk=>(Fb k hk).1)) (aG _ _) (fun _=>rfl)
    (fun pre W=>Jn p (w.heap.size+1) (w.heap.size+1+1) (w.heap.size+1+1+1) w3.heap.size (Av pre) W/\Below w.heap.size w W)
    (fun _ _ _=>False)
    (OwnFrom.and ((a0z p _ _ _ _).from _) (ownFrom_below ai vZ.size))
    (fun c=>fun s A B row hs hg hr=>hs)
    ⟨I0,vZ⟩
    (fun x a' W=>∃Bx By,Four W Bx (aa x.a.xn) (aa x.a.xd) (aa x.a.yn) (aa x.a.yd)/\Four W By (aa x.b.xn) (aa x.b.xd) (aa x.b.yn) (aa x.b.yd)/\a'={tmps:=#[.agg #[.slice o l.length cap],mW p,ay w.heap.size,.pointer (some ⟨w.heap.size+1,0,none⟩),.pointer (some ⟨w.heap.size+1+1,0,none⟩),.pointer (some ⟨w.heap.size+1+1+1,0,none⟩),.nilIface,.nilIface,.nilIface,ay Bx,ay By,undef,.agg #[.slice o l.length cap],.nilIface,.nilIface,.bool false,undef,mW p,.nilIface,.nilIface,.bool false,undef,undef,undef,undef,.agg #[.slice o l.length cap],.func (.func 265) #[] #[ay w2.heap.size],mW x.a,mW x.b,undef,undef,undef,undef,undef,undef,undef,undef,undef,undef,undef,undef,undef,undef],defers:=[]})
    (fun x a' s A B row hs hg hr=>by obtain⟨Bx,By,h1,h2,h3⟩:=hs;exact⟨Bx,By,h1.kept' hg (fun r e=>(hr r e).2),h2.kept' hg (fun r e=>(hr r e).2),h3⟩)
    ?assign ?body ?done ?stop
   case assign=>
    rintro L pre x W K ⟨hI,hB⟩ hK
    gi_wp2
    have k1:=bg W (.cells #[aa x.a.xn,aa x.a.xd,aa x.a.yn,aa x.a.yd] 168);have k2:=bg (W.alloc (.cells #[aa x.a.xn,aa x.a.xd,aa x.a.yn,aa x.a.yd] 168)) (.cells #[aa x.b.xn,aa x.b.xd,aa x.b.yn,aa x.b.yd] 168);have FA:=(Four.new W (aa x.a.xn) (aa x.a.xd) (aa x.a.yn) (aa x.a.yd) 168).below k2 ai;have FB:=Four.new (W.alloc (.cells #[aa x.a.xn,aa x.a.xd,aa x.a.yn,aa x.a.yd] 168)) (aa x.b.xn) (aa x.b.xd) (aa x.b.yn) (aa x.b.yd) 168;rw[show(W.alloc (.cells #[aa x.a.xn,aa x.a.xd,aa x.a.yn,aa x.a.yd] 168)).heap.size=W.heap.size+1 from by simp] at FB;have k:=aA k1 k2;exact hK _ _ (((KeepsOthers.alloc _ _).trans (KeepsOthers.alloc _ _)).from _) (rY.of_below k (fun j hj=>by have h1:=(Fb j hj).1;have h2:=hI.sz;omega)) ⟨hI.below k,aA hB k⟩ ⟨W.heap.size,W.heap.size+1,FA,FB,rfl⟩
   case body=>
    rintro L pre x a' W hl hr ⟨hI,hB⟩ ⟨Bx,By,⟨x0,x1,x2,x3⟩,⟨y0,y1,y2,y3⟩,rfl⟩ hlt;have TO:=Su x.a x.b p W x.ha x.hb hPB;have ho:_/\fG (cO p) (Av pre)<=fG (sq p) (Av pre)/\ - fG (cO p) (Av pre)<=fG (sq p) (Av pre)/\0<=fG (sq p) (Av pre)/\fG (sq p) (Av pre)<=((Av pre).length:Int)/\_/\_:=Qc (cO p) (fun a b=>Ar p a b) (Av pre);obtain⟨-,o1,o2,o3,o4, -, -⟩:=ho;have hpl:(Av pre).length<=30:=by rw[List.length_map];omega
    have hs2:fG (cO p) (Av (pre++[x]))=fG (cO p) (Av pre)+cO p x.a x.b:=by rw[Av,List.map_append,Ji];simp[fG]
    have hs3:fG (sq p) (Av (pre++[x]))=fG (sq p) (Av pre)+cO p x.a x.b*cO p x.a x.b:=by rw[Av,List.map_append,Ji];simp[fG,sq]
    have hI':=hI;obtain⟨⟨z0,z1,z2,z3⟩,c2,f2,c3,f3,hsz⟩:=hI;have hTb: -1<=cO p x.a x.b/\cO p x.a x.b<=1/\0<=cO p x.a x.b*cO p x.a x.b/\cO p x.a x.b*cO p x.a x.b<=1:=by rcases Ar p x.a x.b with h|h|h<;>rw[h]<;>decide
    have HS2:Hid _:=hs2;have HS3:Hid _:=hs3;generalize hgT:cO p x.a x.b=T at TO hTb HS2 HS3;generalize hg2:fG (cO p) (Av pre)=s2 at c2 o1 o2 o3 o4 HS2;generalize hg3:fG (sq p) (Av pre)=s3 at c3 o1 o2 o3 o4 HS3;obtain⟨t1,t2,t3,t4⟩:=hTb;have HG:Hid (cO p x.a x.b=T/\fG (cO p) (Av pre)=s2/\fG (sq p) (Av pre)=s3):=⟨hgT,hg2,hg3⟩;have HI:=aj hI';clear hs2 hs3 hgT hg2 hg3 hI'
    gi_wp2_with (refine⟨trivial,?_⟩;gi_at_call 228;refine(CallsIn.inRound L (callsIn_wide.2 TO)).mono ?_;rintro e w' ⟨rfl,hb⟩;have c2':=(hb.cell (aF c2)).trans c2;have f2':=(hb.frozen (aF c2)).trans f2;have c3':=(hb.cell (aF c3)).trans c3;have f3':=(hb.frozen (aF c3)).trans f3)
    obtain⟨e1,e2,e3⟩:=HG.out;refine⟨((uO hb).trans ((eF _ _ _).trans (eF _ _ _))).from _,((rY.of_below hb (fun j hj=>by have h1:=(Fb j hj).1;omega)).trans (rY.set (fun k hk=>(Fb k hk).2.1))).trans (rY.set (fun k hk=>(Fb k hk).2.2)),Jn.set (HI.out.below hb) (by omega) (by omega) (by omega) HS2.out HS3.out,?_⟩;exact((aA hB hb).setCell (by simp;omega) _).setCell (by simp;omega) _
   case done=>
    rintro D ys W hD rfl ⟨hI,hB⟩ hK;obtain⟨-,c2,f2,c3,f3,hsz⟩:=hI;rw[HXS.out] at c2 c3;have c2':W.drew.cell? ⟨w.heap.size+1+1,0,none⟩=some (aa (fG (cO p) (kJ l))):=c2;have c3':W.drew.cell? ⟨w.heap.size+1+1+1,0,none⟩=some (aa (fG (sq p) (kJ l))):=c3;have hwd:tZ (cO p) l=fG (cO p) (kJ l):=rfl;have hcr:tZ (sq p) l=fG (sq p) (kJ l):=rfl;have HW:Hid (tZ (cO p) l=fG (cO p) (kJ l)/\tZ (sq p) l=fG (sq p) (kJ l)):=⟨hwd,hcr⟩;clear hwd hcr;generalize fG (cO p) (kJ l)=s2 at c2 c2' HW;generalize fG (sq p) (kJ l)=s3 at c3 c3' HW
    gi_wp2
    have hK':=((eF W ⟨w.heap.size+1+1,0,none⟩ (aa s2)).trans (eF _ ⟨w.heap.size+1+1+1,0,none⟩ (aa s3))).same D _ hK rfl;have hK2:((W.setCell ⟨w.heap.size+1+1,0,none⟩ (aa s2)).setCell ⟨w.heap.size+1+1+1,0,none⟩ (aa s3)).drew.heap[D]? =some (.deferred (some [])):=hK';obtain⟨d1,d2⟩:=zZ (V:=W) (X:=w.heap.size+1+1) (Y:=w.heap.size+1+1+1) (a:=aa s2) (b:=aa s3) (by omega) c2 c3;have d1':((W.setCell ⟨w.heap.size+1+1,0,none⟩ (aa s2)).setCell ⟨w.heap.size+1+1+1,0,none⟩ (aa s3)).drew.cell? ⟨w.heap.size+1+1,0,none⟩=some (aa s2):=d1;have d2':((W.setCell ⟨w.heap.size+1+1,0,none⟩ (aa s2)).setCell ⟨w.heap.size+1+1+1,0,none⟩ (aa s3)).drew.cell? ⟨w.heap.size+1+1+1,0,none⟩=some (aa s3):=d2;have bz:=((hB.setCell (p:=⟨w.heap.size+1+1,0,none⟩) (by simp;omega) (aa s2)).setCell (p:=⟨w.heap.size+1+1+1,0,none⟩) (by simp;omega) (aa s3)).drew
    gi_region
    all_goals
     gi_wp2
     clear d1 d2;generalize ((W.setCell ⟨w.heap.size+1+1,0,none⟩ (aa s2)).setCell ⟨w.heap.size+1+1+1,0,none⟩ (aa s3)).drew=Z at hK2 d1' d2' bz⊢;refine⟨by simp,.inl ⟨_,_,rfl,run_takeDeferred hK2,?_⟩⟩;have hc5:=cell_kept d1' (grownBy_putObj' _ D (.deferred none)) (fun r e=>by cases e;exact⟨_,hK2,rfl⟩);have hc6:=cell_kept d2' (grownBy_putObj' _ D (.deferred none)) (fun r e=>by cases e;exact⟨_,hK2,rfl⟩);refine⟨.tuple #[aa s2,aa s3,.nilIface],?_,.inl ⟨Vv.out.1,Vv.out.2,by rw[HW.out.1,HW.out.2]⟩,bz.trans (belowK_b (w:=w) ai Z D _ _ (by have:=vZ.size;omega) hK2 rfl rfl)⟩;simp[results,results181,go_sem,hc5,hc6]
   case stop=>exact fun D c pre W hD hpre hf=>hf.elim
  ·have hno:¬(lg l/\iq p=0):=fun h=>hep h.2;obtain⟨ad,Nb⟩:=gM aB aS aZ (show iq p=2\/iq p=3 by have:=Nt p;omega);rw[Nb] at CP;clear Nb hep hok
   gi_wp2
   refine⟨trivial,(callsIn_wide.2 CP).mono ?_⟩;rintro e w2 ⟨rfl,b2⟩;have c22:=(b2.cell (aF c21)).trans c21;have c32:=(b2.cell (aF c31)).trans c31;have f22:=(b2.frozen (aF c21)).trans f21;have f32:=(b2.frozen (aF c31)).trans f31;have k22:=fun o=>cell_kept c22 (World.grownBy_alloc w2 o none) (fun r e=>by cases e);have k32:=fun o=>cell_kept c32 (World.grownBy_alloc w2 o none) (fun r e=>by cases e);have j22:=fun o=>(frozen_kept c22 (World.grownBy_alloc w2 o none) (fun r e=>by cases e)).trans f22;have j32:=fun o=>(frozen_kept c32 (World.grownBy_alloc w2 o none) (fun r e=>by cases e)).trans f32
   gi_wp2
   obtain⟨d1,d2⟩:=zZ (V:=w2.alloc (.cells #[aa 30,.iface 401 (.pointer (some ad))] 92)) (X:=w.heap.size+1+1) (Y:=w.heap.size+1+1+1) (a:=aa 0) (b:=aa 0) (by omega) (k22 _) (k32 _);exact⟨.tuple #[aa 0,aa 0,.iface 90 (ay w2.heap.size)],by simp[results,results181,go_sem,d1,d2],.inr ⟨hno,_,.inr ⟨_,rfl⟩,rfl⟩,(((aA uP b2).alloc (aA uP b2).size _).setCell (by simp;omega) _).setCell (by simp;omega) _⟩
 ·clear hc;have hno':¬(lg l/\iq p=0):=fun h=>hno h.1;obtain⟨d1,d2⟩:=zZ (V:=w1) (X:=w.heap.size+1+1) (Y:=w.heap.size+1+1+1) (a:=aa 0) (b:=aa 0) (by omega) c21 c31;have bz:=(uP.setCell (p:=⟨w.heap.size+1+1,0,none⟩) (by simp;omega) (aa 0)).setCell (p:=⟨w.heap.size+1+1+1,0,none⟩) (by simp;omega) (aa 0);rcases hv with⟨a,rfl⟩|⟨a,rfl⟩
  ·gi_wp2
   exact⟨.tuple #[aa 0,aa 0,.iface 401 (.pointer (some a))],by simp[results,results181,go_sem,d1,d2],.inr ⟨hno',_,.inl ⟨a,rfl⟩,rfl⟩,bz⟩
  ·gi_wp2
   exact⟨.tuple #[aa 0,aa 0,.iface 90 (.pointer (some a))],by simp[results,results181,go_sem,d1,d2],.inr ⟨hno',_,.inr ⟨a,rfl⟩,rfl⟩,bz⟩
end
section
open Go.RowKit
set_option maxRecDepth 20000
def Gy (l:List Qt)(p:Qt)(wd cr:Int)(v:ah):Prop:=
 (lg l/\iq p=0/\wd=tZ (cO p) l/\cr=tZ (sq p) l/\v=.nilIface)\/(¬(lg l/\iq p=0)/\wd=0/\cr=0/\a0w v)
theorem Aw (aB aS aZ:Addr)(l:List Qt)(o:Option Addr)(cap:Nat)(p:Qt)(w:ag)(h:fH w o l)(hp:PI p)(hE:E3 aB aS aZ w):
    au 181 #[.agg #[.slice o l.length cap],mW p] w fun e W=>∃wd cr v,Gy l p wd cr v/\e=.returned (.tuple #[aa wd,aa cr,v])/\Below w.heap.size w W:=
  (callsIn_wide.1 (Sz aB aS aZ l o cap p w h hp hE)).mono fun e W h=>by
    obtain⟨h1|h1,hb⟩:=h
    · obtain⟨h1,h2,h3⟩:=h1
      exact⟨_,_,_,.inl ⟨h1,h2,rfl,rfl,rfl⟩,h3,hb⟩
    · obtain⟨h1,v,h2,h3⟩:=h1
      exact⟨_,_,_,.inr ⟨h1,rfl,rfl,h2⟩,h3,hb⟩
theorem xz (w:ag)(v a b c d:ah)(t t':TypeId):
  ∀U,(w.alloc (.cells #[v] t)).alloc (.cells #[a,b,c,d] t')=U->U.cell? ⟨w.heap.size,0,none⟩=some v/\Four U (w.heap.size+1) a b c d/\Below w.heap.size w U:=by
 rintro U rfl;have h1:=bg (w.alloc (.cells #[v] t)) (.cells #[a,b,c,d] t');have F:=Four.new (w.alloc (.cells #[v] t)) a b c d t';rw[show(w.alloc (.cells #[v] t)).heap.size=w.heap.size+1 from by simp] at F;exact⟨(h1.cell (p:=⟨w.heap.size,0,none⟩) (by simp)).trans (iT w v t).1,F,aA (bg w _) h1⟩
abbrev a8L:ah:=.string ⟨#[119,105,110,100]⟩
abbrev a8M:ah:=.string ⟨#[101,118,101,110]⟩
theorem Ny (aB aS aZ:Addr)(l:List Qt)(o:Option Addr)(cap:Nat)(p:Qt)(w:ag)(h:fH w o l)(hp:PI p)(hE:E3 aB aS aZ w):
  au 131 #[.agg #[.slice o l.length cap],mW p,a8L] w fun e W=>∃wd cr v,Gy l p wd cr v/\e=.returned (.tuple #[.bool (wd !=0),v])/\Below w.heap.size w W:=by
 have AR:=fun V (hv:Below w.heap.size w V)=>Aw aB aS aZ l o cap p V (h.below hv ai) hp (hE.below hv ai);go_enter func131,ntmps131;go_upto_region 1 with fail;obtain⟨U,hU⟩:∃U,(w.alloc (.cells #[.slice o l.length cap] 132)).alloc (.cells #[aa p.xn,aa p.xd,aa p.yn,aa p.yd] 168)=U:=⟨_,rfl⟩;obtain⟨cS,⟨g0,g1,g2,g3⟩,u7⟩:=xz w _ _ _ _ _ _ _ U hU;rw[hU];clear hU;have AR:=AR U u7;go_wp2_with(go_at_call 181;refine AR.mono ?_;rintro e w1 ⟨wd,cr,v,hv,rfl,b1⟩);refine bodyPost_ret (results_tmp2 rfl _ _ _) rfl ?_;exact⟨_,_,_,hv,rfl,aA u7 b1⟩
theorem Nz (aB aS aZ:Addr)(l:List Qt)(o:Option Addr)(cap:Nat)(p:Qt)(w:ag)(h:fH w o l)(hp:PI p)(hE:E3 aB aS aZ w):
  au 131 #[.agg #[.slice o l.length cap],mW p,a8M] w fun e W=>∃wd cr v,Gy l p wd cr v/\e=.returned (.tuple #[.bool (cr.tmod 2==1),v])/\Below w.heap.size w W:=by
 have AR:=fun V (hv:Below w.heap.size w V)=>Aw aB aS aZ l o cap p V (h.below hv ai) hp (hE.below hv ai);go_enter func131,ntmps131;go_upto_region 1 with fail;obtain⟨U,hU⟩:∃U,(w.alloc (.cells #[.slice o l.length cap] 132)).alloc (.cells #[aa p.xn,aa p.xd,aa p.yn,aa p.yd] 168)=U:=⟨_,rfl⟩;obtain⟨cS,⟨g0,g1,g2,g3⟩,u7⟩:=xz w _ _ _ _ _ _ _ U hU;rw[hU];clear hU;have AR:=AR U u7;go_wp2_with(go_at_call 181;refine AR.mono ?_;rintro e w1 ⟨wd,cr,v,hv,rfl,b1⟩);refine bodyPost_ret (results_tmp2 rfl _ _ _) rfl ?_;exact⟨_,_,_,hv,rfl,aA u7 b1⟩
end
section
open Go.RowKit
theorem VS {w:ag}{b:Nat}{a0 a1 a2 a3:Qt}{t:TypeId}{f:Nat×Nat}(h:w.heap[b]? =some (.cells #[aa a0.xn,aa a0.xd,aa a0.yn,aa a0.yd,aa a1.xn,aa a1.xd,aa a1.yn,aa a1.yd,aa a2.xn,aa a2.xd,aa a2.yn,aa a2.yd,aa a3.xn,aa a3.xd,aa a3.yn,aa a3.yd] t f))
  (h0:PI a0) (h1:PI a1) (h2:PI a2) (h3:PI a3):fH w (some ⟨b,0,none⟩) [a0,a1,a2,a3]:=by
 have key:∀k v,#[Value.int .i64 a0.xn,aa a0.xd,aa a0.yn,aa a0.yd,aa a1.xn,aa a1.xd,aa a1.yn,aa a1.yd,aa a2.xn,aa a2.xd,aa a2.yn,aa a2.yd,aa a3.xn,aa a3.xd,aa a3.yn,aa a3.yd][k]? =some v->w.cell? (ak b k)=some v:=fun k v hv=>by
  simp only[World.cell?,h];exact hv
 intro i a ha
 match i,ha with
 |0,ha=>cases ha;exact⟨b,0,rfl,key 0 _ rfl,key 1 _ rfl,key 2 _ rfl,key 3 _ rfl,h0⟩
 |1,ha=>cases ha;exact⟨b,0,rfl,key 4 _ rfl,key 5 _ rfl,key 6 _ rfl,key 7 _ rfl,h1⟩
 |2,ha=>cases ha;exact⟨b,0,rfl,key 8 _ rfl,key 9 _ rfl,key 10 _ rfl,key 11 _ rfl,h2⟩
 |3,ha=>cases ha;exact⟨b,0,rfl,key 12 _ rfl,key 13 _ rfl,key 14 _ rfl,key 15 _ rfl,h3⟩
 |(k+4),ha=>simp at ha
def eu:List Qt->List ah
 |[]=>[]
 |a::r=>aa a.xn::aa a.xd::aa a.yn::aa a.yd::eu r
theorem uQ:∀l:List Qt,(eu l).length=l.length*4
 |[]=>rfl
 |x::r=>by simp[eu,uQ r];omega
theorem Ay:∀l m:List Qt,eu (l++m)=eu l++eu m
 |[],_=>rfl
 |x::r,m=>by simp[eu,Ay r m]
theorem Az:∀(l:List Qt) (j:Nat) (u:ah),(eu l)[j]? =some u->∃i x,l[i]? =some x/\((j=i*4/\u=aa x.xn)\/(j=i*4+1/\u=aa x.xd)\/(j=i*4+2/\u=aa x.yn)\/(j=i*4+3/\u=aa x.yd))
 |[],j,u,h=>by simp[eu] at h
 |x::r,0,u,h=>by simp[eu] at h;exact⟨0,x,rfl,.inl ⟨rfl,h.symm⟩⟩
 |x::r,1,u,h=>by simp[eu] at h;exact⟨0,x,rfl,.inr (.inl ⟨rfl,h.symm⟩)⟩
 |x::r,2,u,h=>by simp[eu] at h;exact⟨0,x,rfl,.inr (.inr (.inl ⟨rfl,h.symm⟩))⟩
 |x::r,3,u,h=>by simp[eu] at h;exact⟨0,x,rfl,.inr (.inr (.inr ⟨rfl,h.symm⟩))⟩
 |x::r,j+4,u,h=>by
  have h':(eu r)[j]? =some u:=by simpa[eu] using h
  obtain⟨i,y,h1,h2⟩:=Az r j u h';refine⟨i+1,y,by simpa using h1,?_⟩;rcases h2 with⟨rfl,h3⟩|⟨rfl,h3⟩|⟨rfl,h3⟩|⟨rfl,h3⟩
  ·exact .inl ⟨by omega,h3⟩
  ·exact .inr (.inl ⟨by omega,h3⟩)
  ·exact .inr (.inr (.inl ⟨by omega,h3⟩))
  ·exact .inr (.inr (.inr ⟨by omega,h3⟩))
theorem AA:∀(l:List Qt) (i:Nat) (x:Qt),l[i]? =some x->(eu l)[i*4]? =some (aa x.xn)/\(eu l)[i*4+1]? =some (aa x.xd)/\(eu l)[i*4+2]? =some (aa x.yn)/\(eu l)[i*4+3]? =some (aa x.yd)
 |[],i,x,h=>by simp at h
 |y::r,0,x,h=>by simp at h;subst h;exact⟨rfl,rfl,rfl,rfl⟩
 |y::r,i+1,x,h=>by
  have h1:=AA r i x (by simpa using h);rw[show(i+1)*4=i*4+4 from by omega];simpa[eu,Nat.add_right_comm _ 4] using h1
theorem AB (l:List Qt):∀u∈eu l,u.oneCell'=true:=fun u hu=>by
 obtain⟨j,hj⟩:=List.getElem?_of_mem hu;obtain⟨i,x, -,⟨-,rfl⟩|⟨-,rfl⟩|⟨-,rfl⟩|⟨-,rfl⟩⟩:=Az l j u hj<;>rfl
theorem addr_add (b off k:Nat):(⟨b,off,none⟩:Addr).add k=⟨b,off+k,none⟩:=by unfold Addr.add;split<;>simp_all
def iM (w:ag)(base:Nat)(v:ah)(l:List Qt):Prop:=w.ownsRow base 168 4 v l.length (eu l)
theorem iM.at_ {w:ag}{base:Nat}{v:ah}{l:List Qt}(h:iM w base v l)(hl:∀a∈l,PI a):∃o cap,v=.slice o l.length cap/\fH w o l:=by
 rcases h.2 with⟨rfl,h0⟩|⟨g,cap,cur,rfl, -⟩
 ·have:l=[]:=iC.1 h0;subst this;exact⟨none,0,rfl,fun i a ha=>by simp at ha⟩
 ·refine⟨_,cap,rfl,fun i a ha=>⟨g,0,rfl,?_⟩⟩;have hc:∀j u,(eu l)[j]? =some u->w.cell? (ak g j)=some u:=fun j u hj=>by
   have:=World.ownsRow.cells h (g:=g) rfl j u hj;rw[addr_add,Nat.zero_add] at this;exact this
  obtain⟨h0,h1,h2,h3⟩:=AA l i a ha;rw[Nat.zero_add];exact⟨hc _ _ h0,hc _ _ h1,hc _ _ h2,hc _ _ h3,hl a (fV ha)⟩
theorem VT:(prog.info? 168).map (fun i=>(i.zero,i.size,i.bytes))=some (some (.agg #[aa 0,aa 0,aa 0,aa 0]),4,32):=by kernel_rfl
theorem Qd {w:ag}{base:Nat}{e:TypeId}{size:Nat}{v:ah}{n:Nat}{xs:List ah}(h:w.ownsRow base e size v n xs):∀k,v.ownBlock=some k->base<=k:=by
 obtain⟨_,h2⟩:=h;rcases h2 with⟨rfl,_⟩|⟨g,cap,cur,rfl,hg,_⟩
 ·intro k hk;cases hk
 ·intro k hk;cases hk;exact hg
end
section
def NC (xn xd yn yd Xn Xd Yn Yd:Int):List Qt:=[⟨xn,xd,yn,yd⟩,⟨Xn,Xd,yn,yd⟩,⟨Xn,Xd,Yn,Yd⟩,⟨xn,xd,Yn,Yd⟩]
end
end Go.Proofs.YtecneflbncjhpaaGreatDoor

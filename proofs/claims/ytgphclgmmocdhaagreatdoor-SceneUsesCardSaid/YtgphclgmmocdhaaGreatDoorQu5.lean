/-
  Parts of the proof.
-/
import Derived.Test.YtgphclgmmocdhaaGreatDoorQu0
import Derived.Deep.Cut
namespace Go.Proofs.YtgphclgmmocdhaaGreatDoor
section
structure Qt where
 xn:Int
 xd:Int
 yn:Int
 yd:Int
deriving DecidableEq
structure Pos (a:Qt):Prop where
 x:1<=a.xd
 y:1<=a.yd
def path (T:Qt->Qt->Int):List Qt->Int
 | []=>0
 | [_]=>0
 | a :: b :: l=>T a b+path T (b :: l)
end
section
open Go.RowKit
set_option maxHeartbeats 1000000
abbrev qtV (a:Qt):Value:=.agg #[.int .i64 a.xn,.int .i64 a.xd,.int .i64 a.yn,.int .i64 a.yd]
structure PI (a:Qt):Prop where
 xn:I64 a.xn
 xd:I64 a.xd
 yn:I64 a.yn
 yd:I64 a.yd
def tgr (n d:Int):Bool:=decide (20<d\/1000 * d<n\/n < -1000 * d)
def chkP (a:Qt):Nat:=if chk a.xn a.xd≠0 then chk a.xn a.xd else chk a.yn a.yd
def bigP (a:Qt):Nat:=if tgr a.xn a.xd=true\/tgr a.yn a.yd=true then 2 else 0
theorem chkP_cases (a:Qt):chkP a=0\/chkP a=2\/chkP a=3:=by
 unfold chkP
 split
 ·exact chk_cases _ _
 ·exact chk_cases _ _
theorem bigP_cases (a:Qt):bigP a=0\/bigP a=2:=by
 unfold bigP
 split <;> simp
theorem chkP_zero {a:Qt}:chkP a=0↔chk a.xn a.xd=0/\chk a.yn a.yd=0:=by
 unfold chkP
 by_cases h:chk a.xn a.xd=0
 ·rw [if_neg (by simp [h])];simp [h]
 ·rw [if_pos h];simp [h]
theorem chkP_pos {a:Qt} (h:chkP a=0):Pos a:=⟨(chk_zero.1 (chkP_zero.1 h).1).1,(chk_zero.1 (chkP_zero.1 h).2).1⟩
theorem mbelow (W:World) (o:Obj):Below W.heap.size W (W.alloc o):=(Below.refl _ _).alloc Nat.le.refl o
theorem bel_more {W X Y:World} (h1:Below W.heap.size W X) (h2:Below X.heap.size X Y):Below W.heap.size W Y:=h1.trans (h2.mono h1.size)
theorem tooGreat_sh (n d:Int) (w:World) (hn:I64 n) (h1:1<=d) :
  Calls Tryz.prog 257 #[.agg #[.int .i64 n,.int .i64 d]] w fun e w'=>e=.returned (.bool (tgr n d))/\Below w.heap.size w w':=by
 obtain ⟨n1,n2⟩:=hn
 by_cases h20:20<d
 ·have e:tgr n d=true:=by unfold tgr;simp;omega
  rw [e]
  go_enter Tryz.func257,Tryz.ntmps257
  go_wp2
  go_ret
  exact ⟨rfl,mbelow w _⟩
 ·by_cases ha:1000 * d<n
  ·have e:tgr n d=true:=by unfold tgr;simp;omega
   rw [e]
   go_enter Tryz.func257,Tryz.ntmps257
   go_wp2
   go_ret
   exact ⟨rfl,mbelow w _⟩
  ·have e:tgr n d=decide (n < -1000 * d):=by unfold tgr;simp only [decide_eq_decide];omega
   rw [e]
   go_enter Tryz.func257,Tryz.ntmps257
   go_wp2
   go_ret
   exact ⟨rfl,mbelow w _⟩
end
section
open Go.RowKit
set_option maxHeartbeats 1000000
structure Four (w:World) (b:Nat) (x y z u:Value):Prop where
 c0:w.cell? ⟨b,0,none⟩=some x
 c1:w.cell? ⟨b,1,none⟩=some y
 c2:w.cell? ⟨b,2,none⟩=some z
 c3:w.cell? ⟨b,3,none⟩=some u
theorem Four.below {w w':World} {b B:Nat} {x y z u:Value} (h:Four w b x y z u) (hb:Below B w w') (hB:w.heap.size<=B):Four w' b x y z u:=by
 have hl:b<B:=Nat.lt_of_lt_of_le (cell_lt h.c0) hB
 exact ⟨(hb.cell (p:=⟨b,0,none⟩) hl).trans h.c0,(hb.cell (p:=⟨b,1,none⟩) hl).trans h.c1,(hb.cell (p:=⟨b,2,none⟩) hl).trans h.c2,(hb.cell (p:=⟨b,3,none⟩) hl).trans h.c3⟩
theorem Four.new (w:World) (x y z u:Value) (t:TypeId):Four (w.alloc (.cells #[x,y,z,u] t)) w.heap.size x y z u:=⟨by simp,by simp,by simp,by simp⟩
theorem checkSize_any (aB aS aZ:Addr) (a:Qt) (w:World) (hI:PI a) (hp:Pos a) (h:E3 aB aS aZ w) :
  Calls Tryz.prog 211 #[qtV a] w fun e w'=>e=.returned (er aB aS aZ (bigP a))/\Below w.heap.size w w':=by
 have hB:=h.b
 have TX:=fun V=>tooGreat_sh a.xn a.xd V hI.xn hp.x
 have TY:=fun V=>tooGreat_sh a.yn a.yd V hI.yn hp.y
 have F0:=Four.new w (.int .i64 a.xn) (.int .i64 a.xd) (.int .i64 a.yn) (.int .i64 a.yd) 121
 have hw:=mbelow w (.cells #[.int .i64 a.xn,.int .i64 a.xd,.int .i64 a.yn,.int .i64 a.yd] 121)
 cases h1:tgr a.xn a.xd with
 | true=>
  have e:bigP a=2:=by unfold bigP;rw [if_pos (.inl h1)]
  rw [e]
  rw [h1] at TX
  go_enter Tryz.func211,Tryz.ntmps211
  go_wp2_with (go_at_call 257;refine (TX _).mono ?_;rintro e w1 ⟨rfl,b1⟩;have k1:=bel_more hw b1;have hE1:=(h.below k1 Nat.le.refl).b)
  go_ret
  exact ⟨rfl,k1⟩
 | false=>
  rw [h1] at TX
  cases h2:tgr a.yn a.yd with
  | true=>
   have e:bigP a=2:=by unfold bigP;rw [if_pos (.inr h2)]
   rw [e]
   rw [h2] at TY
   go_enter Tryz.func211,Tryz.ntmps211
   go_wp2_with (first | (go_at_call 257;refine (TY w1).mono ?_;rintro e w2 ⟨rfl,b2⟩;have k2:=bel_more k1 b2;have hE1:=(h.below k2 Nat.le.refl).b) | (go_at_call 257;refine (TX _).mono ?_;rintro e w1 ⟨rfl,b1⟩;have k1:=bel_more hw b1;obtain ⟨x0,x1,x2,x3⟩:=F0.below b1 Nat.le.refl))
   go_ret
   exact ⟨rfl,k2⟩
  | false=>
   have e:bigP a=0:=by unfold bigP;rw [if_neg (by simp [h1,h2])]
   rw [e]
   rw [h2] at TY
   go_enter Tryz.func211,Tryz.ntmps211
   go_wp2_with (first | (go_at_call 257;refine (TY w1).mono ?_;rintro e w2 ⟨rfl,b2⟩;have k2:=bel_more k1 b2;have hE1:=(h.below k2 Nat.le.refl).b) | (go_at_call 257;refine (TX _).mono ?_;rintro e w1 ⟨rfl,b1⟩;have k1:=bel_more hw b1;obtain ⟨x0,x1,x2,x3⟩:=F0.below b1 Nat.le.refl))
   go_ret
   exact ⟨rfl,k2⟩
theorem checkRight_any (aB aS aZ:Addr) (a:Qt) (w:World) (hI:PI a) (h:E3 aB aS aZ w) :
  Calls Tryz.prog 241 #[qtV a] w fun e w'=>e=.returned (er aB aS aZ (chkP a))/\Below w.heap.size w w':=by
 have F0:=Four.new w (.int .i64 a.xn) (.int .i64 a.xd) (.int .i64 a.yn) (.int .i64 a.yd) 121
 have hw:=mbelow w (.cells #[.int .i64 a.xn,.int .i64 a.xd,.int .i64 a.yn,.int .i64 a.yd] 121)
 have TX:=fun V (hv:Below w.heap.size w V)=>Check_any aB aS aZ a.xn a.xd V hI.xn hI.xd (h.below hv Nat.le.refl)
 have TY:=fun V (hv:Below w.heap.size w V)=>Check_any aB aS aZ a.yn a.yd V hI.yn hI.yd (h.below hv Nat.le.refl)
 by_cases hc:chk a.xn a.xd=0
 ·have e:chkP a=chk a.yn a.yd:=by unfold chkP;rw [if_neg (by simp [hc])]
  rw [e]
  rw [hc] at TX
  clear hc
  go_enter Tryz.func241,Tryz.ntmps241
  go_wp2_with (first | (go_at_call 198;refine (TY w1 k1).mono ?_;rintro e w2 ⟨rfl,b2⟩;have k2:=bel_more k1 b2) | (go_at_call 198;refine (TX _ hw).mono ?_;rintro e w1 ⟨rfl,b1⟩;simp only [er_0];have k1:=bel_more hw b1;obtain ⟨x0,x1,x2,x3⟩:=F0.below b1 Nat.le.refl))
  go_ret
  exact ⟨rfl,k2⟩
 ·have e:chkP a=chk a.xn a.xd:=by unfold chkP;rw [if_pos hc]
  rw [e]
  obtain ⟨ad,ha⟩:=er_cases aB aS aZ (show chk a.xn a.xd=2\/chk a.xn a.xd=3 by have:=chk_cases a.xn a.xd;omega)
  rw [ha] at TX ⊢
  clear hc ha e
  go_enter Tryz.func241,Tryz.ntmps241
  go_wp2_with (go_at_call 198;refine (TX _ hw).mono ?_;rintro e w1 ⟨rfl,b1⟩;have k1:=bel_more hw b1)
  go_ret
  exact ⟨rfl,k1⟩
def errP (a:Qt):Nat:=if chkP a≠0 then chkP a else bigP a
theorem errP_zero {a:Qt}:errP a=0↔chkP a=0/\bigP a=0:=by
 unfold errP
 by_cases h:chkP a=0
 ·rw [if_neg (by simp [h])];simp [h]
 ·rw [if_pos h];simp [h]
end
section
open Go.RowKit
set_option maxHeartbeats 4000000
set_option maxRecDepth 20000
def errF (n d:Int):Nat:=if chk n d≠0 then chk n d else if tgr n d=true then 2 else 0
theorem errF_of {n d:Int} (h:chk n d=0):errF n d=if tgr n d=true then 2 else 0:=by unfold errF;rw [if_neg (by simp [h])]
theorem fracError_any (n d:Int) (w:World) (hn:I64 n) (hd:I64 d) (hc:chk n d=0) :
  Calls Tryz.prog 92 #[.agg #[.int .i64 n,.int .i64 d]] w fun e w'=>e=.returned (.int .i64 (errF n d:Nat))/\Below w.heap.size w w':=by
 have hd1:1<=d:=(chk_zero.1 hc).1
 have hb0:=mbelow w (.cells #[.int .i64 n,.int .i64 d] 52)
 have T0:=Two.new w (.int .i64 n) (.int .i64 d) 52
 have FE:=FracError_any n d (w.alloc (.cells #[.int .i64 n,.int .i64 d] 52)) hn hd
 rw [hc] at FE
 obtain ⟨n1,n2⟩:=hn
 rw [errF_of hc]
 clear hc
 by_cases h20:20<d
 ·have e:tgr n d=true:=by unfold tgr;simp;omega
  rw [if_pos e]
  go_enter Tryz.func92,Tryz.ntmps92
  go_wp2_with (go_at_call 91;refine FE.mono ?_;rintro e w1 ⟨rfl,b1⟩;obtain ⟨t0,t1, -, -⟩:=T0.below b1 Nat.le.refl)
  go_ret
  exact ⟨rfl,bel_more hb0 b1⟩
 ·by_cases ha:1000 * d<n
  ·have e:tgr n d=true:=by unfold tgr;simp;omega
   rw [if_pos e]
   go_enter Tryz.func92,Tryz.ntmps92
   go_wp2_with (go_at_call 91;refine FE.mono ?_;rintro e w1 ⟨rfl,b1⟩;obtain ⟨t0,t1, -, -⟩:=T0.below b1 Nat.le.refl)
   go_ret
   exact ⟨rfl,bel_more hb0 b1⟩
  ·by_cases hs:n < -1000 * d
   ·have e:tgr n d=true:=by unfold tgr;simp;omega
    rw [if_pos e]
    go_enter Tryz.func92,Tryz.ntmps92
    go_wp2_with (go_at_call 91;refine FE.mono ?_;rintro e w1 ⟨rfl,b1⟩;obtain ⟨t0,t1, -, -⟩:=T0.below b1 Nat.le.refl)
    go_ret
    exact ⟨rfl,bel_more hb0 b1⟩
   ·have e:¬ tgr n d=true:=by unfold tgr;simp;omega
    rw [if_neg e]
    go_enter Tryz.func92,Tryz.ntmps92
    go_wp2_with (go_at_call 91;refine FE.mono ?_;rintro e w1 ⟨rfl,b1⟩;obtain ⟨t0,t1, -, -⟩:=T0.below b1 Nat.le.refl)
    go_ret
    exact ⟨rfl,bel_more hb0 b1⟩
theorem PointError_any (a:Qt) (w:World) (h:PI a) :
  Calls Tryz.prog 52 #[qtV a] w fun e w'=>e=.returned (.int .i64 (errP a:Nat))/\Below w.heap.size w w':=by
 have hb0:=mbelow w (.cells #[.int .i64 a.xn,.int .i64 a.xd,.int .i64 a.yn,.int .i64 a.yd] 121)
 have F0:=Four.new w (.int .i64 a.xn) (.int .i64 a.xd) (.int .i64 a.yn) (.int .i64 a.yd) 121
 have EX:=fun V=>FracError_any a.xn a.xd V h.xn h.xd
 have EY:=fun V=>FracError_any a.yn a.yd V h.yn h.yd
 by_cases hx:chk a.xn a.xd=0
 ·rw [hx] at EX
  by_cases hy:chk a.yn a.yd=0
  ·rw [hy] at EY
   have GX:=fun V=>fracError_any a.xn a.xd V h.xn h.xd hx
   have GY:=fun V=>fracError_any a.yn a.yd V h.yn h.yd hy
   have hP:chkP a=0:=chkP_zero.2 ⟨hx,hy⟩
   have e0:errP a=bigP a:=by unfold errP;rw [if_neg (by simp [hP])]
   rw [e0]
   rw [errF_of hx] at GX
   rw [errF_of hy] at GY
   clear hx hy hP e0
   cases h1:tgr a.xn a.xd with
   | true=>
    have e:bigP a=2:=by unfold bigP;rw [if_pos (.inl h1)]
    rw [e]
    rw [h1,if_pos rfl] at GX
    go_enter Tryz.func52,Tryz.ntmps52
    go_upto_region 1 with fail
    obtain ⟨U,hU⟩:∃ U,w.alloc (.cells #[.int .i64 a.xn,.int .i64 a.xd,.int .i64 a.yn,.int .i64 a.yd] 121)=U:=⟨_,rfl⟩
    rw [hU] at hb0 F0 ⊢
    clear hU
    obtain ⟨f0,f1,f2,f3⟩:=id F0
    go_upto_region 3 with (go_at_call 91;refine (EX U).mono ?_;rintro e w1 ⟨rfl,b1⟩)
    obtain ⟨f0,f1,f2,f3⟩:=F0.below b1 Nat.le.refl
    go_upto_region 5 with (go_at_call 91;refine (EY w1).mono ?_;rintro e w2 ⟨rfl,b2⟩)
    obtain ⟨f0,f1,f2,f3⟩:=(F0.below b1 Nat.le.refl).below b2 Nat.le.refl
    go_wp2_with (go_at_call 92;refine (GX w2).mono ?_;rintro e w3 ⟨rfl,b3⟩)
    go_ret
    exact ⟨rfl,bel_more hb0 (bel_more (bel_more b1 b2) b3)⟩
   | false=>
    have e:bigP a=if tgr a.yn a.yd=true then 2 else 0:=by unfold bigP;simp [h1]
    rw [e]
    rw [h1,if_neg (by simp)] at GX
    generalize (if tgr a.yn a.yd=true then 2 else 0)=g at *
    clear e
    go_enter Tryz.func52,Tryz.ntmps52
    go_upto_region 1 with fail
    obtain ⟨U,hU⟩:∃ U,w.alloc (.cells #[.int .i64 a.xn,.int .i64 a.xd,.int .i64 a.yn,.int .i64 a.yd] 121)=U:=⟨_,rfl⟩
    rw [hU] at hb0 F0 ⊢
    clear hU
    obtain ⟨f0,f1,f2,f3⟩:=id F0
    go_upto_region 3 with (go_at_call 91;refine (EX U).mono ?_;rintro e w1 ⟨rfl,b1⟩)
    obtain ⟨f0,f1,f2,f3⟩:=F0.below b1 Nat.le.refl
    go_upto_region 5 with (go_at_call 91;refine (EY w1).mono ?_;rintro e w2 ⟨rfl,b2⟩)
    have F2:=(F0.below b1 Nat.le.refl).below b2 Nat.le.refl
    obtain ⟨f0,f1,f2,f3⟩:=id F2
    go_upto_region 7 with (go_at_call 92;refine (GX w2).mono ?_;rintro e w3 ⟨rfl,b3⟩)
    obtain ⟨f0,f1,f2,f3⟩:=F2.below b3 Nat.le.refl
    go_wp2_with (go_at_call 92;refine (GY w3).mono ?_;rintro e w4 ⟨rfl,b4⟩)
    go_ret
    exact ⟨rfl,bel_more hb0 (bel_more (bel_more b1 b2) (bel_more b3 b4))⟩
  ·have e:errP a=chk a.yn a.yd:=by
    have h1:chkP a=chk a.yn a.yd:=by unfold chkP;rw [if_neg (by simp [hx])]
    unfold errP
    rw [h1,if_pos hy]
   rw [e]
   obtain ⟨g,hg⟩:∃ g,chk a.yn a.yd=g:=⟨_,rfl⟩
   rw [hg] at EY hy ⊢
   have hg':((g:Int)==0)=false:=by rw [beq_eq_false_iff_ne];omega
   have hg2:¬ (g:Int)=0:=by omega
   clear hg e hx hy
   go_enter Tryz.func52,Tryz.ntmps52
   go_upto_region 1 with fail
   obtain ⟨U,hU⟩:∃ U,w.alloc (.cells #[.int .i64 a.xn,.int .i64 a.xd,.int .i64 a.yn,.int .i64 a.yd] 121)=U:=⟨_,rfl⟩
   rw [hU] at hb0 F0 ⊢
   clear hU
   obtain ⟨f0,f1,f2,f3⟩:=id F0
   go_upto_region 3 with (go_at_call 91;refine (EX U).mono ?_;rintro e w1 ⟨rfl,b1⟩)
   obtain ⟨f0,f1,f2,f3⟩:=F0.below b1 Nat.le.refl
   go_wp2_with (go_at_call 91;refine (EY w1).mono ?_;rintro e w2 ⟨rfl,b2⟩)
   go_ret
   exact ⟨rfl,bel_more hb0 (bel_more b1 b2)⟩
 ·have e:errP a=chk a.xn a.xd:=by
   have h1:chkP a=chk a.xn a.xd:=by unfold chkP;rw [if_pos hx]
   unfold errP
   rw [h1,if_pos hx]
  rw [e]
  obtain ⟨g,hg⟩:∃ g,chk a.xn a.xd=g:=⟨_,rfl⟩
  rw [hg] at EX hx ⊢
  have hg':((g:Int)==0)=false:=by rw [beq_eq_false_iff_ne];omega
  have hg2:¬ (g:Int)=0:=by omega
  clear hg e hx
  go_enter Tryz.func52,Tryz.ntmps52
  go_wp2_with (go_at_call 91;refine (EX _).mono ?_;rintro e w1 ⟨rfl,b1⟩)
  go_ret
  exact ⟨rfl,bel_more hb0 b1⟩
end
end Go.Proofs.YtgphclgmmocdhaaGreatDoor

/-
  Parts of the proof.
-/
import Derived.Test.YtgphclgmmocdhaaGreatDoorQu0
namespace Go.Proofs.YtgphclgmmocdhaaGreatDoor
section
open Go.RowKit
set_option maxHeartbeats 1000000
theorem Mul_any (aB aS aZ:Addr) (an ad bn bd:Int) (w:World) (i1:I64 an) (i2:I64 ad) (i3:I64 bn) (i4:I64 bd) (h:E3 aB aS aZ w) :
  Calls Tryz.prog 226 #[.agg #[.int .i64 an,.int .i64 ad],.agg #[.int .i64 bn,.int .i64 bd]] w fun e w'=>e=.returned (.tuple #[.agg #[.int .i64 (mul an ad bn bd).n,.int .i64 (mul an ad bn bd).d],er aB aS aZ (mul an ad bn bd).c])/\Below w.heap.size w w':=by
 rcases chk2_cases an ad bn bd with ⟨ha,hb⟩ | hbad
 ·have HA:Hid (chk an ad=0):=ha
  have HB:Hid (chk bn bd=0):=hb
  have hmul:mul an ad bn bd=low (an * bn) (ad * bd):=by unfold mul;rw [if_neg (by simp [ha]),if_neg (by simp [hb])]
  rw [hmul]
  obtain ⟨a1,_,a3,a4⟩:=chk_zero.1 ha
  obtain ⟨b1,_,b3,b4⟩:=chk_zero.1 hb
  obtain ⟨m11,m12⟩:=mul_bound a3 b3
  obtain ⟨m31,m32⟩:=mul_bound a4 b4
  have m0:ad * bd≠0:=Int.mul_ne_zero (by omega) (by omega)
  have hn1:¬ w.heap.size+1+1=w.heap.size:=by omega
  have hn2:¬ w.heap.size=w.heap.size+1+1:=by omega
  clear ha hb hmul a1 a3 a4 b1 b3 b4
  go_enter Tryz.func226,Tryz.ntmps226
  go_wp2_with (go_at_call 263;refine (checkBoth_ok aB aS aZ _ _ _ _ _ i1 i2 i3 i4 ?_ HA.out HB.out).mono ?_;exact ((h.alloc _).alloc _).alloc _;rintro e w1 ⟨rfl,hb⟩;obtain ⟨⟨p1,p2,p3,p4⟩,⟨q1,q2,q3,q4⟩,⟨r1,r2,r3,r4⟩,hw,hz⟩:=three hb;clear hb)
  go_region_held3 (fun w'=>w'.cell? ⟨w.heap.size,0,none⟩=some (.int .i64 an)/\w'.cell? ⟨w.heap.size,1,none⟩=some (.int .i64 ad)/\w'.cell? ⟨w.heap.size+1,0,none⟩=some (.int .i64 bn)/\w'.cell? ⟨w.heap.size+1,1,none⟩=some (.int .i64 bd)) (go_keep) (first | (go_at_call 272;refine (times_any _ _ _ (by omega) (by omega)).mono ?_;rintro e w' ⟨rfl,rfl⟩) | (go_at_call 271;refine (lowest_any aB aS aZ _ _ _ (by omega) (by omega) m0 (by omega) (by omega) ?_).mono ?_;exact (h.below hw Nat.le.refl).drewN 1;rintro e w2 ⟨rfl,hb2⟩;obtain ⟨s1,s2,s3,s4⟩:=Two.below (Two.drewN ⟨r1,r2,r3,r4⟩ 1) hb2 Nat.le.refl;obtain ⟨u1,u2,u3,u4⟩:=Two.below (Two.drewN ⟨p1,p2,p3,p4⟩ 1) hb2 Nat.le.refl;obtain ⟨v1,v2,v3,v4⟩:=Two.below (Two.drewN ⟨q1,q2,q3,q4⟩ 1) hb2 Nat.le.refl))
  go_wp2
  refine bodyPost_ret (v:=.tuple #[.agg #[.int .i64 (low (an * bn) (ad * bd)).n,.int .i64 (low (an * bn) (ad * bd)).d],er aB aS aZ (low (an * bn) (ad * bd)).c]) (by simp [results,Tryz.results226,go_sem,s1,s2]) rfl ⟨rfl,?_⟩
  exact ((hw.drew.trans (hb2.mono (by simp;omega))).setCell (by simp;omega) _).setCell (by simp;omega) _
 ·obtain ⟨a,ha⟩:=er_cases aB aS aZ hbad
  have hr:=mul_err (an:=an) (ad:=ad) (bn:=bn) (bd:=bd) (by rintro ⟨h1,h2⟩;unfold chk2 at hbad;simp [h1,h2] at hbad)
  rw [hr,ha]
  have HA:Hid (er aB aS aZ (chk2 an ad bn bd)=.iface 409 (.pointer (some a))):=ha
  clear ha hr hbad
  go_enter Tryz.func226,Tryz.ntmps226
  go_wp2_with (go_at_call 263;refine (checkBoth_no aB aS aZ _ _ _ _ a _ i1 i2 i3 i4 ?_ HA.out).mono ?_;exact ((h.alloc _).alloc _).alloc _;rintro e w1 ⟨rfl,hb⟩;obtain ⟨⟨p1,p2,p3,p4⟩,⟨q1,q2,q3,q4⟩,⟨r1,r2,r3,r4⟩,hw,hz⟩:=three hb;clear hb)
  refine bodyPost_ret (v:=.tuple #[.agg #[.int .i64 0,.int .i64 0],.iface 409 (.pointer (some a))]) (by simp [results,Tryz.results226,go_sem,r1,r2]) rfl ⟨rfl,?_⟩
  exact (hw.setCell (by simp;omega) _).setCell (by simp;omega) _
theorem two {w w1:World} {x0 x1 y0 y1:Value} {t t':TypeId} (hb:Below ((w.alloc (.cells #[x0,x1] t)).alloc (.cells #[y0,y1] t')).heap.size ((w.alloc (.cells #[x0,x1] t)).alloc (.cells #[y0,y1] t')) w1) :
  Two w1 w.heap.size x0 x1/\Two w1 (w.heap.size+1) y0 y1/\Below w.heap.size w w1/\w.heap.size+1+1<=w1.heap.size:=by
 refine ⟨((Two.new w x0 x1 t).alloc _).below hb Nat.le.refl,?_,?_,by have:=hb.size;simpa using this⟩
 ·have:=(Two.new (w.alloc (.cells #[x0,x1] t)) y0 y1 t').below hb Nat.le.refl
  simpa using this
 ·exact (((Below.refl _ _).alloc Nat.le.refl _).alloc (by simp) _).trans (hb.mono (by simp;omega))
end
section
open Go.RowKit
set_option maxHeartbeats 1000000
theorem gcd_parts2 (n d:Int) (n1 : -9223372036854775807<=n) (n2:n<=9223372036854775807) (d1:0<d) (d2:d<=9223372036854775807) :
  ∃ (g p q:Int),((gcdI n d:Nat):Int)=g/\1<=g/\g<=9223372036854775807/\n.tdiv g=p/\d / g=q/\d.tdiv g=q/\
   -9223372036854775807<=p/\p<=9223372036854775807/\1<=q/\q<=9223372036854775807/\chk p q=(low n d).c/\((low n d).c=0/\(low n d).n=p/\(low n d).d=q\/(low n d).c=2/\(low n d).n=0/\(low n d).d=0):=by
 obtain ⟨g,p,q,hg,g1,g2,hp,hq,p1,p2,q1,q2,hl⟩:=gcd_parts n d n1 n2 d1 d2
 have hgi:gcdI n d=g:=hg
 have e1:n / (gcdI n d:Int)=p:=by
  obtain ⟨x,hx⟩:=gcdI_dvd_left n d
  rw [<- hgi] at hp g1
  have h0:(gcdI n d:Int)≠0:=by omega
  rw [<- hp]
  generalize (gcdI n d:Int)=k at *
  rw [hx,Int.mul_tdiv_cancel_left _ h0,Int.mul_ediv_cancel_left _ h0]
 have e2:d / (gcdI n d:Int)=q:=by rw [hgi];exact hq
 have hc:=gcdI_div (n:=n) (d:=d) (by omega)
 rw [e1,e2] at hc
 have hq1:1<=q:=by
  have:q≠0:=by
   rintro rfl
   obtain ⟨y,hy⟩:=gcdI_dvd_right n d
   have h0:(gcdI n d:Int)≠0:=by have:=gcdI_pos (n:=n) (d:=d) (by omega);omega
   rw [Int.ediv_eq_iff_eq_mul_right h0 (gcdI_dvd_right n d)] at e2
   omega
  omega
 refine ⟨g,p,q,by rw [hgi],g1,g2,hp,hq,by rw [Int.tdiv_eq_ediv_of_nonneg (by omega)];exact hq,p1,p2,hq1,q2,?_,?_⟩
 ·rw [hl]
  unfold chk
  rw [if_neg (by rintro (h | h);omega;exact h hc)]
  split <;> rfl
 ·rw [hl]
  split
  ·exact Or.inr ⟨rfl,rfl,rfl⟩
  ·exact Or.inl ⟨rfl,rfl,rfl⟩
theorem FracError_at (n d:Int) (c:Nat) (w:World) (hn:I64 n) (hd:I64 d) (hc:chk n d=c) :
  Calls Tryz.prog 91 #[.agg #[.int .i64 n,.int .i64 d]] w fun e w'=>e=.returned (.int .i64 c)/\Below w.heap.size w w':=by
 subst hc;exact FracError_any n d w hn hd
theorem below_undrew {B:Nat} {w w':World} (h:Below B w.drew w'):Below B w w':=⟨h.os,h.tape,h.output,h.size,h.block⟩
theorem rlowest_pos (n d:Int) (w:World) (n1 : -9223372036854775807<=n) (n2:n<=9223372036854775807) (d1:0<d) (d2:d<=9223372036854775807) :
  Calls Tryz.prog 181 #[.int .i64 n,.int .i64 d] w fun e w'=>e=.returned (.tuple #[.agg #[.int .i64 (low n d).n,.int .i64 (low n d).d],.int .i64 (low n d).c])/\Below w.heap.size w w':=by
 obtain ⟨g,p,q,hg,g1,g2,hp,hq,hq',p1,p2,q1,q2,hc,hl⟩:=gcd_parts2 n d n1 n2 d1 d2
 have HG:Hid (((gcdI n d:Nat):Int)=g):=hg
 have hn1:¬ w.heap.size+1=w.heap.size:=by omega
 have hn2:¬ w.heap.size=w.heap.size+1:=by omega
 have ip:I64 p:=⟨by omega,p2⟩
 have iq:I64 q:=⟨by omega,q2⟩
 rcases hl with ⟨l1,l2,l3⟩ | ⟨l1,l2,l3⟩
 ·rw [l1,l2,l3]
  rw [l1] at hc
  have HC:Hid (chk p q=0):=hc
  clear l1 l2 l3 hg hc
  go_enter Tryz.func181,Tryz.ntmps181
  go_wp2_with (go_at_call 127;refine (Divisor_at _ _ g _ ⟨by omega,by omega⟩ (by omega) (by omega) HG.out).mono ?_;rintro e w' ⟨rfl,rfl⟩)
  go_region
  go_wp2_with (go_at_call 91;refine (FracError_at p q 0 _ ip iq HC.out).mono ?_;rintro e w1 ⟨rfl,hb⟩;obtain ⟨⟨r1,r2,r3,r4⟩,⟨s1,s2,s3,s4⟩,hw,hz⟩:=two (below_undrew hb))
  refine bodyPost_ret (v:=.tuple #[.agg #[.int .i64 p,.int .i64 q],.int .i64 0]) (by simp [results,Tryz.results181,go_sem,r1,r2]) rfl ⟨rfl,?_⟩
  exact (hw.setCell Nat.le.refl _).setCell Nat.le.refl _
 ·rw [l1,l2,l3]
  rw [l1] at hc
  have HC:Hid (chk p q=2):=hc
  clear l1 l2 l3 hg hc
  go_enter Tryz.func181,Tryz.ntmps181
  go_wp2_with (go_at_call 127;refine (Divisor_at _ _ g _ ⟨by omega,by omega⟩ (by omega) (by omega) HG.out).mono ?_;rintro e w' ⟨rfl,rfl⟩)
  go_region
  go_wp2_with (go_at_call 91;refine (FracError_at p q 2 _ ip iq HC.out).mono ?_;rintro e w1 ⟨rfl,hb⟩;obtain ⟨⟨r1,r2,r3,r4⟩,⟨s1,s2,s3,s4⟩,hw,hz⟩:=two (below_undrew hb))
  refine bodyPost_ret (v:=.tuple #[.agg #[.int .i64 0,.int .i64 0],.int .i64 2]) (by simp [results,Tryz.results181,go_sem,r1,r2]) rfl ⟨rfl,?_⟩
  exact (hw.setCell Nat.le.refl _).setCell Nat.le.refl _
theorem rlowest_neg (n d:Int) (w:World) (n1 : -9223372036854775807<=n) (n2:n<=9223372036854775807) (d1:d<0) (d2 : -9223372036854775807<=d) :
  Calls Tryz.prog 181 #[.int .i64 n,.int .i64 d] w fun e w'=>e=.returned (.tuple #[.agg #[.int .i64 (low n d).n,.int .i64 (low n d).d],.int .i64 (low n d).c])/\Below w.heap.size w w':=by
 obtain ⟨g,p,q,hg,g1,g2,hp,hq,hq',p1,p2,q1,q2,hc,hl⟩:=gcd_parts2 (-n) (-d) (by omega) (by omega) (by omega) (by omega)
 rw [<- low_neg d1] at hc hl
 have hp' : -(n.tdiv g)=p:=by rw [<- Int.neg_tdiv];exact hp
 have hw':wrap64 (-(d.tdiv g))=q:=by rw [<- Int.neg_tdiv,hq'];exact IntWalk.wrap64_in q ⟨by omega,q2⟩
 have hwp:wrap64 (-(n.tdiv g))=p:=by rw [hp'];exact IntWalk.wrap64_in p ⟨by omega,p2⟩
 have HG:Hid (((gcdI (-n) (-d):Nat):Int)=g):=hg
 have hn1:¬ w.heap.size+1=w.heap.size:=by omega
 have hn2:¬ w.heap.size=w.heap.size+1:=by omega
 have ip:I64 p:=⟨by omega,p2⟩
 have iq:I64 q:=⟨by omega,q2⟩
 rcases hl with ⟨l1,l2,l3⟩ | ⟨l1,l2,l3⟩
 ·rw [l1,l2,l3]
  rw [l1] at hc
  have HC:Hid (chk p q=0):=hc
  clear l1 l2 l3 hg hc
  go_enter Tryz.func181,Tryz.ntmps181
  go_wp2_with (go_at_call 127;refine (Divisor_at _ _ g _ ⟨by omega,by omega⟩ (by omega) (by omega) HG.out).mono ?_;rintro e w' ⟨rfl,rfl⟩)
  go_region
  go_wp2_with (go_at_call 91;refine (FracError_at p q 0 _ ip iq HC.out).mono ?_;rintro e w1 ⟨rfl,hb⟩;obtain ⟨⟨r1,r2,r3,r4⟩,⟨s1,s2,s3,s4⟩,hw,hz⟩:=two (below_undrew hb))
  refine bodyPost_ret (v:=.tuple #[.agg #[.int .i64 p,.int .i64 q],.int .i64 0]) (by simp [results,Tryz.results181,go_sem,r1,r2]) rfl ⟨rfl,?_⟩
  exact (hw.setCell Nat.le.refl _).setCell Nat.le.refl _
 ·rw [l1,l2,l3]
  rw [l1] at hc
  have HC:Hid (chk p q=2):=hc
  clear l1 l2 l3 hg hc
  go_enter Tryz.func181,Tryz.ntmps181
  go_wp2_with (go_at_call 127;refine (Divisor_at _ _ g _ ⟨by omega,by omega⟩ (by omega) (by omega) HG.out).mono ?_;rintro e w' ⟨rfl,rfl⟩)
  go_region
  go_wp2_with (go_at_call 91;refine (FracError_at p q 2 _ ip iq HC.out).mono ?_;rintro e w1 ⟨rfl,hb⟩;obtain ⟨⟨r1,r2,r3,r4⟩,⟨s1,s2,s3,s4⟩,hw,hz⟩:=two (below_undrew hb))
  refine bodyPost_ret (v:=.tuple #[.agg #[.int .i64 0,.int .i64 0],.int .i64 2]) (by simp [results,Tryz.results181,go_sem,r1,r2]) rfl ⟨rfl,?_⟩
  exact (hw.setCell Nat.le.refl _).setCell Nat.le.refl _
theorem rlowest_any (n d:Int) (w:World) (n1 : -9223372036854775807<=n) (n2:n<=9223372036854775807) (d0:d≠0) (d1 : -9223372036854775807<=d) (d2:d<=9223372036854775807) :
  Calls Tryz.prog 181 #[.int .i64 n,.int .i64 d] w fun e w'=>e=.returned (.tuple #[.agg #[.int .i64 (low n d).n,.int .i64 (low n d).d],.int .i64 (low n d).c])/\Below w.heap.size w w':=by
 rcases Int.lt_or_gt_of_ne d0 with h0 | h0
 ·exact rlowest_neg n d w n1 n2 h0 d1
 ·exact rlowest_pos n d w n1 n2 h0 d2
end
section
open Go.RowKit
set_option maxHeartbeats 2000000
theorem rlowest_at (n d:Int) (r:R3) (w:World) (n1 : -9223372036854775807<=n) (n2:n<=9223372036854775807) (d0:d≠0) (d1 : -9223372036854775807<=d) (d2:d<=9223372036854775807) (hr:low n d=r) :
  Calls Tryz.prog 181 #[.int .i64 n,.int .i64 d] w fun e w'=>e=.returned (.tuple #[.agg #[.int .i64 r.n,.int .i64 r.d],.int .i64 r.c])/\Below w.heap.size w w':=by
 subst hr;exact rlowest_any n d w n1 n2 d0 d1 d2
theorem FracDo_add (an ad bn bd:Int) (w:World) (i1:I64 an) (i2:I64 ad) (i3:I64 bn) (i4:I64 bd) :
  Calls Tryz.prog 126 #[.int .u8 43,.agg #[.int .i64 an,.int .i64 ad],.agg #[.int .i64 bn,.int .i64 bd]] w fun e w'=>e=.returned (.tuple #[.agg #[.int .i64 (add an ad bn bd).n,.int .i64 (add an ad bn bd).d],.int .i64 (add an ad bn bd).c])/\Below w.heap.size w w':=by
 have hn1:¬ w.heap.size+1+1=w.heap.size:=by omega
 have hn2:¬ w.heap.size=w.heap.size+1+1:=by omega
 by_cases ha:chk an ad=0
 ·have HA:Hid (chk an ad=0):=ha
  by_cases hb:chk bn bd=0
  ·have HB:Hid (chk bn bd=0):=hb
   have hop:add an ad bn bd=low (an * bd+bn * ad) (ad * bd):=by unfold add;rw [if_neg (by simp [ha]),if_neg (by simp [hb])]
   rw [hop]
   obtain ⟨a1,_,a3,a4⟩:=chk_zero.1 ha
   obtain ⟨b1,_,b3,b4⟩:=chk_zero.1 hb
   obtain ⟨m01,m02⟩:=mul_bound a3 b4
   obtain ⟨m11,m12⟩:=mul_bound b3 a4
   obtain ⟨m21,m22⟩:=mul_bound a4 b4
   have m0:ad * bd≠0:=Int.mul_ne_zero (by omega) (by omega)
   obtain ⟨r,hr⟩:∃ r,low (an * bd+bn * ad) (ad * bd)=r:=⟨_,rfl⟩
   rw [hr]
   have HL:Hid (low (an * bd+bn * ad) (ad * bd)=r):=hr
   clear ha hb hop hr a1 a3 a4 b1 b3 b4
   go_enter Tryz.func126,Tryz.ntmps126
   go_wp2_with (first | (go_at_call 181;refine (rlowest_at _ _ r _ (by omega) (by omega) m0 (by omega) (by omega) HL.out).mono ?_;rintro e w3 ⟨rfl,hb3⟩;obtain ⟨t1,t2,t3,t4⟩:=Two.below ⟨s1,s2,s3,s4⟩ hb3 Nat.le.refl) | (go_at_call 91;have hgd:=hz;clear hgd;refine (FracError_at _ _ 0 _ i3 i4 HB.out).mono ?_;rintro e w2 ⟨rfl,hb2⟩;obtain ⟨u1,u2,u3,u4⟩:=Two.below ⟨p1,p2,p3,p4⟩ hb2 Nat.le.refl;obtain ⟨v1,v2,v3,v4⟩:=Two.below ⟨q1,q2,q3,q4⟩ hb2 Nat.le.refl;obtain ⟨s1,s2,s3,s4⟩:=Two.below ⟨r1,r2,r3,r4⟩ hb2 Nat.le.refl;clear p1 p2 p3 p4 q1 q2 q3 q4 r1 r2 r3 r4) | (go_at_call 91;refine (FracError_at _ _ 0 _ i1 i2 HA.out).mono ?_;rintro e w1 ⟨rfl,hb⟩;obtain ⟨⟨p1,p2,p3,p4⟩,⟨q1,q2,q3,q4⟩,⟨r1,r2,r3,r4⟩,hw,hz⟩:=three hb;clear hb))
   refine bodyPost_ret (v:=.tuple #[.agg #[.int .i64 r.n,.int .i64 r.d],.int .i64 r.c]) (by simp [results,Tryz.results126,go_sem,t1,t2]) rfl ⟨rfl,?_⟩
   exact (((hw.trans (hb2.mono (by omega))).trans (hb3.mono (by have:=hb2.size;omega))).setCell (by simp;omega) _).setCell (by simp;omega) _
  ·have hop:=add_err (an:=an) (ad:=ad) (bn:=bn) (bd:=bd) (fun h=>hb h.2)
   have hc2:chk2 an ad bn bd=chk bn bd:=by unfold chk2;rw [if_neg (by simp [ha])]
   rw [hop,hc2]
   obtain ⟨c,hc,hc'⟩:∃ c:Nat,chk bn bd=c/\(c=2\/c=3):=⟨_,rfl,by rcases chk_cases bn bd with h | h | h <;> simp_all⟩
   rw [hc]
   have HB:Hid (chk bn bd=c):=hc
   clear ha hb hop hc2 hc
   rcases hc' with rfl | rfl
   ·go_enter Tryz.func126,Tryz.ntmps126
    go_wp2_with (first | (go_at_call 91;have hgd:=hz;clear hgd;refine (FracError_at _ _ 2 _ i3 i4 HB.out).mono ?_;rintro e w2 ⟨rfl,hb2⟩;obtain ⟨u1,u2,u3,u4⟩:=Two.below ⟨p1,p2,p3,p4⟩ hb2 Nat.le.refl;obtain ⟨v1,v2,v3,v4⟩:=Two.below ⟨q1,q2,q3,q4⟩ hb2 Nat.le.refl;obtain ⟨s1,s2,s3,s4⟩:=Two.below ⟨r1,r2,r3,r4⟩ hb2 Nat.le.refl;clear p1 p2 p3 p4 q1 q2 q3 q4 r1 r2 r3 r4) | (go_at_call 91;refine (FracError_at _ _ 0 _ i1 i2 HA.out).mono ?_;rintro e w1 ⟨rfl,hb⟩;obtain ⟨⟨p1,p2,p3,p4⟩,⟨q1,q2,q3,q4⟩,⟨r1,r2,r3,r4⟩,hw,hz⟩:=three hb;clear hb))
    refine bodyPost_ret (v:=.tuple #[.agg #[.int .i64 0,.int .i64 0],.int .i64 2]) (by simp [results,Tryz.results126,go_sem,s1,s2]) rfl ⟨rfl,?_⟩
    exact ((hw.trans (hb2.mono (by omega))).setCell (by simp;omega) _).setCell (by simp;omega) _
   ·go_enter Tryz.func126,Tryz.ntmps126
    go_wp2_with (first | (go_at_call 91;have hgd:=hz;clear hgd;refine (FracError_at _ _ 3 _ i3 i4 HB.out).mono ?_;rintro e w2 ⟨rfl,hb2⟩;obtain ⟨u1,u2,u3,u4⟩:=Two.below ⟨p1,p2,p3,p4⟩ hb2 Nat.le.refl;obtain ⟨v1,v2,v3,v4⟩:=Two.below ⟨q1,q2,q3,q4⟩ hb2 Nat.le.refl;obtain ⟨s1,s2,s3,s4⟩:=Two.below ⟨r1,r2,r3,r4⟩ hb2 Nat.le.refl;clear p1 p2 p3 p4 q1 q2 q3 q4 r1 r2 r3 r4) | (go_at_call 91;refine (FracError_at _ _ 0 _ i1 i2 HA.out).mono ?_;rintro e w1 ⟨rfl,hb⟩;obtain ⟨⟨p1,p2,p3,p4⟩,⟨q1,q2,q3,q4⟩,⟨r1,r2,r3,r4⟩,hw,hz⟩:=three hb;clear hb))
    refine bodyPost_ret (v:=.tuple #[.agg #[.int .i64 0,.int .i64 0],.int .i64 3]) (by simp [results,Tryz.results126,go_sem,s1,s2]) rfl ⟨rfl,?_⟩
    exact ((hw.trans (hb2.mono (by omega))).setCell (by simp;omega) _).setCell (by simp;omega) _
 ·have hop:=add_err (an:=an) (ad:=ad) (bn:=bn) (bd:=bd) (fun h=>ha h.1)
  have hc2:chk2 an ad bn bd=chk an ad:=by unfold chk2;rw [if_pos ha]
  rw [hop,hc2]
  obtain ⟨c,hc,hc'⟩:∃ c:Nat,chk an ad=c/\(c=2\/c=3):=⟨_,rfl,by rcases chk_cases an ad with h | h | h <;> simp_all⟩
  rw [hc]
  have HA:Hid (chk an ad=c):=hc
  clear ha hop hc2 hc
  rcases hc' with rfl | rfl
  ·go_enter Tryz.func126,Tryz.ntmps126
   go_wp2_with (go_at_call 91;refine (FracError_at _ _ 2 _ i1 i2 HA.out).mono ?_;rintro e w1 ⟨rfl,hb⟩;obtain ⟨⟨p1,p2,p3,p4⟩,⟨q1,q2,q3,q4⟩,⟨r1,r2,r3,r4⟩,hw,hz⟩:=three hb;clear hb)
   refine bodyPost_ret (v:=.tuple #[.agg #[.int .i64 0,.int .i64 0],.int .i64 2]) (by simp [results,Tryz.results126,go_sem,r1,r2]) rfl ⟨rfl,?_⟩
   exact (hw.setCell (by simp;omega) _).setCell (by simp;omega) _
  ·go_enter Tryz.func126,Tryz.ntmps126
   go_wp2_with (go_at_call 91;refine (FracError_at _ _ 3 _ i1 i2 HA.out).mono ?_;rintro e w1 ⟨rfl,hb⟩;obtain ⟨⟨p1,p2,p3,p4⟩,⟨q1,q2,q3,q4⟩,⟨r1,r2,r3,r4⟩,hw,hz⟩:=three hb;clear hb)
   refine bodyPost_ret (v:=.tuple #[.agg #[.int .i64 0,.int .i64 0],.int .i64 3]) (by simp [results,Tryz.results126,go_sem,r1,r2]) rfl ⟨rfl,?_⟩
   exact (hw.setCell (by simp;omega) _).setCell (by simp;omega) _
theorem FracDo_mul (an ad bn bd:Int) (w:World) (i1:I64 an) (i2:I64 ad) (i3:I64 bn) (i4:I64 bd) :
  Calls Tryz.prog 126 #[.int .u8 42,.agg #[.int .i64 an,.int .i64 ad],.agg #[.int .i64 bn,.int .i64 bd]] w fun e w'=>e=.returned (.tuple #[.agg #[.int .i64 (mul an ad bn bd).n,.int .i64 (mul an ad bn bd).d],.int .i64 (mul an ad bn bd).c])/\Below w.heap.size w w':=by
 have hn1:¬ w.heap.size+1+1=w.heap.size:=by omega
 have hn2:¬ w.heap.size=w.heap.size+1+1:=by omega
 by_cases ha:chk an ad=0
 ·have HA:Hid (chk an ad=0):=ha
  by_cases hb:chk bn bd=0
  ·have HB:Hid (chk bn bd=0):=hb
   have hop:mul an ad bn bd=low (an * bn) (ad * bd):=by unfold mul;rw [if_neg (by simp [ha]),if_neg (by simp [hb])]
   rw [hop]
   obtain ⟨a1,_,a3,a4⟩:=chk_zero.1 ha
   obtain ⟨b1,_,b3,b4⟩:=chk_zero.1 hb
   obtain ⟨m01,m02⟩:=mul_bound a3 b3
   obtain ⟨m11,m12⟩:=mul_bound a4 b4
   have m0:ad * bd≠0:=Int.mul_ne_zero (by omega) (by omega)
   obtain ⟨r,hr⟩:∃ r,low (an * bn) (ad * bd)=r:=⟨_,rfl⟩
   rw [hr]
   have HL:Hid (low (an * bn) (ad * bd)=r):=hr
   clear ha hb hop hr a1 a3 a4 b1 b3 b4
   go_enter Tryz.func126,Tryz.ntmps126
   go_wp2_with (first | (go_at_call 181;refine (rlowest_at _ _ r _ (by omega) (by omega) m0 (by omega) (by omega) HL.out).mono ?_;rintro e w3 ⟨rfl,hb3⟩;obtain ⟨t1,t2,t3,t4⟩:=Two.below ⟨s1,s2,s3,s4⟩ hb3 Nat.le.refl) | (go_at_call 91;have hgd:=hz;clear hgd;refine (FracError_at _ _ 0 _ i3 i4 HB.out).mono ?_;rintro e w2 ⟨rfl,hb2⟩;obtain ⟨u1,u2,u3,u4⟩:=Two.below ⟨p1,p2,p3,p4⟩ hb2 Nat.le.refl;obtain ⟨v1,v2,v3,v4⟩:=Two.below ⟨q1,q2,q3,q4⟩ hb2 Nat.le.refl;obtain ⟨s1,s2,s3,s4⟩:=Two.below ⟨r1,r2,r3,r4⟩ hb2 Nat.le.refl;clear p1 p2 p3 p4 q1 q2 q3 q4 r1 r2 r3 r4) | (go_at_call 91;refine (FracError_at _ _ 0 _ i1 i2 HA.out).mono ?_;rintro e w1 ⟨rfl,hb⟩;obtain ⟨⟨p1,p2,p3,p4⟩,⟨q1,q2,q3,q4⟩,⟨r1,r2,r3,r4⟩,hw,hz⟩:=three hb;clear hb))
   refine bodyPost_ret (v:=.tuple #[.agg #[.int .i64 r.n,.int .i64 r.d],.int .i64 r.c]) (by simp [results,Tryz.results126,go_sem,t1,t2]) rfl ⟨rfl,?_⟩
   exact (((hw.trans (hb2.mono (by omega))).trans (hb3.mono (by have:=hb2.size;omega))).setCell (by simp;omega) _).setCell (by simp;omega) _
  ·have hop:=mul_err (an:=an) (ad:=ad) (bn:=bn) (bd:=bd) (fun h=>hb h.2)
   have hc2:chk2 an ad bn bd=chk bn bd:=by unfold chk2;rw [if_neg (by simp [ha])]
   rw [hop,hc2]
   obtain ⟨c,hc,hc'⟩:∃ c:Nat,chk bn bd=c/\(c=2\/c=3):=⟨_,rfl,by rcases chk_cases bn bd with h | h | h <;> simp_all⟩
   rw [hc]
   have HB:Hid (chk bn bd=c):=hc
   clear ha hb hop hc2 hc
   rcases hc' with rfl | rfl
   ·go_enter Tryz.func126,Tryz.ntmps126
    go_wp2_with (first | (go_at_call 91;have hgd:=hz;clear hgd;refine (FracError_at _ _ 2 _ i3 i4 HB.out).mono ?_;rintro e w2 ⟨rfl,hb2⟩;obtain ⟨u1,u2,u3,u4⟩:=Two.below ⟨p1,p2,p3,p4⟩ hb2 Nat.le.refl;obtain ⟨v1,v2,v3,v4⟩:=Two.below ⟨q1,q2,q3,q4⟩ hb2 Nat.le.refl;obtain ⟨s1,s2,s3,s4⟩:=Two.below ⟨r1,r2,r3,r4⟩ hb2 Nat.le.refl;clear p1 p2 p3 p4 q1 q2 q3 q4 r1 r2 r3 r4) | (go_at_call 91;refine (FracError_at _ _ 0 _ i1 i2 HA.out).mono ?_;rintro e w1 ⟨rfl,hb⟩;obtain ⟨⟨p1,p2,p3,p4⟩,⟨q1,q2,q3,q4⟩,⟨r1,r2,r3,r4⟩,hw,hz⟩:=three hb;clear hb))
    refine bodyPost_ret (v:=.tuple #[.agg #[.int .i64 0,.int .i64 0],.int .i64 2]) (by simp [results,Tryz.results126,go_sem,s1,s2]) rfl ⟨rfl,?_⟩
    exact ((hw.trans (hb2.mono (by omega))).setCell (by simp;omega) _).setCell (by simp;omega) _
   ·go_enter Tryz.func126,Tryz.ntmps126
    go_wp2_with (first | (go_at_call 91;have hgd:=hz;clear hgd;refine (FracError_at _ _ 3 _ i3 i4 HB.out).mono ?_;rintro e w2 ⟨rfl,hb2⟩;obtain ⟨u1,u2,u3,u4⟩:=Two.below ⟨p1,p2,p3,p4⟩ hb2 Nat.le.refl;obtain ⟨v1,v2,v3,v4⟩:=Two.below ⟨q1,q2,q3,q4⟩ hb2 Nat.le.refl;obtain ⟨s1,s2,s3,s4⟩:=Two.below ⟨r1,r2,r3,r4⟩ hb2 Nat.le.refl;clear p1 p2 p3 p4 q1 q2 q3 q4 r1 r2 r3 r4) | (go_at_call 91;refine (FracError_at _ _ 0 _ i1 i2 HA.out).mono ?_;rintro e w1 ⟨rfl,hb⟩;obtain ⟨⟨p1,p2,p3,p4⟩,⟨q1,q2,q3,q4⟩,⟨r1,r2,r3,r4⟩,hw,hz⟩:=three hb;clear hb))
    refine bodyPost_ret (v:=.tuple #[.agg #[.int .i64 0,.int .i64 0],.int .i64 3]) (by simp [results,Tryz.results126,go_sem,s1,s2]) rfl ⟨rfl,?_⟩
    exact ((hw.trans (hb2.mono (by omega))).setCell (by simp;omega) _).setCell (by simp;omega) _
 ·have hop:=mul_err (an:=an) (ad:=ad) (bn:=bn) (bd:=bd) (fun h=>ha h.1)
  have hc2:chk2 an ad bn bd=chk an ad:=by unfold chk2;rw [if_pos ha]
  rw [hop,hc2]
  obtain ⟨c,hc,hc'⟩:∃ c:Nat,chk an ad=c/\(c=2\/c=3):=⟨_,rfl,by rcases chk_cases an ad with h | h | h <;> simp_all⟩
  rw [hc]
  have HA:Hid (chk an ad=c):=hc
  clear ha hop hc2 hc
  rcases hc' with rfl | rfl
  ·go_enter Tryz.func126,Tryz.ntmps126
   go_wp2_with (go_at_call 91;refine (FracError_at _ _ 2 _ i1 i2 HA.out).mono ?_;rintro e w1 ⟨rfl,hb⟩;obtain ⟨⟨p1,p2,p3,p4⟩,⟨q1,q2,q3,q4⟩,⟨r1,r2,r3,r4⟩,hw,hz⟩:=three hb;clear hb)
   refine bodyPost_ret (v:=.tuple #[.agg #[.int .i64 0,.int .i64 0],.int .i64 2]) (by simp [results,Tryz.results126,go_sem,r1,r2]) rfl ⟨rfl,?_⟩
   exact (hw.setCell (by simp;omega) _).setCell (by simp;omega) _
  ·go_enter Tryz.func126,Tryz.ntmps126
   go_wp2_with (go_at_call 91;refine (FracError_at _ _ 3 _ i1 i2 HA.out).mono ?_;rintro e w1 ⟨rfl,hb⟩;obtain ⟨⟨p1,p2,p3,p4⟩,⟨q1,q2,q3,q4⟩,⟨r1,r2,r3,r4⟩,hw,hz⟩:=three hb;clear hb)
   refine bodyPost_ret (v:=.tuple #[.agg #[.int .i64 0,.int .i64 0],.int .i64 3]) (by simp [results,Tryz.results126,go_sem,r1,r2]) rfl ⟨rfl,?_⟩
   exact (hw.setCell (by simp;omega) _).setCell (by simp;omega) _
end
end Go.Proofs.YtgphclgmmocdhaaGreatDoor

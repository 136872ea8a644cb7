/-
  Parts of the proof.
-/
import Derived.Test.YtgphclgmmocdhaaGreatDoorQu18
namespace Go.Proofs.YtgphclgmmocdhaaGreatDoor
section
open Go.RowKit Go.Shelf Go.Sort Go.Lib
set_option maxHeartbeats 16000000
set_option maxRecDepth 100000
section
variable {w0:World} {blk off:Nat} {d0:Array S5}
theorem sym_mid2 (hblk:blk<w0.heap.size) (h0:HoldsK s5L 5 w0 blk off d0) (hz:d0.size<=1000) {d:Array S5} (hs:d.size=d0.size) {W:World} (hW:SW5 w0 blk off d W) (cap a m b mid n:Nat) (_hm1:m≠a+1) (_hm2:b≠m+1) (hp:MPre S5.lv S5.tag d a m b) (hmid:(a+b) / 2=mid) (hn:mid+m=n) (hw:m<=mid) (hIH:SymIH w0 blk off d0 cap (b - a)) :
  Calls Tryz.prog 125 #[.slice (some ⟨blk,off,none⟩) d0.size cap,.int .i64 a,.int .i64 m,.int .i64 b,cmpV] W fun e w'=>SyR w0 blk off d a b e w':=by
 have mixed:=mixed0
 have SR:=fun (e:Array S5) (he:e.size=d0.size) (V:World) (hV:SW5 w0 blk off e V) (x y z:Nat) (h1:x<y) (h2:y<z) (h3:z<=e.size)=>rotate_any hblk h0 hz he hV cap x y z h1 h2 h3 cmpV
 have HR:Hid _:=SR
 have HW:Hid (SW5 w0 blk off d W):=hW
 have H0:Hid (HoldsK s5L 5 w0 blk off d0):=h0
 have HP:Hid (MPre S5.lv S5.tag d a m b):=hp
 have IH:Hid (SymIH w0 blk off d0 cap (b - a)):=hIH
 have q1:=hp.mb
 have q2:=hp.sz
 have q3:=hp.am
 have cw:(n - m<m/\a=n - b/\m=n - m)\/(m<=n - m/\a=a/\m=m):=by omega
 have HC0:Hid (SymC S5.lv d a m b n a m a m):=⟨cw,by omega,Nat.le_refl _,by omega,Nat.le_refl _,fun c h1 h2=>by omega,fun c h1 h2=>by omega⟩
 obtain ⟨L,hL⟩:∃ L,m - a=L:=⟨_,rfl⟩
 obtain ⟨R,hR⟩:∃ R,b - m=R:=⟨_,rfl⟩
 obtain ⟨pp,hpp⟩:∃ pp,n - 1=pp:=⟨_,rfl⟩
 have e1:IntKind.i64.wrap ((m:Int) - (a:Int))=(L:Int):=by rw [IntKind.wrap_i64];omega
 have e2:((L:Int)==1)=false:=by simp;omega
 have e3:IntKind.i64.wrap ((b:Int) - (m:Int))=(R:Int):=by rw [IntKind.wrap_i64];omega
 have e4:((R:Int)==1)=false:=by simp;omega
 have e5:((a:Int)+(b:Int)) / 2=(mid:Int):=by omega
 have e6:(mid:Int)+(m:Int)=(n:Int):=by omega
 have e7:IntKind.i64.wrap ((n:Int) - 1)=(pp:Int):=by rw [IntKind.wrap_i64];omega
 have e9:¬ (mid:Int)<(m:Int):=by omega
 have b1:a<mid/\mid<b/\mid<n/\m<n/\n<=2 * b:=by omega
 have HN:Hid (mid+m=n/\n - 1=pp/\(a+b) / 2=mid):=⟨hn,hpp,hmid⟩
 have HCW:Hid ((n - m<m/\a=n - b/\m=n - m)\/(m<=n - m/\a=a/\m=m)):=cw
 clear SR hW h0 hp hIH hL hR hpp hn hmid cw _hm1 _hm2
 go_enter Tryz.func125,Tryz.ntmps125
 go_upto_region 33 with fail
 clear e5 e6
 go_loopw [20,21] (fun x y wr=>SMr w0 blk off d a m b n a m x y wr) (fun x y _=>(intOf y).toNat - (intOf x).toNat)
 case atStart=>exact ⟨a,m,rfl,rfl,HC0.out,HW.out⟩
 case round=>
  obtain ⟨s,r,rfl,rfl,hC,hE⟩:=hrel
  have HC:Hid (SymC S5.lv d a m b n a m s r):=hC
  have HE:Hid (SW5 w0 blk off d wr):=hE
  obtain ⟨hn1,hn2,hn3⟩:=HN.out
  have hcw:=HCW.out
  have hs1:=hC.s1
  have hs2:=hC.s2
  have hs3:=hC.s3
  by_cases hlt:s<r
  ·have hltz:(s:Int)<(r:Int):=by omega
   obtain ⟨c,hc⟩:∃ c,(s+r) / 2=c:=⟨_,rfl⟩
   obtain ⟨t,ht⟩:∃ t,n - 1 - c=t:=⟨_,rfl⟩
   have hcz:((s:Int)+(r:Int)) / 2=(c:Int):=by omega
   have htz:IntKind.i64.wrap ((pp:Int) - (c:Int))=(t:Int):=by rw [IntKind.wrap_i64];omega
   have hc1:s<=c/\c<r/\c<d0.size/\t<d0.size:=by omega
   have HTC:Hid (n - 1 - c=t):=ht
   clear hn1 hn2 hn3 hcw hs1 hs2 hs3 hc ht hC
   go_upto_region 35 with fail
   clear hcz
   have hbr:blk<wr.heap.size:=SWK.lt hE hblk
   obtain ⟨c0,c1,c2,c3,c4⟩:=(sw_c5 hE hblk H0.out hs (i:=t) (by omega)).all hbr
   obtain ⟨b0,b1,b2,b3,b4⟩:=(sw_c5 hE hblk H0.out hs (i:=c) (by omega)).all hbr
   have jh:(t:Int)<(d0.size:Int):=by omega
   have ja:(c:Int)<(d0.size:Int):=by omega
   obtain ⟨xt,hxt⟩:∃ x,d[t]! = x:=⟨_,rfl⟩
   obtain ⟨xc,hxc⟩:∃ x,d[c]! = x:=⟨_,rfl⟩
   rw [hxt] at c0 c1 c2 c3 c4
   rw [hxc] at b0 b1 b2 b3 b4
   have hcg:=cmpG wr xt xc
   have HX:Hid (d[n - 1 - c]! = xt/\d[c]! = xc):=⟨by rw [HTC.out];exact hxt,hxc⟩
   clear hE hxt hxc
   by_cases hk:xt.lv<xc.lv
   ·have hsg:=sgn_below hk
    have HD:Hid (SymC S5.lv d a m b n a m s c):=HC.out.down HP.out (by omega) (by omega) (by rw [HX.out.1,HX.out.2];exact hk)
    generalize sgn (xt.lv - xc.lv)=sv at hsg hcg
    go_quiet_grown (first | (go_at_call 47;exact Calls.grown_of (hcg _ _)))
    clear c0 c1 c2 c3 c4 b0 b1 b2 b3 b4 hcg hk
    go_wp2_with fail
    go_roundw
    case rel=>exact ⟨s,c,rfl,rfl,HD.out,HE.out.grown nq osq⟩
    case measure=>simp [intOf];omega
   ·have hsg:=sgn_above hk
    have HD:Hid (SymC S5.lv d a m b n a m (c+1) r):=HC.out.up HP.out (by omega) (by omega) (by rw [HX.out.1,HX.out.2];exact hk)
    generalize sgn (xt.lv - xc.lv)=sv at hsg hcg
    go_quiet_grown (first | (go_at_call 47;exact Calls.grown_of (hcg _ _)))
    clear c0 c1 c2 c3 c4 b0 b1 b2 b3 b4 hcg hk
    go_wp2_with fail
    go_roundw
    case rel=>exact ⟨c+1,r,by go_num,rfl,HD.out,HE.out.grown nq osq⟩
    case measure=>simp [intOf];omega
  ·have hltz:¬ (s:Int)<(r:Int):=by omega
   obtain rfl:s=r:=by omega
   obtain ⟨e,he⟩:∃ e,n - s=e:=⟨_,rfl⟩
   have hez:IntKind.i64.wrap ((n:Int) - (s:Int))=(e:Int):=by rw [IntKind.wrap_i64];omega
   have HT:Hid (∀ f,Rot d f s m e->SymT S5.lv S5.tag f a s mid e b):=fun f hf=>by
    rw [<- he] at hf ⊢
    exact HC.out.turn HP.out hf hn3.symm
   have hb0:a<=s/\s<=m/\m<=e/\e<=b/\s<=mid/\mid<=e:=by omega
   have hb1:s<m↔mid<e:=by omega
   have hb2:s<mid↔m<e:=by omega
   have HB:Hid ((s<m↔mid<e)/\(s<mid↔m<e)):=⟨hb1,hb2⟩
   clear hn1 hn2 hn3 hcw hs1 hs2 hs3 he hC hE hlt hb1 hb2
   by_cases g0:s<m
   ·by_cases g1:s<mid
    ·by_cases g2:a<s
     ·by_cases g3:e<b
      ·obtain ⟨hb1,hb2⟩:=HB.out
       have z1:(s:Int)<(m:Int):=by omega
       have z2:(m:Int)<(e:Int):=by omega
       have z3:(s:Int)<(mid:Int):=by omega
       have z4:(mid:Int)<(e:Int):=by omega
       have z5:(a:Int)<(s:Int):=by omega
       have z6:(e:Int)<(b:Int):=by omega
       clear hb1 hb2
       have RT:=HR.out d hs wr HE.out s m e (by omega) (by omega) (by omega)
       go_upto_region 41 with (go_at_call 180;refine RT.mono ?_;rintro e w1 ⟨rfl,d1,r1,k1⟩)
       have T:SymT S5.lv S5.tag d1 a s mid e b:=HT.out d1 r1
       have z1d:d1.size=d0.size:=r1.sz.trans hs
       have HT1:Hid (SymT S5.lv S5.tag d1 a s mid e b):=T
       have HR1:Hid (Rot d d1 s m e):=r1
       clear T r1
       have C1:=IH.out d1 z1d w1 k1 a s mid (by omega) (HT1.out.h1 ⟨by omega,by omega⟩)
       go_upto_region 43 with (go_at_call 125;refine C1.mono ?_;rintro e w2 ⟨rfl,d2,p2,k2⟩)
       have HP2:Hid (MPost S5.lv S5.tag d1 d2 a mid):=p2
       clear p2
       have C2:=IH.out d2 (HP2.out.mv.sz.trans z1d) w2 k2 mid e b (by omega) (HT1.out.pre HP2.out ⟨by omega,by omega⟩)
       go_wp2_with (go_at_call 125;refine C2.mono ?_;rintro e w3 ⟨rfl,d3,p3,k3⟩)
       all_goals go_end0
       all_goals have pf:=HT1.out.done (by omega) (by omega) HP2.out p3
       all_goals exact ⟨rfl,d3,⟨((HR1.out.mv (by omega) (by omega)).mono (by omega) (by omega)).trans pf.mv,pf.s⟩,k3⟩
      ·obtain ⟨hb1,hb2⟩:=HB.out
       have z1:(s:Int)<(m:Int):=by omega
       have z2:(m:Int)<(e:Int):=by omega
       have z3:(s:Int)<(mid:Int):=by omega
       have z4:(mid:Int)<(e:Int):=by omega
       have z5:(a:Int)<(s:Int):=by omega
       have z6:¬ (e:Int)<(b:Int):=by omega
       clear hb1 hb2
       have RT:=HR.out d hs wr HE.out s m e (by omega) (by omega) (by omega)
       go_upto_region 41 with (go_at_call 180;refine RT.mono ?_;rintro e w1 ⟨rfl,d1,r1,k1⟩)
       have T:SymT S5.lv S5.tag d1 a s mid e b:=HT.out d1 r1
       have z1d:d1.size=d0.size:=r1.sz.trans hs
       have HT1:Hid (SymT S5.lv S5.tag d1 a s mid e b):=T
       have HR1:Hid (Rot d d1 s m e):=r1
       clear T r1
       have C1:=IH.out d1 z1d w1 k1 a s mid (by omega) (HT1.out.h1 ⟨by omega,by omega⟩)
       go_upto_region 43 with (go_at_call 125;refine C1.mono ?_;rintro e w2 ⟨rfl,d2,p2,k2⟩)
       have HP2:Hid (MPost S5.lv S5.tag d1 d2 a mid):=p2
       clear p2
       have p3:MPost S5.lv S5.tag d2 d2 mid b:=HT1.out.two HP2.out (by omega)
       have HP3:Hid _:=p3
       clear p3
       go_wp2_with fail
       all_goals go_end0
       all_goals have pf:=HT1.out.done (by omega) (by omega) HP2.out HP3.out
       all_goals exact ⟨rfl,d2,⟨((HR1.out.mv (by omega) (by omega)).mono (by omega) (by omega)).trans pf.mv,pf.s⟩,k2⟩
     ·by_cases g3:e<b
      ·obtain ⟨hb1,hb2⟩:=HB.out
       have z1:(s:Int)<(m:Int):=by omega
       have z2:(m:Int)<(e:Int):=by omega
       have z3:(s:Int)<(mid:Int):=by omega
       have z4:(mid:Int)<(e:Int):=by omega
       have z5:¬ (a:Int)<(s:Int):=by omega
       have z6:(e:Int)<(b:Int):=by omega
       clear hb1 hb2
       have RT:=HR.out d hs wr HE.out s m e (by omega) (by omega) (by omega)
       go_upto_region 41 with (go_at_call 180;refine RT.mono ?_;rintro e w1 ⟨rfl,d1,r1,k1⟩)
       have T:SymT S5.lv S5.tag d1 a s mid e b:=HT.out d1 r1
       have z1d:d1.size=d0.size:=r1.sz.trans hs
       have HT1:Hid (SymT S5.lv S5.tag d1 a s mid e b):=T
       have HR1:Hid (Rot d d1 s m e):=r1
       clear T r1
       have p2:MPost S5.lv S5.tag d1 d1 a mid:=HT1.out.one (by omega)
       obtain ⟨d2,w2,p2,k2,hw2⟩:∃ d2 w2,MPost S5.lv S5.tag d1 d2 a mid/\SW5 w0 blk off d2 w2/\w2=w1:=⟨d1,w1,p2,k1,rfl⟩
       rw [<- hw2]
       clear hw2
       go_upto_region 43 with fail
       have HP2:Hid (MPost S5.lv S5.tag d1 d2 a mid):=p2
       clear p2
       have C2:=IH.out d2 (HP2.out.mv.sz.trans z1d) w2 k2 mid e b (by omega) (HT1.out.pre HP2.out ⟨by omega,by omega⟩)
       go_wp2_with (go_at_call 125;refine C2.mono ?_;rintro e w3 ⟨rfl,d3,p3,k3⟩)
       all_goals go_end0
       all_goals have pf:=HT1.out.done (by omega) (by omega) HP2.out p3
       all_goals exact ⟨rfl,d3,⟨((HR1.out.mv (by omega) (by omega)).mono (by omega) (by omega)).trans pf.mv,pf.s⟩,k3⟩
      ·obtain ⟨hb1,hb2⟩:=HB.out
       have z1:(s:Int)<(m:Int):=by omega
       have z2:(m:Int)<(e:Int):=by omega
       have z3:(s:Int)<(mid:Int):=by omega
       have z4:(mid:Int)<(e:Int):=by omega
       have z5:¬ (a:Int)<(s:Int):=by omega
       have z6:¬ (e:Int)<(b:Int):=by omega
       clear hb1 hb2
       have RT:=HR.out d hs wr HE.out s m e (by omega) (by omega) (by omega)
       go_upto_region 41 with (go_at_call 180;refine RT.mono ?_;rintro e w1 ⟨rfl,d1,r1,k1⟩)
       have T:SymT S5.lv S5.tag d1 a s mid e b:=HT.out d1 r1
       have z1d:d1.size=d0.size:=r1.sz.trans hs
       have HT1:Hid (SymT S5.lv S5.tag d1 a s mid e b):=T
       have HR1:Hid (Rot d d1 s m e):=r1
       clear T r1
       have p2:MPost S5.lv S5.tag d1 d1 a mid:=HT1.out.one (by omega)
       obtain ⟨d2,w2,p2,k2,hw2⟩:∃ d2 w2,MPost S5.lv S5.tag d1 d2 a mid/\SW5 w0 blk off d2 w2/\w2=w1:=⟨d1,w1,p2,k1,rfl⟩
       rw [<- hw2]
       clear hw2
       go_upto_region 43 with fail
       have HP2:Hid (MPost S5.lv S5.tag d1 d2 a mid):=p2
       clear p2
       have p3:MPost S5.lv S5.tag d2 d2 mid b:=HT1.out.two HP2.out (by omega)
       have HP3:Hid _:=p3
       clear p3
       go_wp2_with fail
       all_goals go_end0
       all_goals have pf:=HT1.out.done (by omega) (by omega) HP2.out HP3.out
       all_goals exact ⟨rfl,d2,⟨((HR1.out.mv (by omega) (by omega)).mono (by omega) (by omega)).trans pf.mv,pf.s⟩,k2⟩
    ·by_cases g2:a<s
     ·by_cases g3:e<b
      ·obtain ⟨hb1,hb2⟩:=HB.out
       have z1:(s:Int)<(m:Int):=by omega
       have z2:¬ (m:Int)<(e:Int):=by omega
       have z3:¬ (s:Int)<(mid:Int):=by omega
       have z4:(mid:Int)<(e:Int):=by omega
       have z5:(a:Int)<(s:Int):=by omega
       have z6:(e:Int)<(b:Int):=by omega
       clear hb1 hb2
       have r1:Rot d d s m e:=Rot.none (by omega) (by omega) (by omega)
       have T:SymT S5.lv S5.tag d a s mid e b:=HT.out d r1
       obtain ⟨d1,w1,T,r1,k1,z1d,hw1⟩:∃ d1 w1,SymT S5.lv S5.tag d1 a s mid e b/\Rot d d1 s m e/\SW5 w0 blk off d1 w1/\d1.size=d0.size/\w1=wr:=⟨d,wr,T,r1,HE.out,hs,rfl⟩
       rw [<- hw1]
       clear hw1
       go_upto_region 41 with fail
       have HT1:Hid (SymT S5.lv S5.tag d1 a s mid e b):=T
       have HR1:Hid (Rot d d1 s m e):=r1
       clear T r1
       have p2:MPost S5.lv S5.tag d1 d1 a mid:=HT1.out.one (by omega)
       obtain ⟨d2,w2,p2,k2,hw2⟩:∃ d2 w2,MPost S5.lv S5.tag d1 d2 a mid/\SW5 w0 blk off d2 w2/\w2=w1:=⟨d1,w1,p2,k1,rfl⟩
       rw [<- hw2]
       clear hw2
       go_upto_region 43 with fail
       have HP2:Hid (MPost S5.lv S5.tag d1 d2 a mid):=p2
       clear p2
       have C2:=IH.out d2 (HP2.out.mv.sz.trans z1d) w2 k2 mid e b (by omega) (HT1.out.pre HP2.out ⟨by omega,by omega⟩)
       go_wp2_with (go_at_call 125;refine C2.mono ?_;rintro e w3 ⟨rfl,d3,p3,k3⟩)
       all_goals go_end0
       all_goals have pf:=HT1.out.done (by omega) (by omega) HP2.out p3
       all_goals exact ⟨rfl,d3,⟨((HR1.out.mv (by omega) (by omega)).mono (by omega) (by omega)).trans pf.mv,pf.s⟩,k3⟩
      ·obtain ⟨hb1,hb2⟩:=HB.out
       have z1:(s:Int)<(m:Int):=by omega
       have z2:¬ (m:Int)<(e:Int):=by omega
       have z3:¬ (s:Int)<(mid:Int):=by omega
       have z4:(mid:Int)<(e:Int):=by omega
       have z5:(a:Int)<(s:Int):=by omega
       have z6:¬ (e:Int)<(b:Int):=by omega
       clear hb1 hb2
       have r1:Rot d d s m e:=Rot.none (by omega) (by omega) (by omega)
       have T:SymT S5.lv S5.tag d a s mid e b:=HT.out d r1
       obtain ⟨d1,w1,T,r1,k1,z1d,hw1⟩:∃ d1 w1,SymT S5.lv S5.tag d1 a s mid e b/\Rot d d1 s m e/\SW5 w0 blk off d1 w1/\d1.size=d0.size/\w1=wr:=⟨d,wr,T,r1,HE.out,hs,rfl⟩
       rw [<- hw1]
       clear hw1
       go_upto_region 41 with fail
       have HT1:Hid (SymT S5.lv S5.tag d1 a s mid e b):=T
       have HR1:Hid (Rot d d1 s m e):=r1
       clear T r1
       have p2:MPost S5.lv S5.tag d1 d1 a mid:=HT1.out.one (by omega)
       obtain ⟨d2,w2,p2,k2,hw2⟩:∃ d2 w2,MPost S5.lv S5.tag d1 d2 a mid/\SW5 w0 blk off d2 w2/\w2=w1:=⟨d1,w1,p2,k1,rfl⟩
       rw [<- hw2]
       clear hw2
       go_upto_region 43 with fail
       have HP2:Hid (MPost S5.lv S5.tag d1 d2 a mid):=p2
       clear p2
       have p3:MPost S5.lv S5.tag d2 d2 mid b:=HT1.out.two HP2.out (by omega)
       have HP3:Hid _:=p3
       clear p3
       go_wp2_with fail
       all_goals go_end0
       all_goals have pf:=HT1.out.done (by omega) (by omega) HP2.out HP3.out
       all_goals exact ⟨rfl,d2,⟨((HR1.out.mv (by omega) (by omega)).mono (by omega) (by omega)).trans pf.mv,pf.s⟩,k2⟩
     ·by_cases g3:e<b
      ·obtain ⟨hb1,hb2⟩:=HB.out
       have z1:(s:Int)<(m:Int):=by omega
       have z2:¬ (m:Int)<(e:Int):=by omega
       have z3:¬ (s:Int)<(mid:Int):=by omega
       have z4:(mid:Int)<(e:Int):=by omega
       have z5:¬ (a:Int)<(s:Int):=by omega
       have z6:(e:Int)<(b:Int):=by omega
       clear hb1 hb2
       have r1:Rot d d s m e:=Rot.none (by omega) (by omega) (by omega)
       have T:SymT S5.lv S5.tag d a s mid e b:=HT.out d r1
       obtain ⟨d1,w1,T,r1,k1,z1d,hw1⟩:∃ d1 w1,SymT S5.lv S5.tag d1 a s mid e b/\Rot d d1 s m e/\SW5 w0 blk off d1 w1/\d1.size=d0.size/\w1=wr:=⟨d,wr,T,r1,HE.out,hs,rfl⟩
       rw [<- hw1]
       clear hw1
       go_upto_region 41 with fail
       have HT1:Hid (SymT S5.lv S5.tag d1 a s mid e b):=T
       have HR1:Hid (Rot d d1 s m e):=r1
       clear T r1
       have p2:MPost S5.lv S5.tag d1 d1 a mid:=HT1.out.one (by omega)
       obtain ⟨d2,w2,p2,k2,hw2⟩:∃ d2 w2,MPost S5.lv S5.tag d1 d2 a mid/\SW5 w0 blk off d2 w2/\w2=w1:=⟨d1,w1,p2,k1,rfl⟩
       rw [<- hw2]
       clear hw2
       go_upto_region 43 with fail
       have HP2:Hid (MPost S5.lv S5.tag d1 d2 a mid):=p2
       clear p2
       have C2:=IH.out d2 (HP2.out.mv.sz.trans z1d) w2 k2 mid e b (by omega) (HT1.out.pre HP2.out ⟨by omega,by omega⟩)
       go_wp2_with (go_at_call 125;refine C2.mono ?_;rintro e w3 ⟨rfl,d3,p3,k3⟩)
       all_goals go_end0
       all_goals have pf:=HT1.out.done (by omega) (by omega) HP2.out p3
       all_goals exact ⟨rfl,d3,⟨((HR1.out.mv (by omega) (by omega)).mono (by omega) (by omega)).trans pf.mv,pf.s⟩,k3⟩
      ·obtain ⟨hb1,hb2⟩:=HB.out
       have z1:(s:Int)<(m:Int):=by omega
       have z2:¬ (m:Int)<(e:Int):=by omega
       have z3:¬ (s:Int)<(mid:Int):=by omega
       have z4:(mid:Int)<(e:Int):=by omega
       have z5:¬ (a:Int)<(s:Int):=by omega
       have z6:¬ (e:Int)<(b:Int):=by omega
       clear hb1 hb2
       have r1:Rot d d s m e:=Rot.none (by omega) (by omega) (by omega)
       have T:SymT S5.lv S5.tag d a s mid e b:=HT.out d r1
       obtain ⟨d1,w1,T,r1,k1,z1d,hw1⟩:∃ d1 w1,SymT S5.lv S5.tag d1 a s mid e b/\Rot d d1 s m e/\SW5 w0 blk off d1 w1/\d1.size=d0.size/\w1=wr:=⟨d,wr,T,r1,HE.out,hs,rfl⟩
       rw [<- hw1]
       clear hw1
       go_upto_region 41 with fail
       have HT1:Hid (SymT S5.lv S5.tag d1 a s mid e b):=T
       have HR1:Hid (Rot d d1 s m e):=r1
       clear T r1
       have p2:MPost S5.lv S5.tag d1 d1 a mid:=HT1.out.one (by omega)
       obtain ⟨d2,w2,p2,k2,hw2⟩:∃ d2 w2,MPost S5.lv S5.tag d1 d2 a mid/\SW5 w0 blk off d2 w2/\w2=w1:=⟨d1,w1,p2,k1,rfl⟩
       rw [<- hw2]
       clear hw2
       go_upto_region 43 with fail
       have HP2:Hid (MPost S5.lv S5.tag d1 d2 a mid):=p2
       clear p2
       have p3:MPost S5.lv S5.tag d2 d2 mid b:=HT1.out.two HP2.out (by omega)
       have HP3:Hid _:=p3
       clear p3
       go_wp2_with fail
       all_goals go_end0
       all_goals have pf:=HT1.out.done (by omega) (by omega) HP2.out HP3.out
       all_goals exact ⟨rfl,d2,⟨((HR1.out.mv (by omega) (by omega)).mono (by omega) (by omega)).trans pf.mv,pf.s⟩,k2⟩
   ·by_cases g1:s<mid
    ·by_cases g2:a<s
     ·by_cases g3:e<b
      ·obtain ⟨hb1,hb2⟩:=HB.out
       have z1:¬ (s:Int)<(m:Int):=by omega
       have z2:(m:Int)<(e:Int):=by omega
       have z3:(s:Int)<(mid:Int):=by omega
       have z4:¬ (mid:Int)<(e:Int):=by omega
       have z5:(a:Int)<(s:Int):=by omega
       have z6:(e:Int)<(b:Int):=by omega
       clear hb1 hb2
       have r1:Rot d d s m e:=Rot.none (by omega) (by omega) (by omega)
       have T:SymT S5.lv S5.tag d a s mid e b:=HT.out d r1
       obtain ⟨d1,w1,T,r1,k1,z1d,hw1⟩:∃ d1 w1,SymT S5.lv S5.tag d1 a s mid e b/\Rot d d1 s m e/\SW5 w0 blk off d1 w1/\d1.size=d0.size/\w1=wr:=⟨d,wr,T,r1,HE.out,hs,rfl⟩
       rw [<- hw1]
       clear hw1
       go_upto_region 41 with fail
       have HT1:Hid (SymT S5.lv S5.tag d1 a s mid e b):=T
       have HR1:Hid (Rot d d1 s m e):=r1
       clear T r1
       have C1:=IH.out d1 z1d w1 k1 a s mid (by omega) (HT1.out.h1 ⟨by omega,by omega⟩)
       go_upto_region 43 with (go_at_call 125;refine C1.mono ?_;rintro e w2 ⟨rfl,d2,p2,k2⟩)
       have HP2:Hid (MPost S5.lv S5.tag d1 d2 a mid):=p2
       clear p2
       have p3:MPost S5.lv S5.tag d2 d2 mid b:=HT1.out.two HP2.out (by omega)
       have HP3:Hid _:=p3
       clear p3
       go_wp2_with fail
       all_goals go_end0
       all_goals have pf:=HT1.out.done (by omega) (by omega) HP2.out HP3.out
       all_goals exact ⟨rfl,d2,⟨((HR1.out.mv (by omega) (by omega)).mono (by omega) (by omega)).trans pf.mv,pf.s⟩,k2⟩
      ·obtain ⟨hb1,hb2⟩:=HB.out
       have z1:¬ (s:Int)<(m:Int):=by omega
       have z2:(m:Int)<(e:Int):=by omega
       have z3:(s:Int)<(mid:Int):=by omega
       have z4:¬ (mid:Int)<(e:Int):=by omega
       have z5:(a:Int)<(s:Int):=by omega
       have z6:¬ (e:Int)<(b:Int):=by omega
       clear hb1 hb2
       have r1:Rot d d s m e:=Rot.none (by omega) (by omega) (by omega)
       have T:SymT S5.lv S5.tag d a s mid e b:=HT.out d r1
       obtain ⟨d1,w1,T,r1,k1,z1d,hw1⟩:∃ d1 w1,SymT S5.lv S5.tag d1 a s mid e b/\Rot d d1 s m e/\SW5 w0 blk off d1 w1/\d1.size=d0.size/\w1=wr:=⟨d,wr,T,r1,HE.out,hs,rfl⟩
       rw [<- hw1]
       clear hw1
       go_upto_region 41 with fail
       have HT1:Hid (SymT S5.lv S5.tag d1 a s mid e b):=T
       have HR1:Hid (Rot d d1 s m e):=r1
       clear T r1
       have C1:=IH.out d1 z1d w1 k1 a s mid (by omega) (HT1.out.h1 ⟨by omega,by omega⟩)
       go_upto_region 43 with (go_at_call 125;refine C1.mono ?_;rintro e w2 ⟨rfl,d2,p2,k2⟩)
       have HP2:Hid (MPost S5.lv S5.tag d1 d2 a mid):=p2
       clear p2
       have p3:MPost S5.lv S5.tag d2 d2 mid b:=HT1.out.two HP2.out (by omega)
       have HP3:Hid _:=p3
       clear p3
       go_wp2_with fail
       all_goals go_end0
       all_goals have pf:=HT1.out.done (by omega) (by omega) HP2.out HP3.out
       all_goals exact ⟨rfl,d2,⟨((HR1.out.mv (by omega) (by omega)).mono (by omega) (by omega)).trans pf.mv,pf.s⟩,k2⟩
     ·by_cases g3:e<b
      ·obtain ⟨hb1,hb2⟩:=HB.out
       have z1:¬ (s:Int)<(m:Int):=by omega
       have z2:(m:Int)<(e:Int):=by omega
       have z3:(s:Int)<(mid:Int):=by omega
       have z4:¬ (mid:Int)<(e:Int):=by omega
       have z5:¬ (a:Int)<(s:Int):=by omega
       have z6:(e:Int)<(b:Int):=by omega
       clear hb1 hb2
       have r1:Rot d d s m e:=Rot.none (by omega) (by omega) (by omega)
       have T:SymT S5.lv S5.tag d a s mid e b:=HT.out d r1
       obtain ⟨d1,w1,T,r1,k1,z1d,hw1⟩:∃ d1 w1,SymT S5.lv S5.tag d1 a s mid e b/\Rot d d1 s m e/\SW5 w0 blk off d1 w1/\d1.size=d0.size/\w1=wr:=⟨d,wr,T,r1,HE.out,hs,rfl⟩
       rw [<- hw1]
       clear hw1
       go_upto_region 41 with fail
       have HT1:Hid (SymT S5.lv S5.tag d1 a s mid e b):=T
       have HR1:Hid (Rot d d1 s m e):=r1
       clear T r1
       have p2:MPost S5.lv S5.tag d1 d1 a mid:=HT1.out.one (by omega)
       obtain ⟨d2,w2,p2,k2,hw2⟩:∃ d2 w2,MPost S5.lv S5.tag d1 d2 a mid/\SW5 w0 blk off d2 w2/\w2=w1:=⟨d1,w1,p2,k1,rfl⟩
       rw [<- hw2]
       clear hw2
       go_upto_region 43 with fail
       have HP2:Hid (MPost S5.lv S5.tag d1 d2 a mid):=p2
       clear p2
       have p3:MPost S5.lv S5.tag d2 d2 mid b:=HT1.out.two HP2.out (by omega)
       have HP3:Hid _:=p3
       clear p3
       go_wp2_with fail
       all_goals go_end0
       all_goals have pf:=HT1.out.done (by omega) (by omega) HP2.out HP3.out
       all_goals exact ⟨rfl,d2,⟨((HR1.out.mv (by omega) (by omega)).mono (by omega) (by omega)).trans pf.mv,pf.s⟩,k2⟩
      ·obtain ⟨hb1,hb2⟩:=HB.out
       have z1:¬ (s:Int)<(m:Int):=by omega
       have z2:(m:Int)<(e:Int):=by omega
       have z3:(s:Int)<(mid:Int):=by omega
       have z4:¬ (mid:Int)<(e:Int):=by omega
       have z5:¬ (a:Int)<(s:Int):=by omega
       have z6:¬ (e:Int)<(b:Int):=by omega
       clear hb1 hb2
       have r1:Rot d d s m e:=Rot.none (by omega) (by omega) (by omega)
       have T:SymT S5.lv S5.tag d a s mid e b:=HT.out d r1
       obtain ⟨d1,w1,T,r1,k1,z1d,hw1⟩:∃ d1 w1,SymT S5.lv S5.tag d1 a s mid e b/\Rot d d1 s m e/\SW5 w0 blk off d1 w1/\d1.size=d0.size/\w1=wr:=⟨d,wr,T,r1,HE.out,hs,rfl⟩
       rw [<- hw1]
       clear hw1
       go_upto_region 41 with fail
       have HT1:Hid (SymT S5.lv S5.tag d1 a s mid e b):=T
       have HR1:Hid (Rot d d1 s m e):=r1
       clear T r1
       have p2:MPost S5.lv S5.tag d1 d1 a mid:=HT1.out.one (by omega)
       obtain ⟨d2,w2,p2,k2,hw2⟩:∃ d2 w2,MPost S5.lv S5.tag d1 d2 a mid/\SW5 w0 blk off d2 w2/\w2=w1:=⟨d1,w1,p2,k1,rfl⟩
       rw [<- hw2]
       clear hw2
       go_upto_region 43 with fail
       have HP2:Hid (MPost S5.lv S5.tag d1 d2 a mid):=p2
       clear p2
       have p3:MPost S5.lv S5.tag d2 d2 mid b:=HT1.out.two HP2.out (by omega)
       have HP3:Hid _:=p3
       clear p3
       go_wp2_with fail
       all_goals go_end0
       all_goals have pf:=HT1.out.done (by omega) (by omega) HP2.out HP3.out
       all_goals exact ⟨rfl,d2,⟨((HR1.out.mv (by omega) (by omega)).mono (by omega) (by omega)).trans pf.mv,pf.s⟩,k2⟩
    ·by_cases g2:a<s
     ·by_cases g3:e<b
      ·obtain ⟨hb1,hb2⟩:=HB.out
       have z1:¬ (s:Int)<(m:Int):=by omega
       have z2:¬ (m:Int)<(e:Int):=by omega
       have z3:¬ (s:Int)<(mid:Int):=by omega
       have z4:¬ (mid:Int)<(e:Int):=by omega
       have z5:(a:Int)<(s:Int):=by omega
       have z6:(e:Int)<(b:Int):=by omega
       clear hb1 hb2
       have r1:Rot d d s m e:=Rot.none (by omega) (by omega) (by omega)
       have T:SymT S5.lv S5.tag d a s mid e b:=HT.out d r1
       obtain ⟨d1,w1,T,r1,k1,z1d,hw1⟩:∃ d1 w1,SymT S5.lv S5.tag d1 a s mid e b/\Rot d d1 s m e/\SW5 w0 blk off d1 w1/\d1.size=d0.size/\w1=wr:=⟨d,wr,T,r1,HE.out,hs,rfl⟩
       rw [<- hw1]
       clear hw1
       go_upto_region 41 with fail
       have HT1:Hid (SymT S5.lv S5.tag d1 a s mid e b):=T
       have HR1:Hid (Rot d d1 s m e):=r1
       clear T r1
       have p2:MPost S5.lv S5.tag d1 d1 a mid:=HT1.out.one (by omega)
       obtain ⟨d2,w2,p2,k2,hw2⟩:∃ d2 w2,MPost S5.lv S5.tag d1 d2 a mid/\SW5 w0 blk off d2 w2/\w2=w1:=⟨d1,w1,p2,k1,rfl⟩
       rw [<- hw2]
       clear hw2
       go_upto_region 43 with fail
       have HP2:Hid (MPost S5.lv S5.tag d1 d2 a mid):=p2
       clear p2
       have p3:MPost S5.lv S5.tag d2 d2 mid b:=HT1.out.two HP2.out (by omega)
       have HP3:Hid _:=p3
       clear p3
       go_wp2_with fail
       all_goals go_end0
       all_goals have pf:=HT1.out.done (by omega) (by omega) HP2.out HP3.out
       all_goals exact ⟨rfl,d2,⟨((HR1.out.mv (by omega) (by omega)).mono (by omega) (by omega)).trans pf.mv,pf.s⟩,k2⟩
      ·obtain ⟨hb1,hb2⟩:=HB.out
       have z1:¬ (s:Int)<(m:Int):=by omega
       have z2:¬ (m:Int)<(e:Int):=by omega
       have z3:¬ (s:Int)<(mid:Int):=by omega
       have z4:¬ (mid:Int)<(e:Int):=by omega
       have z5:(a:Int)<(s:Int):=by omega
       have z6:¬ (e:Int)<(b:Int):=by omega
       clear hb1 hb2
       have r1:Rot d d s m e:=Rot.none (by omega) (by omega) (by omega)
       have T:SymT S5.lv S5.tag d a s mid e b:=HT.out d r1
       obtain ⟨d1,w1,T,r1,k1,z1d,hw1⟩:∃ d1 w1,SymT S5.lv S5.tag d1 a s mid e b/\Rot d d1 s m e/\SW5 w0 blk off d1 w1/\d1.size=d0.size/\w1=wr:=⟨d,wr,T,r1,HE.out,hs,rfl⟩
       rw [<- hw1]
       clear hw1
       go_upto_region 41 with fail
       have HT1:Hid (SymT S5.lv S5.tag d1 a s mid e b):=T
       have HR1:Hid (Rot d d1 s m e):=r1
       clear T r1
       have p2:MPost S5.lv S5.tag d1 d1 a mid:=HT1.out.one (by omega)
       obtain ⟨d2,w2,p2,k2,hw2⟩:∃ d2 w2,MPost S5.lv S5.tag d1 d2 a mid/\SW5 w0 blk off d2 w2/\w2=w1:=⟨d1,w1,p2,k1,rfl⟩
       rw [<- hw2]
       clear hw2
       go_upto_region 43 with fail
       have HP2:Hid (MPost S5.lv S5.tag d1 d2 a mid):=p2
       clear p2
       have p3:MPost S5.lv S5.tag d2 d2 mid b:=HT1.out.two HP2.out (by omega)
       have HP3:Hid _:=p3
       clear p3
       go_wp2_with fail
       all_goals go_end0
       all_goals have pf:=HT1.out.done (by omega) (by omega) HP2.out HP3.out
       all_goals exact ⟨rfl,d2,⟨((HR1.out.mv (by omega) (by omega)).mono (by omega) (by omega)).trans pf.mv,pf.s⟩,k2⟩
     ·by_cases g3:e<b
      ·obtain ⟨hb1,hb2⟩:=HB.out
       have z1:¬ (s:Int)<(m:Int):=by omega
       have z2:¬ (m:Int)<(e:Int):=by omega
       have z3:¬ (s:Int)<(mid:Int):=by omega
       have z4:¬ (mid:Int)<(e:Int):=by omega
       have z5:¬ (a:Int)<(s:Int):=by omega
       have z6:(e:Int)<(b:Int):=by omega
       clear hb1 hb2
       have r1:Rot d d s m e:=Rot.none (by omega) (by omega) (by omega)
       have T:SymT S5.lv S5.tag d a s mid e b:=HT.out d r1
       obtain ⟨d1,w1,T,r1,k1,z1d,hw1⟩:∃ d1 w1,SymT S5.lv S5.tag d1 a s mid e b/\Rot d d1 s m e/\SW5 w0 blk off d1 w1/\d1.size=d0.size/\w1=wr:=⟨d,wr,T,r1,HE.out,hs,rfl⟩
       rw [<- hw1]
       clear hw1
       go_upto_region 41 with fail
       have HT1:Hid (SymT S5.lv S5.tag d1 a s mid e b):=T
       have HR1:Hid (Rot d d1 s m e):=r1
       clear T r1
       have p2:MPost S5.lv S5.tag d1 d1 a mid:=HT1.out.one (by omega)
       obtain ⟨d2,w2,p2,k2,hw2⟩:∃ d2 w2,MPost S5.lv S5.tag d1 d2 a mid/\SW5 w0 blk off d2 w2/\w2=w1:=⟨d1,w1,p2,k1,rfl⟩
       rw [<- hw2]
       clear hw2
       go_upto_region 43 with fail
       have HP2:Hid (MPost S5.lv S5.tag d1 d2 a mid):=p2
       clear p2
       have p3:MPost S5.lv S5.tag d2 d2 mid b:=HT1.out.two HP2.out (by omega)
       have HP3:Hid _:=p3
       clear p3
       go_wp2_with fail
       all_goals go_end0
       all_goals have pf:=HT1.out.done (by omega) (by omega) HP2.out HP3.out
       all_goals exact ⟨rfl,d2,⟨((HR1.out.mv (by omega) (by omega)).mono (by omega) (by omega)).trans pf.mv,pf.s⟩,k2⟩
      ·obtain ⟨hb1,hb2⟩:=HB.out
       have z1:¬ (s:Int)<(m:Int):=by omega
       have z2:¬ (m:Int)<(e:Int):=by omega
       have z3:¬ (s:Int)<(mid:Int):=by omega
       have z4:¬ (mid:Int)<(e:Int):=by omega
       have z5:¬ (a:Int)<(s:Int):=by omega
       have z6:¬ (e:Int)<(b:Int):=by omega
       clear hb1 hb2
       have r1:Rot d d s m e:=Rot.none (by omega) (by omega) (by omega)
       have T:SymT S5.lv S5.tag d a s mid e b:=HT.out d r1
       obtain ⟨d1,w1,T,r1,k1,z1d,hw1⟩:∃ d1 w1,SymT S5.lv S5.tag d1 a s mid e b/\Rot d d1 s m e/\SW5 w0 blk off d1 w1/\d1.size=d0.size/\w1=wr:=⟨d,wr,T,r1,HE.out,hs,rfl⟩
       rw [<- hw1]
       clear hw1
       go_upto_region 41 with fail
       have HT1:Hid (SymT S5.lv S5.tag d1 a s mid e b):=T
       have HR1:Hid (Rot d d1 s m e):=r1
       clear T r1
       have p2:MPost S5.lv S5.tag d1 d1 a mid:=HT1.out.one (by omega)
       obtain ⟨d2,w2,p2,k2,hw2⟩:∃ d2 w2,MPost S5.lv S5.tag d1 d2 a mid/\SW5 w0 blk off d2 w2/\w2=w1:=⟨d1,w1,p2,k1,rfl⟩
       rw [<- hw2]
       clear hw2
       go_upto_region 43 with fail
       have HP2:Hid (MPost S5.lv S5.tag d1 d2 a mid):=p2
       clear p2
       have p3:MPost S5.lv S5.tag d2 d2 mid b:=HT1.out.two HP2.out (by omega)
       have HP3:Hid _:=p3
       clear p3
       go_wp2_with fail
       all_goals go_end0
       all_goals have pf:=HT1.out.done (by omega) (by omega) HP2.out HP3.out
       all_goals exact ⟨rfl,d2,⟨((HR1.out.mv (by omega) (by omega)).mono (by omega) (by omega)).trans pf.mv,pf.s⟩,k2⟩
end
end
section
open Go.RowKit Go.Shelf Go.Sort Go.Lib
set_option maxHeartbeats 8000000
set_option maxRecDepth 100000
section
variable {w0:World} {blk off:Nat} {d0:Array S5}
theorem symMerge_any (hblk:blk<w0.heap.size) (h0:HoldsK s5L 5 w0 blk off d0) (hz:d0.size<=1000) (cap:Nat):∀ len,SymIH w0 blk off d0 cap len
 | 0=>fun _ _ _ _ _ _ _ h=>absurd h (Nat.not_lt_zero _)
 | len+1=>fun e he V hV a m b hl hp=>by
  have IH:SymIH w0 blk off d0 cap (b - a):=fun e' he' V' hV' a' m' b' h' hp'=>symMerge_any hblk h0 hz cap len e' he' V' hV' a' m' b' (by omega) hp'
  by_cases h1:m=a+1
  ·exact sym_first hblk h0 hz he hV cap a m b h1 hp
  ·by_cases h2:b=m+1
   ·exact sym_last hblk h0 hz he hV cap a m b h1 h2 hp
   ·by_cases h3:(a+b) / 2<m
    ·exact sym_mid1 hblk h0 hz he hV cap a m b _ _ _ h1 h2 hp rfl rfl h3 rfl IH
    ·exact sym_mid2 hblk h0 hz he hV cap a m b _ _ h1 h2 hp rfl rfl (by omega) IH
def IOr (w0:World) (blk off:Nat) (d:Array S5) (a b:Nat) (x:Value) (wr:World):Prop:=∃ (i:Nat) (e:Array S5),x=.int .i64 i/\a<i/\i<=b/\Mvd d e a i/\Srt S5.lv S5.tag e a i/\SW5 w0 blk off e wr
def IIr (w0:World) (blk off:Nat) (e:Array S5) (a i:Nat) (y:Value) (wr:World):Prop:=∃ (j:Nat) (f:Array S5),y=.int .i64 j/\a<=j/\j<=i/\InsS S5.lv S5.tag f a j i/\Mvd e f a (i+1)/\SW5 w0 blk off f wr
theorem insertion_any (hblk:blk<w0.heap.size) (h0:HoldsK s5L 5 w0 blk off d0) (hz:d0.size<=1000) {d:Array S5} (hs:d.size=d0.size) {W:World} (hW:SW5 w0 blk off d W) (cap a b:Nat) (hab:a<b) (hb:b<=d.size) (ht:∀ u v,a<=u->u<v->v<b->d[u]!.tag<d[v]!.tag) :
  Calls Tryz.prog 124 #[.slice (some ⟨blk,off,none⟩) d0.size cap,.int .i64 a,.int .i64 b,cmpV] W fun e w'=>SyR w0 blk off d a b e w':=by
 have mixed:=mixed0
 have HW:Hid (SW5 w0 blk off d W):=hW
 have H0:Hid (HoldsK s5L 5 w0 blk off d0):=h0
 have HTG:Hid (∀ u v,a<=u->u<v->v<b->d[u]!.tag<d[v]!.tag):=ht
 clear hW h0 ht
 go_enter Tryz.func124,Tryz.ntmps124
 go_upto_region 1 with fail
 go_loopw [8] (fun x wr=>IOr w0 blk off d a b x wr) (fun x _=>b - (intOf x).toNat)
 case atStart=>exact ⟨a+1,d,by go_num,by omega,by omega,Mvd.refl _ _ _,fun u v h1 h2 h3=>by omega,HW.out⟩
 case round=>
  obtain ⟨i,e,rfl,hai,hib,hM,hS,hE⟩:=hrel
  have HM:Hid (Mvd d e a i):=hM
  have HS:Hid (Srt S5.lv S5.tag e a i):=hS
  have HE:Hid (SW5 w0 blk off e wr):=hE
  have hze:e.size=d.size:=hM.sz
  clear hM hS hE
  by_cases hlt:i<b
  ·have hltz:(i:Int)<(b:Int):=by omega
   have HI0:Hid (InsS S5.lv S5.tag e a i i):=by
    refine ⟨fun u v h1 h2 h3 h4 h5=>HS.out u v h1 h2 (by omega),fun v h1 h2=>by omega,fun u h1 h2=>?_⟩
    obtain ⟨k,k1,k2,k3⟩:=(HM.out.same _).1 ⟨u,h1,h2,rfl⟩
    rw [<- k3,HM.out.out i (by omega)]
    exact HTG.out k i k1 k2 hlt
   go_upto_region 4 with fail
   go_loopw [9] (fun y wr=>IIr w0 blk off e a i y wr) (fun y _=>(intOf y).toNat)
   case atStart=>exact ⟨i,e,rfl,by omega,Nat.le_refl _,HI0.out,Mvd.refl _ _ _,HE.out⟩
   case round=>
    obtain ⟨j,f,rfl,haj,hji,hI,hV,hF⟩:=hrel
    have HI:Hid (InsS S5.lv S5.tag f a j i):=hI
    have HV:Hid (Mvd e f a (i+1)):=hV
    have HF:Hid (SW5 w0 blk off f wr):=hF
    have hzf:f.size=d.size:=hV.sz.trans hze
    have OUT:Hid (∀ V,SW5 w0 blk off f V->(j=a\/a<j/\f[j - 1]!.lv<=f[j]!.lv)->IOr w0 blk off d a b (.int .i64 (i+1:Nat)) V):=fun V hV0 hst=>
     ⟨i+1,f,rfl,by omega,by omega,(HM.out.mono Nat.le.refl (by omega)).trans HV.out,HI.out.stop (hst.imp id (fun h=>⟨h.1,Int.not_lt.2 h.2⟩)),hV0⟩
    clear hI hV
    by_cases hja:a<j
    ·have hjz:(a:Int)<(j:Int):=by omega
     obtain ⟨p,hp⟩:∃ p,j=p+1:=⟨j - 1,by omega⟩
     have ep:IntKind.i64.wrap ((j:Int) - 1)=(p:Int):=by rw [IntKind.wrap_i64];omega
     have hpj:p<j:=by omega
     have HKP:Hid (j=p+1):=hp
     clear hp
     have hbr:blk<wr.heap.size:=SWK.lt hF hblk
     obtain ⟨c0,c1,c2,c3,c4⟩:=(sw_c5 hF hblk H0.out (hzf.trans hs) (i:=j) (by omega)).all hbr
     obtain ⟨b0,b1,b2,b3,b4⟩:=(sw_c5 hF hblk H0.out (hzf.trans hs) (i:=p) (by omega)).all hbr
     have jh:(j:Int)<(d0.size:Int):=by omega
     have ja:(p:Int)<(d0.size:Int):=by omega
     obtain ⟨xj,hxj⟩:∃ x,f[j]! = x:=⟨_,rfl⟩
     obtain ⟨xp,hxp⟩:∃ x,f[p]! = x:=⟨_,rfl⟩
     rw [hxj] at c0 c1 c2 c3 c4
     rw [hxp] at b0 b1 b2 b3 b4
     have hcg:=cmpG wr xj xp
     have HX:Hid (f[j]! = xj/\f[p]! = xp):=⟨hxj,hxp⟩
     clear hF hxj hxp
     by_cases hk:xj.lv<xp.lv
     ·have hsg:=sgn_below hk
      have HK:Hid (f[j]!.lv<f[p]!.lv):=by rw [HX.out.1,HX.out.2];exact hk
      generalize sgn (xj.lv - xp.lv)=sv at hsg hcg
      go_wp2_with fail
      go_quiet_grown (first | (go_at_call 47;exact Calls.grown_of (hcg _ _)))
      clear c0 c1 c2 c3 c4 b0 b1 b2 b3 b4 hcg hk
      go_wp2_with fail
      obtain ⟨V,hV⟩:∃ V,grow (wr.drewN nq) osq=V:=⟨_,rfl⟩
      have hG:SW5 w0 blk off f V:=by rw [<- hV];exact HF.out.grown nq osq
      rw [hV]
      clear hV
      obtain ⟨a0,a1,a2,a3,a4,fa0,fa1,fa2,fa3,fa4⟩:=sw_c5 hG hblk H0.out (hzf.trans hs) (i:=j) (by omega)
      obtain ⟨b0,b1,b2,b3,b4,fb0,fb1,fb2,fb3,fb4⟩:=sw_c5 hG hblk H0.out (hzf.trans hs) (i:=p) (by omega)
      have EQ:Hid _:=sw_swap hG hblk (i:=j) (j:=p) (by omega) (by omega)
      rw [HX.out.1] at a0 a1 a2 a3 a4 EQ
      rw [HX.out.2] at b0 b1 b2 b3 b4 EQ
      clear hG
      go_big_region
      all_goals go_wp2
      go_roundw
      case rel=>
       refine ⟨p,swp f j p,by first | rfl | go_num,by have:=HKP.out;omega,by omega,?_,?_,?_⟩
       ·have h1:=HI.out
        have h2:=HK.out
        rw [HKP.out] at h1 h2 ⊢
        exact h1.step (by have:=HKP.out;omega) (by have:=HKP.out;omega) h2 (by omega)
       ·exact HV.out.trans (Mvd.swp ⟨by omega,by omega⟩ ⟨by have:=HKP.out;omega,by omega⟩ (by omega))
       ·exact EQ.out
      case measure=>
       have:=HKP.out
       simp [intOf];omega
     ·have hsg:=sgn_above hk
      have HK:Hid (f[p]!.lv<=f[j]!.lv):=by rw [HX.out.1,HX.out.2];exact Int.not_lt.1 hk
      generalize sgn (xj.lv - xp.lv)=sv at hsg hcg
      go_wp2_with fail
      go_quiet_grown (first | (go_at_call 47;exact Calls.grown_of (hcg _ _)))
      clear c0 c1 c2 c3 c4 b0 b1 b2 b3 b4 hcg hk
      go_wp2_with fail
      go_roundw
      case rel=>exact OUT.out _ (HF.out.grown nq osq) (.inr ⟨hja,by rw [show j - 1=p from by have:=HKP.out;omega];exact HK.out⟩)
      case measure=>simp [intOf];omega
    ·have hjz:¬ (a:Int)<(j:Int):=by omega
     have hjz':decide ((j:Int) > (a:Int))=false:=decide_eq_false (by omega)
     clear hF
     go_wp2_with fail
     go_big_region
     all_goals go_wp2
     go_roundw
     case rel=>exact OUT.out _ (SW5.drew HF.out) (.inl (by omega))
     case measure=>simp [intOf];omega
  ·have hltz:¬ (i:Int)<(b:Int):=by omega
   obtain rfl:i=b:=by omega
   go_wp2
   go_end0
   exact ⟨rfl,e,⟨HM.out,HS.out⟩,HE.out⟩
theorem insertion_none (a cap:Nat) (o:Option Addr) (len:Nat) (ha:a<=1000) (W:World) :
  Calls Tryz.prog 124 #[.slice o len cap,.int .i64 a,.int .i64 a,cmpV] W fun e w'=>e=.returned (.tuple #[])/\w'=W:=by
 go_enter Tryz.func124,Tryz.ntmps124
 have h1:¬ ((a:Int)+1<(a:Int)):=by omega
 go_upto_region 1 with fail
 go_loopw [8] (fun x wr=>x=.int .i64 ((a:Int)+1)/\wr=W) (fun _ _=>0)
 case atStart=>exact ⟨by go_num,rfl⟩
 case round=>
  obtain ⟨rfl,rfl⟩:=hrel
  go_wp2
  go_end0
  exact ⟨rfl,rfl⟩
end
end
section
open Go.RowKit Go.Shelf Go.Sort Go.Lib
set_option maxHeartbeats 8000000
set_option maxRecDepth 100000
section
variable {w0:World} {blk off:Nat} {d0:Array S5}
def ST1 (w0:World) (blk off:Nat) (d0:Array S5) (x y:Value) (wr:World):Prop:=∃ (a b:Nat) (e:Array S5),x=.int .i64 a/\y=.int .i64 b/\b=a+20/\a<=d0.size/\RunsTo S5.lv S5.tag e 20 d0.size a/\Mvd d0 e 0 d0.size/\(∀ i,a<=i->e[i]! = d0[i]!)/\SW5 w0 blk off e wr
def ST2 (w0:World) (blk off:Nat) (d0:Array S5) (x:Value) (wr:World):Prop:=∃ (bs:Nat) (e:Array S5),x=.int .i64 bs/\20<=bs/\bs<=2000/\Runs S5.lv S5.tag e bs d0.size 0/\Mvd d0 e 0 d0.size/\SW5 w0 blk off e wr
def ST3 (w0:World) (blk off:Nat) (d0:Array S5) (bs:Nat) (x y:Value) (wr:World):Prop:=∃ (a b:Nat) (e:Array S5),x=.int .i64 a/\y=.int .i64 b/\b=a+2 * bs/\a<=d0.size/\RunsTo S5.lv S5.tag e (2 * bs) d0.size a/\Runs S5.lv S5.tag e bs d0.size a/\Mvd d0 e 0 d0.size/\SW5 w0 blk off e wr
theorem stable_any (hblk:blk<w0.heap.size) (h0:HoldsK s5L 5 w0 blk off d0) (hz:d0.size<=1000) (ht:∀ i,i<d0.size->d0[i]!.tag=i) (cap:Nat) :
  Calls Tryz.prog 87 #[.slice (some ⟨blk,off,none⟩) d0.size cap,.int .i64 d0.size,cmpV] w0 fun e w'=>SyR w0 blk off d0 0 d0.size e w':=by
 obtain ⟨n,hn⟩:∃ n,d0.size=n:=⟨_,rfl⟩
 have INS:Hid (∀ (e:Array S5),e.size=d0.size->∀ V,SW5 w0 blk off e V->∀ a b,a<b->b<=e.size->(∀ u v,a<=u->u<v->v<b->e[u]!.tag<e[v]!.tag)->Calls Tryz.prog 124 #[.slice (some ⟨blk,off,none⟩) d0.size cap,.int .i64 a,.int .i64 b,cmpV] V fun e' w'=>SyR w0 blk off e a b e' w'):=fun e he V hV a b h1 h2 h3=>insertion_any hblk h0 hz he hV cap a b h1 h2 h3
 have SYM:Hid (SymIH w0 blk off d0 cap 2000):=symMerge_any hblk h0 hz cap 2000
 have HW:Hid (SW5 w0 blk off d0 w0):=SWK.start h0
 have HTG:Hid (∀ i,i<d0.size->d0[i]!.tag=i):=ht
 rw [hn] at hz ⊢
 have HN:Hid (d0.size=n):=hn
 rw [hn] at INS
 clear h0 ht hn
 go_enter Tryz.func87,Tryz.ntmps87
 go_upto_region 2 with fail
 go_loopw [7,8] (fun x y wr=>ST1 w0 blk off d0 x y wr) (fun x _ _=>n - (intOf x).toNat)
 case atStart=>exact ⟨0,20,d0,rfl,rfl,rfl,Nat.zero_le _,RunsTo.zero _ _ _,Mvd.refl _ _ _,fun _ _=>rfl,HW.out⟩
 case round=>
  obtain ⟨a,b,e,rfl,rfl,hb,ha,hR,hM,hS,hE⟩:=hrel
  rw [HN.out] at ha hR hM
  have HB:Hid (b=a+20):=hb
  have HR:Hid (RunsTo S5.lv S5.tag e 20 n a):=hR
  have HM:Hid (Mvd d0 e 0 n):=hM
  have HS:Hid (∀ i,a<=i->e[i]! = d0[i]!):=hS
  have hze:e.size=n:=hM.sz.trans HN.out
  have TG:Hid (∀ z,z<=n->∀ u v,a<=u->u<v->v<z->e[u]!.tag<e[v]!.tag):=fun z hz u v h1 h2 h3=>by
   rw [HS.out u h1,HS.out v (by omega),HTG.out u (by rw [HN.out];omega),HTG.out v (by rw [HN.out];omega)]
   exact h2
  have TI:Hid (∀ z,z<=n->∀ i,a<=i->i<z->z<=a+20->a<=e[i]!.tag/\e[i]!.tag<a+20):=fun z hz i h1 h2 h3=>by
   rw [HS.out i h1,HTG.out i (by rw [HN.out];omega)]
   omega
  clear hR hM hS
  by_cases hle:b<=n
  ·have hlez:(b:Int)<=(n:Int):=by omega
   have IC:=INS.out e (by omega) wr hE a b (by omega) (by omega) (TG.out b hle)
   obtain ⟨b2,hb2⟩:∃ b2,b+20=b2:=⟨_,rfl⟩
   have hbz:(b:Int)+20=(b2:Int):=by omega
   have hbn:b<=1000:=by omega
   have HB2:Hid (b+20=b2):=hb2
   clear hE hb hb2
   go_wp2_with (go_at_call 124;refine IC.mono ?_;rintro e w1 ⟨rfl,f,hf,hw⟩)
   go_roundw
   case rel=>
    have hb:=HB.out
    have hm:min (a+20) n=b:=by omega
    refine ⟨b,b2,f,rfl,rfl,by have:=HB2.out;omega,by rw [HN.out];exact hle,?_,?_,?_,hw⟩
    ·rw [HN.out,hb]
     exact HR.out.more (by omega) (by rw [hm];exact hf.mv) (by rw [hm];exact hf.s) (fun i h1 h2=>TI.out b hle i h1 (by omega) (by omega))
    ·rw [HN.out]
     exact HM.out.trans (hf.mv.mono (Nat.zero_le _) hle)
    ·exact fun i hi=>(hf.mv.out i (.inr hi)).trans (HS.out i (by omega))
   case measure=>
    have hb:=HB.out
    simp [intOf];omega
  ·have hlez:¬ (b:Int)<=(n:Int):=by omega
   have hb:b=a+20:=HB.out
   have AFT:∃ w1 f,(Calls Tryz.prog 124 #[.slice (some ⟨blk,off,none⟩) n cap,.int .i64 a,.int .i64 n,cmpV] wr fun e' w'=>e'=.returned (.tuple #[])/\∃ f,Runs S5.lv S5.tag f 20 n 0/\Mvd d0 f 0 n/\SW5 w0 blk off f w')/\w1=wr/\f=e:=by
    refine ⟨wr,e,?_,rfl,rfl⟩
    by_cases han:a<n
    ·refine (INS.out e (by omega) wr hE a n han (by omega) (TG.out n Nat.le.refl)).mono ?_
     rintro e' w1 ⟨rfl,f,hf,hw⟩
     have hm:min (a+20) n=n:=by omega
     refine ⟨rfl,f,(HR.out.more han (by rw [hm];exact hf.mv) (by rw [hm];exact hf.s) (fun i h1 h2=>TI.out n Nat.le.refl i h1 (by omega) (by omega))).done (.stop (by omega)),HM.out.trans (hf.mv.mono (Nat.zero_le _) Nat.le.refl),hw⟩
    ·obtain rfl:a=n:=by omega
     refine (insertion_none a cap _ a hz wr).mono ?_
     rintro e' w1 ⟨rfl,rfl⟩
     exact ⟨rfl,e,HR.out.done (.stop Nat.le.refl),HM.out,hE⟩
   obtain ⟨-, -,IC, -, -⟩:=AFT
   clear hE hb
   go_upto_region 7 with (go_at_call 124;refine IC.mono ?_;rintro e w1 ⟨rfl,f,hf1,hf2,hf3⟩)
   clear IC
   go_loopw [6] (fun x wr=>ST2 w0 blk off d0 x wr) (fun x _=>n - (intOf x).toNat)
   case atStart=>exact ⟨20,f,rfl,Nat.le_refl _,by omega,by rw [HN.out];exact hf1,by rw [HN.out];exact hf2,hf3⟩
   case round=>
    obtain ⟨bs,g,rfl,hbs,hbs2,hR2,hM2,hE2⟩:=hrel
    rw [HN.out] at hR2 hM2
    have HR2:Hid (Runs S5.lv S5.tag g bs n 0):=hR2
    have HM2:Hid (Mvd d0 g 0 n):=hM2
    have HE2:Hid (SW5 w0 blk off g wr):=hE2
    clear hR2 hM2 hE2 hf1 hf2 hf3
    by_cases hlt:bs<n
    ·have hltz:(bs:Int)<(n:Int):=by omega
     obtain ⟨B2,hB2⟩:∃ B2,2 * bs=B2:=⟨_,rfl⟩
     have hBz:2 * (bs:Int)=(B2:Int):=by omega
     have hBz':(bs:Int) * 2=(B2:Int):=by omega
     have hBn:B2<=2000:=by omega
     have HB2:Hid (2 * bs=B2):=hB2
     clear hB2
     go_upto_region 9 with fail
     go_loopw [7,8] (fun x y wr=>ST3 w0 blk off d0 bs x y wr) (fun x _ _=>n - (intOf x).toNat)
     case atStart=>exact ⟨0,B2,g,rfl,rfl,by have:=HB2.out;omega,Nat.zero_le _,RunsTo.zero _ _ _,by rw [HN.out];exact HR2.out,by rw [HN.out];exact HM2.out,HE2.out⟩
     case round=>
      obtain ⟨c,cb,k,rfl,rfl,hcb,hc,hT,hU,hM3,hE3⟩:=hrel
      rw [HN.out] at hc hT hU hM3
      have HCB:Hid (cb=c+2 * bs):=hcb
      have HT:Hid (RunsTo S5.lv S5.tag k (2 * bs) n c):=hT
      have HM3:Hid (Mvd d0 k 0 n):=hM3
      have hzk:k.size=n:=hM3.sz.trans HN.out
      obtain ⟨cm,hcm⟩:∃ cm,c+bs=cm:=⟨_,rfl⟩
      have hcz:(c:Int)+(bs:Int)=(cm:Int):=by omega
      by_cases hle2:cb<=n
      ·have hle2z:(cb:Int)<=(n:Int):=by omega
       obtain ⟨hp,htg,hrr⟩:=hU.pre (b:=cb) (by omega) (by omega) (by omega) (by omega)
       rw [hcm] at hp
       have SC:=SYM.out k (hzk.trans HN.out.symm) wr hE3 c cm cb (by omega) hp
       rw [HN.out] at SC
       obtain ⟨c3,hc3⟩:∃ c3,cb+B2=c3:=⟨_,rfl⟩
       have hc3z:(cb:Int)+(B2:Int)=(c3:Int):=by omega
       have HC3:Hid (cb+B2=c3):=hc3
       have HTI:Hid (∀ i,c<=i->i<cb->c<=k[i]!.tag/\k[i]!.tag<c+2 * bs):=htg
       have HRR:Hid (Runs S5.lv S5.tag k bs n (c+2 * bs)):=hrr
       have hcc:c<cb/\c<n:=by omega
       clear hU hp htg hrr hE3 hcb hcm hc3 hT hM3
       go_wp2_with (go_at_call 125;refine SC.mono ?_;rintro e w1 ⟨rfl,q,hq,hw⟩)
       go_roundw
       case rel=>
        have hb:=HCB.out
        have hm:min (c+2 * bs) n=cb:=by omega
        refine ⟨cb,c3,q,rfl,rfl,by have:=HC3.out;have:=HB2.out;omega,by rw [HN.out];exact hle2,?_,?_,?_,hw⟩
        ·rw [HN.out,hb]
         exact HT.out.more (by omega) (by rw [hm];exact hq.mv) (by rw [hm];exact hq.s) (fun i h1 h2=>HTI.out i h1 (by omega))
        ·rw [HN.out,hb]
         exact HRR.out.carry (fun i h1 _=>hq.mv.out i (.inr (by omega)))
        ·rw [HN.out]
         exact HM3.out.trans (hq.mv.mono (Nat.zero_le _) hle2)
       case measure=>simp [intOf];omega
      ·have hle2z:¬ (cb:Int)<=(n:Int):=by omega
       by_cases hm3:cm<n
       ·have hm3z:(cm:Int)<(n:Int):=by omega
        obtain ⟨hp,htg,hrr⟩:=hU.pre (b:=n) (by omega) (by omega) (by omega) (by omega)
        rw [hcm] at hp
        have SC:=SYM.out k (hzk.trans HN.out.symm) wr hE3 c cm n (by omega) hp
        rw [HN.out] at SC
        have HTI:Hid (∀ i,c<=i->i<n->c<=k[i]!.tag/\k[i]!.tag<c+2 * bs):=htg
        have hcc:c<n:=by omega
        clear hU hp htg hrr hE3 hcb hcm hT hM3
        go_wp2_with (go_at_call 125;refine SC.mono ?_;rintro e w1 ⟨rfl,q,hq,hw⟩)
        go_roundw
        case rel=>
         have hb:=HCB.out
         have hm:min (c+2 * bs) n=n:=by omega
         refine ⟨B2,q,rfl,by have:=HB2.out;omega,hBn,?_,?_,hw⟩
         ·rw [HN.out,<- HB2.out]
          exact (HT.out.more hcc (by rw [hm];exact hq.mv) (by rw [hm];exact hq.s) (fun i h1 h2=>HTI.out i h1 (by omega))).done (.stop (by omega))
         ·rw [HN.out]
          exact HM3.out.trans (hq.mv.mono (Nat.zero_le _) Nat.le.refl)
        case measure=>simp [intOf];have:=HB2.out;omega
       ·have hm3z:¬ (cm:Int)<(n:Int):=by omega
        have HU:Hid (Runs S5.lv S5.tag k (2 * bs) n c):=hU.single (by omega)
        clear hU hcb hcm hT hM3
        have HE3:Hid (SW5 w0 blk off k wr):=hE3
        clear hE3
        go_wp2_with fail
        go_roundw
        case rel=>exact ⟨B2,k,rfl,by have:=HB2.out;omega,hBn,by rw [HN.out,<- HB2.out];exact HT.out.done HU.out,by rw [HN.out];exact HM3.out,HE3.out⟩
        case measure=>simp [intOf];have:=HB2.out;omega
    ·have hltz:¬ (bs:Int)<(n:Int):=by omega
     go_wp2
     go_end0
     exact ⟨rfl,g,⟨HM2.out,HR2.out.whole (by omega)⟩,HE2.out⟩
theorem SortStable_any (hblk:blk<w0.heap.size) (h0:HoldsK s5L 5 w0 blk off d0) (hz:d0.size<=1000) (ht:∀ i,i<d0.size->d0[i]!.tag=i) (cap:Nat) :
  Calls Tryz.prog 46 #[.slice (some ⟨blk,off,none⟩) d0.size cap,cmpV] w0 fun e w'=>SyR w0 blk off d0 0 d0.size e w':=by
 have SA:=stable_any hblk h0 hz ht cap
 clear h0 ht
 go_enter Tryz.func46,Tryz.ntmps46
 go_wp2_with (go_at_call 87;refine SA.mono ?_;rintro e w1 ⟨rfl,hr⟩)
 go_end0
 exact ⟨rfl,hr⟩
end
end
end Go.Proofs.YtgphclgmmocdhaaGreatDoor

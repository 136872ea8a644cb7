/-
  Parts of the proof.
-/
import Derived.Test.YtgphclgmmocdhaaGreatDoorQu37
import Derived.Test.YtgphclgmmocdhaaGreatDoorQu38
namespace Go.Proofs.YtgphclgmmocdhaaGreatDoor
section
open Go.RowKit
set_option maxHeartbeats 1000000
theorem Byte_any (c:UInt8) (n:Int) (w:World) (hn:(c.toNat:Int)=n) :
  Calls Tryz.prog 89 #[.int .i64 n] w fun e w'=>e=.returned (.string ⟨#[c]⟩)/\Below w.heap.size w w':=by
 have hb:=byte_lt c
 have h0:(0:Int)<=(c.toNat:Int):=by omega
 subst hn
 have hcv:=run_convert_bytes_back (P:=Tryz.prog) (w.alloc (.cells #[.int .u8 c.toNat] 5)) 170 9 5 ⟨w.heap.size,0,none⟩ 1 [c] Tryz.underlying170 Tryz.underlying5 Tryz.underlying9 (fun j hj=>by
  have:j=0:=by simp at hj;exact hj
  subst this
  simp [Addr.add])
 simp only [List.length_cons,List.length_nil,Nat.zero_add] at hcv
 go_enter Tryz.func89,Tryz.ntmps89
 go_wp2
 go_ret
 exact ⟨rfl,(Below.refl _ _).alloc Nat.le.refl _⟩
theorem dec_short (k:Nat) (h:k<=9223372036854775807):(Lib.decDigits k).length<=21:=by
 have:=Lib.itoa_length_le (k:Int) (by omega) (by omega)
 rwa [Lib.itoa_nonneg] at this
theorem below_any:∀ (u:Nat) (n:Int) (w:World),n.natAbs=u -> -9223372036854775808<=n->n<=0->
  Calls Tryz.prog 49 #[.int .i64 n] w fun e w'=>e=.returned (.string ⟨(Lib.decDigits u).toArray⟩)/\Below w.heap.size w w':=by
 intro u
 induction u using Nat.strongRecOn with
 | ind u ih=>
  intro n w hu h1 h2
  by_cases hs : -10<n
  ·have hd:Lib.decDigits u=[UInt8.ofNat (48+u)]:=by rw [Lib.decDigits,dif_pos (by omega)]
   rw [hd]
   have hc:((UInt8.ofNat (48+u)).toNat:Int)=48 - n:=by simp;omega
   have HC:Hid (((UInt8.ofNat (48+u)).toNat:Int)=48 - n):=hc
   generalize UInt8.ofNat (48+u)=c at HC ⊢
   clear hc hd ih hu
   go_enter Tryz.func49,Tryz.ntmps49
   go_wp2_with (go_at_call 89;refine (Byte_any _ _ _ HC.out).mono ?_;rintro e w1 ⟨rfl,hb⟩)
   go_ret
   exact ⟨rfl,hb⟩
  ·obtain ⟨q,hq⟩:∃ q,n.tdiv 10=q:=⟨_,rfl⟩
   obtain ⟨r,hr⟩:∃ r,n.tmod 10=r:=⟨_,rfl⟩
   have eq1:q.natAbs=u / 10:=by rw [<- hq,Int.natAbs_tdiv,hu];rfl
   have er1:r.natAbs=u % 10:=by rw [<- hr,Int.natAbs_tmod];simp [hu]
   have hq2:q<=0:=by rw [<- hq];have h:=Int.neg_tdiv n 10;have h':0<=(-n).tdiv 10:=Int.tdiv_nonneg (by omega) (by decide);omega
   have hr2:r<=0:=by rw [<- hr];have h:=Int.neg_tmod n 10;have h':0<=(-n).tmod 10:=Int.tmod_nonneg _ (by omega);omega
   have hu2:u<=9223372036854775808:=by omega
   have hq1 : -9223372036854775808<=q:=by omega
   have hr1 : -10<r:=by omega
   have hd:Lib.decDigits u=Lib.decDigits (u / 10)++[UInt8.ofNat (48+u % 10)]:=by rw [Lib.decDigits,dif_neg (by omega)]
   have hc:((UInt8.ofNat (48+u % 10)).toNat:Int)=48 - r:=by simp;omega
   obtain ⟨s,hs1⟩:∃ s:ByteArray,(⟨(Lib.decDigits (u / 10)).toArray⟩:ByteArray)=s:=⟨_,rfl⟩
   have hz:s.size<=21:=by
    rw [<- hs1]
    have:=dec_short (u / 10) (by omega)
    simpa [ByteArray.size] using this
   have hA:¬ 9223372036854775807<s.size+1:=by omega
   have hres:(⟨(Lib.decDigits u).toArray⟩:ByteArray)=s++⟨#[UInt8.ofNat (48+u % 10)]⟩:=by
    rw [hd,<- hs1]
    apply ByteArray.ext
    simp
   rw [hres]
   have HI:Hid (∀ W,Calls Tryz.prog 49 #[.int .i64 q] W fun e w'=>e=.returned (.string s)/\Below W.heap.size W w'):=by
    intro W
    have:=ih (u / 10) (by omega) q W eq1 hq1 hq2
    rw [hs1] at this
    exact this
   have HC:Hid (((UInt8.ofNat (48+u % 10)).toNat:Int)=48 - r):=hc
   generalize UInt8.ofNat (48+u % 10)=c at HC ⊢
   clear hc hd ih hu eq1 er1 hs1 hres
   go_enter Tryz.func49,Tryz.ntmps49
   go_wp2_with (first | (go_at_call 49;refine (HI.out _).mono ?_;rintro e w1 ⟨rfl,hb⟩) | (go_at_call 89;refine (Byte_any c _ _ HC.out).mono ?_;rintro e w2 ⟨rfl,hb2⟩))
   go_ret
   exact ⟨rfl,hb.trans (hb2.mono hb.size)⟩
theorem Decimal_any (n:Int) (w:World) (hn:I64 n) :
  Calls Tryz.prog 15 #[.int .i64 n] w fun e w'=>e=.returned (.string ⟨(Lib.itoa n).toArray⟩)/\Below w.heap.size w w':=by
 obtain ⟨n1,n2⟩:=hn
 by_cases h0:n<0
 ·obtain ⟨s,hs⟩:∃ s:ByteArray,(⟨(Lib.decDigits n.natAbs).toArray⟩:ByteArray)=s:=⟨_,rfl⟩
  have hz:s.size<=30:=by
   rw [<- hs]
   have:=Lib.itoa_length_le n n1 n2
   unfold Lib.itoa at this
   rw [if_pos h0,List.length_cons] at this
   simp [ByteArray.size];omega
  have hA:¬ 9223372036854775807<1+s.size:=by omega
  have hres:(⟨(Lib.itoa n).toArray⟩:ByteArray)=⟨#[45]⟩++s:=by
   unfold Lib.itoa
   rw [if_pos h0,<- hs]
   apply ByteArray.ext
   simp
  rw [hres]
  have HB:Hid (∀ W,Calls Tryz.prog 49 #[.int .i64 n] W fun e w'=>e=.returned (.string s)/\Below W.heap.size W w'):=by
   intro W
   have:=below_any n.natAbs n W rfl n1 (by omega)
   rw [hs] at this
   exact this
  clear hs hres
  go_enter Tryz.func15,Tryz.ntmps15
  go_wp2_with (go_at_call 49;refine (HB.out _).mono ?_;rintro e w1 ⟨rfl,hb⟩)
  go_ret
  exact ⟨rfl,hb⟩
 ·have hres:Lib.itoa n=Lib.decDigits n.natAbs:=by unfold Lib.itoa;rw [if_neg h0];congr 1;omega
  rw [hres]
  have HB:Hid (∀ W,Calls Tryz.prog 49 #[.int .i64 (-n)] W fun e w'=>e=.returned (.string ⟨(Lib.decDigits n.natAbs).toArray⟩)/\Below W.heap.size W w'):=fun W=>below_any n.natAbs (-n) W (by omega) (by omega) (by omega)
  clear hres
  go_enter Tryz.func15,Tryz.ntmps15
  go_wp2_with (go_at_call 49;refine (HB.out _).mono ?_;rintro e w1 ⟨rfl,hb⟩)
  go_ret
  exact ⟨rfl,hb⟩
end
section
open Go.RowKit Go.Shelf
set_option maxHeartbeats 8000000
set_option maxRecDepth 20000
theorem Stays_any (W:World):Calls Tryz.prog 16 #[] W fun e w'=>e=.returned (mv .one)/\Below W.heap.size W w':=by
 have h0:=fun V=>rwhole_any 1 V
 have h1:=fun V=>rwhole_any 0 V
 have K0:=mbox W #[.int .i64 0,.int .i64 0,.int .i64 0,.int .i64 0,.int .i64 0,.int .i64 0,.int .i64 0,.int .i64 0,.int .i64 0,.int .i64 0,.int .i64 0,.int .i64 0] 54
 have L0:=mal W (.cells #[.int .i64 0,.int .i64 0,.int .i64 0,.int .i64 0,.int .i64 0,.int .i64 0,.int .i64 0,.int .i64 0,.int .i64 0,.int .i64 0,.int .i64 0,.int .i64 0] 54)
 have h2:=h1
 have h3:=h0
 have h4:=h1
 have h5:=h1
 go_enter Tryz.func16,Tryz.ntmps16
 go_wp2_with (first | (go_at_call 50;refine (h0 _).mono ?_;clear h0;rintro e w1 ⟨rfl,b1⟩;have K1:=blk_keep b1 K0;have L1:=mbel L0 b1) | (go_at_call 50;refine (h1 _).mono ?_;clear h1;rintro e w2 ⟨rfl,b2⟩;have K2:=blk_keep b2 K1;have L2:=mbel L1 b2) | (go_at_call 50;refine (h2 _).mono ?_;clear h2;rintro e w3 ⟨rfl,b3⟩;have K3:=blk_keep b3 K2;have L3:=mbel L2 b3) | (go_at_call 50;refine (h3 _).mono ?_;clear h3;rintro e w4 ⟨rfl,b4⟩;have K4:=blk_keep b4 K3;have L4:=mbel L3 b4) | (go_at_call 50;refine (h4 _).mono ?_;clear h4;rintro e w5 ⟨rfl,b5⟩;have K5:=blk_keep b5 K4;have L5:=mbel L4 b5) | (go_at_call 50;refine (h5 _).mono ?_;clear h5;rintro e w6 ⟨rfl,b6⟩;have K6:=blk_keep b6 K5;have L6:=mbel L5 b6;have P0c0:=bcellQ K6 0 _ rfl;have P0c1:=bcellQ K6 1 _ rfl;have P0c2:=bcellQ K6 2 _ rfl;have P0c3:=bcellQ K6 3 _ rfl;have P0c4:=bcellQ K6 4 _ rfl;have P0c5:=bcellQ K6 5 _ rfl;have P0c6:=bcellQ K6 6 _ rfl;have P0c7:=bcellQ K6 7 _ rfl;have P0c8:=bcellQ K6 8 _ rfl;have P0c9:=bcellQ K6 9 _ rfl;have P0c10:=bcellQ K6 10 _ rfl;have P0c11:=bcellQ K6 11 _ rfl;have P0f0:=bfrozQ K6 0;have P0f1:=bfrozQ K6 1;have P0f2:=bfrozQ K6 2;have P0f3:=bfrozQ K6 3;have P0f4:=bfrozQ K6 4;have P0f5:=bfrozQ K6 5;have P0f6:=bfrozQ K6 6;have P0f7:=bfrozQ K6 7;have P0f8:=bfrozQ K6 8;have P0f9:=bfrozQ K6 9;have P0f10:=bfrozQ K6 10;have P0f11:=bfrozQ K6 11))
 refine bodyPost_ret (v:=mv .one) (by simp [results,Tryz.results16,go_sem,Mv.one,Fr.whole,P0c0,P0c1,P0c2,P0c3,P0c4,P0c5,P0c6,P0c7,P0c8,P0c9,P0c10,P0c11]) rfl ⟨rfl,?_⟩
 exact put_below (R:=W.heap.size) (by omega) [.int .i64 1,.int .i64 1,.int .i64 0,.int .i64 1,.int .i64 0,.int .i64 1,.int .i64 1,.int .i64 1,.int .i64 0,.int .i64 1,.int .i64 0,.int .i64 1] 0 L6
theorem nodes_made {V:World} {o:Option Addr} {cap A1 A2 K1 K2:Nat} {ks:List Nd} {mvx:Bs}
  (h1:V.heap[A1]? = some (.cells #[strV kId,strV kIt] 49)) (h2:V.heap[A2]? = some (.cells #[strV kOf,strV kIt,strV kMove,strV mvx] 49)) (hm:mvx.length<=100)
  (k1:V.heap[K1]? = some (.cells #[strV kGroup,.slice (some ⟨A1,0,none⟩) 1 1,.slice o ks.length cap] 25)) (k2:V.heap[K2]? = some (.cells #[strV kGroup,.slice (some ⟨A1,0,none⟩) 1 1,.slice o ks.length cap,strV kUse,.slice (some ⟨A2,0,none⟩) 2 2,.slice none 0 0] 25))
  (hc:ks.length<=cap) (hx:cap<=maxLen) (ho:o=none->cap=0) (hk:KdsAt V o 0 ks) :
  NdC V (strV kGroup) (.slice none 0 0) (.slice (some ⟨K1,0,none⟩) 1 1) (oneN ks)/\NdC V (strV kGroup) (.slice none 0 0) (.slice (some ⟨K2,0,none⟩) 2 2) (twoN ks mvx):=by
 have ml:(100:Nat)<=maxLen:=by rw [maxLen_eq];decide
 have g:NdC V (strV kGroup) (.slice (some ⟨A1,0,none⟩) 1 1) (.slice o ks.length cap) (gN ks):=by
  unfold gN NdC
  refine ⟨rfl,Nat.le_trans (by decide) ml,⟨some ⟨A1,0,none⟩,1,rfl,Nat.le_refl _,Nat.le_trans (by decide) ml,(fun h=>by cases h),fun i x hi=>?_⟩,o,cap,rfl,hc,hx,ho,hk⟩
  match i,hi with
  | 0,hi=>
   cases hi
   exact ⟨A1,0,rfl,bcell h1 0 _ rfl,bcell h1 1 _ rfl,Nat.le_trans (by decide) ml,Nat.le_trans (by decide) ml⟩
 have u:NdC V (strV kUse) (.slice (some ⟨A2,0,none⟩) 2 2) (.slice none 0 0) (uN mvx):=by
  unfold uN NdC
  refine ⟨rfl,Nat.le_trans (by decide) ml,⟨some ⟨A2,0,none⟩,2,rfl,Nat.le_refl _,Nat.le_trans (by decide) ml,(fun h=>by cases h),fun i x hi=>?_⟩,none,0,rfl,Nat.le_refl _,Nat.zero_le _,fun _=>rfl,by unfold KdsAt;trivial⟩
  match i,hi with
  | 0,hi=>
   cases hi
   exact ⟨A2,0,rfl,bcell h2 0 _ rfl,bcell h2 1 _ rfl,Nat.le_trans (by decide) ml,Nat.le_trans (by decide) ml⟩
  | 1,hi=>
   cases hi
   exact ⟨A2,0,rfl,bcell h2 2 _ rfl,bcell h2 3 _ rfl,Nat.le_trans (show kMove.length<=100 by decide) ml,Nat.le_trans hm ml⟩
 have z:∀ (K:Nat) (n:Nat) (l:List Nd),1<=n->n<=2->l.length=n->KdsAt V (some ⟨K,0,none⟩) 0 l->NdC V (strV kGroup) (.slice none 0 0) (.slice (some ⟨K,0,none⟩) n n) (.mk kGroup [] l):=fun K n l hn1 hn2 hl hk=>by
  unfold NdC
  subst hl
  exact ⟨rfl,Nat.le_trans (by decide) ml,⟨none,0,rfl,Nat.le_refl _,Nat.zero_le _,fun _=>rfl,fun i x hi=>by simp at hi⟩,some ⟨K,0,none⟩,_,rfl,Nat.le_refl _,Nat.le_trans (Nat.le_trans hn2 (by decide)) ml,(fun h=>by cases h),hk⟩
 constructor
 ·refine z K1 1 [gN ks] (by decide) (by decide) rfl ?_
  unfold KdsAt
  refine ⟨⟨K1,0,_,_,_,rfl,bcell k1 0 _ rfl,bcell k1 1 _ rfl,bcell k1 2 _ rfl,g⟩,?_⟩
  unfold KdsAt
  trivial
 ·refine z K2 2 [gN ks,uN mvx] (by decide) (by decide) rfl ?_
  unfold KdsAt
  refine ⟨⟨K2,0,_,_,_,rfl,bcell k2 0 _ rfl,bcell k2 1 _ rfl,bcell k2 2 _ rfl,g⟩,?_⟩
  unfold KdsAt
  refine ⟨⟨K2,0,_,_,_,rfl,bcell k2 3 _ rfl,bcell k2 4 _ rfl,bcell k2 5 _ rfl,u⟩,?_⟩
  unfold KdsAt
  trivial
end
end Go.Proofs.YtgphclgmmocdhaaGreatDoor

/-
  Parts of the proof.
-/
import Derived.Test.YtgphclgmmocdhaaGreatDoorQu39
import Derived.Test.YtgphclgmmocdhaaGreatDoorQu40
namespace Go.Proofs.YtgphclgmmocdhaaGreatDoor
open Go.RowKit Go.Shelf
set_option maxHeartbeats 16000000
set_option maxRecDepth 20000
def UBox (ks:List Nd) (mvx:Bs) (B1 B2 K1 K2:Nat) (w:World):Prop:=NB B1 (strV kGroup) (.slice none 0 0) (.slice (some ⟨K1,0,none⟩) 1 1) w/\NB B2 (strV kGroup) (.slice none 0 0) (.slice (some ⟨K2,0,none⟩) 2 2) w/\NdC w (strV kGroup) (.slice none 0 0) (.slice (some ⟨K1,0,none⟩) 1 1) (oneN ks)/\NdC w (strV kGroup) (.slice none 0 0) (.slice (some ⟨K2,0,none⟩) 2 2) (twoN ks mvx)
theorem UBox.below {ks:List Nd} {mvx:Bs} {B1 B2 K1 K2:Nat} {w w':World} (h:UBox ks mvx B1 B2 K1 K2 w) (hb:Below w.heap.size w w'):UBox ks mvx B1 B2 K1 K2 w':=
 ⟨blk_keep hb h.1,blk_keep hb h.2.1,NdC.below hb _ h.2.2.1,NdC.below hb _ h.2.2.2⟩
def UL (w0:World) (m:Nat) (y:Value) (wr:World):Prop:=∃ k:Nat,k<=m/\y=.int .i64 k/\Below w0.heap.size w0 wr
def CutF (ps:List Qt) (V:World) (v b:Value) (wx:World):Prop:=∃ B o c,b=.pointer (some ⟨B,0,none⟩)/\v=.slice o ps.length c/\OwnP wx V.heap.size (.slice o ps.length c) ps/\wx.heap[B]? = some (.cells #[.int .i64 0,.int .i64 (-1)] 57)/\Below V.heap.size V wx
theorem cutF_new {ps:List Qt} {V w1:World} {o:Option Addr} {c:Nat} (h:OwnP w1 V.heap.size (.slice o ps.length c) ps) (b:Below V.heap.size V w1):CutF ps V (.slice o ps.length c) (.pointer (some ⟨w1.heap.size,0,none⟩)) (w1.alloc (.cells #[.int .i64 0,.int .i64 (-1)] 57)):=
 ⟨_,o,c,rfl,rfl,h.keep (mal w1 _),mbox w1 _ _,mbel b (mal w1 _)⟩
theorem cutF_old {ps:List Qt} {V w1:World} {o:Option Addr} {c:Nat} (h:OwnP w1 (V.alloc (.cells #[.int .i64 0,.int .i64 0] 57)).heap.size (.slice o ps.length c) ps) (b:Below (V.alloc (.cells #[.int .i64 0,.int .i64 0] 57)).heap.size (V.alloc (.cells #[.int .i64 0,.int .i64 0] 57)) w1) :
  CutF ps V (.slice o ps.length c) (.pointer (some ⟨V.heap.size,0,none⟩)) ((w1.setCell ⟨V.heap.size,0,none⟩ (.int .i64 0)).setCell ⟨V.heap.size,1,none⟩ (.int .i64 (-1))):=by
 have K:=mbox V #[.int .i64 0,.int .i64 0] 57
 have K1:=(b.block _ (blk_lt K)).trans K
 have bb:=mbel (mal V (.cells #[.int .i64 0,.int .i64 0] 57)) b
 have lt:V.heap.size<(V.alloc (.cells #[.int .i64 0,.int .i64 0] 57)).heap.size:=by simp
 refine ⟨_,o,c,rfl,rfl,((h.far lt).far1 lt).low (Nat.le_of_lt lt),?_,(bb.setCell Nat.le.refl _).setCell Nat.le.refl _⟩
 have s0:=heap_setCell_same w1 V.heap.size 0 _ _ (.int .i64 0) K1
 have s1:=heap_setCell_same _ V.heap.size 1 _ _ (.int .i64 (-1)) s0
 simpa using s1
theorem uses_any (E:Nat->Addr) (ks:List Nd) (o:Option Addr) (cap:Nat) (x y:Int) (W:World) (hN:NE E W) (hD:CE E W) (hc:ks.length<=cap) (hcm:cap<=maxLen) (ho:o=none->cap=0) (hk:KdsAt W o 0 ks) :
  Calls Tryz.prog 4 #[.slice o ks.length cap,.int .i64 x,.int .i64 y] W fun e w'=>e=.returned (.bool true)/\Below W.heap.size W w':=by
 have DK:=scened_ce W hN hD
 go_enter Tryz.func4,Tryz.ntmps4
 go_upto_region 2 with (go_at_call 8;refine DK.mono ?_;rintro e w1 ⟨rfl,B1⟩)
 clear DK
 have HN:Hid (NE E w1):=hN.below B1
 have HD:Hid (CE E w1):=hD.below B1
 have HK:Hid (KdsAt w1 o 0 ks):=KdsAt.below B1 ks hk
 have HO:Hid (o=none->cap=0):=ho
 have HC:Hid (ks.length<=cap/\cap<=maxLen):=⟨hc,hcm⟩
 clear hN hD hk ho
 by_cases h6:6<ks.length
 ·have h6':6<(ks.length:Int):=by omega
  go_wp2_with fail
  go_ret
  exact ⟨rfl,B1⟩
 have h6':¬ 6<(ks.length:Int):=by omega
 by_cases hx1:x < -50
 ·go_wp2_with fail
  go_ret
  exact ⟨rfl,B1⟩
 by_cases hx2:50<x
 ·go_wp2_with fail
  go_ret
  exact ⟨rfl,B1⟩
 by_cases hy1:y < -50
 ·go_wp2_with fail
  go_ret
  exact ⟨rfl,B1⟩
 by_cases hy2:50<y
 ·go_wp2_with fail
  go_ret
  exact ⟨rfl,B1⟩
 go_upto_region 5 with fail
 obtain ⟨V,hV⟩:∃ V,(w1.alloc (.cells #[.string ⟨#[105,100]⟩,.string ⟨#[105,116,45,105,115]⟩] 49)).alloc (.cells #[.string ⟨#[103,114,111,117,112]⟩,.slice (some ⟨w1.heap.size,0,none⟩) 1 1,.slice o ks.length cap] 25)=V:=⟨_,rfl⟩
 rw [hV]
 have F1:V.heap[w1.heap.size]? = some (.cells #[strV kId,strV kIt] 49)/\V.heap[w1.heap.size+1]? = some (.cells #[strV kGroup,.slice (some ⟨w1.heap.size,0,none⟩) 1 1,.slice o ks.length cap] 25)/\Below w1.heap.size w1 V:=by
  subst hV
  exact ⟨al_old _ (al_new _ rfl),al_new _ (by simp),((Below.refl _ _).alloc Nat.le.refl _).alloc (by simp) _⟩
 obtain ⟨a1,g1,bV⟩:=F1
 clear hV
 have DX:=Decimal_any x V (i64_small (by omega) (by omega))
 have DY:=fun U=>Decimal_any y U (i64_small (by omega) (by omega))
 have lx:=(it_of (x:=x) (by omega) (by omega)).2.2
 have ly:=(it_of (x:=y) (by omega) (by omega)).2.2
 have n1:¬ 9223372036854775807<5+(Lib.itoa x).length:=by omega
 have n2:¬ 9223372036854775807<5+(Lib.itoa x).length+1:=by omega
 have n3:¬ 9223372036854775807<5+(Lib.itoa x).length+1+(Lib.itoa y).length:=by omega
 have HMX:Hid ((mvT x y).length<=100):=by
  show (mvT x y).length<=100
  simp only [mvT,List.length_append,List.length_cons,List.length_nil]
  omega
 have HST:Hid (Value.string (⟨#[109,111,118,101,32]⟩++⟨(Lib.itoa x).toArray⟩++⟨#[32]⟩++⟨(Lib.itoa y).toArray⟩)=strV (mvT x y)):=by
  show Value.string (⟨#[109,111,118,101,32]⟩++⟨(Lib.itoa x).toArray⟩++⟨#[32]⟩++⟨(Lib.itoa y).toArray⟩)=strV (mvT x y)
  rw [ba_cat,ba_cat,ba_cat]
  rfl
 clear lx ly
 go_upto_region 6 with (first | (go_at_call 15;refine DX.mono ?_;clear DX;rintro e w2 ⟨rfl,b2⟩) | (go_at_call 15;refine (DY _).mono ?_;clear DY;rintro e w3 ⟨rfl,b3⟩))
 clear n1 n2 n3
 rw [HST.out]
 obtain ⟨V2,hV2⟩:∃ V2,(w3.alloc (.cells #[.string ⟨#[111,102]⟩,.string ⟨#[105,116,45,105,115]⟩,.string ⟨#[109,111,118,101]⟩,strV (mvT x y)] 49)).alloc (.cells #[.string ⟨#[117,115,101]⟩,.slice (some ⟨w3.heap.size,0,none⟩) 2 2,.slice none 0 0] 25)=V2:=⟨_,rfl⟩
 rw [hV2]
 have F2:V2.heap[w3.heap.size]? = some (.cells #[strV kOf,strV kIt,strV kMove,strV (mvT x y)] 49)/\V2.heap[w3.heap.size+1]? = some (.cells #[strV kUse,.slice (some ⟨w3.heap.size,0,none⟩) 2 2,.slice none 0 0] 25)/\Below w3.heap.size w3 V2:=by
  subst hV2
  exact ⟨al_old _ (al_new _ rfl),al_new _ (by simp),((Below.refl _ _).alloc Nat.le.refl _).alloc (by simp) _⟩
 obtain ⟨a2,u2,bV2⟩:=F2
 clear hV2 HST
 have b4:=mbel (mbel b2 b3) bV2
 have a1:=blk_keep b4 a1
 have g1:=blk_keep b4 g1
 have B2:=mbel (mbel B1 bV) b4
 have BK:=mbel bV b4
 clear b2 b3 bV2 b4
 generalize w3.heap.size=A2 at *
 generalize w1.heap.size+1=G1 at *
 have x0:=bcell g1 0 _ rfl
 have x1:=bcell g1 1 _ rfl
 have x2:=bcell g1 2 _ rfl
 go_upto_region 7 with fail
 clear x0 x1 x2
 obtain ⟨V3,hV3⟩:∃ V3,(V2.alloc (.cells #[strV kGroup,.slice (some ⟨w1.heap.size,0,none⟩) 1 1,.slice o ks.length cap] 25)).alloc (.cells #[.string ⟨#[103,114,111,117,112]⟩,.slice none 0 0,.slice (some ⟨V2.heap.size,0,none⟩) 1 1] 25)=V3:=⟨_,rfl⟩
 rw [hV3]
 have F3:V3.heap[V2.heap.size]? = some (.cells #[strV kGroup,.slice (some ⟨w1.heap.size,0,none⟩) 1 1,.slice o ks.length cap] 25)/\V3.heap[V2.heap.size+1]? = some (.cells #[strV kGroup,.slice none 0 0,.slice (some ⟨V2.heap.size,0,none⟩) 1 1] 25)/\Below V2.heap.size V2 V3:=by
  subst hV3
  exact ⟨al_old _ (al_new _ rfl),al_new _ (by simp),((Below.refl _ _).alloc Nat.le.refl _).alloc (by simp) _⟩
 obtain ⟨k1,p1,bV3⟩:=F3
 clear hV3
 have a1:=blk_keep bV3 a1
 have g1:=blk_keep bV3 g1
 have a2:=blk_keep bV3 a2
 have u2:=blk_keep bV3 u2
 have B3:=mbel B2 bV3
 have BK:=mbel BK bV3
 clear bV3 B2
 generalize V2.heap.size+1=P1 at *
 generalize V2.heap.size=K1 at *
 generalize A2+1=U1 at *
 have x0:=bcell g1 0 _ rfl
 have x1:=bcell g1 1 _ rfl
 have x2:=bcell g1 2 _ rfl
 have y0:=bcell u2 0 _ rfl
 have y1:=bcell u2 1 _ rfl
 have y2:=bcell u2 2 _ rfl
 go_upto_region 8 with fail
 clear x0 x1 x2 y0 y1 y2
 obtain ⟨V4,hV4⟩:∃ V4,(V3.alloc (.cells #[strV kGroup,.slice (some ⟨w1.heap.size,0,none⟩) 1 1,.slice o ks.length cap,strV kUse,.slice (some ⟨A2,0,none⟩) 2 2,.slice none 0 0] 25)).alloc (.cells #[.string ⟨#[103,114,111,117,112]⟩,.slice none 0 0,.slice (some ⟨V3.heap.size,0,none⟩) 2 2] 25)=V4:=⟨_,rfl⟩
 rw [hV4]
 have F4:V4.heap[V3.heap.size]? = some (.cells #[strV kGroup,.slice (some ⟨w1.heap.size,0,none⟩) 1 1,.slice o ks.length cap,strV kUse,.slice (some ⟨A2,0,none⟩) 2 2,.slice none 0 0] 25)/\V4.heap[V3.heap.size+1]? = some (.cells #[strV kGroup,.slice none 0 0,.slice (some ⟨V3.heap.size,0,none⟩) 2 2] 25)/\Below V3.heap.size V3 V4:=by
  subst hV4
  exact ⟨al_old _ (al_new _ rfl),al_new _ (by simp),((Below.refl _ _).alloc Nat.le.refl _).alloc (by simp) _⟩
 obtain ⟨k2,p2,bV4⟩:=F4
 clear hV4
 have BK:=mbel BK bV4
 have B4:=mbel B3 bV4
 have NM:=nodes_made (blk_keep bV4 a1) (blk_keep bV4 a2) HMX.out (blk_keep bV4 k1) k2 HC.out.1 HC.out.2 HO.out (KdsAt.below BK ks HK.out)
 have HU:Hid (UBox ks (mvT x y) P1 (V3.heap.size+1) K1 V3.heap.size V4):=⟨blk_keep bV4 p1,p2,NM.1,NM.2⟩
 have HN:Hid (NE E V4):=HN.out.below BK
 have HD:Hid (CE E V4):=HD.out.below BK
 generalize V3.heap.size+1=P2 at *
 generalize V3.heap.size=K2 at *
 clear a1 a2 g1 u2 k1 k2 p1 p2 NM bV4 HK HO HC HMX B3 BK bV B1
 clear hc hcm h6 h6'
 have FA:=FlatsOf_fit (twoN ks (mvT x y)) _ _ _ V4 HU.out.2.2.2
 have x0:=NB.c0 HU.out.2.1
 have x1:=NB.c1 HU.out.2.1
 have x2:=NB.c2 HU.out.2.1
 go_upto_region 9 with (go_at_call 9;refine FA.mono ?_;rintro e w5 ⟨b5,va,rfl,fa⟩)
 clear x0 x1 x2 FA
 have BW5:=mbel B4 b5
 rcases fa with ⟨-,rfl⟩ | ⟨hfit,M,g,capM,rfl,hM0,hM1,hM2,hM3,hM4⟩
 ·go_wp2_with fail
  go_ret
  exact ⟨rfl,BW5⟩
 have hM0':((M.length:Int)==0)=false:=by rw [beq_eq_false_iff_ne];omega
 by_cases hb30:30<M.length
 ·have hb30':30<(M.length:Int):=by omega
  go_wp2_with fail
  go_ret
  exact ⟨rfl,BW5⟩
 have hb30':¬ 30<(M.length:Int):=by omega
 have HSZ:Hid (szL ks<=27):=by
  have h1:szN (twoN ks (mvT x y))=M.length:=by rw [<- flN_len _ 0 (-1) 1];exact hM4.len.symm
  rw [sz_two] at h1
  show szL ks<=27
  omega
 have HM:Hid (RowF w5 g M/\FlRs V4 M (flN 0 (-1) 1 (twoN ks (mvT x y)))):=⟨hM3,hM4⟩
 have hcz:(M.length:Int)<=(capM:Int):=by omega
 clear hM3 hM4 hfit
 go_upto_region 12 with fail
 go_loopw [13] (fun v wr=>∃ i:Nat,i<=M.length/\v=.int .i64 i/\Below w5.heap.size w5 wr/\∀ (j:Nat) (f:Fl),j<i->(flN 0 (-1) 1 (twoN ks (mvT x y)))[j]? = some f->∀ a ∈ f.attrs,a.1≠kLevel) (fun v _=>M.length - (intOf v).toNat)
 case atStart=>exact ⟨0,Nat.zero_le _,rfl,Below.refl _ _,fun j f hj=>absurd hj (Nat.not_lt_zero _)⟩
 case round=>
  obtain ⟨i,hi,rfl,hb,hno⟩:=hrel
  have HNO:Hid (∀ (j:Nat) (f:Fl),j<i->(flN 0 (-1) 1 (twoN ks (mvT x y)))[j]? = some f->∀ a ∈ f.attrs,a.1≠kLevel):=hno
  clear hno
  by_cases hlt:i<M.length
  ·have hlt':(i:Int)<(M.length:Int):=by omega
   obtain ⟨z,hz⟩:∃ z,M[i]? = some z:=⟨_,List.getElem?_eq_getElem hlt⟩
   obtain ⟨f,hf, -,⟨oa,ca,hzc,hca,hcx, -,hat⟩, -⟩:=FlRs.get HM.out.2 hz
   have r1:=(HM.out.1 i z hz).2.1
   rw [hzc] at r1
   have HF:Hid ((flN 0 (-1) 1 (twoN ks (mvT x y)))[i]? = some f):=hf
   have HAT:Hid (AtsAt w5 oa f.attrs):=hat.below b5
   have hca':(f.attrs.length:Int)<=(ca:Int):=by omega
   have hcx':(ca:Int)<=9223372036854775807:=by rw [maxLen_eq] at hcx;omega
   clear hz hf hat hzc hca hcx
   obtain ⟨b1,hb1⟩:∃ b:Bool,((i:Int)==1)=b:=⟨_,rfl⟩
   have hb1':((i:Int) != 1) = !b1:=by rw [<- hb1];rfl
   have hb1n:(i==1)=b1:=by rw [<- hb1];rw [Bool.eq_iff_iff];simp;omega
   go_upto_region 15 with fail
   go_loopw [14] (fun v wr=>∃ k:Nat,k<=f.attrs.length/\v=.int .i64 k/\Below w5.heap.size w5 wr/\∀ (j:Nat) (a:Bs × Bs),j<k->f.attrs[j]? = some a->a.1≠kLevel) (fun v _=>f.attrs.length - (intOf v).toNat)
   case atStart=>exact ⟨0,Nat.zero_le _,rfl,hb,fun j f hj=>absurd hj (Nat.not_lt_zero _)⟩
   case round=>
    obtain ⟨k,hk,rfl,hbk,hnk⟩:=hrel
    have HNK:Hid (∀ (j:Nat) (a:Bs × Bs),j<k->f.attrs[j]? = some a->a.1≠kLevel):=hnk
    have r2:=(hbk.cell (cell_lt r1)).trans r1
    clear hnk
    by_cases hlk:k<f.attrs.length
    ·have hlk':(k:Int)<(f.attrs.length:Int):=by omega
     obtain ⟨a,ha⟩:∃ a,f.attrs[k]? = some a:=⟨_,List.getElem?_eq_getElem hlk⟩
     obtain ⟨b,off,hoa,c0,c1, -, -⟩:=(HAT.out.below hbk) k a ha
     have HA:Hid (f.attrs[k]? = some a):=ha
     rw [hoa] at r2
     unfold strV at c0 c1
     clear hoa ha
     have bA:=mal wr (.cells #[.string ⟨a.1.toArray⟩,.string ⟨a.2.toArray⟩] 49)
     have KA:=mbox wr #[.string ⟨a.1.toArray⟩,.string ⟨a.2.toArray⟩] 49
     go_upto_region 18 with fail
     obtain ⟨V5,hV5⟩:∃ V5,wr.alloc (.cells #[.string ⟨a.1.toArray⟩,.string ⟨a.2.toArray⟩] 49)=V5:=⟨_,rfl⟩
     rw [hV5] at bA KA ⊢
     clear hV5 c0 c1 r2
     have c0:=bcell KA 0 _ rfl
     have c1:=bcell KA 1 _ rfl
     have bk5:=mbel hbk bA
     have hq1:=ba_toL a.1 kLevel
     have hq2:=ba_toL a.1 kId
     have hq3:=ba_toL a.2 kIt
     have HSTEP:Hid ((a.1==kLevel)=false->∀ (j:Nat) (y:Bs × Bs),j<k+1->f.attrs[j]? = some y->y.1≠kLevel):=(fun h0 j y hj hy=>by
      by_cases hjk:j=k
      ·subst hjk
       have:=HA.out.symm.trans hy
       cases this
       simpa using h0
      ·exact HNK.out j y (by omega) hy:(a.1==kLevel)=false->∀ (j:Nat) (y:Bs × Bs),j<k+1->f.attrs[j]? = some y->y.1≠kLevel)
     cases hl:(a.1==kLevel) with
     | true=>
      rw [hl] at hq1
      unfold kLevel at hq1 hl
      clear hq2 hq3 HSTEP
      go_wp2_with fail
      go_ret
      exact ⟨rfl,mbel BW5 bk5⟩
     | false=>
      rw [hl] at hq1
      have HS:Hid (∀ (j:Nat) (y:Bs × Bs),j<k+1->f.attrs[j]? = some y->y.1≠kLevel):=HSTEP.out hl
      unfold kLevel at hq1 hl
      clear HSTEP
      cases b1 with
      | true=>
       simp only [Bool.not_true] at hb1'
       clear hq2 hq3
       go_wp2_with fail
       go_roundw
       case rel=>exact ⟨k+1,by omega,by go_num,bk5,HS.out⟩
       case measure=>simp [intOf];omega
      | false=>
       simp only [Bool.not_false] at hb1'
       cases hd:(a.1==kId) with
       | false=>
        rw [hd] at hq2
        unfold kId at hq2 hd
        clear hq3
        go_wp2_with fail
        go_roundw
        case rel=>exact ⟨k+1,by omega,by go_num,bk5,HS.out⟩
        case measure=>simp [intOf];omega
       | true=>
        rw [hd] at hq2
        unfold kId at hq2 hd
        cases ht:(a.2==kIt) with
        | true=>
         rw [ht] at hq3
         unfold kIt at hq3 ht
         go_wp2_with fail
         go_ret
         exact ⟨rfl,mbel BW5 bk5⟩
        | false=>
         rw [ht] at hq3
         unfold kIt at hq3 ht
         go_wp2_with fail
         go_roundw
         case rel=>exact ⟨k+1,by omega,by go_num,bk5,HS.out⟩
         case measure=>simp [intOf];omega
    ·obtain rfl:k=f.attrs.length:=by omega
     have hge:¬ (f.attrs.length:Int)<(f.attrs.length:Int):=by omega
     go_wp2_with fail
     go_roundw
     case rel=>
      refine ⟨i+1,by omega,by go_num,hbk,fun j f' hj hf'=>?_⟩
      by_cases hji:j=i
      ·subst hji
       have:=HF.out.symm.trans hf'
       cases this
       intro a ha
       obtain ⟨q,hq⟩:=List.getElem?_of_mem ha
       exact HNK.out q a (List.getElem?_eq_some_iff.1 hq).1 hq
      ·exact HNO.out j f' (by omega) hf'
     case measure=>simp [intOf];omega
  ·obtain rfl:i=M.length:=by omega
   have hge:¬ (M.length:Int)<(M.length:Int):=by omega
   have HLV:Hid (∀ (j:Nat) (f:Fl),(flN 0 (-1) 1 (twoN ks (mvT x y)))[j]? = some f->∀ a ∈ f.attrs,a.1≠kLevel):=(fun j f hf=>HNO.out j f (by rw [HM.out.2.len];exact (List.getElem?_eq_some_iff.1 hf).1) hf:∀ (j:Nat) (f:Fl),(flN 0 (-1) 1 (twoN ks (mvT x y)))[j]? = some f->∀ a ∈ f.attrs,a.1≠kLevel)
   have b4r:=mbel b5 hb
   have HU:Hid (UBox ks (mvT x y) P1 P2 K1 K2 wr):=HU.out.below b4r
   have HN:Hid (NE E wr):=HN.out.below b4r
   have HD:Hid (CE E wr):=HD.out.below b4r
   have BWR:=mbel BW5 hb
   clear HNO HM b4r BW5 hb B4 b5 hM0 hM0' hM1 hM2 hb30 hb30' hcz
   have x0:=NB.c0 HU.out.1
   have x1:=NB.c1 HU.out.1
   have x2:=NB.c2 HU.out.1
   have hs1:szN (oneN ks)<=1000000:=by rw [sz_one];have:=HSZ.out;omega
   have hs2:szN (twoN ks (mvT x y))<=1000000:=by rw [sz_two];have:=HSZ.out;omega
   by_cases hc1:(ckN (oneN ks) 1 0).1=0
   ·by_cases hc2:(ckN (twoN ks (mvT x y)) 1 0).1=0
    ·have HC1:Hid ((ckN (oneN ks) 1 0).1=0):=hc1
     have HC2:Hid ((ckN (twoN ks (mvT x y)) 1 0).1=0):=hc2
     have NW:=New_S E (oneN ks) _ _ _ wr HD.out HU.out.2.2.1 hs1 hc1
     clear hc1 hc2
     go_upto_region 21 with (go_at_call 10;refine NW.mono ?_;rintro e w6 ⟨b6,DA,MA,tga,pa,rfl,da⟩)
     clear x0 x1 x2 NW
     have HU:=HU.out.below b6
     have x0:=NB.c0 HU.2.1
     have x1:=NB.c1 HU.2.1
     have x2:=NB.c2 HU.2.1
     have NW:=New_S E (twoN ks (mvT x y)) _ _ _ w6 (HD.out.below b6) HU.2.2.2 hs2 HC2.out
     clear HU
     go_upto_region 24 with (go_at_call 10;refine NW.mono ?_;rintro e w7 ⟨b7,DB,MB,tgb,pb,rfl,db⟩)
     clear x0 x1 x2 NW hs1 hs2
     have da:=da.below b7
     have B7:=mbel b6 b7
     have N7:=HN.out.below B7
     have PA:=Pieces_any (En.of da N7 (VaOk.new _ HC1.out))
     have PB:∀ w8,Below w7.heap.size w7 w8->Calls Tryz.prog 13 #[.pointer (some ⟨DB,0,none⟩),.slice none 0 0] w8 fun e w'=>PcsR E w8 (piecesM (newD (twoN ks (mvT x y))) []) e w'/\Below w8.heap.size w8 w':=fun w8 h8=>Pieces_any (En.of (db.below h8) (N7.below h8) (VaOk.new _ HC2.out))
     obtain ⟨ue,uo⟩:=uses_new (x:=x) (y:=y) HC1.out (by omega) (by omega) (by omega) (by omega) HLV.out
     have BW7:=mbel BWR B7
     obtain ⟨r1,hr1⟩:∃ r,piecesM (newD (oneN ks)) []=r:=⟨_,rfl⟩
     obtain ⟨r2,hr2⟩:∃ r,piecesM (newD (twoN ks (mvT x y))) []=r:=⟨_,rfl⟩
     rw [hr1] at PA ue uo
     rw [hr2] at PB ue uo
     have HPT:Hid (∀ l,r1=.ok l->PtFew l):=(fun l hl=>pieces_pt (by rw [hr1,hl]):∀ l,r1=.ok l->PtFew l)
     clear hr1 hr2 da db N7 HC1 HC2 HLV HSZ HN HD B7 b6 b7
     cases r1 with
     | error ft=>
      have h2:=ue ft rfl
      subst h2
      clear ue uo HPT
      have PA':Calls Tryz.prog 13 #[.pointer (some ⟨DA,0,none⟩),.slice none 0 0] w7 fun e w'=>∃ pb,e=.returned (.tuple #[.slice none 0 0,.iface 143 (.pointer (some ⟨pb,0,none⟩))])/\Below w7.heap.size w7 w':=PA.mono fun e w' ⟨⟨u,h1,pb,_,h2,_⟩,h3⟩=>⟨pb,by rw [h1,h2],h3⟩
      have PB':∀ w8,Below w7.heap.size w7 w8->Calls Tryz.prog 13 #[.pointer (some ⟨DB,0,none⟩),.slice none 0 0] w8 fun e w'=>∃ pb,e=.returned (.tuple #[.slice none 0 0,.iface 143 (.pointer (some ⟨pb,0,none⟩))])/\Below w8.heap.size w8 w':=fun w8 h8=>(PB w8 h8).mono fun e w' ⟨⟨u,h1,pb,_,h2,_⟩,h3⟩=>⟨pb,by rw [h1,h2],h3⟩
      clear PA PB
      go_upto_region 25 with (go_at_call 13;refine PA'.mono ?_;rintro e w8 ⟨pb8,rfl,b8⟩)
      have PB8:=PB' w8 b8
      clear PA' PB'
      go_wp2_with (go_at_call 13;refine PB8.mono ?_;rintro e w9 ⟨pb9,rfl,b9⟩)
      go_ret
      exact ⟨rfl,mbel BW7 (mbel b8 b9)⟩
     | ok l=>
      have PA':Calls Tryz.prog 13 #[.pointer (some ⟨DA,0,none⟩),.slice none 0 0] w7 fun e w'=>∃ o cap,e=.returned (.tuple #[.slice o l.length cap,.nilIface])/\l.length<=cap/\cap<=maxLen/\Hid (∃ qs,Pcs w7 l (.slice o l.length cap) w' qs)/\Below w7.heap.size w7 w':=PA.mono fun e w' ⟨⟨qs,v,h1,h2,h3,h4,h5⟩,h6⟩=>by
       have hl:l.length=qs.length:=by rw [<- h1,List.length_map]
       obtain ⟨o,cap,hv,hc,hm, -⟩:=row_slice h3
       subst hv
       exact ⟨o,cap,by rw [h2,hl],by omega,hm,⟨qs,h1,by rw [hl];exact h3,h4,h5⟩,h6⟩
      clear PA ue
      cases r2 with
      | error ft=>
       clear uo HPT
       have PB':∀ w8,Below w7.heap.size w7 w8->Calls Tryz.prog 13 #[.pointer (some ⟨DB,0,none⟩),.slice none 0 0] w8 fun e w'=>∃ pb,e=.returned (.tuple #[.slice none 0 0,.iface 143 (.pointer (some ⟨pb,0,none⟩))])/\Below w8.heap.size w8 w':=fun w8 h8=>(PB w8 h8).mono fun e w' ⟨⟨u,h1,pb,_,h2,_⟩,h3⟩=>⟨pb,by rw [h1,h2],h3⟩
       clear PB
       go_upto_region 25 with (go_at_call 13;refine PA'.mono ?_;rintro e w8 ⟨o1,c1,rfl,hc1,hm1,h8,b8⟩)
       have PB8:=PB' w8 b8
       clear PA' PB'
       go_wp2_with (go_at_call 13;refine PB8.mono ?_;rintro e w9 ⟨pb9,rfl,b9⟩)
       go_ret
       exact ⟨rfl,mbel BW7 (mbel b8 b9)⟩
      | ok l2=>
       obtain ⟨hl2,hgo⟩:=uo l l2 rfl rfl
       have PB':∀ w8,Below w7.heap.size w7 w8->Calls Tryz.prog 13 #[.pointer (some ⟨DB,0,none⟩),.slice none 0 0] w8 fun e w'=>∃ o cap,e=.returned (.tuple #[.slice o l2.length cap,.nilIface])/\l2.length<=cap/\cap<=maxLen/\Hid (∃ qs,Pcs w8 l2 (.slice o l2.length cap) w' qs)/\Below w8.heap.size w8 w':=fun w8 h8=>(PB w8 h8).mono fun e w' ⟨⟨qs,v,h1,h2,h3,h4,h5⟩,h6⟩=>by
        have hl:l2.length=qs.length:=by rw [<- h1,List.length_map]
        obtain ⟨o,cap,hv,hc,hm, -⟩:=row_slice h3
        subst hv
        exact ⟨o,cap,by rw [h2,hl],by omega,hm,⟨qs,h1,by rw [hl];exact h3,h4,h5⟩,h6⟩
       clear PB uo
       have HL2:Hid (l2=l++l.map (shPc x y)):=hl2
       have HGO:Hid (∀ a ∈ l,goM (shM x y) a.pts=some (a.pts.map (goP (shM x y)))):=hgo
       have HPT:Hid (PtFew l):=HPT.out l rfl
       obtain ⟨n2,hn2⟩:∃ n,l2.length=n:=⟨_,rfl⟩
       have hnn:(n2:Int)=2 * (l.length:Int):=by
        rw [<- hn2,hl2,List.length_append,List.length_map]
        omega
       rw [hn2] at PB'
       clear hl2 hgo hn2
       go_upto_region 25 with (go_at_call 13;refine PA'.mono ?_;rintro e w8 ⟨o1,c1,rfl,hc1,hm1,h8,b8⟩)
       have PB8:=PB' w8 b8
       clear PA' PB'
       go_upto_region 26 with (go_at_call 13;refine PB8.mono ?_;rintro e w9 ⟨o2,c2,rfl,hc2,hm2,h9,b9⟩)
       clear PB8
       have HP1:Hid (∃ qs,Pcs w7 l (.slice o1 l.length c1) w9 qs):=by
        obtain ⟨qs,hq⟩:=h8.out
        exact ⟨qs,hq.below b9⟩
       have BW9:=mbel BW7 (mbel b8 b9)
       have hlm:(n2:Int)<=9223372036854775807:=by rw [maxLen_eq] at hm2;omega
       have hz1:(l.length:Int)<=(c1:Int):=by omega
       have hz2:(n2:Int)<=(c2:Int):=by omega
       have hw2:IntKind.i64.wrap (2 * (l.length:Int))=2 * (l.length:Int):=IntWalk.i64_in _ (by omega)
       have hne1:((n2:Int)==2 * (l.length:Int))=true:=by rw [hnn];simp
       have hne2:((n2:Int) != 2 * (l.length:Int))=false:=by rw [hnn];simp
       have HNN:Hid ((n2:Int)=2 * (l.length:Int)):=hnn
       clear h8 hm1 hm2 hnn
       go_upto_region 31 with fail
       clear hw2 hne1 hne2
       go_loopw [22] (fun v wr=>UL w9 l.length v wr) (fun v _=>l.length - (intOf v).toNat)
       case atStart=>exact ⟨0,Nat.zero_le _,rfl,Below.refl _ _⟩
       case round=>
        obtain ⟨k,hk,rfl,hb⟩:=hrel
        by_cases hlt:k<l.length
        ·have hlt':(k:Int)<(l.length:Int):=by omega
         obtain ⟨q1,P1⟩:=HP1.out
         obtain ⟨q2,P2⟩:=h9.out
         have P1:=P1.below hb
         have P2:=P2.below hb
         have l1:l.length=q1.length:=by rw [<- P1.pc,List.length_map]
         have l2':l2.length=q2.length:=by rw [<- P2.pc,List.length_map]
         have hll:l2.length=l.length+l.length:=by rw [HL2.out,List.length_append,List.length_map]
         obtain ⟨c,hc⟩:∃ c,l[k]? = some c:=⟨_,List.getElem?_eq_getElem hlt⟩
         obtain ⟨x1,hx1'⟩:∃ x1,q1[k]? = some x1:=⟨_,List.getElem?_eq_getElem (by omega)⟩
         obtain ⟨z1,hz1'⟩:∃ z1,q2[k]? = some z1:=⟨_,List.getElem?_eq_getElem (by omega)⟩
         obtain ⟨u1,hu1'⟩:∃ u1,q2[l.length+k]? = some u1:=⟨_,List.getElem?_eq_getElem (by omega)⟩
         have ex:x1.pc=c:=by
          have e1:(q1.map P5S.pc)[k]? = some x1.pc:=by rw [List.getElem?_map,hx1'];rfl
          rw [P1.pc,hc] at e1
          exact (Option.some.inj e1).symm
         have ez:z1.pc=c:=by
          have e1:(q2.map P5S.pc)[k]? = some z1.pc:=by rw [List.getElem?_map,hz1'];rfl
          rw [P2.pc,HL2.out,List.getElem?_append_left hlt,hc] at e1
          exact (Option.some.inj e1).symm
         have eu:u1.pc=shPc x y c:=by
          have e1:(q2.map P5S.pc)[l.length+k]? = some u1.pc:=by rw [List.getElem?_map,hu1'];rfl
          rw [P2.pc,HL2.out,List.getElem?_append_right (by omega),show l.length+k - l.length=k from by omega,List.getElem?_map,hc] at e1
          exact (Option.some.inj e1).symm
         subst ex
         obtain ⟨z0, -, -, -, -⟩:=pc_same ez.symm
         have eu':u1.nd=x1.nd/\u1.pts=x1.pts.map (goP (shM x y))/\u1.fill=x1.fill:=by
          unfold P5S.pc shPc at eu
          injection eu with h1 h2 h3
          exact ⟨h1,h2,h3⟩
         have hgo:=HGO.out x1.pc (List.mem_of_getElem? hc)
         have hpt:=HPT.out x1.pc (List.mem_of_getElem? hc)
         have hgo:goM (shM x y) x1.pts=some (x1.pts.map (goP (shM x y))):=hgo
         have hpt:x1.pts.length<=30:=hpt
         obtain ⟨o1',c1',hv1, -,hg1⟩:=row_P P1.row
         obtain ⟨o2',c2',hv2, -,hg2⟩:=row_P P2.row
         obtain ⟨g1,hgo1,R1⟩:=hg1 (by omega)
         obtain ⟨g2,hgo2,R2⟩:=hg2 (by omega)
         have ho1:o1=some ⟨g1,0,none⟩:=by injection hv1 with h1;rw [h1,hgo1]
         have ho2:o2=some ⟨g2,0,none⟩:=by injection hv2 with h1;rw [h1,hgo2]
         subst ho1 ho2
         obtain ⟨u0,u1c,u2, -, -⟩:=R1 k x1 hx1'
         obtain ⟨v0, -, -, -, -⟩:=R2 k z1 hz1'
         obtain ⟨t0,t1,t2,t3,t4⟩:=R2 (l.length+k) u1 hu1'
         rw [z0] at v0
         rw [eu'.1] at t0
         rw [eu'.2.2] at t2
         have hpx:=P1.at_ (List.mem_of_getElem? hx1')
         have hpu:=P2.at_ (List.mem_of_getElem? hu1')
         unfold ptsV at u1c t1
         have MVD:∀ U,Below wr.heap.size wr U->Calls Tryz.prog 17 #[.slice x1.o x1.pts.length x1.cap,mv (shM x y)] U fun e W=>∃ o c,e=.returned (.tuple #[.slice o u1.pts.length c,.agg #[.int .i64 0,.int .i64 (-1)]])/\OwnP W U.heap.size (.slice o u1.pts.length c) u1.pts/\Below U.heap.size U W:=fun U hU=>by
          refine (Moved_any (shM x y) (goP (shM x y)) x1.pts x1.o x1.cap U (go_step hgo) (by omega) (hpx.below hU Nat.le.refl)).mono fun e W ⟨⟨v,h1,h2⟩,h3⟩=>?_
          rw [<- eu'.2.1] at h2
          obtain ⟨o,c,rfl⟩:=own_slice h2
          exact ⟨o,c,h1,h2,h3⟩
         have hlu:u1.pts.length<=1000:=by rw [eu'.2.1,List.length_map];omega
         have HPI:Hid (∀ a ∈ u1.pts,PI a):=(fun a ha=>by
          rw [eu'.2.1] at ha
          obtain ⟨b,hb,rfl⟩:=List.mem_map.1 ha
          exact (go_step hgo b hb).2.1:∀ a ∈ u1.pts,PI a)
         have KP:∀ U,Below wr.heap.size wr U->U.cell? ⟨g1,k * 5,none⟩=some (.int .i64 x1.nd)/\U.cell? ⟨g1,k * 5+1,none⟩=some (.slice x1.o x1.pts.length x1.cap)/\U.cell? ⟨g1,k * 5+2,none⟩=some (bV x1.fill)/\U.cell? ⟨g2,k * 5,none⟩=some (.int .i64 x1.nd):=fun U hU=>⟨(hU.cell (cell_lt u0)).trans u0,(hU.cell (cell_lt u1c)).trans u1c,(hU.cell (cell_lt u2)).trans u2,(hU.cell (cell_lt v0)).trans v0⟩
         obtain ⟨nk,hnk⟩:∃ nk:Nat,l.length+k=nk:=⟨_,rfl⟩
         rw [hnk] at t0 t1 t2 t3 t4
         have hnk1:(l.length:Int)+(k:Int)=(nk:Int):=by omega
         have hnk2:IntKind.i64.wrap (nk:Int)=(nk:Int):=IntWalk.i64_in _ (by have:=HNN.out;omega)
         have hnk3:(nk:Int)<(n2:Int):=by have:=HNN.out;omega
         have hkn:(k:Int)<(n2:Int):=by have:=HNN.out;omega
         have KT5:∀ U,Below wr.heap.size wr U->U.cell? ⟨g2,nk * 5,none⟩=some (.int .i64 x1.nd)/\U.cell? ⟨g2,nk * 5+1,none⟩=some (.slice u1.o u1.pts.length u1.cap)/\U.cell? ⟨g2,nk * 5+2,none⟩=some (bV x1.fill)/\U.cell? ⟨g2,nk * 5+3,none⟩=some (bV u1.rule)/\U.cell? ⟨g2,nk * 5+4,none⟩=some (.int .i64 u1.lv):=fun U hU=>⟨(hU.cell (cell_lt t0)).trans t0,(hU.cell (cell_lt t1)).trans t1,(hU.cell (cell_lt t2)).trans t2,(hU.cell (cell_lt t3)).trans t3,(hU.cell (cell_lt t4)).trans t4⟩
         have HPU:Hid (PtsAt wr u1.o u1.pts):=hpu
         clear hnk P1 P2 l1 l2' hll hc hx1' hz1' hu1' ez eu z0 eu' hgo hpt hv1 hv2 hg1 hg2 hgo1 hgo2 R1 R2 hpx hpu u0 u1c u2 v0 t0 t1 t2 t3 t4 HP1 h9
         have ST:=Stays_any wr
         go_upto_region 34 with (go_at_call 16;refine ST.mono ?_;rintro e w10 ⟨rfl,b10⟩;dsimp only [mv,Mv.one,Fr.whole])
         clear ST
         obtain ⟨V6,hV6⟩:∃ V6,w10.alloc (.cells #[.int .i64 1,.int .i64 1,.int .i64 0,.int .i64 1,.int .i64 0,.int .i64 1,.int .i64 1,.int .i64 1,.int .i64 0,.int .i64 1,.int .i64 0,.int .i64 1] 54)=V6:=⟨_,rfl⟩
         have K6:=mbox w10 #[.int .i64 1,.int .i64 1,.int .i64 0,.int .i64 1,.int .i64 0,.int .i64 1,.int .i64 1,.int .i64 1,.int .i64 0,.int .i64 1,.int .i64 0,.int .i64 1] 54
         have b6:=mal w10 (.cells #[.int .i64 1,.int .i64 1,.int .i64 0,.int .i64 1,.int .i64 0,.int .i64 1,.int .i64 1,.int .i64 1,.int .i64 0,.int .i64 1,.int .i64 0,.int .i64 1] 54)
         rw [hV6] at K6 b6 ⊢
         have hB6:wr.heap.size<=w10.heap.size:=b10.size
         have bb6:=mbel b10 b6
         clear hV6 b10 b6
         generalize w10.heap.size=BX at *
         have x8:=bcell K6 8 _ rfl
         have x9:=bcell K6 9 _ rfl
         have x10:=bcell K6 10 _ rfl
         have x11:=bcell K6 11 _ rfl
         have f8:=bfrozQ K6 8
         have f9:=bfrozQ K6 9
         have f10:=bfrozQ K6 10
         have f11:=bfrozQ K6 11
         go_upto_region 36 with fail
         clear x8 x9 x10 x11 f8 f9 f10 f11
         obtain ⟨V7,hV7⟩:∃ V7,(((V6.setCell ⟨BX,8,none⟩ (.int .i64 x)).setCell ⟨BX,9,none⟩ (.int .i64 1)).setCell ⟨BX,10,none⟩ (.int .i64 y)).setCell ⟨BX,11,none⟩ (.int .i64 1)=V7:=⟨_,rfl⟩
         rw [hV7]
         have K7:V7.heap[BX]? = some (.cells #[.int .i64 1,.int .i64 1,.int .i64 0,.int .i64 1,.int .i64 0,.int .i64 1,.int .i64 1,.int .i64 1,.int .i64 x,.int .i64 1,.int .i64 y,.int .i64 1] 54):=by
          have s0:=heap_setCell_same V6 BX 8 _ _ (.int .i64 x) K6
          have s1:=heap_setCell_same _ BX 9 _ _ (.int .i64 1) s0
          have s2:=heap_setCell_same _ BX 10 _ _ (.int .i64 y) s1
          have s3:=heap_setCell_same _ BX 11 _ _ (.int .i64 1) s2
          rw [<- hV7]
          simpa using s3
         have b7:Below wr.heap.size wr V7:=by
          rw [<- hV7]
          exact (((bb6.setCell hB6 _).setCell hB6 _).setCell hB6 _).setCell hB6 _
         clear hV7 K6 bb6
         have m0:=bcell K7 0 _ rfl
         have m1:=bcell K7 1 _ rfl
         have m2:=bcell K7 2 _ rfl
         have m3:=bcell K7 3 _ rfl
         have m4:=bcell K7 4 _ rfl
         have m5:=bcell K7 5 _ rfl
         have m6:=bcell K7 6 _ rfl
         have m7:=bcell K7 7 _ rfl
         have m8:=bcell K7 8 _ rfl
         have m9:=bcell K7 9 _ rfl
         have m10:=bcell K7 10 _ rfl
         have m11:=bcell K7 11 _ rfl
         have c1':=(KP V7 b7).2.1
         go_cut [24,25] from 177 to 251 (fun v p wx=>CutF u1.pts V7 v p wx)
         case first=>
          have ba:=mal V7 (.cells #[.int .i64 0,.int .i64 0] 57)
          have e0:=(ba.cell (cell_lt m0)).trans m0
          have e1:=(ba.cell (cell_lt m1)).trans m1
          have e2:=(ba.cell (cell_lt m2)).trans m2
          have e3:=(ba.cell (cell_lt m3)).trans m3
          have e4:=(ba.cell (cell_lt m4)).trans m4
          have e5:=(ba.cell (cell_lt m5)).trans m5
          have e6:=(ba.cell (cell_lt m6)).trans m6
          have e7:=(ba.cell (cell_lt m7)).trans m7
          have e8:=(ba.cell (cell_lt m8)).trans m8
          have e9:=(ba.cell (cell_lt m9)).trans m9
          have e10:=(ba.cell (cell_lt m10)).trans m10
          have e11:=(ba.cell (cell_lt m11)).trans m11
          have e12:=(ba.cell (cell_lt c1')).trans c1'
          have KK:∀ w1,Below (V7.alloc (.cells #[.int .i64 0,.int .i64 0] 57)).drew.heap.size (V7.alloc (.cells #[.int .i64 0,.int .i64 0] 57)).drew w1->w1.heap[V7.heap.size]? = some (.cells #[.int .i64 0,.int .i64 0] 57):=fun w1 b1=>by
           have K:=mbox V7 #[.int .i64 0,.int .i64 0] 57
           exact (b1.block V7.heap.size (blk_lt K)).trans K
          have G1:=MVD V7.drew (below_drewN b7 1)
          have G2:=MVD (V7.alloc (.cells #[.int .i64 0,.int .i64 0] 57)).drew (below_drewN (mbel b7 ba) 1)
          dsimp only [mv,shM,Fr.whole] at G1 G2
          clear MVD ba K7 KP KT5
          go_region_with (first | (go_at_call 17;refine G1.mono ?_;rintro e w11 ⟨o3,c3,rfl,ow3,b11⟩) | (go_at_call 17;refine G2.mono ?_;rintro e w11 ⟨o3,c3,rfl,ow3,b11⟩;have KB:=KK w11 b11;have u0:=bcell KB 0 _ rfl;have u1:=bcell KB 1 _ rfl;have f0:=bfrozQ KB 0;have f1:=bfrozQ KB 1))
          all_goals go_wp2_with fail
          all_goals go_meet
          all_goals first | (have hu:=u0;exact cutF_old ow3 ((below_drewN (Below.refl _ _) 1).trans b11)) | exact cutF_new ow3 ((below_drewN (Below.refl _ _) 1).trans b11)
         case rest=>
          obtain ⟨BF,o3,c3,rfl,rfl,ow3,KF,b8'⟩:=hcut
          clear m0 m1 m2 m3 m4 m5 m6 m7 m8 m9 m10 m11 c1' MVD K7
          have bc:=mbel b7 b8'
          obtain ⟨t0,t1,t2,t3,t4⟩:=KT5 wc bc
          have H3:Hid (PtsAt wc o3 u1.pts):=by
           obtain ⟨o4,c4,h4,h5⟩:=ow3.at_ HPI.out
           injection h4 with h6
           subst h6
           exact h5
          clear KT5 ow3 b7 b8'
          go_upto_region 38 with fail
          clear t0 t1 t2 t3 t4
          obtain ⟨V8,hV8⟩:∃ V8,wc.alloc (.cells #[.int .i64 x1.nd,.slice u1.o u1.pts.length u1.cap,bV x1.fill,bV u1.rule,.int .i64 u1.lv] 45)=V8:=⟨_,rfl⟩
          have K8:=mbox wc #[.int .i64 x1.nd,.slice u1.o u1.pts.length u1.cap,bV x1.fill,bV u1.rule,.int .i64 u1.lv] 45
          have b9:=mal wc (.cells #[.int .i64 x1.nd,.slice u1.o u1.pts.length u1.cap,bV x1.fill,bV u1.rule,.int .i64 u1.lv] 45)
          rw [hV8] at K8 b9 ⊢
          have bcv:=mbel bc b9
          have KF:=blk_keep b9 KF
          have H3:Hid (PtsAt V8 o3 u1.pts):=H3.out.below b9 Nat.le.refl
          have HPU:Hid (PtsAt V8 u1.o u1.pts):=HPU.out.below bcv Nat.le.refl
          clear hV8 b9
          generalize wc.heap.size=BP at *
          have KQ:∀ U,Below V8.heap.size V8 U->U.cell? ⟨BF,0,none⟩=some (.int .i64 0)/\U.cell? ⟨BP,0,none⟩=some (.int .i64 x1.nd)/\U.cell? ⟨BP,1,none⟩=some (.slice u1.o u1.pts.length u1.cap)/\U.cell? ⟨BP,2,none⟩=some (bV x1.fill)/\U.cell? ⟨g1,k * 5,none⟩=some (.int .i64 x1.nd)/\U.cell? ⟨g1,k * 5+2,none⟩=some (bV x1.fill)/\U.cell? ⟨g2,k * 5,none⟩=some (.int .i64 x1.nd):=fun U hU=>by
           have h1:=blk_keep hU KF
           have h2:=blk_keep hU K8
           obtain ⟨p0, -,p2,p3⟩:=KP U (mbel bcv hU)
           exact ⟨bcell h1 0 _ rfl,bcell h2 0 _ rfl,bcell h2 1 _ rfl,bcell h2 2 _ rfl,p0,p2,p3⟩
          have SP:=fun U (hU:Below V8.heap.size V8 U)=>samePoints_same u1.pts u1.o o3 u1.cap c3 U hlu (HPU.out.below hU Nat.le.refl) (H3.out.below hU Nat.le.refl)
          clear KP KF K8 hB6 hnk1 hnk2 hnk3
          go_region_held3 (fun w'=>w'.cell? ⟨BF,0,none⟩=some (.int .i64 0)/\w'.cell? ⟨BP,0,none⟩=some (.int .i64 x1.nd)/\w'.cell? ⟨BP,1,none⟩=some (.slice u1.o u1.pts.length u1.cap)/\w'.cell? ⟨BP,2,none⟩=some (bV x1.fill)/\w'.cell? ⟨g1,k * 5,none⟩=some (.int .i64 x1.nd)/\w'.cell? ⟨g1,k * 5+2,none⟩=some (bV x1.fill)/\w'.cell? ⟨g2,k * 5,none⟩=some (.int .i64 x1.nd)) (first | exact KQ _ (below_drewN (Below.refl _ _) 1) | exact KQ _ bb9) (first | (go_at_call 14;refine (SP _ (below_drewN (Below.refl _ _) 1)).mono ?_;rintro e w12 ⟨rfl,b12⟩;have bb9:Below V8.heap.size V8 w12:=mbel (below_drewN (Below.refl V8.heap.size V8) 1) b12))
          go_wp2_with fail
          go_roundw
          case rel=>exact ⟨k+1,by omega,by go_num,by first | exact mbel hb (mbel bcv bb9) | exact mdrew' (mbel hb (mbel bcv bb9)) | exact mdrew _ (mbel hb (mbel bcv bb9))⟩
          case measure=>simp [intOf];omega
        ·obtain rfl:k=l.length:=by omega
         have hge:¬ (l.length:Int)<(l.length:Int):=by omega
         go_wp2_with fail
         go_ret
         exact ⟨rfl,mbel BW9 hb⟩
    ·have NW:=New_S E (oneN ks) _ _ _ wr HD.out HU.out.2.2.1 hs1 hc1
     clear hc1
     go_upto_region 21 with (go_at_call 10;refine NW.mono ?_;rintro e w6 ⟨b6,DA,MA,tga,pa,rfl,da⟩)
     clear x0 x1 x2 NW da
     have HU:=HU.out.below b6
     have x0:=NB.c0 HU.2.1
     have x1:=NB.c1 HU.2.1
     have x2:=NB.c2 HU.2.1
     have NW:=New_no E (twoN ks (mvT x y)) _ _ _ w6 (HD.out.below b6) HU.2.2.2 hs2 hc2
     clear HU hc2
     go_wp2_with (go_at_call 10;refine NW.mono ?_;rintro e w7 ⟨b7,pb7,rfl⟩)
     go_ret
     exact ⟨rfl,mbel BWR (mbel b6 b7)⟩
   ·have NW:=New_no E (oneN ks) _ _ _ wr HD.out HU.out.2.2.1 hs1 hc1
    clear hc1
    go_upto_region 21 with (go_at_call 10;refine NW.mono ?_;rintro e w6 ⟨b6,pb6,rfl⟩)
    clear x0 x1 x2 NW
    have HU:=HU.out.below b6
    have x0:=NB.c0 HU.2.1
    have x1:=NB.c1 HU.2.1
    have x2:=NB.c2 HU.2.1
    by_cases hc2:(ckN (twoN ks (mvT x y)) 1 0).1=0
    ·have NW:=New_S E (twoN ks (mvT x y)) _ _ _ w6 (HD.out.below b6) HU.2.2.2 hs2 hc2
     clear HU hc2
     go_wp2_with (go_at_call 10;refine NW.mono ?_;rintro e w7 ⟨b7,DB,MB,tgb,pb,rfl,db⟩)
     go_ret
     exact ⟨rfl,mbel BWR (mbel b6 b7)⟩
    ·have NW:=New_no E (twoN ks (mvT x y)) _ _ _ w6 (HD.out.below b6) HU.2.2.2 hs2 hc2
     clear HU hc2
     go_wp2_with (go_at_call 10;refine NW.mono ?_;rintro e w7 ⟨b7,pb7,rfl⟩)
     go_ret
     exact ⟨rfl,mbel BWR (mbel b6 b7)⟩
end Go.Proofs.YtgphclgmmocdhaaGreatDoor

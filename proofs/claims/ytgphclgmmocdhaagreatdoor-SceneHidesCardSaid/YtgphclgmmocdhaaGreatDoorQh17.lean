/-
  Parts of the proof.
-/
import Derived.Test.YtgphclgmmocdhaaGreatDoorQh16
namespace Go.Proofs.YtgphclgmmocdhaaGreatDoor
open Go.RowKit Go.Shelf Go.Sort Go.Lib
set_option maxHeartbeats 8000000
set_option maxRecDepth 100000
section
variable {w0:World} {blk off:Nat} {d0:Array S5}
def ST1 (w0:World) (blk off:Nat) (d0:Array S5) (x y:Value) (wr:World):Prop:=∃ (a b:Nat) (e:Array S5),x=.int .i64 a/\y=.int .i64 b/\b=a+20/\a<=d0.size/\RunsTo S5.lv S5.tag e 20 d0.size a/\Mvd d0 e 0 d0.size/\(∀ i,a<=i->e[i]! = d0[i]!)/\SW5 w0 blk off e wr
def ST2 (w0:World) (blk off:Nat) (d0:Array S5) (x:Value) (wr:World):Prop:=∃ (bs:Nat) (e:Array S5),x=.int .i64 bs/\20<=bs/\bs<=2000/\Runs S5.lv S5.tag e bs d0.size 0/\Mvd d0 e 0 d0.size/\SW5 w0 blk off e wr
def ST3 (w0:World) (blk off:Nat) (d0:Array S5) (bs:Nat) (x y:Value) (wr:World):Prop:=∃ (a b:Nat) (e:Array S5),x=.int .i64 a/\y=.int .i64 b/\b=a+2 * bs/\a<=d0.size/\RunsTo S5.lv S5.tag e (2 * bs) d0.size a/\Runs S5.lv S5.tag e bs d0.size a/\Mvd d0 e 0 d0.size/\SW5 w0 blk off e wr
theorem stable_any (hblk:blk<w0.heap.size) (h0:HoldsK s5L 5 w0 blk off d0) (hz:d0.size<=1000) (ht:∀ i,i<d0.size->d0[i]!.tag=i) (cap:Nat) :
  Calls Tryz.prog 87 #[.slice (some ⟨blk,off,none⟩) d0.size cap,.int .i64 d0.size,cmpV] w0 fun e w'=>SyR w0 blk off d0 0 d0.size e w':=by
 obtain ⟨n,hn⟩:∃ n,d0.size=n:=⟨_,rfl⟩
 have INS:Hid (∀ (e:Array S5),e.size=d0.size->∀ V,SW5 w0 blk off e V->∀ a b,a<b->b<=e.size->(∀ u v,a<=u->u<v->v<b->e[u]!.tag<e[v]!.tag)->Calls Tryz.prog 124 #[.slice (some ⟨blk,off,none⟩) d0.size cap,.int .i64 a,.int .i64 b,cmpV] V fun e' w'=>SyR w0 blk off e a b e' w'):=fun e he V hV a b h1 h2 h3=>insertion_any hblk h0 hz he hV cap a b h1 h2 h3
 have SYM:Hid (SymIH w0 blk off d0 cap 2000):=symMerge_any hblk h0 hz cap 2000
 have HW:Hid (SW5 w0 blk off d0 w0):=SWK.start h0
 have HTG:Hid (∀ i,i<d0.size->d0[i]!.tag=i):=ht
 rw [hn] at hz ⊢
 have HN:Hid (d0.size=n):=hn
 rw [hn] at INS
 clear h0 ht hn
 go_enter Tryz.func87,Tryz.ntmps87
 go_upto_region 2 with fail
 go_loopw [7,8] (fun x y wr=>ST1 w0 blk off d0 x y wr) (fun x _ _=>n - (intOf x).toNat)
 case atStart=>exact ⟨0,20,d0,rfl,rfl,rfl,Nat.zero_le _,RunsTo.zero _ _ _,Mvd.refl _ _ _,fun _ _=>rfl,HW.out⟩
 case round=>
  obtain ⟨a,b,e,rfl,rfl,hb,ha,hR,hM,hS,hE⟩:=hrel
  rw [HN.out] at ha hR hM
  have HB:Hid (b=a+20):=hb
  have HR:Hid (RunsTo S5.lv S5.tag e 20 n a):=hR
  have HM:Hid (Mvd d0 e 0 n):=hM
  have HS:Hid (∀ i,a<=i->e[i]! = d0[i]!):=hS
  have hze:e.size=n:=hM.sz.trans HN.out
  have TG:Hid (∀ z,z<=n->∀ u v,a<=u->u<v->v<z->e[u]!.tag<e[v]!.tag):=fun z hz u v h1 h2 h3=>by
   rw [HS.out u h1,HS.out v (by omega),HTG.out u (by rw [HN.out];omega),HTG.out v (by rw [HN.out];omega)]
   exact h2
  have TI:Hid (∀ z,z<=n->∀ i,a<=i->i<z->z<=a+20->a<=e[i]!.tag/\e[i]!.tag<a+20):=fun z hz i h1 h2 h3=>by
   rw [HS.out i h1,HTG.out i (by rw [HN.out];omega)]
   omega
  clear hR hM hS
  by_cases hle:b<=n
  ·have hlez:(b:Int)<=(n:Int):=by omega
   have IC:=INS.out e (by omega) wr hE a b (by omega) (by omega) (TG.out b hle)
   obtain ⟨b2,hb2⟩:∃ b2,b+20=b2:=⟨_,rfl⟩
   have hbz:(b:Int)+20=(b2:Int):=by omega
   have hbn:b<=1000:=by omega
   have HB2:Hid (b+20=b2):=hb2
   clear hE hb hb2
   go_wp2_with (go_at_call 124;refine IC.mono ?_;rintro e w1 ⟨rfl,f,hf,hw⟩)
   go_roundw
   case rel=>
    have hb:=HB.out
    have hm:min (a+20) n=b:=by omega
    refine ⟨b,b2,f,rfl,rfl,by have:=HB2.out;omega,by rw [HN.out];exact hle,?_,?_,?_,hw⟩
    ·rw [HN.out,hb]
     exact HR.out.more (by omega) (by rw [hm];exact hf.mv) (by rw [hm];exact hf.s) (fun i h1 h2=>TI.out b hle i h1 (by omega) (by omega))
    ·rw [HN.out]
     exact HM.out.trans (hf.mv.mono (Nat.zero_le _) hle)
    ·exact fun i hi=>(hf.mv.out i (.inr hi)).trans (HS.out i (by omega))
   case measure=>
    have hb:=HB.out
    simp [intOf];omega
  ·have hlez:¬ (b:Int)<=(n:Int):=by omega
   have hb:b=a+20:=HB.out
   have AFT:∃ w1 f,(Calls Tryz.prog 124 #[.slice (some ⟨blk,off,none⟩) n cap,.int .i64 a,.int .i64 n,cmpV] wr fun e' w'=>e'=.returned (.tuple #[])/\∃ f,Runs S5.lv S5.tag f 20 n 0/\Mvd d0 f 0 n/\SW5 w0 blk off f w')/\w1=wr/\f=e:=by
    refine ⟨wr,e,?_,rfl,rfl⟩
    by_cases han:a<n
    ·refine (INS.out e (by omega) wr hE a n han (by omega) (TG.out n Nat.le.refl)).mono ?_
     rintro e' w1 ⟨rfl,f,hf,hw⟩
     have hm:min (a+20) n=n:=by omega
     refine ⟨rfl,f,(HR.out.more han (by rw [hm];exact hf.mv) (by rw [hm];exact hf.s) (fun i h1 h2=>TI.out n Nat.le.refl i h1 (by omega) (by omega))).done (.stop (by omega)),HM.out.trans (hf.mv.mono (Nat.zero_le _) Nat.le.refl),hw⟩
    ·obtain rfl:a=n:=by omega
     refine (insertion_none a cap _ a hz wr).mono ?_
     rintro e' w1 ⟨rfl,rfl⟩
     exact ⟨rfl,e,HR.out.done (.stop Nat.le.refl),HM.out,hE⟩
   obtain ⟨-, -,IC, -, -⟩:=AFT
   clear hE hb
   go_upto_region 7 with (go_at_call 124;refine IC.mono ?_;rintro e w1 ⟨rfl,f,hf1,hf2,hf3⟩)
   clear IC
   go_loopw [6] (fun x wr=>ST2 w0 blk off d0 x wr) (fun x _=>n - (intOf x).toNat)
   case atStart=>exact ⟨20,f,rfl,Nat.le_refl _,by omega,by rw [HN.out];exact hf1,by rw [HN.out];exact hf2,hf3⟩
   case round=>
    obtain ⟨bs,g,rfl,hbs,hbs2,hR2,hM2,hE2⟩:=hrel
    rw [HN.out] at hR2 hM2
    have HR2:Hid (Runs S5.lv S5.tag g bs n 0):=hR2
    have HM2:Hid (Mvd d0 g 0 n):=hM2
    have HE2:Hid (SW5 w0 blk off g wr):=hE2
    clear hR2 hM2 hE2 hf1 hf2 hf3
    by_cases hlt:bs<n
    ·have hltz:(bs:Int)<(n:Int):=by omega
     obtain ⟨B2,hB2⟩:∃ B2,2 * bs=B2:=⟨_,rfl⟩
     have hBz:2 * (bs:Int)=(B2:Int):=by omega
     have hBz':(bs:Int) * 2=(B2:Int):=by omega
     have hBn:B2<=2000:=by omega
     have HB2:Hid (2 * bs=B2):=hB2
     clear hB2
     go_upto_region 9 with fail
     go_loopw [7,8] (fun x y wr=>ST3 w0 blk off d0 bs x y wr) (fun x _ _=>n - (intOf x).toNat)
     case atStart=>exact ⟨0,B2,g,rfl,rfl,by have:=HB2.out;omega,Nat.zero_le _,RunsTo.zero _ _ _,by rw [HN.out];exact HR2.out,by rw [HN.out];exact HM2.out,HE2.out⟩
     case round=>
      obtain ⟨c,cb,k,rfl,rfl,hcb,hc,hT,hU,hM3,hE3⟩:=hrel
      rw [HN.out] at hc hT hU hM3
      have HCB:Hid (cb=c+2 * bs):=hcb
      have HT:Hid (RunsTo S5.lv S5.tag k (2 * bs) n c):=hT
      have HM3:Hid (Mvd d0 k 0 n):=hM3
      have hzk:k.size=n:=hM3.sz.trans HN.out
      obtain ⟨cm,hcm⟩:∃ cm,c+bs=cm:=⟨_,rfl⟩
      have hcz:(c:Int)+(bs:Int)=(cm:Int):=by omega
      by_cases hle2:cb<=n
      ·have hle2z:(cb:Int)<=(n:Int):=by omega
       obtain ⟨hp,htg,hrr⟩:=hU.pre (b:=cb) (by omega) (by omega) (by omega) (by omega)
       rw [hcm] at hp
       have SC:=SYM.out k (hzk.trans HN.out.symm) wr hE3 c cm cb (by omega) hp
       rw [HN.out] at SC
       obtain ⟨c3,hc3⟩:∃ c3,cb+B2=c3:=⟨_,rfl⟩
       have hc3z:(cb:Int)+(B2:Int)=(c3:Int):=by omega
       have HC3:Hid (cb+B2=c3):=hc3
       have HTI:Hid (∀ i,c<=i->i<cb->c<=k[i]!.tag/\k[i]!.tag<c+2 * bs):=htg
       have HRR:Hid (Runs S5.lv S5.tag k bs n (c+2 * bs)):=hrr
       have hcc:c<cb/\c<n:=by omega
       clear hU hp htg hrr hE3 hcb hcm hc3 hT hM3
       go_wp2_with (go_at_call 125;refine SC.mono ?_;rintro e w1 ⟨rfl,q,hq,hw⟩)
       go_roundw
       case rel=>
        have hb:=HCB.out
        have hm:min (c+2 * bs) n=cb:=by omega
        refine ⟨cb,c3,q,rfl,rfl,by have:=HC3.out;have:=HB2.out;omega,by rw [HN.out];exact hle2,?_,?_,?_,hw⟩
        ·rw [HN.out,hb]
         exact HT.out.more (by omega) (by rw [hm];exact hq.mv) (by rw [hm];exact hq.s) (fun i h1 h2=>HTI.out i h1 (by omega))
        ·rw [HN.out,hb]
         exact HRR.out.carry (fun i h1 _=>hq.mv.out i (.inr (by omega)))
        ·rw [HN.out]
         exact HM3.out.trans (hq.mv.mono (Nat.zero_le _) hle2)
       case measure=>simp [intOf];omega
      ·have hle2z:¬ (cb:Int)<=(n:Int):=by omega
       by_cases hm3:cm<n
       ·have hm3z:(cm:Int)<(n:Int):=by omega
        obtain ⟨hp,htg,hrr⟩:=hU.pre (b:=n) (by omega) (by omega) (by omega) (by omega)
        rw [hcm] at hp
        have SC:=SYM.out k (hzk.trans HN.out.symm) wr hE3 c cm n (by omega) hp
        rw [HN.out] at SC
        have HTI:Hid (∀ i,c<=i->i<n->c<=k[i]!.tag/\k[i]!.tag<c+2 * bs):=htg
        have hcc:c<n:=by omega
        clear hU hp htg hrr hE3 hcb hcm hT hM3
        go_wp2_with (go_at_call 125;refine SC.mono ?_;rintro e w1 ⟨rfl,q,hq,hw⟩)
        go_roundw
        case rel=>
         have hb:=HCB.out
         have hm:min (c+2 * bs) n=n:=by omega
         refine ⟨B2,q,rfl,by have:=HB2.out;omega,hBn,?_,?_,hw⟩
         ·rw [HN.out,<- HB2.out]
          exact (HT.out.more hcc (by rw [hm];exact hq.mv) (by rw [hm];exact hq.s) (fun i h1 h2=>HTI.out i h1 (by omega))).done (.stop (by omega))
         ·rw [HN.out]
          exact HM3.out.trans (hq.mv.mono (Nat.zero_le _) Nat.le.refl)
        case measure=>simp [intOf];have:=HB2.out;omega
       ·have hm3z:¬ (cm:Int)<(n:Int):=by omega
        have HU:Hid (Runs S5.lv S5.tag k (2 * bs) n c):=hU.single (by omega)
        clear hU hcb hcm hT hM3
        have HE3:Hid (SW5 w0 blk off k wr):=hE3
        clear hE3
        go_wp2_with fail
        go_roundw
        case rel=>exact ⟨B2,k,rfl,by have:=HB2.out;omega,hBn,by rw [HN.out,<- HB2.out];exact HT.out.done HU.out,by rw [HN.out];exact HM3.out,HE3.out⟩
        case measure=>simp [intOf];have:=HB2.out;omega
    ·have hltz:¬ (bs:Int)<(n:Int):=by omega
     go_wp2
     go_end0
     exact ⟨rfl,g,⟨HM2.out,HR2.out.whole (by omega)⟩,HE2.out⟩
theorem SortStable_any (hblk:blk<w0.heap.size) (h0:HoldsK s5L 5 w0 blk off d0) (hz:d0.size<=1000) (ht:∀ i,i<d0.size->d0[i]!.tag=i) (cap:Nat) :
  Calls Tryz.prog 46 #[.slice (some ⟨blk,off,none⟩) d0.size cap,cmpV] w0 fun e w'=>SyR w0 blk off d0 0 d0.size e w':=by
 have SA:=stable_any hblk h0 hz ht cap
 clear h0 ht
 go_enter Tryz.func46,Tryz.ntmps46
 go_wp2_with (go_at_call 87;refine SA.mono ?_;rintro e w1 ⟨rfl,hr⟩)
 go_end0
 exact ⟨rfl,hr⟩
end
end Go.Proofs.YtgphclgmmocdhaaGreatDoor

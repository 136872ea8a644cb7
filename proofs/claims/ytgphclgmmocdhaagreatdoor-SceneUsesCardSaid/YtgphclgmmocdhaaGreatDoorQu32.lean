/-
  Parts of the proof.
-/
import Derived.Test.YtgphclgmmocdhaaGreatDoorQu31
namespace Go.Proofs.YtgphclgmmocdhaaGreatDoor
section
open Go.RowKit Go.Shelf
set_option maxHeartbeats 16000000
set_option maxRecDepth 20000
def GoR (E:Nat->Addr) (m:Mv) (l:List Qt) (base:Nat) (e:Ending) (w':World):Prop:=match goM m l with
 | some l'=>∃ v,e=.returned (.tuple #[.agg #[v],.nilIface])/\OwnP w' base v l'
 | none=>∃ v,e=.returned (.tuple #[.agg #[.slice none 0 0],v])/\ErC E 2 v w'
theorem goR_no {E:Nat->Addr} {m:Mv} {l:List Qt} {base:Nat} {w':World} {a:Qt} {v:Value} (ha:a ∈ l) (hn:goOk m a=false) (hv:ErC E 2 v w'):GoR E m l base (.returned (.tuple #[.agg #[.slice none 0 0],v])) w':=by
 unfold GoR goM
 rw [if_neg (fun h=>by have:=List.all_eq_true.1 h a ha;rw [hn] at this;cases this)]
 exact ⟨v,rfl,hv⟩
theorem goR_yes {E:Nat->Addr} {m:Mv} {l:List Qt} {base:Nat} {w':World} {v:Value} (h:∀ a ∈ l,goOk m a=true) (hv:OwnP w' base v (l.map (goP m))):GoR E m l base (.returned (.tuple #[.agg #[v],.nilIface])) w':=by
 unfold GoR goM
 rw [if_pos (List.all_eq_true.2 h)]
 exact ⟨v,rfl,hv⟩
theorem pt_okP {a:Qt} (h:errP a=0):(qtP a).ok:=by
 obtain ⟨h1, -⟩:=errP_zero.1 h
 exact chkP_zero.1 h1
theorem pt64 {a:Qt} (h:errP a=0):(qtP a).i64:=⟨ok_i64 (pt_okP h).1,ok_i64 (pt_okP h).2⟩
theorem goOk_chk {m:Mv} {a:Qt} (hm:m.ok) (ha:errP a=0) (h:(movedF 0 m (qtP a)).2=0):chkP (goP m a)=0:=by
 have h1:=((moved_step (c:=0) (.inl rfl) hm (pt_okP ha)).2 h).2.1
 have e:goP m a=⟨(movedF 0 m (qtP a)).1.x.n,(movedF 0 m (qtP a)).1.x.d,(movedF 0 m (qtP a)).1.y.n,(movedF 0 m (qtP a)).1.y.d⟩:=by
  unfold goP qtP
  with_reducible rfl
 rw [e]
 clear e h
 generalize movedF 0 m (qtP a)=z at h1 ⊢
 exact chkP_zero.2 ⟨h1.1,h1.2⟩
theorem goOk_code {m:Mv} {a:Qt} (h:goOk m a=true):(movedF 0 m (qtP a)).2=0:=by
 unfold goOk at h
 simp only [Bool.and_eq_true,decide_eq_true_eq] at h
 exact h.1
theorem goOk_of {m:Mv} {a:Qt} (h:(movedF 0 m (qtP a)).2=0) (hb:bigP (goP m a)=0):goOk m a=true:=by
 unfold goOk
 simp only [Bool.and_eq_true,decide_eq_true_eq]
 exact ⟨h,by rw [hb];rfl⟩
theorem goOk_big {m:Mv} {a:Qt} (hb:¬ bigP (goP m a)=0):goOk m a=false:=by
 unfold goOk
 simp only [Bool.and_eq_false_iff]
 exact .inr (by simpa using hb)
theorem goOk_code_no {m:Mv} {a:Qt} (h:¬ (movedF 0 m (qtP a)).2=0):goOk m a=false:=by
 cases hg:goOk m a with
 | false=>rfl
 | true=>exact absurd (goOk_code hg) h
theorem ShMove_rt {E:Nat->Addr} (m:Mv) (hm:m.ok) (l:List Qt) (o:Option Addr) (cap:Nat) (w:World) (hok:okSh l) (h:PtsAt w o l) (hN:NE E w) :
  Calls Tryz.prog 165 #[.agg #[.slice o l.length cap],mv m] w fun e W=>GoR E m l w.heap.size e W/\Below w.heap.size w W:=by
 have HC:FineC (E 2) (E 3) (E 2) m:=fineC (ok_all hm) (bad_ok hm)
 have hE:=hN.e3
 have HM:Hid m.ok:=hm
 have HOKS:Hid (okSh l):=hok
 clear hm hN
 obtain ⟨i0,hi,hz0,hz1,hz2⟩:=info_parts infoPt
 go_enter Tryz.func165,Tryz.ntmps165
 go_upto_region 1 with fail
 obtain ⟨U,hU⟩:∃ U,((w.alloc (.cells #[.slice o l.length cap] 43)).alloc (.cells #[.int .i64 m.a.n,.int .i64 m.a.d,.int .i64 m.b.n,.int .i64 m.b.d,.int .i64 m.c.n,.int .i64 m.c.d,.int .i64 m.d.n,.int .i64 m.d.d,.int .i64 m.e.n,.int .i64 m.e.d,.int .i64 m.f.n,.int .i64 m.f.d] 113)).alloc (.cells #[.slice none 0 0] 43)=U:=⟨_,rfl⟩
 obtain ⟨k0,k1,k2,hbU⟩:=heap3 w _ _ _ U hU
 rw [hU]
 clear hU
 have hEU:=hE.below hbU Nat.le.refl
 have CK:=HC U hEU
 have m0:=bcellQ k1 0 _ rfl
 have m1:=bcellQ k1 1 _ rfl
 have m2:=bcellQ k1 2 _ rfl
 have m3:=bcellQ k1 3 _ rfl
 have m4:=bcellQ k1 4 _ rfl
 have m5:=bcellQ k1 5 _ rfl
 have m6:=bcellQ k1 6 _ rfl
 have m7:=bcellQ k1 7 _ rfl
 have m8:=bcellQ k1 8 _ rfl
 have m9:=bcellQ k1 9 _ rfl
 have m10:=bcellQ k1 10 _ rfl
 have m11:=bcellQ k1 11 _ rfl
 go_upto_region 4 with (go_at_call 174;refine CK.mono ?_;rintro e w1 ⟨rfl,b1⟩)
 clear CK m0 m1 m2 m3 m4 m5 m6 m7 m8 m9 m10 m11
 have k0:=blk_keep b1 k0
 have k1:=blk_keep b1 k1
 have k2:=blk_keep b1 k2
 have hb1:=bel_more hbU b1
 have hE1:=hE.below hb1 Nat.le.refl
 have SC:=Check_sh (E 2) (E 3) (E 2) l o cap w1 (h.below hb1 Nat.le.refl) hE1
 have s0:=bcellQ k0 0 _ rfl
 have HOK:Hid (okSh l):=hok
 go_upto_region 7 with (go_at_call 194;refine SC.mono ?_;rintro e w2 ⟨hc,b2⟩;have he:e=.returned .nilIface:=(by rcases hc.plain with ⟨-,h2⟩ | ⟨h1, -⟩;exact h2;exact absurd HOK.out h1);subst he;clear hc)
 clear SC s0
 have k0:=blk_keep b2 k0
 have k1:=blk_keep b2 k1
 have k2:=blk_keep b2 k2
 have hb2:=bel_more hb1 b2
 have hl30:=hok.1
 have s0:=bcellQ k0 0 _ rfl
 clear hok b1 b2 hE1 hEU
 go_wp2_with fail
 go_loopw [8,28] (fun v y wr=>∃ k:Nat,k<=l.length/\y=.int .i64 k/\(∀ a ∈ l.take k,goOk m a=true)/\OwnP wr w2.heap.size v ((l.take k).map (goP m))/\Below w2.heap.size w2 wr) (fun _ y _=>l.length - (intOf y).toNat)
 case atStart=>exact ⟨0,Nat.zero_le _,rfl,by simp,OwnP.nil _ _,Below.refl _ _⟩
 case round=>
  obtain ⟨k,hk,rfl,hall,hown,hb⟩:=hrel
  have HAL:Hid (∀ a ∈ l.take k,goOk m a=true):=hall
  have hpiT:∀ a ∈ (l.take k).map (goP m),PI a:=fun a ha=>by
   obtain ⟨b,hb',rfl⟩:=List.mem_map.1 ha
   exact chkP_pi (goOk_chk HM.out (HOKS.out.2 b (List.mem_of_mem_take hb')) (goOk_code (hall b hb')))
  obtain ⟨ov,cv,rfl, -⟩:=hown.at_ hpiT
  have hlen:((l.take k).map (goP m)).length=k:=by rw [List.length_map,List.length_take];omega
  rw [hlen] at hown ⊢
  have HLEN:Hid (((l.take k).map (goP m)).length=k):=hlen
  clear hall hpiT hlen
  by_cases hlt:k<l.length
  ·have hlt':(k:Int)<(l.length:Int):=by omega
   obtain ⟨a,ha⟩:∃ a,l[k]? = some a:=⟨_,List.getElem?_eq_getElem hlt⟩
   have hmem:=List.mem_of_getElem? ha
   obtain ⟨b,off,ho,hp⟩:=(h.below (bel_more hb2 hb) Nat.le.refl) k a ha
   subst ho
   obtain ⟨c0,c1,c2,c3,hpi⟩:=hp
   have HL:Hid (l[k]? = some a):=ha
   have hE2:=hE.below (bel_more hb2 hb) Nat.le.refl
   have b3:=mbelow wr (.cells #[.int .i64 a.xn,.int .i64 a.xd,.int .i64 a.yn,.int .i64 a.yd] 121)
   have F3:=Four.new wr (.int .i64 a.xn) (.int .i64 a.xd) (.int .i64 a.yn) (.int .i64 a.yd) 121
   have kr:=blk_keep (bel_more hb b3) k1
   have hE3:=hE2.below b3 Nat.le.refl
   by_cases hc0:(movedF 0 m (qtP a)).2=0
   ·have AT:=At_ok (aB:=E 2) (aS:=E 3) (aZ:=E 2) (ok_all HM.out) (pt64 (HOKS.out.2 a hmem)) (atR_ok HM.out (pt_okP (HOKS.out.2 a hmem)) (pair_eq hc0)) _ hE3
    have hcg:chkP (goP m a)=0:=goOk_chk HM.out (HOKS.out.2 a hmem) hc0
    have AT:Calls Tryz.prog 210 #[mv m,qtV a] _ fun e w'=>e=.returned (.tuple #[qtV (goP m a),.nilIface])/\Below _ _ w':=AT
    have HC0:Hid ((movedF 0 m (qtP a)).2=0):=hc0
    clear ha hc0
    go_upto_region 11 with fail
    obtain ⟨V,hV⟩:∃ V,wr.alloc (.cells #[.int .i64 a.xn,.int .i64 a.xd,.int .i64 a.yn,.int .i64 a.yd] 121)=V:=⟨_,rfl⟩
    rw [hV] at b3 F3 kr hE3 AT ⊢
    clear hV c0 c1 c2 c3
    have m0:=bcellQ kr 0 _ rfl
    have m1:=bcellQ kr 1 _ rfl
    have m2:=bcellQ kr 2 _ rfl
    have m3:=bcellQ kr 3 _ rfl
    have m4:=bcellQ kr 4 _ rfl
    have m5:=bcellQ kr 5 _ rfl
    have m6:=bcellQ kr 6 _ rfl
    have m7:=bcellQ kr 7 _ rfl
    have m8:=bcellQ kr 8 _ rfl
    have m9:=bcellQ kr 9 _ rfl
    have m10:=bcellQ kr 10 _ rfl
    have m11:=bcellQ kr 11 _ rfl
    obtain ⟨f0,f1,f2,f3⟩:=F3
    generalize hga:goP m a=q at *
    have HGA:Hid (goP m a=q):=hga
    clear hga
    go_upto_region 12 with (go_at_call 210;refine AT.mono ?_;rintro e w3 ⟨rfl,b4⟩)
    clear AT f0 f1 f2 f3 m0 m1 m2 m3 m4 m5 m6 m7 m8 m9 m10 m11
    have b5:=mbelow w3 (.cells #[.int .i64 q.xn,.int .i64 q.xd,.int .i64 q.yn,.int .i64 q.yd] 121)
    have F5:=Four.new w3 (.int .i64 q.xn) (.int .i64 q.xd) (.int .i64 q.yn) (.int .i64 q.yd) 121
    obtain ⟨V2,hV2⟩:∃ V,w3.alloc (.cells #[.int .i64 q.xn,.int .i64 q.xd,.int .i64 q.yn,.int .i64 q.yd] 121)=V:=⟨_,rfl⟩
    obtain ⟨BQ,hBQ⟩:∃ B,w3.heap.size=B:=⟨_,rfl⟩
    rw [hV2] at b5 F5 ⊢
    have b6:=bel_more (bel_more b3 b4) b5
    rw [hBQ] at F5 ⊢
    clear hV2 hBQ b3 b4 b5 hE3 kr
    have CS:=checkSize_any (E 2) (E 3) (E 2) q V2 (chkP_pi hcg) (chkP_pos hcg) (hE2.below b6 Nat.le.refl)
    obtain ⟨f0,f1,f2,f3⟩:=id F5
    by_cases hx:bigP q=0
    ·rw [hx] at CS
     have HX:Hid (bigP q=0):=hx
     clear hx
     go_upto_region 14 with (go_at_call 211;refine CS.mono ?_;rintro e w4 ⟨rfl,b7⟩;simp only [er_0])
     clear CS f0 f1 f2 f3
     obtain ⟨f0,f1,f2,f3⟩:=F5.below b7 Nat.le.refl
     have b8:=bel_more (bel_more hb b6) b7
     have hz8:=b8.size
     have hown4:w4.ownsRow w2.heap.size 121 4 (.slice ov k cv) k (cellsP ((l.take k).map (goP m))):=by
      have h:=hown.keep (bel_more b6 b7)
      unfold OwnP at h
      rw [HLEN.out] at h
      exact h
     have hz4:=(bel_more b6 b7).size
     have hnb:=World.alloc_heap_new w4 (.cells #[.int .i64 q.xn,.int .i64 q.xd,.int .i64 q.yn,.int .i64 q.yd] 121)
     have owj':(w4.alloc (.cells #[.int .i64 q.xn,.int .i64 q.xd,.int .i64 q.yn,.int .i64 q.yd] 121)).ownsRow w2.heap.size 121 4 (.slice ov k cv) k (cellsP ((l.take k).map (goP m))):=World.ownsRow.alloc hown4 _
     have HT:Hid ((l.take (k+1)).map (goP m)=(l.take k).map (goP m)++[q]/\∀ a ∈ l.take (k+1),goOk m a=true):=by
      have ht:l.take (k+1)=l.take k++[a]:=by rw [List.take_add_one,HL.out];rfl
      constructor
      ·rw [ht,List.map_append,List.map_singleton,HGA.out]
      ·rw [ht]
       intro y hy
       rcases List.mem_append.1 hy with h | h
       ·exact HAL.out y h
       ·simp at h;rw [h];exact goOk_of HC0.out (by rw [HGA.out];exact HX.out)
     generalize (l.take k).map (goP m)=R at *
     clear hown hown4
     go_wp2_with (at_builtin;refine wpList_append_own _ rfl _ _ 41 rfl (w2.heap.size) 121 i0 (.agg #[.int .i64 0,.int .i64 0,.int .i64 0,.int .i64 0]) 4 32 Tryz.underlying41 hi hz0 hz1 hz2 rfl (by decide) _ _ _ rfl owj' _ _ _ (cellsP [q]) rfl (cellsP_len [q]) (World.news_of_block hnb) (cellsP_one _) (by simp only [maxLen];omega) (by omega) (by simp;omega) ?_;intro v12 w12 ow12 gr12 _)
     go_roundw
     case rel=>exact ⟨k+1,by omega,by go_num,HT.out.2,by rw [HT.out.1];rw [<- HLEN.out] at ow12;exact OwnP.app (m:=[q]) ow12 rfl,(b8.alloc hz8 _).grown gr12 (by simp;omega) (own_ge' owj')⟩
     case measure=>simp [intOf];omega
    ·have hx2:bigP q=2:=by have:=bigP_cases q;omega
     rw [hx2] at CS
     have HX:Hid (¬ bigP q=0):=hx
     clear hx hx2
     go_upto_region 13 with (go_at_call 211;refine CS.mono ?_;rintro e w4 ⟨rfl,b7⟩;simp only [er_2])
     clear CS f0 f1 f2 f3
     have b8:=bel_more (bel_more hb b6) b7
     have k24:=blk_keep b8 k2
     have q4:=bcellQ k24 0 _ rfl
     have f4:=bfrozQ k24 0
     have hE4:=(hE.below (bel_more hb2 b8) Nat.le.refl).b
     have hlt4:=(Array.getElem?_eq_some_iff.1 k24).1
     have ne4:¬ w4.heap.size=w.heap.size+1+1:=by omega
     have ne5:¬ w.heap.size+1+1=w4.heap.size:=by omega
     have hlt5:=cell_lt hE.b
     have hE5:(w4.setCell ⟨w.heap.size+1+1,0,none⟩ (.slice none 0 0)).cell? ⟨6,0,none⟩=some (.iface 409 (.pointer (some (E 2)))):=(World.cell?_setCell_far _ _ _ _ (by have:6<w.heap.size:=hlt5;show w.heap.size+1+1≠6;omega)).trans hE4
     clear hlt5
     go_region
     go_wp2_with fail
     have d4:(((w4.setCell ⟨w.heap.size+1+1,0,none⟩ (.slice none 0 0)).alloc (.cells #[.int .i64 k,.iface 409 (.pointer (some (E 2)))] 145)).drew).cell? ⟨w.heap.size+1+1,0,none⟩=some (.slice none 0 0):=cell_al _ (World.cell?_setCell_same' _ _ _ (by rw [q4];rfl))
     have b9:=bel_more hb2 b8
     refine bodyPost_ret (v:=.tuple #[.agg #[.slice none 0 0],.iface 143 (.pointer (some ⟨w4.heap.size,0,none⟩))]) (by simp [results,Tryz.results165,go_sem,d4]) rfl ⟨?_,below_drewN ((b9.setCell (by simp;omega) _).alloc (by simpa using b9.size) _) 1⟩
     refine goR_no hmem ?_ ⟨by decide,by decide,.inr ⟨_,0,rfl,?_⟩⟩
     ·exact goOk_big (by rw [HGA.out];exact HX.out)
     ·show (((w4.setCell ⟨w.heap.size+1+1,0,none⟩ (.slice none 0 0)).alloc (.cells #[.int .i64 k,.iface 409 (.pointer (some (E 2)))] 145))).cell? ⟨w4.heap.size,1,none⟩=some (eV (E 2))
      have hs4:(w4.setCell ⟨w.heap.size+1+1,0,none⟩ (.slice none 0 0)).heap.size=w4.heap.size:=by simp
      have hcn:=bcell (World.alloc_heap_new (w4.setCell ⟨w.heap.size+1+1,0,none⟩ (.slice none 0 0)) (.cells #[.int .i64 k,.iface 409 (.pointer (some (E 2)))] 145)) 1 _ rfl
      rw [hs4] at hcn
      exact hcn
   ·have AT:∀ V,E3 (E 2) (E 3) (E 2) V->Calls Tryz.prog 210 #[mv m,qtV a] V fun e w'=>e=.returned (.tuple #[qtV zQt,eV (E 2)])/\Below V.heap.size V w':=fun V hV=>by
     have h1:=At_no (aB:=E 2) (aS:=E 3) (aZ:=E 2) (m:=m) (p:=qtP a) (ok_all HM.out) (pt64 (HOKS.out.2 a hmem)) (fun q e=>hc0 (by rw [(atR_no e).2.2])) V hV
     have h2:(atR m (qtP a)).2=.bare 2:=by
      unfold atR
      rw [if_neg (by simp [bad_ok HM.out]),if_neg (by simp [badp_ok (pt_okP (HOKS.out.2 a hmem))]),if_neg hc0]
     rw [h2] at h1
     refine h1.mono ?_
     rintro e w' ⟨⟨v,rfl, -,rfl⟩,hb'⟩
     exact ⟨rfl,hb'⟩
    have AT:=AT _ hE3
    have HC0:Hid (¬ (movedF 0 m (qtP a)).2=0):=hc0
    clear ha hc0
    go_upto_region 11 with fail
    obtain ⟨V,hV⟩:∃ V,wr.alloc (.cells #[.int .i64 a.xn,.int .i64 a.xd,.int .i64 a.yn,.int .i64 a.yd] 121)=V:=⟨_,rfl⟩
    rw [hV] at b3 F3 kr hE3 AT ⊢
    clear hV c0 c1 c2 c3
    have m0:=bcellQ kr 0 _ rfl
    have m1:=bcellQ kr 1 _ rfl
    have m2:=bcellQ kr 2 _ rfl
    have m3:=bcellQ kr 3 _ rfl
    have m4:=bcellQ kr 4 _ rfl
    have m5:=bcellQ kr 5 _ rfl
    have m6:=bcellQ kr 6 _ rfl
    have m7:=bcellQ kr 7 _ rfl
    have m8:=bcellQ kr 8 _ rfl
    have m9:=bcellQ kr 9 _ rfl
    have m10:=bcellQ kr 10 _ rfl
    have m11:=bcellQ kr 11 _ rfl
    obtain ⟨f0,f1,f2,f3⟩:=F3
    go_upto_region 12 with (go_at_call 210;refine AT.mono ?_;rintro e w3 ⟨rfl,b4⟩)
    clear AT f0 f1 f2 f3 m0 m1 m2 m3 m4 m5 m6 m7 m8 m9 m10 m11
    have b5:=mbelow w3 (.cells #[.int .i64 0,.int .i64 0,.int .i64 0,.int .i64 0] 121)
    obtain ⟨w4,hV2⟩:∃ V,w3.alloc (.cells #[.int .i64 0,.int .i64 0,.int .i64 0,.int .i64 0] 121)=V:=⟨_,rfl⟩
    rw [hV2] at b5 ⊢
    have b6:=bel_more (bel_more b3 b4) b5
    clear hV2 b3 b4 b5 hE3 kr
    go_upto_region 13 with fail
    have b8:=bel_more hb b6
    have k24:=blk_keep b8 k2
    have q4:=bcellQ k24 0 _ rfl
    have f4:=bfrozQ k24 0
    have hE4:=(hE.below (bel_more hb2 b8) Nat.le.refl).b
    have hlt4:=(Array.getElem?_eq_some_iff.1 k24).1
    have ne4:¬ w4.heap.size=w.heap.size+1+1:=by omega
    have ne5:¬ w.heap.size+1+1=w4.heap.size:=by omega
    have hlt5:=cell_lt hE.b
    have hE5:(w4.setCell ⟨w.heap.size+1+1,0,none⟩ (.slice none 0 0)).cell? ⟨6,0,none⟩=some (.iface 409 (.pointer (some (E 2)))):=(World.cell?_setCell_far _ _ _ _ (by have:6<w.heap.size:=hlt5;show w.heap.size+1+1≠6;omega)).trans hE4
    clear hlt5
    go_region
    go_wp2_with fail
    have d4:(((w4.setCell ⟨w.heap.size+1+1,0,none⟩ (.slice none 0 0)).alloc (.cells #[.int .i64 k,.iface 409 (.pointer (some (E 2)))] 145)).drew).cell? ⟨w.heap.size+1+1,0,none⟩=some (.slice none 0 0):=cell_al _ (World.cell?_setCell_same' _ _ _ (by rw [q4];rfl))
    have b9:=bel_more hb2 b8
    refine bodyPost_ret (v:=.tuple #[.agg #[.slice none 0 0],.iface 143 (.pointer (some ⟨w4.heap.size,0,none⟩))]) (by simp [results,Tryz.results165,go_sem,d4]) rfl ⟨?_,below_drewN ((b9.setCell (by simp;omega) _).alloc (by simpa using b9.size) _) 1⟩
    refine goR_no hmem ?_ ⟨by decide,by decide,.inr ⟨_,0,rfl,?_⟩⟩
    ·exact goOk_code_no HC0.out
    ·show (((w4.setCell ⟨w.heap.size+1+1,0,none⟩ (.slice none 0 0)).alloc (.cells #[.int .i64 k,.iface 409 (.pointer (some (E 2)))] 145))).cell? ⟨w4.heap.size,1,none⟩=some (eV (E 2))
     have hs4:(w4.setCell ⟨w.heap.size+1+1,0,none⟩ (.slice none 0 0)).heap.size=w4.heap.size:=by simp
     have hcn:=bcell (World.alloc_heap_new (w4.setCell ⟨w.heap.size+1+1,0,none⟩ (.slice none 0 0)) (.cells #[.int .i64 k,.iface 409 (.pointer (some (E 2)))] 145)) 1 _ rfl
     rw [hs4] at hcn
     exact hcn
  ·obtain rfl:k=l.length:=by omega
   have b8:=hb
   have k24:=blk_keep b8 k2
   have q4:=bcellQ k24 0 _ rfl
   have f4:=bfrozQ k24 0
   have hlt4:=(Array.getElem?_eq_some_iff.1 k2).1
   go_wp2_with fail
   have d0:(wr.setCell ⟨w.heap.size+1+1,0,none⟩ (.slice ov l.length cv)).cell? ⟨w.heap.size+1+1,0,none⟩=some (.slice ov l.length cv):=World.cell?_setCell_same' _ _ _ (by rw [q4];rfl)
   have hw:w.heap.size<=w2.heap.size:=hb2.size
   refine bodyPost_ret (v:=.tuple #[.agg #[.slice ov l.length cv],.nilIface]) (by simp [results,Tryz.results165,go_sem,d0]) rfl ⟨goR_yes ?_ ?_,(bel_more hb2 hb).setCell (by simp;omega) _⟩
   ·have:=HAL.out
    rwa [List.take_length] at this
   ·have:=(hown.far (b:=w.heap.size+1+1) (u:=.slice ov l.length cv) hlt4).low hw
    rwa [List.take_length] at this
end
section
open Go.RowKit Go.Shelf
set_option maxHeartbeats 4000000
set_option maxRecDepth 20000
def idxI (q:Int->Bool):Nat->List Int->Int
 | _,[] => -1
 | k,x :: l=>if q x then (k:Int) else idxI q (k+1) l
theorem idxI_find (q:Int->Bool):∀ (l:List Int) (k:Nat),(idxI q k l = -1/\l.find? q=none)\/∃ i x,idxI q k l=((k+i:Nat):Int)/\l[i]? = some x/\l.find? q=some x
 | [],_=>.inl ⟨rfl,rfl⟩
 | x :: l,k=>by
  unfold idxI
  rw [List.find?_cons]
  cases hx:q x with
  | true=>exact .inr ⟨0,x,by simp,rfl,rfl⟩
  | false=>
   rcases idxI_find q l (k+1) with ⟨h1,h2⟩ | ⟨i,y,h1,h2,h3⟩
   ·exact .inl ⟨by simpa using h1,h2⟩
   ·exact .inr ⟨i+1,y,by rw [if_neg (by simp),h1];congr 1;omega,by simpa using h2,h3⟩
theorem ints_at {w:World} {B0:Nat} {v:Value} {l:List Int} (h:w.ownsRow B0 3 1 v l.length (intsV l)):(l=[]/\∃ o c,v=.slice o 0 c)\/∃ g cap,v=.slice (some ⟨g,0,none⟩) l.length cap/\l.length<=cap/\∀ k x,l[k]? = some x->w.cell? ⟨g,k,none⟩=some (.int .i64 x):=by
 obtain ⟨o,cap,hvo,h1,h2,h3,h5⟩:=row_slice h
 cases l with
 | nil=>exact .inl ⟨rfl,_,_,hvo⟩
 | cons x0 r=>
  have AT:∀ (k:Nat) (x:Int),(x0 :: r)[k]? = some x->(intsV (x0 :: r))[k]? = some (.int .i64 x):=fun k x hx=>by
   unfold intsV
   rw [List.getElem?_map,hx]
   rfl
  obtain ⟨g,hg, -⟩:=row_get h 0 _ (AT 0 x0 rfl)
  have hog:=h5 g hg
  subst hvo hog
  refine .inr ⟨g,cap,rfl,by omega,fun k x hx=>?_⟩
  obtain ⟨g1,hg1,c1⟩:=row_get h _ _ (AT k x hx)
  rw [hg] at hg1
  cases hg1
  exact c1
def IxL (q:Int->Bool) (l:List Int) (W:World) (y:Value) (wr:World):Prop:=∃ k:Nat,k<=l.length/\y=.int .i64 k/\idxI q 0 l=idxI q k (l.drop k)/\Below W.heap.size W wr
theorem IndexI_any (q:Int->Bool) (l:List Int) (W:World) (f:Nat) (cv:Array Value) (B0:Nat) (v:Value) (hl:l.length<=1000000) (h:W.ownsRow B0 3 1 v l.length (intsV l))
  (HQ:∀ x ∈ l,∀ V,Below W.heap.size W V->Calls Tryz.prog f (#[.int .i64 x]++cv) V fun e w'=>e=.returned (.bool (q x))/\Below V.heap.size V w') (hf:f=220) (hcv:∃ a b,cv=#[.pointer (some a),.pointer (some b)]) :
  Calls Tryz.prog 112 #[v,.func (.func f) #[] cv] W fun e w'=>e=.returned (.int .i64 (idxI q 0 l))/\Below W.heap.size W w':=by
 subst hf
 obtain ⟨a,b,rfl⟩:=hcv
 have HH:Hid (∀ x ∈ l,∀ V,Below W.heap.size W V->Calls Tryz.prog 220 #[.int .i64 x,.pointer (some a),.pointer (some b)] V fun e w'=>e=.returned (.bool (q x))/\Below V.heap.size V w'):=HQ
 clear HQ
 rcases ints_at h with ⟨rfl,o,c,rfl⟩ | ⟨g,cap,rfl,hcap,hc⟩
 ·clear h
  go_enter Tryz.func112,Tryz.ntmps112
  go_wp2_with fail
  go_loopw [8] (fun y wr=>y=.int .i64 0/\wr=W) (fun _ _=>0)
  case atStart=>exact ⟨rfl,rfl⟩
  case round=>
   obtain ⟨rfl,rfl⟩:=hrel
   go_wp2_with fail
   go_ret
   exact ⟨rfl,Below.refl _ _⟩
 ·have H4:Hid (∀ k x,l[k]? = some x->W.cell? ⟨g,k,none⟩=some (.int .i64 x)):=hc
  clear h hc
  have hcap':(l.length:Int)<=(cap:Int):=by omega
  go_enter Tryz.func112,Tryz.ntmps112
  go_wp2_with fail
  go_loopw [8] (fun y wr=>IxL q l W y wr) (fun y _=>l.length - (intOf y).toNat)
  case atStart=>exact ⟨0,Nat.zero_le _,rfl,rfl,Below.refl _ _⟩
  case round=>
   obtain ⟨k,hk,rfl,hf,hb⟩:=hrel
   have HF:Hid (idxI q 0 l=idxI q k (l.drop k)):=hf
   clear hf
   by_cases hlt:k<l.length
   ·have hlt':(k:Int)<(l.length:Int):=by omega
    obtain ⟨x,hx,hd⟩:=drop_at hlt
    have k0:=H4.out k x hx
    have k0:=(hb.cell (cell_lt k0)).trans k0
    have HS:=HH.out x (List.mem_of_getElem? hx) wr hb
    have HD:Hid (l.drop k=x :: l.drop (k+1)):=hd
    clear hx hd
    cases hs:q x with
    | true=>
     rw [hs] at HS
     have hf':Hid (idxI q 0 l=k):=by show _=_;rw [HF.out,HD.out];unfold idxI;rw [if_pos hs]
     clear hs
     go_wp2_with (go_at_call 220;refine HS.mono ?_;rintro e w1 ⟨rfl,hb1⟩)
     go_ret
     exact ⟨by rw [hf'.out];rfl,mbel hb hb1⟩
    | false=>
     rw [hs] at HS
     have hf':Hid (idxI q 0 l=idxI q (k+1) (l.drop (k+1))):=by show _=_;rw [HF.out,HD.out,idxI,if_neg (by rw [hs];simp)]
     clear hs
     go_wp2_with (go_at_call 220;refine HS.mono ?_;rintro e w1 ⟨rfl,hb1⟩)
     go_roundw
     case rel=>exact ⟨k+1,by omega,by go_num,hf'.out,mbel hb hb1⟩
     case measure=>simp [intOf];omega
   ·obtain rfl:k=l.length:=by omega
    have hf':Hid (idxI q 0 l = -1):=by show _=_;rw [HF.out,List.drop_length];rfl
    go_wp2_with fail
    go_ret
    exact ⟨by rw [hf'.out];rfl,hb⟩
section
variable {E:Nat->Addr} {B:Nat} {tg:Tags} {W:World} {DB MB:Nat} {p:Int->Option Nat} {M:Dm} {nx c:Nat} {r:Int->Nat}
theorem led1_any (hd:DocW B tg W DB MB p M nx c) (WB BW BO:Nat) (v:Bs) (hw:W.cell? ⟨WB,0,none⟩=some (.pointer (some ⟨DB,0,none⟩))) (h1:W.cell? ⟨BW,0,none⟩=some (.pointer (some ⟨WB,0,none⟩))) (h2:W.cell? ⟨BO,0,none⟩=some (bV v)) (n:Int) (hn:Wf64 n) :
  Calls Tryz.prog 220 #[.int .i64 n,.pointer (some ⟨BW,0,none⟩),.pointer (some ⟨BO,0,none⟩)] W fun e w'=>e=.returned (.bool (atM M n kId==some v))/\Below W.heap.size W w':=by
 have AT:=Attr_doc hd n hn kId
 rw [attD_atM] at AT
 have H2:=fun V (hV:Below W.heap.size W V)=>(hV.cell (cell_lt h2)).trans h2
 clear hd h2
 cases ha:atM M n kId with
 | none=>
  rw [ha] at AT
  clear ha
  go_enter Tryz.func220,Tryz.ntmps220
  go_wp2_with (go_at_call 28;refine AT.mono ?_;rintro e w1 ⟨rfl,b1⟩)
  go_ret
  exact ⟨rfl,b1⟩
 | some s=>
  rw [ha] at AT
  have hq:=ba_toL s v
  have hs:(some s==some v)=(s==v):=rfl
  rw [hs]
  clear ha hs
  cases hsv:(s==v) with
  | true=>
   rw [hsv] at hq
   go_enter Tryz.func220,Tryz.ntmps220
   go_wp2_with (go_at_call 28;refine AT.mono ?_;rintro e w1 ⟨rfl,b1⟩;have k2:=H2 w1 b1)
   go_ret
   exact ⟨rfl,b1⟩
  | false=>
   rw [hsv] at hq
   go_enter Tryz.func220,Tryz.ntmps220
   go_wp2_with (go_at_call 28;refine AT.mono ?_;rintro e w1 ⟨rfl,b1⟩;have k2:=H2 w1 b1)
   go_ret
   exact ⟨rfl,b1⟩
theorem DocS.all11 (h:DocS B tg W DB MB p M nx c r):Dp M 11 0/\(fromL M 11 0).length<=100:=by
 obtain ⟨e0,he0, -⟩:=h.d.root
 have hp:=h.d.dp 11 0 e0 he0 (by omega)
 refine ⟨hp,?_⟩
 unfold fromL
 rw [h.d.count h.n hp]
 exact h.le
def LdR (x:Option Int) (e:Ending):Prop:=match x with
 | some k=>e=.returned (.tuple #[.int .i64 k,.bool true])
 | none=>e=.returned (.tuple #[.int .i64 0,.bool false])
theorem wf_all (h:DocS B tg W DB MB p M nx c r):∀ x ∈ fromL M 11 0,Wf64 x:=fun x hx=>by
 obtain ⟨e,he⟩:=((h.d.mem h.all11.1).1 hx).in_
 have h1:=h.w.dom x e he
 have h2:=h.w.few
 exact WalkArith.wf_i64 (by omega)
theorem ledTo_any (h:DocS B tg W DB MB p M nx c r) (WB:Nat) (hw:W.cell? ⟨WB,0,none⟩=some (.pointer (some ⟨DB,0,none⟩))) (n:Int) (hn:Wf64 n) :
  Calls Tryz.prog 171 #[.pointer (some ⟨WB,0,none⟩),.int .i64 n] W fun e w'=>LdR (ledM M n) e/\Below W.heap.size W w':=by
 have b0:=mal W (.cells #[.pointer (some ⟨WB,0,none⟩)] 105)
 have K0:=mbox W #[.pointer (some ⟨WB,0,none⟩)] 105
 have AT:=Attr_doc (h.w.below b0) n hn kOf
 have hw0:=(b0.cell (cell_lt hw)).trans hw
 rw [attD_atM] at AT
 have HS:Hid (DocS B tg W DB MB p M nx c r):=h
 unfold ledM
 cases ha:atM M n kOf with
 | none=>
  rw [ha] at AT
  clear ha h
  go_enter Tryz.func171,Tryz.ntmps171
  go_wp2_with (go_at_call 28;refine AT.mono ?_;rintro e w1 ⟨rfl,b1⟩)
  go_ret2
  exact ⟨rfl,mbel (mbel b0 b1) (mal w1 _)⟩
 | some s=>
  rw [ha] at AT
  have AT:Calls Tryz.prog 28 #[.pointer (some ⟨DB,0,none⟩),.int .i64 n,.string ⟨#[111,102]⟩] (W.alloc (.cells #[.pointer (some ⟨WB,0,none⟩)] 105)) fun r w'=>r=.returned (.tuple #[bV s,.bool true])/\Below (W.alloc (.cells #[.pointer (some ⟨WB,0,none⟩)] 105)).heap.size (W.alloc (.cells #[.pointer (some ⟨WB,0,none⟩)] 105)) w':=AT
  clear ha h
  dsimp only
  obtain ⟨L,hL⟩:∃ L,fromL M 11 0=L:=⟨_,rfl⟩
  have hAL:allM M=L:=hL
  rw [hAL]
  have hwfL:=wf_all HS.out
  have hall:=HS.out.all11.2
  rw [hL] at hwfL hall
  have HLL:Hid (fromL M 11 0=L):=hL
  clear hL hAL
  obtain ⟨ans,hans⟩:∃ x,L.find? (fun k=>atM M k kId==some s)=x:=⟨_,rfl⟩
  rw [hans]
  have HANS:Hid (L.find? (fun k=>atM M k kId==some s)=ans):=hans
  clear hans
  go_enter Tryz.func171,Tryz.ntmps171
  go_upto_region 4 with (go_at_call 28;refine AT.mono ?_;rintro e w1 ⟨rfl,b1⟩)
  have b2:=mal w1 (.cells #[bV s] 9)
  have KO:=mbox w1 #[bV s] 9
  obtain ⟨V,hV⟩:∃ V,w1.alloc (.cells #[bV s] 9)=V:=⟨_,rfl⟩
  obtain ⟨BO,hBO⟩:∃ b,w1.heap.size=b:=⟨_,rfl⟩
  rw [hV] at b2 KO ⊢
  rw [hBO] at KO ⊢
  have bV1:=mbel b1 b2
  have bWV:=mbel b0 bV1
  have KW:=(bV1.block _ (blk_lt K0)).trans K0
  have hwV:=(bWV.cell (cell_lt hw)).trans hw
  have SV:=HS.out.below bWV
  have AL:=All_doc SV.w 11 (by decide) SV.all11.1 (by have:=SV.all11.2;omega)
  rw [HLL.out] at AL
  have c0:=bcell KW 0 _ rfl
  clear AT hV hBO b1 b2 b0 K0 hw0 bV1
  go_upto_region 5 with (go_at_call 219;refine AL.mono ?_;rintro e w2 ⟨o,k,rfl,b3,own⟩)
  clear AL
  have B2:=mbel bWV b3
  have hw2:=(b3.cell (cell_lt hwV)).trans hwV
  have KW2:=(b3.block _ (blk_lt KW)).trans KW
  have KO2:=(b3.block _ (blk_lt KO)).trans KO
  have IX:=IndexI_any (fun k=>atM M k kId==some s) L w2 220 #[.pointer (some ⟨W.heap.size,0,none⟩),.pointer (some ⟨BO,0,none⟩)] _ _ (by omega) own
   (fun x hx V2 hV2=>led1_any (HS.out.below (mbel B2 hV2)).w WB W.heap.size BO s ((hV2.cell (cell_lt hw2)).trans hw2) (bcell ((hV2.block _ (blk_lt KW2)).trans KW2) 0 _ rfl) (bcell ((hV2.block _ (blk_lt KO2)).trans KO2) 0 _ rfl) x (hwfL x hx)) rfl ⟨_,_,rfl⟩
  have HI:=idxI_find (fun k=>atM M k kId==some s) L 0
  have HOWN:Hid (w2.ownsRow (V.heap.size+1) 3 1 (.slice o L.length k) L.length (intsV L)):=own
  have han:L.find? (fun k=>atM M k kId==some s)=ans:=HANS.out
  rw [han] at HI
  clear own han
  rcases HI with ⟨h1,rfl⟩ | ⟨i,x,h1,h2,rfl⟩
  ·rw [h1] at IX
   clear h1
   go_wp2_with (go_at_call 112;refine IX.mono ?_;rintro e w3 ⟨rfl,b4⟩)
   go_ret2
   exact ⟨rfl,mbel B2 b4⟩
  ·rw [h1,Nat.zero_add] at IX
   have hil:=(List.getElem?_eq_some_iff.1 h2).1
   have R3:∀ w3,Below w2.heap.size w2 w3->∃ g,o=some ⟨g,0,none⟩/\w3.cell? ⟨g,i,none⟩=some (.int .i64 x):=fun w3 b4=>by
    rcases ints_at HOWN.out with ⟨he, -⟩ | ⟨g,cap,hv, -,hc⟩
    ·rw [he] at hil;simp at hil
    ·injection hv with hv1
     exact ⟨g,hv1,(b4.cell (cell_lt (hc i x h2))).trans (hc i x h2)⟩
   obtain ⟨g,rfl, -⟩:=R3 w2 (Below.refl _ _)
   have hiz:(i:Int)<(L.length:Int):=by omega
   clear h1 h2
   go_wp2_with (go_at_call 112;refine IX.mono ?_;rintro e w3 ⟨rfl,b4⟩;obtain ⟨g',hg',cg⟩:=R3 w3 b4;cases hg')
   go_ret2
   exact ⟨rfl,mbel B2 b4⟩
end
end
section
open Go.RowKit Go.Shelf
set_option maxHeartbeats 2000000
abbrev stV (Bd Bl:Nat):Value:=.func (.func 42) #[] #[.pointer (some ⟨Bd,0,none⟩),.pointer (some ⟨Bl,0,none⟩)]
section
variable {E:Nat->Addr} {B:Nat} {tg:Tags} {W:World} {DB MB:Nat} {p:Int->Option Nat} {M:Dm} {nx c:Nat} {r:Int->Nat}
theorem style_any (h:DocW B tg W DB MB p M nx c) (hw:Wd M r) (hF:FitD M) (l:List Rl) (hok:∀ x ∈ l,RlOk x) (B0:Nat) (v:Value) (hl:W.ownsRow B0 180 3 v l.length (cellsR l)) (Bd Bl:Nat) (h1:W.cell? ⟨Bd,0,none⟩=some (.pointer (some ⟨DB,0,none⟩))) (h2:W.cell? ⟨Bl,0,none⟩=some v) (n:Int) (hn:Wf64 n) (nm:Bs) :
  Calls Tryz.prog 42 #[.int .i64 n,bV nm,.pointer (some ⟨Bd,0,none⟩),.pointer (some ⟨Bl,0,none⟩)] W fun e w'=>e=.returned (bV (ofM M l nm n))/\Below W.heap.size W w':=by
 have OF:=Of_any h hw hF l hok B0 v hl n hn nm
 obtain ⟨ov,kv,rfl⟩:=own_slice hl
 clear h hw hF hok hl
 go_enter Tryz.func42,Tryz.ntmps42
 go_wp2_with (go_at_call 43;refine OF.mono ?_;rintro e w1 ⟨rfl,b1⟩)
 go_ret
 exact ⟨rfl,b1⟩
end
structure P5S where
 nd:Int
 o:Option Addr
 cap:Nat
 pts:List Qt
 fill:Bs
 rule:Bs
 lv:Int
def P5S.pc (x:P5S):Pc:=⟨x.nd,x.pts,x.fill,x.rule,x.lv⟩
abbrev ptsV (x:P5S):Value:=.slice x.o x.pts.length x.cap
def cellsS:List P5S->List Value
 | []=>[]
 | x :: l=>.int .i64 x.nd :: ptsV x :: bV x.fill :: bV x.rule :: .int .i64 x.lv :: cellsS l
theorem cellsS_len:∀ l:List P5S,(cellsS l).length=l.length * 5
 | []=>rfl
 | x :: l=>by simp [cellsS,cellsS_len l];omega
theorem cellsS_app:∀ l m:List P5S,cellsS (l++m)=cellsS l++cellsS m
 | [],_=>rfl
 | x :: l,m=>by simp [cellsS,cellsS_app l m]
structure Sc (base WB DB:Nat) (sf:Value) (k:Nat) (ps:List P5S) (v:Value) (V:World):Prop where
 wb:V.heap[WB]? = some (.cells #[.pointer (some ⟨DB,0,none⟩),sf,.int .i64 k,v] 109)
 own:V.ownsRow base 45 5 v ps.length (cellsS ps)
 pts:∀ x ∈ ps,OwnP V base (ptsV x) x.pts
 rt:∀ x ∈ ps,∀ a ∈ x.pts,chkP a=0
structure Kw (WB:Nat) (v:Value) (V V':World):Prop where
 os:V'.os=V.os
 tape:V'.tape=V.tape
 output:V'.output=V.output
 size:V.heap.size<=V'.heap.size
 block:∀ b,b<V.heap.size->b≠WB->v.ownBlock≠some b->V'.heap[b]? = V.heap[b]?
theorem Kw.refl (WB:Nat) (v:Value) (V:World):Kw WB v V V:=⟨rfl,rfl,rfl,Nat.le_refl _,fun _ _ _ _=>rfl⟩
theorem Kw.of_below {WB:Nat} {v:Value} {V V':World} (h:Below V.heap.size V V'):Kw WB v V V':=⟨h.os,h.tape,h.output,h.size,fun b hb _ _=>h.block b hb⟩
theorem Kw.trans {WB:Nat} {v v':Value} {V V' V'':World} (h:Kw WB v V V') (hv:v'.ownBlock=v.ownBlock\/∀ b,v'.ownBlock=some b->V.heap.size<=b) (h':Kw WB v' V' V''):Kw WB v V V'':=
 ⟨h'.os.trans h.os,h'.tape.trans h.tape,h'.output.trans h.output,Nat.le_trans h.size h'.size,fun b hb h1 h2=>(h'.block b (Nat.lt_of_lt_of_le hb h.size) h1 (fun e=>by
  rcases hv with hv | hv
  ·exact h2 (hv ▸ e)
  ·have:=hv b e;omega)).trans (h.block b hb h1 h2)⟩
theorem own_type {w:World} {base k n:Nat} {t:TypeId} {v:Value} {xs:List Value} (h:w.ownsRow base t k v n xs):∀ g,v.ownBlock=some g->∃ cs f,w.heap[g]? = some (.cells cs t f)/\base<=g:=fun g hg=>by
 rcases h.2 with ⟨h1, -⟩ | ⟨g',cap,cur,h3,h4,h5, -⟩
 ·rw [h1] at hg;cases hg
 ·rw [h3] at hg
  cases hg
  exact ⟨_,_,h5,h4⟩
section
variable {base WB DB:Nat} {sf:Value} {k:Nat} {ps:List P5S} {v:Value} {V V':World}
theorem Sc.keep (h:Sc base WB DB sf k ps v V) (hk:Kw WB v V V') {b:Nat} {cs:Array Value} {t:TypeId} {f:Nat × Nat} (hb:V.heap[b]? = some (.cells cs t f)) (h1:t≠109) (h2:t≠45):V'.heap[b]? = some (.cells cs t f):=by
 refine (hk.block b (blk_lt hb) ?_ ?_).trans hb
 ·rintro rfl
  rw [h.wb] at hb
  cases hb
  exact h1 rfl
 ·intro e
  obtain ⟨cs',f',h3, -⟩:=own_type h.own b e
  rw [h3] at hb
  cases hb
  exact h2 rfl
theorem Sc.low (h:Sc base WB DB sf k ps v V) (hk:Kw WB v V V') (hW:base<=WB) (hb:base<=V.heap.size):Below base V V':=
 ⟨hk.os,hk.tape,hk.output,hk.size,fun j hj=>hk.block j (by omega) (by omega) (fun e=>by
  obtain ⟨-, -, -,h3⟩:=own_type h.own j e
  omega)⟩
theorem Sc.path (h:Sc base WB DB sf k ps v V) (hk:Kw WB v V V') {q:Option Nat} {l:List (Int × Mv)} (hp:PathAt V q l):PathAt V' q l:=
 PathAt.keep (fun b t ht ⟨c,hc⟩=>by subst hc;exact h.keep hk ht (by decide) (by decide)) hp
theorem Sc.below (h:Sc base WB DB sf k ps v V) (hb:Below V.heap.size V V'):Sc base WB DB sf k ps v V':=
 ⟨(hb.block _ (blk_lt h.wb)).trans h.wb,own_bel h.own hb,fun x hx=>(h.pts x hx).keep hb,h.rt⟩
end
end
end Go.Proofs.YtgphclgmmocdhaaGreatDoor

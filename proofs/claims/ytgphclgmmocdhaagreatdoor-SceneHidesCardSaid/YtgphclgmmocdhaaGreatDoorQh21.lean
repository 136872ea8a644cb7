/-
  Parts of the proof.
-/
import Derived.Test.YtgphclgmmocdhaaGreatDoorQh20
namespace Go.Proofs.YtgphclgmmocdhaaGreatDoor
open Go.RowKit
set_option maxHeartbeats 32000000
set_option maxRecDepth 20000
attribute [local go_sem] run_store_func_m run_store_nilFunc'
theorem readL_no {f:Nat} {k:ByteArray} {ws:List ByteArray} {acc:List Mv} {c:Nat} (h:readL f (k :: ws) acc=([],c)) (_hc:c≠0) (hf:1<=f) :
    (kdOf k=none/\c=1)\/(∃ kd,kdOf k=some kd/\ws.length<kd.n/\c=1)\/(∃ kd,kdOf k=some kd/\kd.n<=ws.length/\(kdR kd ws).2=c)\/
      (∃ f' kd m,f=f'+1/\kdOf k=some kd/\kd.n<=ws.length/\kdR kd ws=(m,0)/\readL f' (ws.drop kd.n) (acc++[m])=([],c)):=by
  cases f with
  | zero=>omega
  | succ f=>
    unfold readL at h
    cases hk:kdOf k with
    | none=>rw [hk] at h;exact .inl ⟨rfl,(congrArg Prod.snd h).symm⟩
    | some kd=>
      rw [hk] at h;simp only at h
      by_cases hl:ws.length<kd.n
      · rw [if_pos hl] at h;exact .inr (.inl ⟨kd,rfl,hl,(congrArg Prod.snd h).symm⟩)
      · rw [if_neg hl] at h
        by_cases h0:(kdR kd ws).2=0
        · rw [if_pos h0] at h;exact .inr (.inr (.inr ⟨f,kd,_,rfl,rfl,by omega,Prod.ext rfl h0,h⟩))
        · rw [if_neg h0] at h;exact .inr (.inr (.inl ⟨kd,rfl,by omega,congrArg Prod.snd h⟩))
theorem kd_none {k:ByteArray} (h:kdOf k=none):k≠bMove/\k≠bScale/\k≠bTurn/\k≠bSkew:=by
  unfold kdOf at h
  refine ⟨fun e=>?_,fun e=>?_,fun e=>?_,fun e=>?_⟩
  · rw [if_pos e] at h;cases h
  all_goals
    subst e
    revert h
    decide +kernel
theorem readList_no (aT aB aS:Addr) (s:ByteArray) (ws:List ByteArray) (N c:Nat) (W:World) (hE:E4 aT aB aS W) (hs:s.size<4294967281) (hne:s.toList.isEmpty=false) (hN:Lib.countB s ⟨#[32]⟩+1=N) (hw:Lib.splitB ⟨#[32]⟩ 0 (Lib.countB s ⟨#[32]⟩) s=ws) (hlen:ws.length=N) (hN':N<=1000)
    (hR:readL N ws []=([],c)) (hc:c≠0) (KA:∀ k kd,kdOf k=some kd->kd≠.turn->KindA k kd) (KT:∀ k,kdOf k=some .turn->k=bTurn) (RA:∀ kd,kd≠.turn->ReadA W ws kd) (RT:ReadT W ws) (WA:∀ kd,kd≠.turn->WrongA aT aB aS W ws kd) (WT:WrongT aT aB aS W ws) :
    Calls Tryz.prog 172 #[.string s] W fun e w'=>e=.returned (.tuple #[.slice none 0 0,.iface 409 (.pointer (some (eA aT aB aS c)))])/\Below W.heap.size W w':=by
  have HS:=split_any s hs W
  rw [hw,hN] at HS
  clear hs
  obtain ⟨i0,hi,hz0,hz1,hz2⟩:=info_parts infoMove
  go_enter Tryz.func172,Tryz.ntmps172
  go_wp2_with (go_at_call 217;refine HS.mono ?_;rintro e w' ⟨rfl,rfl⟩)
  go_loopw [4,5] (fun lv wv wr=>∃ (j r f:Nat) (acc:List Mv),j+r=N/\acc.length<=j/\(∃ a,wv=.slice a r r/\(r≠0->a=some ⟨W.heap.size,j,none⟩))/\wr.ownsRow (W.heap.size+1) 113 12 lv acc.length (cellsM acc)/\Blk wr W.heap.size (ws.map Value.string).toArray 9/\Below W.heap.size W wr/\r<=f/\readL f (ws.drop j) acc=([],c)) (fun _ wv _=>lenOf wv)
  case atStart=>exact ⟨0,N,N,[],by omega,by simp,⟨_,rfl,fun _=>rfl⟩,World.ownsRow_nil _ _ _ _,Blk.new W _ _,(Below.refl _ W).alloc Nat.le.refl _,Nat.le_refl _,hR⟩
  case round=>
    obtain ⟨j,r,f,acc,hjr,haj,⟨ad,rfl,had⟩,hown,hblk,hlow,hrf,hRf⟩:=hrel
    cases r with
    | zero=>
      have hd:ws.drop j=[]:=List.drop_eq_nil_of_le (by omega)
      rw [hd] at hRf
      have hacc:(0:Nat)=c:=by cases f <;> exact congrArg Prod.snd hRf
      exact (hc hacc.symm).elim
    | succ r=>
      obtain rfl:=had (by omega)
      clear had
      obtain ⟨k,hk,hd⟩:=drop_cons hlen hjr
      rw [hd] at hRf
      have hRf':=readL_no hRf hc (by omega)
      clear hRf hR
      have c0:=words_at hblk hk
      clear hd
      rcases hRf' with ⟨hkd,rfl⟩ | ⟨kd,hkd,hnl,rfl⟩ | ⟨kd,hkd,hnl,hkr⟩ | ⟨f',kd,m,hff,hkd,hnl,hkr,hRg⟩
      · obtain ⟨q1,q2,q3,q4⟩:=kd_none hkd
        have hKN:=fun V=>kindOf_none k V q1 q2 q3 q4
        clear q1 q2 q3 q4 KA RA RT WA WT
        rcases Nat.eq_zero_or_pos r with hr0 | hr1
        · subst hr0
          go_wp2_with (go_at_call 221;refine (hKN _).mono ?_;rintro e w1 ⟨rfl,hb1⟩;have L1:=hlow.trans (hb1.mono hlow.size))
          have L2:=L1.alloc L1.size (.cells #[.int .i64 0,.nilFunc] 305)
          obtain ⟨V,hV⟩:∃ V,w1.alloc (.cells #[.int .i64 0,.nilFunc] 305)=V:=⟨_,rfl⟩
          rw [hV] at L2 ⊢
          clear hV
          have cT:=(hE.below L2 Nat.le.refl).t
          clear hb1 hlow hblk hown c0 L1
          go_region
          go_wp2
          go_ret2
          exact ⟨rfl,below_drewN L2 1⟩
        · have hr1':(1:Int)<=(r:Int):=by omega
          go_wp2_with (go_at_call 221;refine (hKN _).mono ?_;rintro e w1 ⟨rfl,hb1⟩;have L1:=hlow.trans (hb1.mono hlow.size))
          have L2:=L1.alloc L1.size (.cells #[.int .i64 0,.nilFunc] 305)
          obtain ⟨V,hV⟩:∃ V,w1.alloc (.cells #[.int .i64 0,.nilFunc] 305)=V:=⟨_,rfl⟩
          rw [hV] at L2 ⊢
          clear hV
          have cT:=(hE.below L2 Nat.le.refl).t
          clear hb1 hlow hblk hown c0 L1
          go_region
          go_wp2
          go_ret2
          exact ⟨rfl,below_drewN L2 1⟩
      · rw [List.length_drop] at hnl
        by_cases ht:kd=.turn
        · subst ht
          have hkt:=KT k hkd
          subst hkt
          rw [show Kd.turn.n=1 from rfl] at hnl
          have hr0:r=0:=by omega
          subst hr0
          clear KA RA RT WA WT
          go_wp2_with (go_at_call 221;refine (kindOf_turn _).mono ?_;rintro e w1 ⟨rfl,hb1⟩;have L1:=hlow.trans (hb1.mono hlow.size);have B1:=hblk.below hb1 Nat.le.refl)
          have L2:=L1.alloc L1.size (.cells #[.int .i64 1,.func (.func 269) #[] #[]] 305)
          obtain ⟨V,hV⟩:∃ V,w1.alloc (.cells #[.int .i64 1,.func (.func 269) #[] #[]] 305)=V:=⟨_,rfl⟩
          rw [hV] at L2 ⊢
          clear hV
          have cT:=(hE.below L2 Nat.le.refl).t
          clear hb1 hlow hblk hown c0 L1
          go_region
          go_wp2
          go_ret2
          exact ⟨rfl,below_drewN L2 1⟩
        · have hKA:=KA k kd hkd ht
          unfold KindA at hKA
          obtain ⟨hn1,hn2⟩:=kd.n_pos
          generalize kd.n=n at *
          have hnr:r<n:=by omega
          have hnr':(r:Int)<(n:Int):=by omega
          clear KA RA RT WA WT
          rcases Nat.eq_zero_or_pos r with hr0 | hr1
          · subst hr0
            go_wp2_with (go_at_call 221;refine (hKA _).mono ?_;rintro e w1 ⟨⟨B,hB,rfl,hBc⟩,hb1⟩;have L1:=hlow.trans (hb1.mono hlow.size);have B1:=hblk.below hb1 Nat.le.refl)
            have L2:=L1.alloc L1.size (.cells #[.int .i64 n,.func (.func 301) #[] #[.pointer (some ⟨B,0,none⟩)]] 305)
            obtain ⟨V,hV⟩:∃ V,w1.alloc (.cells #[.int .i64 n,.func (.func 301) #[] #[.pointer (some ⟨B,0,none⟩)]] 305)=V:=⟨_,rfl⟩
            rw [hV] at L2 ⊢
            clear hV
            have cT:=(hE.below L2 Nat.le.refl).t
            clear hb1 hlow hblk hown c0 L1
            go_region
            go_wp2
            go_ret2
            exact ⟨rfl,below_drewN L2 1⟩
          · have hr1':(1:Int)<=(r:Int):=by omega
            go_wp2_with (go_at_call 221;refine (hKA _).mono ?_;rintro e w1 ⟨⟨B,hB,rfl,hBc⟩,hb1⟩;have L1:=hlow.trans (hb1.mono hlow.size);have B1:=hblk.below hb1 Nat.le.refl)
            have L2:=L1.alloc L1.size (.cells #[.int .i64 n,.func (.func 301) #[] #[.pointer (some ⟨B,0,none⟩)]] 305)
            obtain ⟨V,hV⟩:∃ V,w1.alloc (.cells #[.int .i64 n,.func (.func 301) #[] #[.pointer (some ⟨B,0,none⟩)]] 305)=V:=⟨_,rfl⟩
            rw [hV] at L2 ⊢
            clear hV
            have cT:=(hE.below L2 Nat.le.refl).t
            clear hb1 hlow hblk hown c0 L1
            go_region
            go_wp2
            go_ret2
            exact ⟨rfl,below_drewN L2 1⟩
      · rw [List.length_drop] at hnl
        by_cases ht:kd=.turn
        · subst ht
          have hkt:=KT k hkd
          subst hkt
          have hWT:=WT
          unfold WrongT at hWT
          rw [show Kd.turn.n=1 from rfl] at hnl
          have hnr:1<=r:=by omega
          have hnr':(1:Int)<=(r:Int):=by omega
          clear KA RA RT WA WT
          go_wp2_with (go_at_call 221;refine (kindOf_turn _).mono ?_;rintro e w1 ⟨rfl,hb1⟩;have L1:=hlow.trans (hb1.mono hlow.size);have B1:=hblk.below hb1 Nat.le.refl)
          have K2:=Blk.new w1 #[.int .i64 1,.func (.func 269) #[] #[]] 305
          have L2:=L1.alloc L1.size (.cells #[.int .i64 1,.func (.func 269) #[] #[]] 305)
          have B2:=B1.alloc (.cells #[.int .i64 1,.func (.func 269) #[] #[]] 305)
          obtain ⟨V,hV⟩:∃ V,w1.alloc (.cells #[.int .i64 1,.func (.func 269) #[] #[]] 305)=V:=⟨_,rfl⟩
          have hVs:w1.heap.size<V.heap.size:=by rw [<- hV];simp
          rw [hV] at K2 L2 B2 ⊢
          clear hV L1 B1 hb1
          have hlt:=K2.lt
          have L3:=L2.alloc L2.size (.cells #[.int .i64 0,.int .i64 0,.int .i64 0,.int .i64 0,.int .i64 0,.int .i64 0,.int .i64 0,.int .i64 0,.int .i64 0,.int .i64 0,.int .i64 0,.int .i64 0] 113)
          have L2d:Below W.heap.size W V.drew:=below_drewN L2 1
          have L3d:Below W.heap.size W (V.alloc (.cells #[.int .i64 0,.int .i64 0,.int .i64 0,.int .i64 0,.int .i64 0,.int .i64 0,.int .i64 0,.int .i64 0,.int .i64 0,.int .i64 0,.int .i64 0,.int .i64 0] 113)).drew:=below_drewN L3 1
          have B2d:=B2.drew
          have B3d:=(B2.alloc (.cells #[.int .i64 0,.int .i64 0,.int .i64 0,.int .i64 0,.int .i64 0,.int .i64 0,.int .i64 0,.int .i64 0,.int .i64 0,.int .i64 0,.int .i64 0,.int .i64 0] 113)).drew
          have HZ:∀ u,Below (V.alloc (.cells #[.int .i64 0,.int .i64 0,.int .i64 0,.int .i64 0,.int .i64 0,.int .i64 0,.int .i64 0,.int .i64 0,.int .i64 0,.int .i64 0,.int .i64 0,.int .i64 0] 113)).drew.heap.size (V.alloc (.cells #[.int .i64 0,.int .i64 0,.int .i64 0,.int .i64 0,.int .i64 0,.int .i64 0,.int .i64 0,.int .i64 0,.int .i64 0,.int .i64 0,.int .i64 0,.int .i64 0] 113)).drew u->Blk u V.heap.size #[.int .i64 0,.int .i64 0,.int .i64 0,.int .i64 0,.int .i64 0,.int .i64 0,.int .i64 0,.int .i64 0,.int .i64 0,.int .i64 0,.int .i64 0,.int .i64 0] 113:=fun u h=>blk_after h
          have k0:=K2.cell 0 _ rfl
          have k1:=K2.cell 1 _ rfl
          have k0d:V.drew.cell? ⟨w1.heap.size,0,none⟩=some (.int .i64 1):=k0
          have k1d:V.drew.cell? ⟨w1.heap.size,1,none⟩=some (.func (.func 269) #[] #[]):=k1
          have k0e:(V.alloc (.cells #[.int .i64 0,.int .i64 0,.int .i64 0,.int .i64 0,.int .i64 0,.int .i64 0,.int .i64 0,.int .i64 0,.int .i64 0,.int .i64 0,.int .i64 0,.int .i64 0] 113)).drew.cell? ⟨w1.heap.size,0,none⟩=some (.int .i64 1):=cell_al _ k0
          have k1e:(V.alloc (.cells #[.int .i64 0,.int .i64 0,.int .i64 0,.int .i64 0,.int .i64 0,.int .i64 0,.int .i64 0,.int .i64 0,.int .i64 0,.int .i64 0,.int .i64 0,.int .i64 0] 113)).drew.cell? ⟨w1.heap.size,1,none⟩=some (.func (.func 269) #[] #[]):=cell_al _ k1
          have nv:w1.heap.size≠V.heap.size:=by omega
          have nv':¬ V.heap.size=w1.heap.size:=by omega
          have hle:j+1+1<=ws.length:=by omega
          go_cut [8,9] from 14 to 56 (fun p v wx=>v=.iface 409 (.pointer (some (eA aT aB aS c)))/\(∃ R,p=.pointer (some ⟨R,0,none⟩))/\Below V.heap.size V wx)
          case first=>
            go_region_held3 (fun w'=>w'.cell? ⟨w1.heap.size,0,none⟩=some (.int .i64 1)/\w'.cell? ⟨w1.heap.size,1,none⟩=some (.func (.func 269) #[] #[])) (refine ⟨?_,?_⟩ <;> (repeat rw [World.cell?_setCell_far _ _ _ _ nv']) <;> assumption) ((go_at_call 269;refine (hWT _ (j+1) _ c ?_ ?_ hle hkr hc).mono ?_;(first | exact L2d | exact L3d);(first | exact B2d | exact B3d);rintro e w3 ⟨rfl,hb3⟩;dsimp only [Mv.zero,Fr.zero];have hz3:=hb3.size;have hs3:=keep_b hb3 (by assumption);obtain ⟨j0,j1⟩:=hs3;have y0:=fun o=>cell_al o j0;have y1:=fun o=>cell_al o j1;have y4:=cell_al (.cells #[.int .i64 0,.int .i64 0,.int .i64 0,.int .i64 0,.int .i64 0,.int .i64 0,.int .i64 0,.int .i64 0,.int .i64 0,.int .i64 0,.int .i64 0,.int .i64 0] 113) j0;have y5:=cell_al (.cells #[.int .i64 0,.int .i64 0,.int .i64 0,.int .i64 0,.int .i64 0,.int .i64 0,.int .i64 0,.int .i64 0,.int .i64 0,.int .i64 0,.int .i64 0,.int .i64 0] 113) j1;(first | (have BZ:=HZ _ hb3;have zc0:=BZ.cell 0 _ rfl;have zf0:=BZ.froz 0 _ rfl;have zc1:=BZ.cell 1 _ rfl;have zf1:=BZ.froz 1 _ rfl;have zc2:=BZ.cell 2 _ rfl;have zf2:=BZ.froz 2 _ rfl;have zc3:=BZ.cell 3 _ rfl;have zf3:=BZ.froz 3 _ rfl;have zc4:=BZ.cell 4 _ rfl;have zf4:=BZ.froz 4 _ rfl;have zc5:=BZ.cell 5 _ rfl;have zf5:=BZ.froz 5 _ rfl;have zc6:=BZ.cell 6 _ rfl;have zf6:=BZ.froz 6 _ rfl;have zc7:=BZ.cell 7 _ rfl;have zf7:=BZ.froz 7 _ rfl;have zc8:=BZ.cell 8 _ rfl;have zf8:=BZ.froz 8 _ rfl;have zc9:=BZ.cell 9 _ rfl;have zf9:=BZ.froz 9 _ rfl;have zc10:=BZ.cell 10 _ rfl;have zf10:=BZ.froz 10 _ rfl;have zc11:=BZ.cell 11 _ rfl;have zf11:=BZ.froz 11 _ rfl) | skip)))
            · go_wp2_with fail
              go_meet
              exact ⟨rfl,⟨_,rfl⟩,(undrew hb3).alloc hz3 _⟩
            · go_wp2_with fail
              go_meet
              have hb4:Below V.heap.size V w3:=((Below.refl V.heap.size V).alloc Nat.le.refl (.cells #[.int .i64 0,.int .i64 0,.int .i64 0,.int .i64 0,.int .i64 0,.int .i64 0,.int .i64 0,.int .i64 0,.int .i64 0,.int .i64 0,.int .i64 0,.int .i64 0] 113)).trans ((undrew hb3).mono (by simp))
              exact ⟨rfl,⟨_,rfl⟩,put_below (R:=V.heap.size) Nat.le.refl [.int .i64 0,.int .i64 0,.int .i64 0,.int .i64 0,.int .i64 0,.int .i64 0,.int .i64 0,.int .i64 0,.int .i64 0,.int .i64 0,.int .i64 0,.int .i64 0] 0 hb4⟩
          case rest=>
            obtain ⟨rfl,⟨R',rfl⟩,hbV⟩:=hcut
            go_wp2_with fail
            go_ret2
            exact ⟨rfl,L2.trans (hbV.mono L2.size)⟩
        · have hKA:=KA k kd hkd ht
          have hWA:=WA kd ht
          unfold KindA at hKA
          unfold WrongA at hWA
          obtain ⟨hn1,hn2⟩:=kd.n_pos
          generalize kd.n=n at *
          have hnr:n<=r:=by omega
          have hnr':(n:Int)<=(r:Int):=by omega
          have hn0:(0:Int)<=(n:Int):=by omega
          clear KA RA RT WA WT
          go_wp2_with (go_at_call 221;refine (hKA _).mono ?_;rintro e w1 ⟨⟨B,hB,rfl,hBc⟩,hb1⟩;have L1:=hlow.trans (hb1.mono hlow.size);have B1:=hblk.below hb1 Nat.le.refl)
          have K2:=Blk.new w1 #[.int .i64 n,.func (.func 301) #[] #[.pointer (some ⟨B,0,none⟩)]] 305
          have L2:=L1.alloc L1.size (.cells #[.int .i64 n,.func (.func 301) #[] #[.pointer (some ⟨B,0,none⟩)]] 305)
          have B2:=B1.alloc (.cells #[.int .i64 n,.func (.func 301) #[] #[.pointer (some ⟨B,0,none⟩)]] 305)
          obtain ⟨V,hV⟩:∃ V,w1.alloc (.cells #[.int .i64 n,.func (.func 301) #[] #[.pointer (some ⟨B,0,none⟩)]] 305)=V:=⟨_,rfl⟩
          have hVs:w1.heap.size<V.heap.size:=by rw [<- hV];simp
          rw [hV] at K2 L2 B2 ⊢
          clear hV L1 B1 hb1
          have hlt:=K2.lt
          have L3:=L2.alloc L2.size (.cells #[.int .i64 0,.int .i64 0,.int .i64 0,.int .i64 0,.int .i64 0,.int .i64 0,.int .i64 0,.int .i64 0,.int .i64 0,.int .i64 0,.int .i64 0,.int .i64 0] 113)
          have L2d:Below W.heap.size W V.drew:=below_drewN L2 1
          have L3d:Below W.heap.size W (V.alloc (.cells #[.int .i64 0,.int .i64 0,.int .i64 0,.int .i64 0,.int .i64 0,.int .i64 0,.int .i64 0,.int .i64 0,.int .i64 0,.int .i64 0,.int .i64 0,.int .i64 0] 113)).drew:=below_drewN L3 1
          have B2d:=B2.drew
          have B3d:=(B2.alloc (.cells #[.int .i64 0,.int .i64 0,.int .i64 0,.int .i64 0,.int .i64 0,.int .i64 0,.int .i64 0,.int .i64 0,.int .i64 0,.int .i64 0,.int .i64 0,.int .i64 0] 113)).drew
          have HZ:∀ u,Below (V.alloc (.cells #[.int .i64 0,.int .i64 0,.int .i64 0,.int .i64 0,.int .i64 0,.int .i64 0,.int .i64 0,.int .i64 0,.int .i64 0,.int .i64 0,.int .i64 0,.int .i64 0] 113)).drew.heap.size (V.alloc (.cells #[.int .i64 0,.int .i64 0,.int .i64 0,.int .i64 0,.int .i64 0,.int .i64 0,.int .i64 0,.int .i64 0,.int .i64 0,.int .i64 0,.int .i64 0,.int .i64 0] 113)).drew u->Blk u V.heap.size #[.int .i64 0,.int .i64 0,.int .i64 0,.int .i64 0,.int .i64 0,.int .i64 0,.int .i64 0,.int .i64 0,.int .i64 0,.int .i64 0,.int .i64 0,.int .i64 0] 113:=fun u h=>blk_after h
          have k0:=K2.cell 0 _ rfl
          have k1:=K2.cell 1 _ rfl
          have k0d:V.drew.cell? ⟨w1.heap.size,0,none⟩=some (.int .i64 n):=k0
          have k1d:V.drew.cell? ⟨w1.heap.size,1,none⟩=some (.func (.func 301) #[] #[.pointer (some ⟨B,0,none⟩)]):=k1
          have k0e:(V.alloc (.cells #[.int .i64 0,.int .i64 0,.int .i64 0,.int .i64 0,.int .i64 0,.int .i64 0,.int .i64 0,.int .i64 0,.int .i64 0,.int .i64 0,.int .i64 0,.int .i64 0] 113)).drew.cell? ⟨w1.heap.size,0,none⟩=some (.int .i64 n):=cell_al _ k0
          have k1e:(V.alloc (.cells #[.int .i64 0,.int .i64 0,.int .i64 0,.int .i64 0,.int .i64 0,.int .i64 0,.int .i64 0,.int .i64 0,.int .i64 0,.int .i64 0,.int .i64 0,.int .i64 0] 113)).drew.cell? ⟨w1.heap.size,1,none⟩=some (.func (.func 301) #[] #[.pointer (some ⟨B,0,none⟩)]):=cell_al _ k1
          have nv:w1.heap.size≠V.heap.size:=by omega
          have nv':¬ V.heap.size=w1.heap.size:=by omega
          have hle:j+1+n<=ws.length:=by omega
          go_cut [8,9] from 14 to 56 (fun p v wx=>v=.iface 409 (.pointer (some (eA aT aB aS c)))/\(∃ R,p=.pointer (some ⟨R,0,none⟩))/\Below V.heap.size V wx)
          case first=>
            go_region_held3 (fun w'=>w'.cell? ⟨w1.heap.size,0,none⟩=some (.int .i64 n)/\w'.cell? ⟨w1.heap.size,1,none⟩=some (.func (.func 301) #[] #[.pointer (some ⟨B,0,none⟩)])) (refine ⟨?_,?_⟩ <;> (repeat rw [World.cell?_setCell_far _ _ _ _ nv']) <;> assumption) ((go_at_call 301;refine (hWA _ (j+1) B _ c ?_ ?_ hle hkr hc).mono ?_;(first | exact L2d | exact L3d);(first | exact B2d | exact B3d);rintro e w3 ⟨rfl,hb3⟩;dsimp only [Mv.zero,Fr.zero];have hz3:=hb3.size;have hs3:=keep_b hb3 (by assumption);obtain ⟨j0,j1⟩:=hs3;have y0:=fun o=>cell_al o j0;have y1:=fun o=>cell_al o j1;have y4:=cell_al (.cells #[.int .i64 0,.int .i64 0,.int .i64 0,.int .i64 0,.int .i64 0,.int .i64 0,.int .i64 0,.int .i64 0,.int .i64 0,.int .i64 0,.int .i64 0,.int .i64 0] 113) j0;have y5:=cell_al (.cells #[.int .i64 0,.int .i64 0,.int .i64 0,.int .i64 0,.int .i64 0,.int .i64 0,.int .i64 0,.int .i64 0,.int .i64 0,.int .i64 0,.int .i64 0,.int .i64 0] 113) j1;(first | (have BZ:=HZ _ hb3;have zc0:=BZ.cell 0 _ rfl;have zf0:=BZ.froz 0 _ rfl;have zc1:=BZ.cell 1 _ rfl;have zf1:=BZ.froz 1 _ rfl;have zc2:=BZ.cell 2 _ rfl;have zf2:=BZ.froz 2 _ rfl;have zc3:=BZ.cell 3 _ rfl;have zf3:=BZ.froz 3 _ rfl;have zc4:=BZ.cell 4 _ rfl;have zf4:=BZ.froz 4 _ rfl;have zc5:=BZ.cell 5 _ rfl;have zf5:=BZ.froz 5 _ rfl;have zc6:=BZ.cell 6 _ rfl;have zf6:=BZ.froz 6 _ rfl;have zc7:=BZ.cell 7 _ rfl;have zf7:=BZ.froz 7 _ rfl;have zc8:=BZ.cell 8 _ rfl;have zf8:=BZ.froz 8 _ rfl;have zc9:=BZ.cell 9 _ rfl;have zf9:=BZ.froz 9 _ rfl;have zc10:=BZ.cell 10 _ rfl;have zf10:=BZ.froz 10 _ rfl;have zc11:=BZ.cell 11 _ rfl;have zf11:=BZ.froz 11 _ rfl) | skip)))
            · go_wp2_with fail
              go_meet
              exact ⟨rfl,⟨_,rfl⟩,(undrew hb3).alloc hz3 _⟩
            · go_wp2_with fail
              go_meet
              have hb4:Below V.heap.size V w3:=((Below.refl V.heap.size V).alloc Nat.le.refl (.cells #[.int .i64 0,.int .i64 0,.int .i64 0,.int .i64 0,.int .i64 0,.int .i64 0,.int .i64 0,.int .i64 0,.int .i64 0,.int .i64 0,.int .i64 0,.int .i64 0] 113)).trans ((undrew hb3).mono (by simp))
              exact ⟨rfl,⟨_,rfl⟩,put_below (R:=V.heap.size) Nat.le.refl [.int .i64 0,.int .i64 0,.int .i64 0,.int .i64 0,.int .i64 0,.int .i64 0,.int .i64 0,.int .i64 0,.int .i64 0,.int .i64 0,.int .i64 0,.int .i64 0] 0 hb4⟩
          case rest=>
            obtain ⟨rfl,⟨R',rfl⟩,hbV⟩:=hcut
            go_wp2_with fail
            go_ret2
            exact ⟨rfl,L2.trans (hbV.mono L2.size)⟩
      · rw [List.length_drop] at hnl
        by_cases ht:kd=.turn
        · subst ht
          have hkt:=KT k hkd
          subst hkt
          have hRT:=RT
          unfold ReadT at hRT
          rw [show Kd.turn.n=1 from rfl] at hnl hRg
          have hnr:1<=r:=by omega
          have hnr':(1:Int)<=(r:Int):=by omega
          clear KA RA RT WA WT
          go_wp2_with (go_at_call 221;refine (kindOf_turn _).mono ?_;rintro e w1 ⟨rfl,hb1⟩;have L1:=hlow.trans (hb1.mono hlow.size);have B1:=hblk.below hb1 Nat.le.refl;have O1:=ownsRow_below hown hb1)
          have K2:=Blk.new w1 #[.int .i64 1,.func (.func 269) #[] #[]] 305
          have L2:=L1.alloc L1.size (.cells #[.int .i64 1,.func (.func 269) #[] #[]] 305)
          have B2:=B1.alloc (.cells #[.int .i64 1,.func (.func 269) #[] #[]] 305)
          have O2:=O1.alloc (.cells #[.int .i64 1,.func (.func 269) #[] #[]] 305)
          have q1:=hb1.size
          obtain ⟨V,hV⟩:∃ V,w1.alloc (.cells #[.int .i64 1,.func (.func 269) #[] #[]] 305)=V:=⟨_,rfl⟩
          have hVs:w1.heap.size<V.heap.size:=by rw [<- hV];simp
          rw [hV] at K2 L2 B2 O2 ⊢
          clear hV L1 B1 O1 hb1
          have hlt:=K2.lt
          have hOh:=own_hi hown
          have hOl:=own_lo hown
          have L3:=L2.alloc L2.size (.cells #[.int .i64 0,.int .i64 0,.int .i64 0,.int .i64 0,.int .i64 0,.int .i64 0,.int .i64 0,.int .i64 0,.int .i64 0,.int .i64 0,.int .i64 0,.int .i64 0] 113)
          have L2d:Below W.heap.size W V.drew:=below_drewN L2 1
          have L3d:Below W.heap.size W (V.alloc (.cells #[.int .i64 0,.int .i64 0,.int .i64 0,.int .i64 0,.int .i64 0,.int .i64 0,.int .i64 0,.int .i64 0,.int .i64 0,.int .i64 0,.int .i64 0,.int .i64 0] 113)).drew:=below_drewN L3 1
          have B2d:=B2.drew
          have B3d:=(B2.alloc (.cells #[.int .i64 0,.int .i64 0,.int .i64 0,.int .i64 0,.int .i64 0,.int .i64 0,.int .i64 0,.int .i64 0,.int .i64 0,.int .i64 0,.int .i64 0,.int .i64 0] 113)).drew
          have HZ:∀ u,Below (V.alloc (.cells #[.int .i64 0,.int .i64 0,.int .i64 0,.int .i64 0,.int .i64 0,.int .i64 0,.int .i64 0,.int .i64 0,.int .i64 0,.int .i64 0,.int .i64 0,.int .i64 0] 113)).drew.heap.size (V.alloc (.cells #[.int .i64 0,.int .i64 0,.int .i64 0,.int .i64 0,.int .i64 0,.int .i64 0,.int .i64 0,.int .i64 0,.int .i64 0,.int .i64 0,.int .i64 0,.int .i64 0] 113)).drew u->Blk u V.heap.size #[.int .i64 0,.int .i64 0,.int .i64 0,.int .i64 0,.int .i64 0,.int .i64 0,.int .i64 0,.int .i64 0,.int .i64 0,.int .i64 0,.int .i64 0,.int .i64 0] 113:=fun u h=>blk_after h
          have k0:=K2.cell 0 _ rfl
          have k1:=K2.cell 1 _ rfl
          have k0d:V.drew.cell? ⟨w1.heap.size,0,none⟩=some (.int .i64 1):=k0
          have k1d:V.drew.cell? ⟨w1.heap.size,1,none⟩=some (.func (.func 269) #[] #[]):=k1
          have k0e:(V.alloc (.cells #[.int .i64 0,.int .i64 0,.int .i64 0,.int .i64 0,.int .i64 0,.int .i64 0,.int .i64 0,.int .i64 0,.int .i64 0,.int .i64 0,.int .i64 0,.int .i64 0] 113)).drew.cell? ⟨w1.heap.size,0,none⟩=some (.int .i64 1):=cell_al _ k0
          have k1e:(V.alloc (.cells #[.int .i64 0,.int .i64 0,.int .i64 0,.int .i64 0,.int .i64 0,.int .i64 0,.int .i64 0,.int .i64 0,.int .i64 0,.int .i64 0,.int .i64 0,.int .i64 0] 113)).drew.cell? ⟨w1.heap.size,1,none⟩=some (.func (.func 269) #[] #[]):=cell_al _ k1
          have nv:w1.heap.size≠V.heap.size:=by omega
          have nv':¬ V.heap.size=w1.heap.size:=by omega
          have hle:j+1+1<=ws.length:=by omega
          go_cut [8,9] from 14 to 56 (fun p v wx=>v=.nilIface/\∃ R,p=.pointer (some ⟨R,0,none⟩)/\V.heap.size<=R/\(∀ j u,[.int .i64 m.a.n,.int .i64 m.a.d,.int .i64 m.b.n,.int .i64 m.b.d,.int .i64 m.c.n,.int .i64 m.c.d,.int .i64 m.d.n,.int .i64 m.d.d,.int .i64 m.e.n,.int .i64 m.e.d,.int .i64 m.f.n,.int .i64 m.f.d][j]? = some u->wx.cell? ⟨R,j,none⟩=some u)/\Below V.heap.size V wx)
          case first=>
            go_region_held3 (fun w'=>w'.cell? ⟨w1.heap.size,0,none⟩=some (.int .i64 1)/\w'.cell? ⟨w1.heap.size,1,none⟩=some (.func (.func 269) #[] #[])) (refine ⟨?_,?_⟩ <;> (repeat rw [World.cell?_setCell_far _ _ _ _ nv']) <;> assumption) ((go_at_call 269;refine (hRT _ (j+1) _ m ?_ ?_ hle hkr).mono ?_;(first | exact L2d | exact L3d);(first | exact B2d | exact B3d);rintro e w3 ⟨rfl,hb3⟩;have hz3:=hb3.size;have hs3:=keep_b hb3 (by assumption);obtain ⟨j0,j1⟩:=hs3;have y0:=fun o=>cell_al o j0;have y1:=fun o=>cell_al o j1;have y2:=cell_al (.cells #[.int .i64 m.a.n,.int .i64 m.a.d,.int .i64 m.b.n,.int .i64 m.b.d,.int .i64 m.c.n,.int .i64 m.c.d,.int .i64 m.d.n,.int .i64 m.d.d,.int .i64 m.e.n,.int .i64 m.e.d,.int .i64 m.f.n,.int .i64 m.f.d] 113) j0;have y3:=cell_al (.cells #[.int .i64 m.a.n,.int .i64 m.a.d,.int .i64 m.b.n,.int .i64 m.b.d,.int .i64 m.c.n,.int .i64 m.c.d,.int .i64 m.d.n,.int .i64 m.d.d,.int .i64 m.e.n,.int .i64 m.e.d,.int .i64 m.f.n,.int .i64 m.f.d] 113) j1;have y4:=cell_al (.cells #[.int .i64 0,.int .i64 0,.int .i64 0,.int .i64 0,.int .i64 0,.int .i64 0,.int .i64 0,.int .i64 0,.int .i64 0,.int .i64 0,.int .i64 0,.int .i64 0] 113) j0;have y5:=cell_al (.cells #[.int .i64 0,.int .i64 0,.int .i64 0,.int .i64 0,.int .i64 0,.int .i64 0,.int .i64 0,.int .i64 0,.int .i64 0,.int .i64 0,.int .i64 0,.int .i64 0] 113) j1;(first | (have BZ:=HZ _ hb3;have zc0:=BZ.cell 0 _ rfl;have zf0:=BZ.froz 0 _ rfl;have zc1:=BZ.cell 1 _ rfl;have zf1:=BZ.froz 1 _ rfl;have zc2:=BZ.cell 2 _ rfl;have zf2:=BZ.froz 2 _ rfl;have zc3:=BZ.cell 3 _ rfl;have zf3:=BZ.froz 3 _ rfl;have zc4:=BZ.cell 4 _ rfl;have zf4:=BZ.froz 4 _ rfl;have zc5:=BZ.cell 5 _ rfl;have zf5:=BZ.froz 5 _ rfl;have zc6:=BZ.cell 6 _ rfl;have zf6:=BZ.froz 6 _ rfl;have zc7:=BZ.cell 7 _ rfl;have zf7:=BZ.froz 7 _ rfl;have zc8:=BZ.cell 8 _ rfl;have zf8:=BZ.froz 8 _ rfl;have zc9:=BZ.cell 9 _ rfl;have zf9:=BZ.froz 9 _ rfl;have zc10:=BZ.cell 10 _ rfl;have zf10:=BZ.froz 10 _ rfl;have zc11:=BZ.cell 11 _ rfl;have zf11:=BZ.froz 11 _ rfl) | skip)))
            · go_wp2_with fail
              go_meet
              exact ⟨rfl,w3.heap.size,rfl,hz3,list_at (cs:=[.int .i64 m.a.n,.int .i64 m.a.d,.int .i64 m.b.n,.int .i64 m.b.d,.int .i64 m.c.n,.int .i64 m.c.d,.int .i64 m.d.n,.int .i64 m.d.d,.int .i64 m.e.n,.int .i64 m.e.d,.int .i64 m.f.n,.int .i64 m.f.d]),(undrew hb3).alloc hz3 _⟩
            · go_wp2_with fail
              go_meet
              have hb4:Below V.heap.size V w3:=((Below.refl V.heap.size V).alloc Nat.le.refl (.cells #[.int .i64 0,.int .i64 0,.int .i64 0,.int .i64 0,.int .i64 0,.int .i64 0,.int .i64 0,.int .i64 0,.int .i64 0,.int .i64 0,.int .i64 0,.int .i64 0] 113)).trans ((undrew hb3).mono (by simp))
              have hat:=put_at (R:=V.heap.size) [.int .i64 m.a.n,.int .i64 m.a.d,.int .i64 m.b.n,.int .i64 m.b.d,.int .i64 m.c.n,.int .i64 m.c.d,.int .i64 m.d.n,.int .i64 m.d.d,.int .i64 m.e.n,.int .i64 m.e.d,.int .i64 m.f.n,.int .i64 m.f.d] 0 w3 (fun i hi=>blk_some BZ i hi)
              simp only [Nat.zero_add] at hat
              exact ⟨rfl,V.heap.size,rfl,Nat.le_refl _,hat,put_below (R:=V.heap.size) Nat.le.refl [.int .i64 m.a.n,.int .i64 m.a.d,.int .i64 m.b.n,.int .i64 m.b.d,.int .i64 m.c.n,.int .i64 m.c.d,.int .i64 m.d.n,.int .i64 m.d.d,.int .i64 m.e.n,.int .i64 m.e.d,.int .i64 m.f.n,.int .i64 m.f.d] 0 hb4⟩
          case rest=>
            obtain ⟨rfl,R',rfl,hR',hcells,hbV⟩:=hcut
            have KC:=K2.below hbV Nat.le.refl
            have kk:=KC.cell 0 _ rfl
            have LC:=L2.trans (hbV.mono L2.size)
            have BC:=B2.below hbV Nat.le.refl
            have OC:=((ownsRow_below O2 hbV).alloc (.cells #[.int .i64 m.a.n,.int .i64 m.a.d,.int .i64 m.b.n,.int .i64 m.b.d,.int .i64 m.c.n,.int .i64 m.c.d,.int .i64 m.d.n,.int .i64 m.d.d,.int .i64 m.e.n,.int .i64 m.e.d,.int .i64 m.f.n,.int .i64 m.f.d] 113))
            have OCd:(wc.alloc (.cells #[.int .i64 m.a.n,.int .i64 m.a.d,.int .i64 m.b.n,.int .i64 m.b.d,.int .i64 m.c.n,.int .i64 m.c.d,.int .i64 m.d.n,.int .i64 m.d.d,.int .i64 m.e.n,.int .i64 m.e.d,.int .i64 m.f.n,.int .i64 m.f.d] 113)).drew.ownsRow (W.heap.size+1) 113 12 u4 acc.length (cellsM acc):=OC
            obtain ⟨m0,m1,m2,m3,m4,m5,m6,m7,m8,m9,m10,m11⟩:=And.intro (hcells 0 _ rfl) (And.intro (hcells 1 _ rfl) (And.intro (hcells 2 _ rfl) (And.intro (hcells 3 _ rfl) (And.intro (hcells 4 _ rfl) (And.intro (hcells 5 _ rfl) (And.intro (hcells 6 _ rfl) (And.intro (hcells 7 _ rfl) (And.intro (hcells 8 _ rfl) (And.intro (hcells 9 _ rfl) (And.intro (hcells 10 _ rfl) (hcells 11 _ rfl)))))))))))
            have szC:=hbV.size
            clear hcells k0 k1 k0d k1d k0e k1e HZ L2d L3d L3 B2d B3d OC
            have H0:=World.alloc_heap_new wc (.cells #[.int .i64 m.a.n,.int .i64 m.a.d,.int .i64 m.b.n,.int .i64 m.b.d,.int .i64 m.c.n,.int .i64 m.c.d,.int .i64 m.d.n,.int .i64 m.d.d,.int .i64 m.e.n,.int .i64 m.e.d,.int .i64 m.f.n,.int .i64 m.f.d] 113)
            go_wp2_with fail
            go_region_held3 (fun w'=>w'.cell? ⟨R',0,none⟩=some (.int .i64 m.a.n)/\w'.cell? ⟨R',1,none⟩=some (.int .i64 m.a.d)/\w'.cell? ⟨R',2,none⟩=some (.int .i64 m.b.n)/\w'.cell? ⟨R',3,none⟩=some (.int .i64 m.b.d)/\w'.cell? ⟨R',4,none⟩=some (.int .i64 m.c.n)/\w'.cell? ⟨R',5,none⟩=some (.int .i64 m.c.d)/\w'.cell? ⟨R',6,none⟩=some (.int .i64 m.d.n)/\w'.cell? ⟨R',7,none⟩=some (.int .i64 m.d.d)/\w'.cell? ⟨R',8,none⟩=some (.int .i64 m.e.n)/\w'.cell? ⟨R',9,none⟩=some (.int .i64 m.e.d)/\w'.cell? ⟨R',10,none⟩=some (.int .i64 m.f.n)/\w'.cell? ⟨R',11,none⟩=some (.int .i64 m.f.d)/\w'.cell? ⟨w1.heap.size,0,none⟩=some (.int .i64 1)) (refine ⟨?_,?_,?_,?_,?_,?_,?_,?_,?_,?_,?_,?_,?_⟩ <;> first | assumption | exact cell_al _ (by assumption) | exact hA _ _ (by assumption) (by simp only;omega)) ((refine step_append_lies _ rfl (.tmp 49) (.tmp 51) 247 rfl (W.heap.size+1) 113 i0 (.agg #[.int .i64 0,.int .i64 0,.int .i64 0,.int .i64 0,.int .i64 0,.int .i64 0,.int .i64 0,.int .i64 0,.int .i64 0,.int .i64 0,.int .i64 0,.int .i64 0]) 12 96 Tryz.underlying247 hi hz0 hz1 hz2 rfl (by decide) u4 acc.length (cellsM acc) rfl OCd ⟨wc.heap.size,0,none⟩ 1 1 [.int .i64 m.a.n,.int .i64 m.a.d,.int .i64 m.b.n,.int .i64 m.b.d,.int .i64 m.c.n,.int .i64 m.c.d,.int .i64 m.d.n,.int .i64 m.d.d,.int .i64 m.e.n,.int .i64 m.e.d,.int .i64 m.f.n,.int .i64 m.f.d] rfl rfl (World.news_of_block (w:=(wc.alloc (.cells #[.int .i64 m.a.n,.int .i64 m.a.d,.int .i64 m.b.n,.int .i64 m.b.d,.int .i64 m.c.n,.int .i64 m.c.d,.int .i64 m.d.n,.int .i64 m.d.d,.int .i64 m.e.n,.int .i64 m.e.d,.int .i64 m.f.n,.int .i64 m.f.d] 113)).drew) (cs:=#[.int .i64 m.a.n,.int .i64 m.a.d,.int .i64 m.b.n,.int .i64 m.b.d,.int .i64 m.c.n,.int .i64 m.c.d,.int .i64 m.d.n,.int .i64 m.d.d,.int .i64 m.e.n,.int .i64 m.e.d,.int .i64 m.f.n,.int .i64 m.f.d]) H0) one12 (by decide) (by unfold maxLen;omega) (by omega) (by have:=LC.size;simp;omega) _ rfl ?_;intro g cap w5 hown5 hgrow hat hlt5;have hgr:World.grownBy (wc.alloc (.cells #[.int .i64 m.a.n,.int .i64 m.a.d,.int .i64 m.b.n,.int .i64 m.b.d,.int .i64 m.c.n,.int .i64 m.c.d,.int .i64 m.d.n,.int .i64 m.d.d,.int .i64 m.e.n,.int .i64 m.e.d,.int .i64 m.f.n,.int .i64 m.f.d] 113)).drew w5 u4.ownBlock:=hgrow;have hA:∀ p v,wc.cell? p=some v->(p.block=W.heap.size\/w1.heap.size<=p.block)->w5.cell? p=some v:=(fun p v h hp=>(hgr.cell_far p (by have:=cell_lt h;simp;omega) (fun e=>by have:=hOh _ e.symm;have:=hOl _ e.symm;have:=q1;omega)).trans (cell_al (W:=wc) _ h))))
            go_wp2_with fail
            rw [List.drop_drop] at hRg
            refine ⟨⟨j+1+1,r - 1,f',acc++[m],by omega,by simp;omega,⟨_,rfl,fun h=>by rw [if_neg (by omega)]⟩,by rw [List.length_append,cellsM_snoc];exact hown5,((BC.alloc (.cells #[.int .i64 m.a.n,.int .i64 m.a.d,.int .i64 m.b.n,.int .i64 m.b.d,.int .i64 m.c.n,.int .i64 m.c.d,.int .i64 m.d.n,.int .i64 m.d.d,.int .i64 m.e.n,.int .i64 m.e.d,.int .i64 m.f.n,.int .i64 m.f.d] 113)).drew).grown hgr (fun e=>by have:=hOl _ e;omega),(below_drewN (LC.alloc LC.size (.cells #[.int .i64 m.a.n,.int .i64 m.a.d,.int .i64 m.b.n,.int .i64 m.b.d,.int .i64 m.c.n,.int .i64 m.c.d,.int .i64 m.d.n,.int .i64 m.d.d,.int .i64 m.e.n,.int .i64 m.e.d,.int .i64 m.f.n,.int .i64 m.f.d] 113)) 1).grown hgr (by have:=LC.size;simp;omega) (fun k e=>by have:=hOl k e;omega),by omega,hRg⟩,by simp only [lenOf];omega⟩
        · have hKA:=KA k kd hkd ht
          have hRA:=RA kd ht
          unfold KindA at hKA
          unfold ReadA at hRA
          obtain ⟨hn1,hn2⟩:=kd.n_pos
          generalize kd.n=n at *
          have hnr:n<=r:=by omega
          have hnr':(n:Int)<=(r:Int):=by omega
          have hn0:(0:Int)<=(n:Int):=by omega
          clear KA RA RT WA WT
          go_wp2_with (go_at_call 221;refine (hKA _).mono ?_;rintro e w1 ⟨⟨B,hB,rfl,hBc⟩,hb1⟩;have L1:=hlow.trans (hb1.mono hlow.size);have B1:=hblk.below hb1 Nat.le.refl;have O1:=ownsRow_below hown hb1)
          have C2:=cell_al (.cells #[.int .i64 n,.func (.func 301) #[] #[.pointer (some ⟨B,0,none⟩)]] 305) hBc
          have K2:=Blk.new w1 #[.int .i64 n,.func (.func 301) #[] #[.pointer (some ⟨B,0,none⟩)]] 305
          have L2:=L1.alloc L1.size (.cells #[.int .i64 n,.func (.func 301) #[] #[.pointer (some ⟨B,0,none⟩)]] 305)
          have B2:=B1.alloc (.cells #[.int .i64 n,.func (.func 301) #[] #[.pointer (some ⟨B,0,none⟩)]] 305)
          have O2:=O1.alloc (.cells #[.int .i64 n,.func (.func 301) #[] #[.pointer (some ⟨B,0,none⟩)]] 305)
          have q1:=hb1.size
          obtain ⟨V,hV⟩:∃ V,w1.alloc (.cells #[.int .i64 n,.func (.func 301) #[] #[.pointer (some ⟨B,0,none⟩)]] 305)=V:=⟨_,rfl⟩
          have hVs:w1.heap.size<V.heap.size:=by rw [<- hV];simp
          rw [hV] at K2 L2 B2 O2 C2 ⊢
          clear hV L1 B1 O1 hb1 hBc
          have hlt:=K2.lt
          have hOh:=own_hi hown
          have hOl:=own_lo hown
          have L3:=L2.alloc L2.size (.cells #[.int .i64 0,.int .i64 0,.int .i64 0,.int .i64 0,.int .i64 0,.int .i64 0,.int .i64 0,.int .i64 0,.int .i64 0,.int .i64 0,.int .i64 0,.int .i64 0] 113)
          have L2d:Below W.heap.size W V.drew:=below_drewN L2 1
          have L3d:Below W.heap.size W (V.alloc (.cells #[.int .i64 0,.int .i64 0,.int .i64 0,.int .i64 0,.int .i64 0,.int .i64 0,.int .i64 0,.int .i64 0,.int .i64 0,.int .i64 0,.int .i64 0,.int .i64 0] 113)).drew:=below_drewN L3 1
          have B2d:=B2.drew
          have B3d:=(B2.alloc (.cells #[.int .i64 0,.int .i64 0,.int .i64 0,.int .i64 0,.int .i64 0,.int .i64 0,.int .i64 0,.int .i64 0,.int .i64 0,.int .i64 0,.int .i64 0,.int .i64 0] 113)).drew
          have C2d:V.drew.cell? ⟨B,0,none⟩=some (.func (.func kd.f) #[] #[]):=C2
          have C3d:(V.alloc (.cells #[.int .i64 0,.int .i64 0,.int .i64 0,.int .i64 0,.int .i64 0,.int .i64 0,.int .i64 0,.int .i64 0,.int .i64 0,.int .i64 0,.int .i64 0,.int .i64 0] 113)).drew.cell? ⟨B,0,none⟩=some (.func (.func kd.f) #[] #[]):=cell_al _ C2
          have HZ:∀ u,Below (V.alloc (.cells #[.int .i64 0,.int .i64 0,.int .i64 0,.int .i64 0,.int .i64 0,.int .i64 0,.int .i64 0,.int .i64 0,.int .i64 0,.int .i64 0,.int .i64 0,.int .i64 0] 113)).drew.heap.size (V.alloc (.cells #[.int .i64 0,.int .i64 0,.int .i64 0,.int .i64 0,.int .i64 0,.int .i64 0,.int .i64 0,.int .i64 0,.int .i64 0,.int .i64 0,.int .i64 0,.int .i64 0] 113)).drew u->Blk u V.heap.size #[.int .i64 0,.int .i64 0,.int .i64 0,.int .i64 0,.int .i64 0,.int .i64 0,.int .i64 0,.int .i64 0,.int .i64 0,.int .i64 0,.int .i64 0,.int .i64 0] 113:=fun u h=>blk_after h
          have k0:=K2.cell 0 _ rfl
          have k1:=K2.cell 1 _ rfl
          have k0d:V.drew.cell? ⟨w1.heap.size,0,none⟩=some (.int .i64 n):=k0
          have k1d:V.drew.cell? ⟨w1.heap.size,1,none⟩=some (.func (.func 301) #[] #[.pointer (some ⟨B,0,none⟩)]):=k1
          have k0e:(V.alloc (.cells #[.int .i64 0,.int .i64 0,.int .i64 0,.int .i64 0,.int .i64 0,.int .i64 0,.int .i64 0,.int .i64 0,.int .i64 0,.int .i64 0,.int .i64 0,.int .i64 0] 113)).drew.cell? ⟨w1.heap.size,0,none⟩=some (.int .i64 n):=cell_al _ k0
          have k1e:(V.alloc (.cells #[.int .i64 0,.int .i64 0,.int .i64 0,.int .i64 0,.int .i64 0,.int .i64 0,.int .i64 0,.int .i64 0,.int .i64 0,.int .i64 0,.int .i64 0,.int .i64 0] 113)).drew.cell? ⟨w1.heap.size,1,none⟩=some (.func (.func 301) #[] #[.pointer (some ⟨B,0,none⟩)]):=cell_al _ k1
          have nv:w1.heap.size≠V.heap.size:=by omega
          have nv':¬ V.heap.size=w1.heap.size:=by omega
          have hle:j+1+n<=ws.length:=by omega
          go_cut [8,9] from 14 to 56 (fun p v wx=>v=.nilIface/\∃ R,p=.pointer (some ⟨R,0,none⟩)/\V.heap.size<=R/\(∀ j u,[.int .i64 m.a.n,.int .i64 m.a.d,.int .i64 m.b.n,.int .i64 m.b.d,.int .i64 m.c.n,.int .i64 m.c.d,.int .i64 m.d.n,.int .i64 m.d.d,.int .i64 m.e.n,.int .i64 m.e.d,.int .i64 m.f.n,.int .i64 m.f.d][j]? = some u->wx.cell? ⟨R,j,none⟩=some u)/\Below V.heap.size V wx)
          case first=>
            go_region_held3 (fun w'=>w'.cell? ⟨w1.heap.size,0,none⟩=some (.int .i64 n)/\w'.cell? ⟨w1.heap.size,1,none⟩=some (.func (.func 301) #[] #[.pointer (some ⟨B,0,none⟩)])) (refine ⟨?_,?_⟩ <;> (repeat rw [World.cell?_setCell_far _ _ _ _ nv']) <;> assumption) ((go_at_call 301;refine (hRA _ (j+1) B _ m ?_ ?_ ?_ hle hkr).mono ?_;(first | exact L2d | exact L3d);(first | exact B2d | exact B3d);(first | exact C2d | exact C3d);rintro e w3 ⟨rfl,hb3⟩;have hz3:=hb3.size;have hs3:=keep_b hb3 (by assumption);obtain ⟨j0,j1⟩:=hs3;have y0:=fun o=>cell_al o j0;have y1:=fun o=>cell_al o j1;have y2:=cell_al (.cells #[.int .i64 m.a.n,.int .i64 m.a.d,.int .i64 m.b.n,.int .i64 m.b.d,.int .i64 m.c.n,.int .i64 m.c.d,.int .i64 m.d.n,.int .i64 m.d.d,.int .i64 m.e.n,.int .i64 m.e.d,.int .i64 m.f.n,.int .i64 m.f.d] 113) j0;have y3:=cell_al (.cells #[.int .i64 m.a.n,.int .i64 m.a.d,.int .i64 m.b.n,.int .i64 m.b.d,.int .i64 m.c.n,.int .i64 m.c.d,.int .i64 m.d.n,.int .i64 m.d.d,.int .i64 m.e.n,.int .i64 m.e.d,.int .i64 m.f.n,.int .i64 m.f.d] 113) j1;have y4:=cell_al (.cells #[.int .i64 0,.int .i64 0,.int .i64 0,.int .i64 0,.int .i64 0,.int .i64 0,.int .i64 0,.int .i64 0,.int .i64 0,.int .i64 0,.int .i64 0,.int .i64 0] 113) j0;have y5:=cell_al (.cells #[.int .i64 0,.int .i64 0,.int .i64 0,.int .i64 0,.int .i64 0,.int .i64 0,.int .i64 0,.int .i64 0,.int .i64 0,.int .i64 0,.int .i64 0,.int .i64 0] 113) j1;(first | (have BZ:=HZ _ hb3;have zc0:=BZ.cell 0 _ rfl;have zf0:=BZ.froz 0 _ rfl;have zc1:=BZ.cell 1 _ rfl;have zf1:=BZ.froz 1 _ rfl;have zc2:=BZ.cell 2 _ rfl;have zf2:=BZ.froz 2 _ rfl;have zc3:=BZ.cell 3 _ rfl;have zf3:=BZ.froz 3 _ rfl;have zc4:=BZ.cell 4 _ rfl;have zf4:=BZ.froz 4 _ rfl;have zc5:=BZ.cell 5 _ rfl;have zf5:=BZ.froz 5 _ rfl;have zc6:=BZ.cell 6 _ rfl;have zf6:=BZ.froz 6 _ rfl;have zc7:=BZ.cell 7 _ rfl;have zf7:=BZ.froz 7 _ rfl;have zc8:=BZ.cell 8 _ rfl;have zf8:=BZ.froz 8 _ rfl;have zc9:=BZ.cell 9 _ rfl;have zf9:=BZ.froz 9 _ rfl;have zc10:=BZ.cell 10 _ rfl;have zf10:=BZ.froz 10 _ rfl;have zc11:=BZ.cell 11 _ rfl;have zf11:=BZ.froz 11 _ rfl) | skip)))
            · go_wp2_with fail
              go_meet
              exact ⟨rfl,w3.heap.size,rfl,hz3,list_at (cs:=[.int .i64 m.a.n,.int .i64 m.a.d,.int .i64 m.b.n,.int .i64 m.b.d,.int .i64 m.c.n,.int .i64 m.c.d,.int .i64 m.d.n,.int .i64 m.d.d,.int .i64 m.e.n,.int .i64 m.e.d,.int .i64 m.f.n,.int .i64 m.f.d]),(undrew hb3).alloc hz3 _⟩
            · go_wp2_with fail
              go_meet
              have hb4:Below V.heap.size V w3:=((Below.refl V.heap.size V).alloc Nat.le.refl (.cells #[.int .i64 0,.int .i64 0,.int .i64 0,.int .i64 0,.int .i64 0,.int .i64 0,.int .i64 0,.int .i64 0,.int .i64 0,.int .i64 0,.int .i64 0,.int .i64 0] 113)).trans ((undrew hb3).mono (by simp))
              have hat:=put_at (R:=V.heap.size) [.int .i64 m.a.n,.int .i64 m.a.d,.int .i64 m.b.n,.int .i64 m.b.d,.int .i64 m.c.n,.int .i64 m.c.d,.int .i64 m.d.n,.int .i64 m.d.d,.int .i64 m.e.n,.int .i64 m.e.d,.int .i64 m.f.n,.int .i64 m.f.d] 0 w3 (fun i hi=>blk_some BZ i hi)
              simp only [Nat.zero_add] at hat
              exact ⟨rfl,V.heap.size,rfl,Nat.le_refl _,hat,put_below (R:=V.heap.size) Nat.le.refl [.int .i64 m.a.n,.int .i64 m.a.d,.int .i64 m.b.n,.int .i64 m.b.d,.int .i64 m.c.n,.int .i64 m.c.d,.int .i64 m.d.n,.int .i64 m.d.d,.int .i64 m.e.n,.int .i64 m.e.d,.int .i64 m.f.n,.int .i64 m.f.d] 0 hb4⟩
          case rest=>
            obtain ⟨rfl,R',rfl,hR',hcells,hbV⟩:=hcut
            have KC:=K2.below hbV Nat.le.refl
            have kk:=KC.cell 0 _ rfl
            have LC:=L2.trans (hbV.mono L2.size)
            have BC:=B2.below hbV Nat.le.refl
            have OC:=((ownsRow_below O2 hbV).alloc (.cells #[.int .i64 m.a.n,.int .i64 m.a.d,.int .i64 m.b.n,.int .i64 m.b.d,.int .i64 m.c.n,.int .i64 m.c.d,.int .i64 m.d.n,.int .i64 m.d.d,.int .i64 m.e.n,.int .i64 m.e.d,.int .i64 m.f.n,.int .i64 m.f.d] 113))
            have OCd:(wc.alloc (.cells #[.int .i64 m.a.n,.int .i64 m.a.d,.int .i64 m.b.n,.int .i64 m.b.d,.int .i64 m.c.n,.int .i64 m.c.d,.int .i64 m.d.n,.int .i64 m.d.d,.int .i64 m.e.n,.int .i64 m.e.d,.int .i64 m.f.n,.int .i64 m.f.d] 113)).drew.ownsRow (W.heap.size+1) 113 12 u4 acc.length (cellsM acc):=OC
            obtain ⟨m0,m1,m2,m3,m4,m5,m6,m7,m8,m9,m10,m11⟩:=And.intro (hcells 0 _ rfl) (And.intro (hcells 1 _ rfl) (And.intro (hcells 2 _ rfl) (And.intro (hcells 3 _ rfl) (And.intro (hcells 4 _ rfl) (And.intro (hcells 5 _ rfl) (And.intro (hcells 6 _ rfl) (And.intro (hcells 7 _ rfl) (And.intro (hcells 8 _ rfl) (And.intro (hcells 9 _ rfl) (And.intro (hcells 10 _ rfl) (hcells 11 _ rfl)))))))))))
            have szC:=hbV.size
            clear hcells k0 k1 k0d k1d k0e k1e HZ L2d L3d L3 B2d B3d OC
            have H0:=World.alloc_heap_new wc (.cells #[.int .i64 m.a.n,.int .i64 m.a.d,.int .i64 m.b.n,.int .i64 m.b.d,.int .i64 m.c.n,.int .i64 m.c.d,.int .i64 m.d.n,.int .i64 m.d.d,.int .i64 m.e.n,.int .i64 m.e.d,.int .i64 m.f.n,.int .i64 m.f.d] 113)
            go_wp2_with fail
            go_region_held3 (fun w'=>w'.cell? ⟨R',0,none⟩=some (.int .i64 m.a.n)/\w'.cell? ⟨R',1,none⟩=some (.int .i64 m.a.d)/\w'.cell? ⟨R',2,none⟩=some (.int .i64 m.b.n)/\w'.cell? ⟨R',3,none⟩=some (.int .i64 m.b.d)/\w'.cell? ⟨R',4,none⟩=some (.int .i64 m.c.n)/\w'.cell? ⟨R',5,none⟩=some (.int .i64 m.c.d)/\w'.cell? ⟨R',6,none⟩=some (.int .i64 m.d.n)/\w'.cell? ⟨R',7,none⟩=some (.int .i64 m.d.d)/\w'.cell? ⟨R',8,none⟩=some (.int .i64 m.e.n)/\w'.cell? ⟨R',9,none⟩=some (.int .i64 m.e.d)/\w'.cell? ⟨R',10,none⟩=some (.int .i64 m.f.n)/\w'.cell? ⟨R',11,none⟩=some (.int .i64 m.f.d)/\w'.cell? ⟨w1.heap.size,0,none⟩=some (.int .i64 n)) (refine ⟨?_,?_,?_,?_,?_,?_,?_,?_,?_,?_,?_,?_,?_⟩ <;> first | assumption | exact cell_al _ (by assumption) | exact hA _ _ (by assumption) (by simp only;omega)) ((refine step_append_lies _ rfl (.tmp 49) (.tmp 51) 247 rfl (W.heap.size+1) 113 i0 (.agg #[.int .i64 0,.int .i64 0,.int .i64 0,.int .i64 0,.int .i64 0,.int .i64 0,.int .i64 0,.int .i64 0,.int .i64 0,.int .i64 0,.int .i64 0,.int .i64 0]) 12 96 Tryz.underlying247 hi hz0 hz1 hz2 rfl (by decide) u4 acc.length (cellsM acc) rfl OCd ⟨wc.heap.size,0,none⟩ 1 1 [.int .i64 m.a.n,.int .i64 m.a.d,.int .i64 m.b.n,.int .i64 m.b.d,.int .i64 m.c.n,.int .i64 m.c.d,.int .i64 m.d.n,.int .i64 m.d.d,.int .i64 m.e.n,.int .i64 m.e.d,.int .i64 m.f.n,.int .i64 m.f.d] rfl rfl (World.news_of_block (w:=(wc.alloc (.cells #[.int .i64 m.a.n,.int .i64 m.a.d,.int .i64 m.b.n,.int .i64 m.b.d,.int .i64 m.c.n,.int .i64 m.c.d,.int .i64 m.d.n,.int .i64 m.d.d,.int .i64 m.e.n,.int .i64 m.e.d,.int .i64 m.f.n,.int .i64 m.f.d] 113)).drew) (cs:=#[.int .i64 m.a.n,.int .i64 m.a.d,.int .i64 m.b.n,.int .i64 m.b.d,.int .i64 m.c.n,.int .i64 m.c.d,.int .i64 m.d.n,.int .i64 m.d.d,.int .i64 m.e.n,.int .i64 m.e.d,.int .i64 m.f.n,.int .i64 m.f.d]) H0) one12 (by decide) (by unfold maxLen;omega) (by omega) (by have:=LC.size;simp;omega) _ rfl ?_;intro g cap w5 hown5 hgrow hat hlt5;have hgr:World.grownBy (wc.alloc (.cells #[.int .i64 m.a.n,.int .i64 m.a.d,.int .i64 m.b.n,.int .i64 m.b.d,.int .i64 m.c.n,.int .i64 m.c.d,.int .i64 m.d.n,.int .i64 m.d.d,.int .i64 m.e.n,.int .i64 m.e.d,.int .i64 m.f.n,.int .i64 m.f.d] 113)).drew w5 u4.ownBlock:=hgrow;have hA:∀ p v,wc.cell? p=some v->(p.block=W.heap.size\/w1.heap.size<=p.block)->w5.cell? p=some v:=(fun p v h hp=>(hgr.cell_far p (by have:=cell_lt h;simp;omega) (fun e=>by have:=hOh _ e.symm;have:=hOl _ e.symm;have:=q1;omega)).trans (cell_al (W:=wc) _ h))))
            go_wp2_with fail
            rw [List.drop_drop] at hRg
            refine ⟨⟨j+1+n,r - n,f',acc++[m],by omega,by simp;omega,⟨_,rfl,fun h=>by rw [if_neg (by omega)]⟩,by rw [List.length_append,cellsM_snoc];exact hown5,((BC.alloc (.cells #[.int .i64 m.a.n,.int .i64 m.a.d,.int .i64 m.b.n,.int .i64 m.b.d,.int .i64 m.c.n,.int .i64 m.c.d,.int .i64 m.d.n,.int .i64 m.d.d,.int .i64 m.e.n,.int .i64 m.e.d,.int .i64 m.f.n,.int .i64 m.f.d] 113)).drew).grown hgr (fun e=>by have:=hOl _ e;omega),(below_drewN (LC.alloc LC.size (.cells #[.int .i64 m.a.n,.int .i64 m.a.d,.int .i64 m.b.n,.int .i64 m.b.d,.int .i64 m.c.n,.int .i64 m.c.d,.int .i64 m.d.n,.int .i64 m.d.d,.int .i64 m.e.n,.int .i64 m.e.d,.int .i64 m.f.n,.int .i64 m.f.d] 113)) 1).grown hgr (by have:=LC.size;simp;omega) (fun k e=>by have:=hOl k e;omega),by omega,hRg⟩,by simp only [lenOf];omega⟩
end Go.Proofs.YtgphclgmmocdhaaGreatDoor

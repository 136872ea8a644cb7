/-
  Parts of the proof.
-/
import Derived.Test.YtgphclgmmocdhaaGreatDoorQu22
namespace Go.Proofs.YtgphclgmmocdhaaGreatDoor
section
open Go.RowKit Go.Shelf
set_option maxHeartbeats 4000000
set_option maxRecDepth 100000
attribute [local go_sem] Oper.semAt_some
theorem backN_in (F:Fence) (n:Nat) (hf:F.fn 222) (hro:F.round=none) (hn:1<=n) (l Bl g len cap:Nat) (ms:Nat->Mv) (hlen:0<len) (hlen':len<=1000) (Kp:World->World->Prop) (hKr:∀ A,Kp A A) (hKt:∀ A B C,Kp A B->Kp B C->Kp A C) (hKl:∀ A B,Kp A B->B.cell? ⟨Bl,0,none⟩=A.cell? ⟨Bl,0,none⟩) (hKg:∀ A B,Kp A B->∀ o,B.cell? ⟨g,o,none⟩=A.cell? ⟨g,o,none⟩) (J Jx:List Nat->World->Prop)
    (hY:∀ pre x W,J pre W->pre.length<len->YieldAt F (n - 1) Tryz.prog l #[.int .i64 (x:Nat),.agg #[.int .i64 (ms x).a.n,.int .i64 (ms x).a.d,.int .i64 (ms x).b.n,.int .i64 (ms x).b.d,.int .i64 (ms x).c.n,.int .i64 (ms x).c.d,.int .i64 (ms x).d.n,.int .i64 (ms x).d.d,.int .i64 (ms x).e.n,.int .i64 (ms x).e.d,.int .i64 (ms x).f.n,.int .i64 (ms x).f.d]] W fun e W'=>
      (e=.returned (.bool true)/\J (pre++[x]) W'/\Kp W W')\/(e=.returned (.bool false)/\Jx (pre++[x]) W'))
    (W:World) (hBl:W.cell? ⟨Bl,0,none⟩=some (.slice (some ⟨g,0,none⟩) len cap))
    (hc:∀ j,j<len->∀ i u,[.int .i64 (ms j).a.n,.int .i64 (ms j).a.d,.int .i64 (ms j).b.n,.int .i64 (ms j).b.d,.int .i64 (ms j).c.n,.int .i64 (ms j).c.d,.int .i64 (ms j).d.n,.int .i64 (ms j).d.d,.int .i64 (ms j).e.n,.int .i64 (ms j).e.d,.int .i64 (ms j).f.n,.int .i64 (ms j).f.d][i]? = some u->W.cell? ⟨g,j * 12+i,none⟩=some u) (h0:J [] W) :
    CallsIn F n Tryz.prog 222 #[.func (.yield l) #[] #[],.pointer (some ⟨Bl,0,none⟩)] W fun e W'=>(∃ v,e=.returned v)/\
      ((∃ ys,ys=cameAll len/\J ys W')\/(∃ pre,pre <+: cameAll len/\Jx pre W')):=by
  refine callsIn_of_wp Tryz.func222 rfl hf ?_ hro
  simp only [Tryz.ntmps222,List.size_toArray,List.length_cons,List.length_nil,Nat.reduceAdd,Nat.reduceSub,Array.replicate_succ,Array.replicate_zero,List.push_toArray,List.append_toArray,List.nil_append,List.cons_append]
  have hl1:IntKind.i64.wrap ((len:Int) - 1)=((len - 1:Nat):Int):=by rw [i64_in (by omega) (by omega)];omega
  gi_wp2
  gi_loopw [3] (fun i wr=>((∃ j:Nat,j<len/\i=.int .i64 j/\J (camePre len j) wr)\/(i=.int .i64 (-1)/\J (cameAll len) wr))/\Kp W wr)
    (fun i _=>(intOf i+1).toNat)
  case atStart=>
    refine ⟨.inl ⟨len - 1,by omega,?_,?_⟩,hKr _⟩
    · congr 1
    · rw [show camePre len (len - 1)=[] by simp [camePre]];exact h0
  case round=>
    obtain ⟨hcase,hnx⟩:=hrel
    rcases hcase with ⟨j,hj,rfl,hJs⟩ | ⟨rfl,hJs⟩
    · have cl:=(hKl _ _ hnx).trans hBl
      have hcj:=fun i u h=>(hKg _ _ hnx (j * 12+i)).trans (hc j hj i u h)
      obtain ⟨m0,m1,m2,m3,m4,m5,m6,m7,m8,m9,m10,m11⟩:=And.intro (hcj 0 _ rfl) (And.intro (hcj 1 _ rfl) (And.intro (hcj 2 _ rfl) (And.intro (hcj 3 _ rfl) (And.intro (hcj 4 _ rfl) (And.intro (hcj 5 _ rfl) (And.intro (hcj 6 _ rfl) (And.intro (hcj 7 _ rfl) (And.intro (hcj 8 _ rfl) (And.intro (hcj 9 _ rfl) (And.intro (hcj 10 _ rfl) (hcj 11 _ rfl)))))))))))
      clear hcj
      simp only [Nat.add_zero] at m0
      obtain ⟨fn,tmps,assign,body,hy,hR⟩:=hY _ j wr hJs (by rw [camePre_len];omega)
      gi_wp2
      refine hR.mono ?_
      rintro e W3 (⟨rfl,hJ3,hk3⟩ | ⟨rfl,hJx3⟩)
      · gi_wp2
        go_roundw
        case rel=>
          refine ⟨?_,hKt _ _ _ hnx hk3⟩
          cases j with
          | zero=>exact .inr ⟨by simp,by rw [<- camePre_last hlen];exact hJ3⟩
          | succ j=>exact .inl ⟨j,by omega,by simp,by rw [<- camePre_next hj];exact hJ3⟩
        case measure=>simp [intOf]
      · gi_wp2
        refine bodyPost_ret (results_none rfl _ _ _) rfl ?_
        exact ⟨⟨_,rfl⟩,.inr ⟨_,camePre_prefix hj,hJx3⟩⟩
    · gi_wp2
      go_end0
      exact ⟨⟨_,rfl⟩,.inl ⟨_,rfl,hJs⟩⟩
end
section
open Go.RowKit
set_option maxHeartbeats 8000000
theorem scale2 (b o cap B:Nat) (s1 s2:ByteArray) (x1 x2:Fr) (r:Mv) (W:World) (hB:W.cell? ⟨B,0,none⟩=some (.func (.func 268) #[] #[])) (h1:W.cell? ⟨b,o,none⟩=some (.string s1)) (h2:W.cell? ⟨b,o+1,none⟩=some (.string s2))
  (R1:∀ V,Below W.heap.size W V->Calls Tryz.prog 214 #[.string s1] V fun e w'=>e=.returned (.tuple #[.agg #[.int .i64 x1.n,.int .i64 x1.d],.nilIface])/\Below V.heap.size V w')
  (R2:∀ V,Below W.heap.size W V->Calls Tryz.prog 214 #[.string s2] V fun e w'=>e=.returned (.tuple #[.agg #[.int .i64 x2.n,.int .i64 x2.d],.nilIface])/\Below V.heap.size V w')
  (HOW:∀ V g c,Below W.heap.size W V->V.cell? ⟨g,0,none⟩=some (.int .i64 x1.n)->V.cell? ⟨g,1,none⟩=some (.int .i64 x1.d)->V.cell? ⟨g,2,none⟩=some (.int .i64 x2.n)->V.cell? ⟨g,3,none⟩=some (.int .i64 x2.d)->Calls Tryz.prog 268 #[.slice (some ⟨g,0,none⟩) 2 c] V fun e w'=>e=.returned (mv r)/\Below V.heap.size V w') :
  Calls Tryz.prog 301 #[.slice (some ⟨b,o,none⟩) 2 cap,.pointer (some ⟨B,0,none⟩)] W fun e w'=>e=.returned (.tuple #[mv r,.nilIface])/\Below W.heap.size W w':=by
 have L0:=(Below.refl W.heap.size W).alloc Nat.le.refl (.cells #[.int .i64 0,.int .i64 0,.int .i64 0,.int .i64 0,.int .i64 0,.int .i64 0,.int .i64 0,.int .i64 0,.int .i64 0,.int .i64 0,.int .i64 0,.int .i64 0] 113)
 have B0:=Blk.new W #[.int .i64 0,.int .i64 0,.int .i64 0,.int .i64 0,.int .i64 0,.int .i64 0,.int .i64 0,.int .i64 0,.int .i64 0,.int .i64 0,.int .i64 0,.int .i64 0] 113
 have g1:=fun o=>cell_al o h1
 obtain ⟨i0,hi,hz0,hz1,hz2⟩:=info_parts infoFrac
 go_enter Tryz.func301,Tryz.ntmps301
 go_wp2
 refine wp_loop_rounds 3 ?_
 rw [rounds_succ]
 go_wp2_with (first | (at_builtin;refine wpList_append_own_at _ rfl _ _ 297 rfl (W.heap.size+1) 52 i0 (.agg #[.int .i64 0,.int .i64 0]) 2 16 Tryz.underlying297 hi hz0 hz1 hz2 rfl (by decide) (.slice none 0 0) 0 [] rfl O1 ⟨w1.heap.size+1,0,none⟩ 1 1 [.int .i64 x1.n,.int .i64 x1.d] rfl rfl (cells2 (by simp)) one2 (by unfold maxLen;omega) (by omega) (by simp;omega) ?_;intro v1 V1 hown1 hgrow1 _ hloc1;have L2:=((L1.alloc (by omega) _).alloc (by simp;omega) _).grown hgrow1 (by simp;omega) (fun k e=>by simp [Value.ownBlock] at e);have B2:=((B1.alloc _).alloc _).grown hgrow1 (by simp [Value.ownBlock]);have z1:=hgrow1.size;simp only [World.size_alloc] at z1;have g2:=(L2.cell (p:=⟨b,o+1,none⟩) (cell_lt h2)).trans h2) | (go_at_call_of 214 s1;refine (R1 _ L0).mono ?_;rintro e w1 ⟨rfl,hb1⟩;have sz1:=hb1.size;simp only [World.size_alloc] at sz1;have L1:=(L0.trans (hb1.mono (by simp)))  ; have B1:=B0.below hb1 Nat.le.refl;have O1:((w1.alloc (.cells #[.int .i64 x1.n,.int .i64 x1.d] 52)).alloc (.cells #[.int .i64 x1.n,.int .i64 x1.d] 52)).ownsRow (W.heap.size+1) 52 2 (.slice none 0 0) 0 []:=World.ownsRow_nil _ _ _ _))
 rw [rounds_succ]
 go_wp2_with (first | (at_builtin;refine wpList_append_own_at _ rfl _ _ 297 rfl (W.heap.size+1) 52 i0 (.agg #[.int .i64 0,.int .i64 0]) 2 16 Tryz.underlying297 hi hz0 hz1 hz2 rfl (by decide) v1 1 _ rfl O2 ⟨w2.heap.size+1,0,none⟩ 1 1 [.int .i64 x2.n,.int .i64 x2.d] rfl rfl (cells2 (by simp)) one2 (by unfold maxLen;omega) (by omega) (by simp;omega) ?_;intro v2 V2 hown2 hgrow2 _ hloc2;have lo2:=own_lo O2;have L4:=((L3.alloc (by omega) _).alloc (by simp;omega) _).grown hgrow2 (by simp;omega) (fun k e=>by have:=lo2 k e;omega);have B4:=((B3.alloc _).alloc _).grown hgrow2 (fun e=>by have:=lo2 _ e;omega);obtain ⟨g,c2,rfl,hg1,hg2,hg3,hg4,hg5⟩:=ownsRow_pos hown2;have gB:=(L4.cell (p:=⟨B,0,none⟩) (cell_lt hB)).trans hB) | (go_at_call_of 214 s2;refine (R2 _ L2).mono ?_;rintro e w2 ⟨rfl,hb2⟩;have sz2:=hb2.size;have L3:=L2.trans (hb2.mono (by omega));have B3:=B2.below hb2 Nat.le.refl;have O2:=((ownsRow_below hown1 hb2).alloc (.cells #[.int .i64 x2.n,.int .i64 x2.d] 52)).alloc (.cells #[.int .i64 x2.n,.int .i64 x2.d] 52)))
 rw [rounds_succ]
 go_wp2_with ((go_at_call 268;refine (HOW _ g c2 L4 (hg5 0 _ rfl) (hg5 1 _ rfl) (hg5 2 _ rfl) (hg5 3 _ rfl)).mono ?_;rintro e w5 ⟨rfl,hb5⟩;have sz5:=hb5.size;have B5:=B4.below hb5 Nat.le.refl;have zc0:=B5.cell 0 _ rfl;have zf0:=B5.froz 0 _ rfl;have zc1:=B5.cell 1 _ rfl;have zf1:=B5.froz 1 _ rfl;have zc2:=B5.cell 2 _ rfl;have zf2:=B5.froz 2 _ rfl;have zc3:=B5.cell 3 _ rfl;have zf3:=B5.froz 3 _ rfl;have zc4:=B5.cell 4 _ rfl;have zf4:=B5.froz 4 _ rfl;have zc5:=B5.cell 5 _ rfl;have zf5:=B5.froz 5 _ rfl;have zc6:=B5.cell 6 _ rfl;have zf6:=B5.froz 6 _ rfl;have zc7:=B5.cell 7 _ rfl;have zf7:=B5.froz 7 _ rfl;have zc8:=B5.cell 8 _ rfl;have zf8:=B5.froz 8 _ rfl;have zc9:=B5.cell 9 _ rfl;have zf9:=B5.froz 9 _ rfl;have zc10:=B5.cell 10 _ rfl;have zf10:=B5.froz 10 _ rfl;have zc11:=B5.cell 11 _ rfl;have zf11:=B5.froz 11 _ rfl))
 refine bodyPost_ret (v:=.tuple #[mv r,.nilIface]) (by simp [results,Tryz.results301,go_sem,zc0,zc1,zc2,zc3,zc4,zc5,zc6,zc7,zc8,zc9,zc10,zc11]) rfl ⟨rfl,?_⟩
 exact put_below (R:=W.heap.size) Nat.le.refl [.int .i64 r.a.n,.int .i64 r.a.d,.int .i64 r.b.n,.int .i64 r.b.d,.int .i64 r.c.n,.int .i64 r.c.d,.int .i64 r.d.n,.int .i64 r.d.d,.int .i64 r.e.n,.int .i64 r.e.d,.int .i64 r.f.n,.int .i64 r.f.d] 0 (L4.trans (hb5.mono (by omega)))
theorem skew1 (b o cap B:Nat) (s1:ByteArray) (x1:Fr) (r:Mv) (W:World) (hB:W.cell? ⟨B,0,none⟩=some (.func (.func 270) #[] #[])) (h1:W.cell? ⟨b,o,none⟩=some (.string s1))
  (R1:∀ V,Below W.heap.size W V->Calls Tryz.prog 214 #[.string s1] V fun e w'=>e=.returned (.tuple #[.agg #[.int .i64 x1.n,.int .i64 x1.d],.nilIface])/\Below V.heap.size V w')
  (HOW:∀ V g c,Below W.heap.size W V->V.cell? ⟨g,0,none⟩=some (.int .i64 x1.n)->V.cell? ⟨g,1,none⟩=some (.int .i64 x1.d)->Calls Tryz.prog 270 #[.slice (some ⟨g,0,none⟩) 1 c] V fun e w'=>e=.returned (mv r)/\Below V.heap.size V w') :
  Calls Tryz.prog 301 #[.slice (some ⟨b,o,none⟩) 1 cap,.pointer (some ⟨B,0,none⟩)] W fun e w'=>e=.returned (.tuple #[mv r,.nilIface])/\Below W.heap.size W w':=by
 have L0:=(Below.refl W.heap.size W).alloc Nat.le.refl (.cells #[.int .i64 0,.int .i64 0,.int .i64 0,.int .i64 0,.int .i64 0,.int .i64 0,.int .i64 0,.int .i64 0,.int .i64 0,.int .i64 0,.int .i64 0,.int .i64 0] 113)
 have B0:=Blk.new W #[.int .i64 0,.int .i64 0,.int .i64 0,.int .i64 0,.int .i64 0,.int .i64 0,.int .i64 0,.int .i64 0,.int .i64 0,.int .i64 0,.int .i64 0,.int .i64 0] 113
 have g1:=fun o=>cell_al o h1
 obtain ⟨i0,hi,hz0,hz1,hz2⟩:=info_parts infoFrac
 go_enter Tryz.func301,Tryz.ntmps301
 go_wp2
 refine wp_loop_rounds 2 ?_
 rw [rounds_succ]
 go_wp2_with (first | (at_builtin;refine wpList_append_own_at _ rfl _ _ 297 rfl (W.heap.size+1) 52 i0 (.agg #[.int .i64 0,.int .i64 0]) 2 16 Tryz.underlying297 hi hz0 hz1 hz2 rfl (by decide) (.slice none 0 0) 0 [] rfl O1 ⟨w1.heap.size+1,0,none⟩ 1 1 [.int .i64 x1.n,.int .i64 x1.d] rfl rfl (cells2 (by simp)) one2 (by unfold maxLen;omega) (by omega) (by simp;omega) ?_;intro v1 V1 hown1 hgrow1 _ hloc1;have L2:=((L1.alloc (by omega) _).alloc (by simp;omega) _).grown hgrow1 (by simp;omega) (fun k e=>by simp [Value.ownBlock] at e);have B2:=((B1.alloc _).alloc _).grown hgrow1 (by simp [Value.ownBlock]);have z1:=hgrow1.size;simp only [World.size_alloc] at z1;obtain ⟨g,c2,rfl,hg1,hg2,hg3,hg4,hg5⟩:=ownsRow_pos hown1;have gB:=(L2.cell (p:=⟨B,0,none⟩) (cell_lt hB)).trans hB) | (go_at_call_of 214 s1;refine (R1 _ L0).mono ?_;rintro e w1 ⟨rfl,hb1⟩;have sz1:=hb1.size;simp only [World.size_alloc] at sz1;have L1:=(L0.trans (hb1.mono (by simp)));have B1:=B0.below hb1 Nat.le.refl;have O1:((w1.alloc (.cells #[.int .i64 x1.n,.int .i64 x1.d] 52)).alloc (.cells #[.int .i64 x1.n,.int .i64 x1.d] 52)).ownsRow (W.heap.size+1) 52 2 (.slice none 0 0) 0 []:=World.ownsRow_nil _ _ _ _))
 rw [rounds_succ]
 go_wp2_with ((go_at_call 270;refine (HOW _ g c2 L2 (hg5 0 _ rfl) (hg5 1 _ rfl)).mono ?_;rintro e w5 ⟨rfl,hb5⟩;have sz5:=hb5.size;have B5:=B2.below hb5 Nat.le.refl;have zc0:=B5.cell 0 _ rfl;have zf0:=B5.froz 0 _ rfl;have zc1:=B5.cell 1 _ rfl;have zf1:=B5.froz 1 _ rfl;have zc2:=B5.cell 2 _ rfl;have zf2:=B5.froz 2 _ rfl;have zc3:=B5.cell 3 _ rfl;have zf3:=B5.froz 3 _ rfl;have zc4:=B5.cell 4 _ rfl;have zf4:=B5.froz 4 _ rfl;have zc5:=B5.cell 5 _ rfl;have zf5:=B5.froz 5 _ rfl;have zc6:=B5.cell 6 _ rfl;have zf6:=B5.froz 6 _ rfl;have zc7:=B5.cell 7 _ rfl;have zf7:=B5.froz 7 _ rfl;have zc8:=B5.cell 8 _ rfl;have zf8:=B5.froz 8 _ rfl;have zc9:=B5.cell 9 _ rfl;have zf9:=B5.froz 9 _ rfl;have zc10:=B5.cell 10 _ rfl;have zf10:=B5.froz 10 _ rfl;have zc11:=B5.cell 11 _ rfl;have zf11:=B5.froz 11 _ rfl))
 refine bodyPost_ret (v:=.tuple #[mv r,.nilIface]) (by simp [results,Tryz.results301,go_sem,zc0,zc1,zc2,zc3,zc4,zc5,zc6,zc7,zc8,zc9,zc10,zc11]) rfl ⟨rfl,?_⟩
 exact put_below (R:=W.heap.size) Nat.le.refl [.int .i64 r.a.n,.int .i64 r.a.d,.int .i64 r.b.n,.int .i64 r.b.d,.int .i64 r.c.n,.int .i64 r.c.d,.int .i64 r.d.n,.int .i64 r.d.d,.int .i64 r.e.n,.int .i64 r.e.d,.int .i64 r.f.n,.int .i64 r.f.d] 0 (L2.trans (hb5.mono (by omega)))
theorem kindA_of {k:ByteArray} {kd:Kd} (h:kdOf k=some kd) (ht:kd≠.turn):KindA k kd:=by
 unfold kdOf at h
 by_cases h1:k=bMove
 ·rw [if_pos h1] at h;cases h;subst h1;exact kindOf_move
 ·rw [if_neg h1] at h
  by_cases h2:k=bScale
  ·rw [if_pos h2] at h;cases h;subst h2;exact kindOf_scale
  ·rw [if_neg h2] at h
   by_cases h3:k=bTurn
   ·rw [if_pos h3] at h;cases h;exact (ht rfl).elim
   ·rw [if_neg h3] at h
    by_cases h4:k=bSkew
    ·rw [if_pos h4] at h;cases h;subst h4;exact kindOf_skew
    ·rw [if_neg h4] at h;cases h
theorem kindT_of {k:ByteArray} (h:kdOf k=some .turn):k=bTurn:=by
 unfold kdOf at h
 by_cases h1:k=bMove
 ·rw [if_pos h1] at h;cases h
 ·rw [if_neg h1] at h
  by_cases h2:k=bScale
  ·rw [if_pos h2] at h;cases h
  ·rw [if_neg h2] at h
   by_cases h3:k=bTurn
   ·exact h3
   ·rw [if_neg h3] at h
    by_cases h4:k=bSkew
    ·rw [if_pos h4] at h;cases h
    ·rw [if_neg h4] at h;cases h
theorem rd2_some {mk:Fr->Fr->Mv} {a b:ByteArray} {m:Mv} (h:rd2 mk a b=(m,0)):rdC a=0/\rdC b=0/\m=mk (rdF a) (rdF b):=by
 unfold rd2 at h
 by_cases h1:rdC a=0
 ·rw [if_neg (by simp [h1])] at h
  by_cases h2:rdC b=0
  ·rw [if_neg (by simp [h2])] at h;exact ⟨h1,h2,(congrArg Prod.fst h).symm⟩
  ·rw [if_pos h2] at h;exact (h2 (congrArg Prod.snd h)).elim
 ·rw [if_pos h1] at h;exact (h1 (congrArg Prod.snd h)).elim
theorem rd1_some {mk:Fr->Mv} {a:ByteArray} {m:Mv} (h:rd1 mk a=(m,0)):rdC a=0/\m=mk (rdF a):=by
 unfold rd1 at h
 by_cases h1:rdC a=0
 ·rw [if_neg (by simp [h1])] at h;exact ⟨h1,(congrArg Prod.fst h).symm⟩
 ·rw [if_pos h1] at h;exact (h1 (congrArg Prod.snd h)).elim
theorem drop_two {ws:List ByteArray} {o:Nat} (h:o+2<=ws.length):∃ a b r,ws.drop o=a :: b :: r/\ws[o]? = some a/\ws[o+1]? = some b:=by
 have h1:o<ws.length:=by omega
 have h2:o+1<ws.length:=by omega
 exact ⟨ws[o],ws[o+1],ws.drop (o+2),by rw [List.drop_eq_getElem_cons h1,List.drop_eq_getElem_cons h2],by simp [h1],by simp [h2]⟩
theorem drop_one {ws:List ByteArray} {o:Nat} (h:o+1<=ws.length):∃ a r,ws.drop o=a :: r/\ws[o]? = some a:=by
 have h1:o<ws.length:=by omega
 exact ⟨ws[o],ws.drop (o+1),by rw [List.drop_eq_getElem_cons h1],by simp [h1]⟩
theorem read_of {aT aB aS:Addr} {a:ByteArray} (hs:a.size<=1000000) (hr:rdC a=0) (V:World) (h:E4 aT aB aS V) :
  Calls Tryz.prog 214 #[.string a] V fun e w'=>e=.returned (.tuple #[.agg #[.int .i64 (rdF a).n,.int .i64 (rdF a).d],.nilIface])/\Below V.heap.size V w':=by
 have:=ReadF_any aT aB aS aB a V h.e3 h.t (by omega)
 rw [show (rd a.data.toList).c=0 from hr] at this
 exact this
theorem word_le {ws:List ByteArray} (hs:∀ a ∈ ws,a.size<=1000000) {o:Nat} {a:ByteArray} (h:ws[o]? = some a):a.size<=1000000:=hs a (List.mem_of_getElem? h)
theorem readA_of {aT aB aS:Addr} {W:World} (h:E4 aT aB aS W) {ws:List ByteArray} (hs:∀ a ∈ ws,a.size<=1000000) {kd:Kd} (ht:kd≠.turn):ReadA W ws kd:=by
 intro V o B cap m hV hB hf ho hk
 have hE:=h.below hV Nat.le.refl
 cases kd with
 | turn=>exact (ht rfl).elim
 | move=>
  obtain ⟨a,b,r,hd,ha,hb⟩:=drop_two ho
  rw [hd] at hk
  obtain ⟨h1,h2,rfl⟩:=rd2_some hk
  exact shift2 W.heap.size o cap B a b (rdF a) (rdF b) _ V hf (words_at hB ha) (words_at hB hb) (fun U hU=>read_of (word_le hs ha) h1 U (hE.below hU Nat.le.refl)) (fun U hU=>read_of (word_le hs hb) h2 U (hE.below hU Nat.le.refl))
   (fun U g c hU k0 k1 k2 k3=>shift_any g c (rdF a) (rdF b) U k0 k1 k2 k3)
 | scale=>
  obtain ⟨a,b,r,hd,ha,hb⟩:=drop_two ho
  rw [hd] at hk
  obtain ⟨h1,h2,rfl⟩:=rd2_some hk
  exact scale2 W.heap.size o cap B a b (rdF a) (rdF b) _ V hf (words_at hB ha) (words_at hB hb) (fun U hU=>read_of (word_le hs ha) h1 U (hE.below hU Nat.le.refl)) (fun U hU=>read_of (word_le hs hb) h2 U (hE.below hU Nat.le.refl))
   (fun U g c hU k0 k1 k2 k3=>scale_any g c (rdF a) (rdF b) U k0 k1 k2 k3)
 | skew=>
  obtain ⟨a,r,hd,ha⟩:=drop_one ho
  rw [hd] at hk
  obtain ⟨h1,rfl⟩:=rd1_some hk
  exact skew1 W.heap.size o cap B a (rdF a) _ V hf (words_at hB ha) (fun U hU=>read_of (word_le hs ha) h1 U (hE.below hU Nat.le.refl))
   (fun U g c hU k0 k1=>skew_any g c (rdF a) U k0 k1)
theorem readT_of {W:World} {ws:List ByteArray}:ReadT W ws:=by
 intro V o cap m hV hB ho hk
 obtain ⟨a,r,hd,ha⟩:=drop_one ho
 rw [hd] at hk
 have hc:=words_at hB ha
 change turnR a=(m,0) at hk
 unfold turnR at hk
 by_cases h0:a=⟨#[48]⟩
 ·rw [if_pos h0] at hk;cases hk;subst h0;exact turn_0 W.heap.size o cap V hc
 ·rw [if_neg h0] at hk
  by_cases h1:a=⟨#[49]⟩
  ·rw [if_pos h1] at hk;cases hk;subst h1;exact turn_1 W.heap.size o cap V hc
  ·rw [if_neg h1] at hk
   by_cases h2:a=⟨#[50]⟩
   ·rw [if_pos h2] at hk;cases hk;subst h2;exact turn_2 W.heap.size o cap V hc
   ·rw [if_neg h2] at hk
    by_cases h3:a=⟨#[51]⟩
    ·rw [if_pos h3] at hk;cases hk;subst h3;exact turn_3 W.heap.size o cap V hc
    ·rw [if_neg h3] at hk;cases hk
theorem cellsM_get:∀ (R:List Mv) (j:Nat) (m:Mv),R[j]? = some m->∀ i u,(cells1 m)[i]? = some u->(cellsM R)[j * 12+i]? = some u
 | [],_,_,h,_,_,_=>by cases h
 | x :: R,0,m,h,i,u,hu=>by
  simp at h;subst h
  have hi:i<(cells1 x).length:=(List.getElem?_eq_some_iff.1 hu).1
  show (cells1 x++cellsM R)[0 * 12+i]? = some u
  rw [List.getElem?_append_left (by simpa using hi)]
  simpa using hu
 | x :: R,j+1,m,h,i,u,hu=>by
  have:=cellsM_get R j m (by simpa using h) i u hu
  show (cells1 x++cellsM R)[(j+1) * 12+i]? = some u
  rw [List.getElem?_append_right (by simp;omega)]
  rw [show (j+1) * 12+i - (cells1 x).length=j * 12+i by simp;omega]
  exact this
end
section
open Go.RowKit
set_option maxHeartbeats 8000000
theorem turn_no (g o c:Nat) (a:ByteArray) (aT:Addr) (W:World) (k0:W.cell? ⟨g,o,none⟩=some (.string a)) (hT:W.cell? ⟨7,0,none⟩=some (.iface 409 (.pointer (some aT))))
  (h0:a≠⟨#[48]⟩) (h1:a≠⟨#[49]⟩) (h2:a≠⟨#[50]⟩) (h3:a≠⟨#[51]⟩) :
  Calls Tryz.prog 269 #[.slice (some ⟨g,o,none⟩) 1 c] W fun e w'=>e=.returned (.tuple #[mv .zero,.iface 409 (.pointer (some aT))])/\Below W.heap.size W w':=by
 have e0:=ne_str (l:=[48]) h0
 have e1:=ne_str (l:=[49]) h1
 have e2:=ne_str (l:=[50]) h2
 have e3:=ne_str (l:=[51]) h3
 have k1:=fun o=>cell_al o k0
 clear h0 h1 h2 h3
 go_enter Tryz.func269,Tryz.ntmps269
 go_wp2
 have hF:∃ U,W.alloc (.cells #[.int .i64 0,.int .i64 0,.int .i64 0,.int .i64 0,.int .i64 0,.int .i64 0,.int .i64 0,.int .i64 0,.int .i64 0,.int .i64 0,.int .i64 0,.int .i64 0] 113)=U/\Blk U W.heap.size #[.int .i64 0,.int .i64 0,.int .i64 0,.int .i64 0,.int .i64 0,.int .i64 0,.int .i64 0,.int .i64 0,.int .i64 0,.int .i64 0,.int .i64 0,.int .i64 0] 113/\Below W.heap.size W U:=⟨_,rfl,Blk.new W _ _,(Below.refl _ W).alloc Nat.le.refl _⟩
 obtain ⟨U,hU,B0,L0⟩:=hF
 rw [hU]
 clear hU k1 k0 e0 e1 e2 e3
 have cT:=(L0.cell (p:=⟨7,0,none⟩) (cell_lt hT)).trans hT
 have lT:=cell_lt hT
 simp only at lT
 have nT:¬ W.heap.size=7:=by omega
 have zc0:=B0.cell 0 _ rfl
 have zf0:=B0.froz 0 _ rfl
 have zc1:=B0.cell 1 _ rfl
 have zf1:=B0.froz 1 _ rfl
 have zc2:=B0.cell 2 _ rfl
 have zf2:=B0.froz 2 _ rfl
 have zc3:=B0.cell 3 _ rfl
 have zf3:=B0.froz 3 _ rfl
 have zc4:=B0.cell 4 _ rfl
 have zf4:=B0.froz 4 _ rfl
 have zc5:=B0.cell 5 _ rfl
 have zf5:=B0.froz 5 _ rfl
 have zc6:=B0.cell 6 _ rfl
 have zf6:=B0.froz 6 _ rfl
 have zc7:=B0.cell 7 _ rfl
 have zf7:=B0.froz 7 _ rfl
 have zc8:=B0.cell 8 _ rfl
 have zf8:=B0.froz 8 _ rfl
 have zc9:=B0.cell 9 _ rfl
 have zf9:=B0.froz 9 _ rfl
 have zc10:=B0.cell 10 _ rfl
 have zf10:=B0.froz 10 _ rfl
 have zc11:=B0.cell 11 _ rfl
 have zf11:=B0.froz 11 _ rfl
 go_region
 go_wp2
 refine bodyPost_ret (v:=.tuple #[mv .zero,.iface 409 (.pointer (some aT))]) (by simp [results,Tryz.results269,go_sem,Mv.zero,Fr.zero,zc0,zc1,zc2,zc3,zc4,zc5,zc6,zc7,zc8,zc9,zc10,zc11]) rfl ⟨rfl,?_⟩
 exact below_drewN (put_below (R:=W.heap.size) Nat.le.refl [.int .i64 0,.int .i64 0,.int .i64 0,.int .i64 0,.int .i64 0,.int .i64 0,.int .i64 0,.int .i64 0,.int .i64 0,.int .i64 0,.int .i64 0,.int .i64 0] 0 L0) 1
theorem of_bad1 (b o cap B n:Nat) (s1:ByteArray) (a:Addr) (W:World) (hn:1<=n) (h1:W.cell? ⟨b,o,none⟩=some (.string s1))
  (R1:∀ V,Below W.heap.size W V->Calls Tryz.prog 214 #[.string s1] V fun e w'=>e=.returned (.tuple #[.agg #[.int .i64 0,.int .i64 0],.iface 409 (.pointer (some a))])/\Below V.heap.size V w') :
  Calls Tryz.prog 301 #[.slice (some ⟨b,o,none⟩) n cap,.pointer (some ⟨B,0,none⟩)] W fun e w'=>e=.returned (.tuple #[mv .zero,.iface 409 (.pointer (some a))])/\Below W.heap.size W w':=by
 have L0:=(Below.refl W.heap.size W).alloc Nat.le.refl (.cells #[.int .i64 0,.int .i64 0,.int .i64 0,.int .i64 0,.int .i64 0,.int .i64 0,.int .i64 0,.int .i64 0,.int .i64 0,.int .i64 0,.int .i64 0,.int .i64 0] 113)
 have B0:=Blk.new W #[.int .i64 0,.int .i64 0,.int .i64 0,.int .i64 0,.int .i64 0,.int .i64 0,.int .i64 0,.int .i64 0,.int .i64 0,.int .i64 0,.int .i64 0,.int .i64 0] 113
 have g1:=fun o=>cell_al o h1
 have hn':(0:Int)<(n:Int):=by omega
 go_enter Tryz.func301,Tryz.ntmps301
 go_wp2
 refine wp_loop_rounds 1 ?_
 rw [rounds_succ]
 go_wp2_with ((go_at_call_of 214 s1;refine (R1 _ L0).mono ?_;rintro e w1 ⟨rfl,hb1⟩;have sz1:=hb1.size;simp only [World.size_alloc] at sz1;have L1:=(L0.trans (hb1.mono (by simp)));have B1:=B0.below hb1 Nat.le.refl;have zc0:=fun o=>cell_al o (B1.cell 0 _ rfl);have zf0:=fun o=>froz_al o (B1.cell 0 _ rfl) (B1.froz 0 _ rfl);have zc1:=fun o=>cell_al o (B1.cell 1 _ rfl);have zf1:=fun o=>froz_al o (B1.cell 1 _ rfl) (B1.froz 1 _ rfl);have zc2:=fun o=>cell_al o (B1.cell 2 _ rfl);have zf2:=fun o=>froz_al o (B1.cell 2 _ rfl) (B1.froz 2 _ rfl);have zc3:=fun o=>cell_al o (B1.cell 3 _ rfl);have zf3:=fun o=>froz_al o (B1.cell 3 _ rfl) (B1.froz 3 _ rfl);have zc4:=fun o=>cell_al o (B1.cell 4 _ rfl);have zf4:=fun o=>froz_al o (B1.cell 4 _ rfl) (B1.froz 4 _ rfl);have zc5:=fun o=>cell_al o (B1.cell 5 _ rfl);have zf5:=fun o=>froz_al o (B1.cell 5 _ rfl) (B1.froz 5 _ rfl);have zc6:=fun o=>cell_al o (B1.cell 6 _ rfl);have zf6:=fun o=>froz_al o (B1.cell 6 _ rfl) (B1.froz 6 _ rfl);have zc7:=fun o=>cell_al o (B1.cell 7 _ rfl);have zf7:=fun o=>froz_al o (B1.cell 7 _ rfl) (B1.froz 7 _ rfl);have zc8:=fun o=>cell_al o (B1.cell 8 _ rfl);have zf8:=fun o=>froz_al o (B1.cell 8 _ rfl) (B1.froz 8 _ rfl);have zc9:=fun o=>cell_al o (B1.cell 9 _ rfl);have zf9:=fun o=>froz_al o (B1.cell 9 _ rfl) (B1.froz 9 _ rfl);have zc10:=fun o=>cell_al o (B1.cell 10 _ rfl);have zf10:=fun o=>froz_al o (B1.cell 10 _ rfl) (B1.froz 10 _ rfl);have zc11:=fun o=>cell_al o (B1.cell 11 _ rfl);have zf11:=fun o=>froz_al o (B1.cell 11 _ rfl) (B1.froz 11 _ rfl)))
 refine bodyPost_ret (v:=.tuple #[mv .zero,.iface 409 (.pointer (some a))]) (by simp [results,Tryz.results301,go_sem,Mv.zero,Fr.zero,zc0,zc1,zc2,zc3,zc4,zc5,zc6,zc7,zc8,zc9,zc10,zc11]) rfl ⟨rfl,?_⟩
 exact put_below (R:=W.heap.size) Nat.le.refl [.int .i64 0,.int .i64 0,.int .i64 0,.int .i64 0,.int .i64 0,.int .i64 0,.int .i64 0,.int .i64 0,.int .i64 0,.int .i64 0,.int .i64 0,.int .i64 0] 0 (L1.alloc L1.size _)
theorem of_bad2 (b o cap B:Nat) (s1 s2:ByteArray) (x1:Fr) (a:Addr) (W:World) (h1:W.cell? ⟨b,o,none⟩=some (.string s1)) (h2:W.cell? ⟨b,o+1,none⟩=some (.string s2))
  (R1:∀ V,Below W.heap.size W V->Calls Tryz.prog 214 #[.string s1] V fun e w'=>e=.returned (.tuple #[.agg #[.int .i64 x1.n,.int .i64 x1.d],.nilIface])/\Below V.heap.size V w')
  (R2:∀ V,Below W.heap.size W V->Calls Tryz.prog 214 #[.string s2] V fun e w'=>e=.returned (.tuple #[.agg #[.int .i64 0,.int .i64 0],.iface 409 (.pointer (some a))])/\Below V.heap.size V w') :
  Calls Tryz.prog 301 #[.slice (some ⟨b,o,none⟩) 2 cap,.pointer (some ⟨B,0,none⟩)] W fun e w'=>e=.returned (.tuple #[mv .zero,.iface 409 (.pointer (some a))])/\Below W.heap.size W w':=by
 have L0:=(Below.refl W.heap.size W).alloc Nat.le.refl (.cells #[.int .i64 0,.int .i64 0,.int .i64 0,.int .i64 0,.int .i64 0,.int .i64 0,.int .i64 0,.int .i64 0,.int .i64 0,.int .i64 0,.int .i64 0,.int .i64 0] 113)
 have B0:=Blk.new W #[.int .i64 0,.int .i64 0,.int .i64 0,.int .i64 0,.int .i64 0,.int .i64 0,.int .i64 0,.int .i64 0,.int .i64 0,.int .i64 0,.int .i64 0,.int .i64 0] 113
 have g1:=fun o=>cell_al o h1
 obtain ⟨i0,hi,hz0,hz1,hz2⟩:=info_parts infoFrac
 go_enter Tryz.func301,Tryz.ntmps301
 go_wp2
 refine wp_loop_rounds 2 ?_
 rw [rounds_succ]
 go_wp2_with (first | (at_builtin;refine wpList_append_own_at _ rfl _ _ 297 rfl (W.heap.size+1) 52 i0 (.agg #[.int .i64 0,.int .i64 0]) 2 16 Tryz.underlying297 hi hz0 hz1 hz2 rfl (by decide) (.slice none 0 0) 0 [] rfl O1 ⟨w1.heap.size+1,0,none⟩ 1 1 [.int .i64 x1.n,.int .i64 x1.d] rfl rfl (cells2 (by simp)) one2 (by unfold maxLen;omega) (by omega) (by simp;omega) ?_;intro v1 V1 hown1 hgrow1 _ hloc1;have L2:=((L1.alloc (by omega) _).alloc (by simp;omega) _).grown hgrow1 (by simp;omega) (fun k e=>by simp [Value.ownBlock] at e);have B2:=((B1.alloc _).alloc _).grown hgrow1 (by simp [Value.ownBlock]);have z1:=hgrow1.size;simp only [World.size_alloc] at z1;have g2:=(L2.cell (p:=⟨b,o+1,none⟩) (cell_lt h2)).trans h2) | (go_at_call_of 214 s1;refine (R1 _ L0).mono ?_;rintro e w1 ⟨rfl,hb1⟩;have sz1:=hb1.size;simp only [World.size_alloc] at sz1;have L1:=(L0.trans (hb1.mono (by simp)));have B1:=B0.below hb1 Nat.le.refl;have O1:((w1.alloc (.cells #[.int .i64 x1.n,.int .i64 x1.d] 52)).alloc (.cells #[.int .i64 x1.n,.int .i64 x1.d] 52)).ownsRow (W.heap.size+1) 52 2 (.slice none 0 0) 0 []:=World.ownsRow_nil _ _ _ _))
 rw [rounds_succ]
 go_wp2_with ((go_at_call_of 214 s2;refine (R2 _ L2).mono ?_;rintro e w2 ⟨rfl,hb2⟩;have sz2:=hb2.size;have L3:=L2.trans (hb2.mono (by omega));have B3:=B2.below hb2 Nat.le.refl;have zc0:=fun o=>cell_al o (B3.cell 0 _ rfl);have zf0:=fun o=>froz_al o (B3.cell 0 _ rfl) (B3.froz 0 _ rfl);have zc1:=fun o=>cell_al o (B3.cell 1 _ rfl);have zf1:=fun o=>froz_al o (B3.cell 1 _ rfl) (B3.froz 1 _ rfl);have zc2:=fun o=>cell_al o (B3.cell 2 _ rfl);have zf2:=fun o=>froz_al o (B3.cell 2 _ rfl) (B3.froz 2 _ rfl);have zc3:=fun o=>cell_al o (B3.cell 3 _ rfl);have zf3:=fun o=>froz_al o (B3.cell 3 _ rfl) (B3.froz 3 _ rfl);have zc4:=fun o=>cell_al o (B3.cell 4 _ rfl);have zf4:=fun o=>froz_al o (B3.cell 4 _ rfl) (B3.froz 4 _ rfl);have zc5:=fun o=>cell_al o (B3.cell 5 _ rfl);have zf5:=fun o=>froz_al o (B3.cell 5 _ rfl) (B3.froz 5 _ rfl);have zc6:=fun o=>cell_al o (B3.cell 6 _ rfl);have zf6:=fun o=>froz_al o (B3.cell 6 _ rfl) (B3.froz 6 _ rfl);have zc7:=fun o=>cell_al o (B3.cell 7 _ rfl);have zf7:=fun o=>froz_al o (B3.cell 7 _ rfl) (B3.froz 7 _ rfl);have zc8:=fun o=>cell_al o (B3.cell 8 _ rfl);have zf8:=fun o=>froz_al o (B3.cell 8 _ rfl) (B3.froz 8 _ rfl);have zc9:=fun o=>cell_al o (B3.cell 9 _ rfl);have zf9:=fun o=>froz_al o (B3.cell 9 _ rfl) (B3.froz 9 _ rfl);have zc10:=fun o=>cell_al o (B3.cell 10 _ rfl);have zf10:=fun o=>froz_al o (B3.cell 10 _ rfl) (B3.froz 10 _ rfl);have zc11:=fun o=>cell_al o (B3.cell 11 _ rfl);have zf11:=fun o=>froz_al o (B3.cell 11 _ rfl) (B3.froz 11 _ rfl)))
 refine bodyPost_ret (v:=.tuple #[mv .zero,.iface 409 (.pointer (some a))]) (by simp [results,Tryz.results301,go_sem,Mv.zero,Fr.zero,zc0,zc1,zc2,zc3,zc4,zc5,zc6,zc7,zc8,zc9,zc10,zc11]) rfl ⟨rfl,?_⟩
 exact put_below (R:=W.heap.size) Nat.le.refl [.int .i64 0,.int .i64 0,.int .i64 0,.int .i64 0,.int .i64 0,.int .i64 0,.int .i64 0,.int .i64 0,.int .i64 0,.int .i64 0,.int .i64 0,.int .i64 0] 0 (L3.alloc L3.size _)
def eA (aT aB aS:Addr) (c:Nat):Addr:=if c=1 then aT else if c=2 then aB else aS
theorem er4_eA {aT aB aS:Addr} {c:Nat} (h:c=1\/c=2\/c=3):er4 aT aB aS aB c=.iface 409 (.pointer (some (eA aT aB aS c))):=by
 rcases h with rfl | rfl | rfl <;> rfl
theorem rd_cases (l:List UInt8):(rd l).c=0\/((rd l).c=1\/(rd l).c=2\/(rd l).c=3)/\(rd l).n=0/\(rd l).d=0:=by
 have hck:∀ n d,(ck n d).c=0\/((ck n d).c=1\/(ck n d).c=2\/(ck n d).c=3)/\(ck n d).n=0/\(ck n d).d=0:=fun n d=>by
  unfold ck
  split
  ·exact .inl rfl
  ·rename_i h
   have:=chk_cases n d
   exact .inr ⟨by simp only;omega,rfl,rfl⟩
 unfold rd
 split
 ·exact .inr ⟨.inl rfl,rfl,rfl⟩
 ·split
  ·exact hck _ _
  ·split
   ·exact hck _ _
   ·exact .inr ⟨.inl rfl,rfl,rfl⟩
theorem read_no {aT aB aS:Addr} {a:ByteArray} (hs:a.size<=1000000) (hr:rdC a≠0) (V:World) (h:E4 aT aB aS V) :
  Calls Tryz.prog 214 #[.string a] V fun e w'=>e=.returned (.tuple #[.agg #[.int .i64 0,.int .i64 0],.iface 409 (.pointer (some (eA aT aB aS (rdC a))))])/\Below V.heap.size V w':=by
 have:=ReadF_any aT aB aS aB a V h.e3 h.t (by omega)
 rcases rd_cases a.data.toList with h0 | ⟨h1,h2,h3⟩
 ·exact (hr h0).elim
 ·rw [h2,h3,er4_eA h1] at this
  exact this
def WrongA (aT aB aS:Addr) (W:World) (ws:List ByteArray) (kd:Kd):Prop:=∀ V o B cap c,Below W.heap.size W V->Blk V W.heap.size (ws.map Value.string).toArray 9->o+kd.n<=ws.length->(kdR kd (ws.drop o)).2=c->c≠0->
 Calls Tryz.prog 301 #[.slice (some ⟨W.heap.size,o,none⟩) kd.n cap,.pointer (some ⟨B,0,none⟩)] V fun e w'=>e=.returned (.tuple #[mv .zero,.iface 409 (.pointer (some (eA aT aB aS c)))])/\Below V.heap.size V w'
def WrongT (aT aB aS:Addr) (W:World) (ws:List ByteArray):Prop:=∀ V o cap c,Below W.heap.size W V->Blk V W.heap.size (ws.map Value.string).toArray 9->o+1<=ws.length->(kdR .turn (ws.drop o)).2=c->c≠0->
 Calls Tryz.prog 269 #[.slice (some ⟨W.heap.size,o,none⟩) 1 cap] V fun e w'=>e=.returned (.tuple #[mv .zero,.iface 409 (.pointer (some (eA aT aB aS c)))])/\Below V.heap.size V w'
theorem wrong2 {aT aB aS:Addr} {V:World} (hE:E4 aT aB aS V) {mk:Fr->Fr->Mv} {a b:ByteArray} {w0 o B cap c:Nat} (ha:a.size<=1000000) (hb:b.size<=1000000) (k1:V.cell? ⟨w0,o,none⟩=some (.string a)) (k2:V.cell? ⟨w0,o+1,none⟩=some (.string b)) (h:(rd2 mk a b).2=c) (hc:c≠0) :
  Calls Tryz.prog 301 #[.slice (some ⟨w0,o,none⟩) 2 cap,.pointer (some ⟨B,0,none⟩)] V fun e w'=>e=.returned (.tuple #[mv .zero,.iface 409 (.pointer (some (eA aT aB aS c)))])/\Below V.heap.size V w':=by
 unfold rd2 at h
 by_cases h1:rdC a=0
 ·rw [if_neg (by simp [h1])] at h
  by_cases h2:rdC b=0
  ·rw [if_neg (by simp [h2])] at h;exact (hc h.symm).elim
  ·rw [if_pos h2] at h
   subst h
   exact of_bad2 w0 o cap B a b (rdF a) _ V k1 k2 (fun U hU=>read_of ha h1 U (hE.below hU Nat.le.refl)) (fun U hU=>read_no hb h2 U (hE.below hU Nat.le.refl))
 ·rw [if_pos h1] at h
  subst h
  exact of_bad1 w0 o cap B 2 a _ V (by decide) k1 (fun U hU=>read_no ha h1 U (hE.below hU Nat.le.refl))
theorem wrongA_of {aT aB aS:Addr} {W:World} (h:E4 aT aB aS W) {ws:List ByteArray} (hs:∀ a ∈ ws,a.size<=1000000) {kd:Kd} (ht:kd≠.turn):WrongA aT aB aS W ws kd:=by
 intro V o B cap c hV hB ho hk hc
 have hE:=h.below hV Nat.le.refl
 cases kd with
 | turn=>exact (ht rfl).elim
 | move=>
  obtain ⟨a,b,r,hd,ha,hb⟩:=drop_two ho
  rw [hd] at hk
  exact wrong2 hE (word_le hs ha) (word_le hs hb) (words_at hB ha) (words_at hB hb) hk hc
 | scale=>
  obtain ⟨a,b,r,hd,ha,hb⟩:=drop_two ho
  rw [hd] at hk
  exact wrong2 hE (word_le hs ha) (word_le hs hb) (words_at hB ha) (words_at hB hb) hk hc
 | skew=>
  obtain ⟨a,r,hd,ha⟩:=drop_one ho
  rw [hd] at hk
  change (rd1 Mv.skew a).2=c at hk
  unfold rd1 at hk
  by_cases h1:rdC a=0
  ·rw [if_neg (by simp [h1])] at hk;exact (hc hk.symm).elim
  ·rw [if_pos h1] at hk
   subst hk
   exact of_bad1 W.heap.size o cap B 1 a _ V (by decide) (words_at hB ha) (fun U hU=>read_no (word_le hs ha) h1 U (hE.below hU Nat.le.refl))
theorem wrongT_of {aT aB aS:Addr} {W:World} (h:E4 aT aB aS W) {ws:List ByteArray}:WrongT aT aB aS W ws:=by
 intro V o cap c hV hB ho hk hc
 have hE:=h.below hV Nat.le.refl
 obtain ⟨a,r,hd,ha⟩:=drop_one ho
 rw [hd] at hk
 have hw:=words_at hB ha
 change (turnR a).2=c at hk
 unfold turnR at hk
 by_cases h0:a=⟨#[48]⟩
 ·rw [if_pos h0] at hk;exact (hc hk.symm).elim
 ·rw [if_neg h0] at hk
  by_cases h1:a=⟨#[49]⟩
  ·rw [if_pos h1] at hk;exact (hc hk.symm).elim
  ·rw [if_neg h1] at hk
   by_cases h2:a=⟨#[50]⟩
   ·rw [if_pos h2] at hk;exact (hc hk.symm).elim
   ·rw [if_neg h2] at hk
    by_cases h3:a=⟨#[51]⟩
    ·rw [if_pos h3] at hk;exact (hc hk.symm).elim
    ·rw [if_neg h3] at hk
     subst hk
     exact turn_no W.heap.size o cap a aT V hw hE.t h0 h1 h2 h3
end
section
open Go.RowKit
set_option maxHeartbeats 32000000
set_option maxRecDepth 20000
attribute [local go_sem] run_store_func_m run_store_nilFunc'
theorem readL_no {f:Nat} {k:ByteArray} {ws:List ByteArray} {acc:List Mv} {c:Nat} (h:readL f (k :: ws) acc=([],c)) (_hc:c≠0) (hf:1<=f) :
    (kdOf k=none/\c=1)\/(∃ kd,kdOf k=some kd/\ws.length<kd.n/\c=1)\/(∃ kd,kdOf k=some kd/\kd.n<=ws.length/\(kdR kd ws).2=c)\/
      (∃ f' kd m,f=f'+1/\kdOf k=some kd/\kd.n<=ws.length/\kdR kd ws=(m,0)/\readL f' (ws.drop kd.n) (acc++[m])=([],c)):=by
  cases f with
  | zero=>omega
  | succ f=>
    unfold readL at h
    cases hk:kdOf k with
    | none=>rw [hk] at h;exact .inl ⟨rfl,(congrArg Prod.snd h).symm⟩
    | some kd=>
      rw [hk] at h;simp only at h
      by_cases hl:ws.length<kd.n
      · rw [if_pos hl] at h;exact .inr (.inl ⟨kd,rfl,hl,(congrArg Prod.snd h).symm⟩)
      · rw [if_neg hl] at h
        by_cases h0:(kdR kd ws).2=0
        · rw [if_pos h0] at h;exact .inr (.inr (.inr ⟨f,kd,_,rfl,rfl,by omega,Prod.ext rfl h0,h⟩))
        · rw [if_neg h0] at h;exact .inr (.inr (.inl ⟨kd,rfl,by omega,congrArg Prod.snd h⟩))
theorem kd_none {k:ByteArray} (h:kdOf k=none):k≠bMove/\k≠bScale/\k≠bTurn/\k≠bSkew:=by
  unfold kdOf at h
  refine ⟨fun e=>?_,fun e=>?_,fun e=>?_,fun e=>?_⟩
  · rw [if_pos e] at h;cases h
  all_goals
    subst e
    revert h
    decide +kernel
theorem readList_no (aT aB aS:Addr) (s:ByteArray) (ws:List ByteArray) (N c:Nat) (W:World) (hE:E4 aT aB aS W) (hs:s.size<4294967281) (hne:s.toList.isEmpty=false) (hN:Lib.countB s ⟨#[32]⟩+1=N) (hw:Lib.splitB ⟨#[32]⟩ 0 (Lib.countB s ⟨#[32]⟩) s=ws) (hlen:ws.length=N) (hN':N<=1000)
    (hR:readL N ws []=([],c)) (hc:c≠0) (KA:∀ k kd,kdOf k=some kd->kd≠.turn->KindA k kd) (KT:∀ k,kdOf k=some .turn->k=bTurn) (RA:∀ kd,kd≠.turn->ReadA W ws kd) (RT:ReadT W ws) (WA:∀ kd,kd≠.turn->WrongA aT aB aS W ws kd) (WT:WrongT aT aB aS W ws) :
    Calls Tryz.prog 172 #[.string s] W fun e w'=>e=.returned (.tuple #[.slice none 0 0,.iface 409 (.pointer (some (eA aT aB aS c)))])/\Below W.heap.size W w':=by
  have HS:=split_any s hs W
  rw [hw,hN] at HS
  clear hs
  obtain ⟨i0,hi,hz0,hz1,hz2⟩:=info_parts infoMove
  go_enter Tryz.func172,Tryz.ntmps172
  go_wp2_with (go_at_call 217;refine HS.mono ?_;rintro e w' ⟨rfl,rfl⟩)
  go_loopw [4,5] (fun lv wv wr=>∃ (j r f:Nat) (acc:List Mv),j+r=N/\acc.length<=j/\(∃ a,wv=.slice a r r/\(r≠0->a=some ⟨W.heap.size,j,none⟩))/\wr.ownsRow (W.heap.size+1) 113 12 lv acc.length (cellsM acc)/\Blk wr W.heap.size (ws.map Value.string).toArray 9/\Below W.heap.size W wr/\r<=f/\readL f (ws.drop j) acc=([],c)) (fun _ wv _=>lenOf wv)
  case atStart=>exact ⟨0,N,N,[],by omega,by simp,⟨_,rfl,fun _=>rfl⟩,World.ownsRow_nil _ _ _ _,Blk.new W _ _,(Below.refl _ W).alloc Nat.le.refl _,Nat.le_refl _,hR⟩
  case round=>
    obtain ⟨j,r,f,acc,hjr,haj,⟨ad,rfl,had⟩,hown,hblk,hlow,hrf,hRf⟩:=hrel
    cases r with
    | zero=>
      have hd:ws.drop j=[]:=List.drop_eq_nil_of_le (by omega)
      rw [hd] at hRf
      have hacc:(0:Nat)=c:=by cases f <;> exact congrArg Prod.snd hRf
      exact (hc hacc.symm).elim
    | succ r=>
      obtain rfl:=had (by omega)
      clear had
      obtain ⟨k,hk,hd⟩:=drop_cons hlen hjr
      rw [hd] at hRf
      have hRf':=readL_no hRf hc (by omega)
      clear hRf hR
      have c0:=words_at hblk hk
      clear hd
      rcases hRf' with ⟨hkd,rfl⟩ | ⟨kd,hkd,hnl,rfl⟩ | ⟨kd,hkd,hnl,hkr⟩ | ⟨f',kd,m,hff,hkd,hnl,hkr,hRg⟩
      · obtain ⟨q1,q2,q3,q4⟩:=kd_none hkd
        have hKN:=fun V=>kindOf_none k V q1 q2 q3 q4
        clear q1 q2 q3 q4 KA RA RT WA WT
        rcases Nat.eq_zero_or_pos r with hr0 | hr1
        · subst hr0
          go_wp2_with (go_at_call 221;refine (hKN _).mono ?_;rintro e w1 ⟨rfl,hb1⟩;have L1:=hlow.trans (hb1.mono hlow.size))
          have L2:=L1.alloc L1.size (.cells #[.int .i64 0,.nilFunc] 305)
          obtain ⟨V,hV⟩:∃ V,w1.alloc (.cells #[.int .i64 0,.nilFunc] 305)=V:=⟨_,rfl⟩
          rw [hV] at L2 ⊢
          clear hV
          have cT:=(hE.below L2 Nat.le.refl).t
          clear hb1 hlow hblk hown c0 L1
          go_region
          go_wp2
          go_ret2
          exact ⟨rfl,below_drewN L2 1⟩
        · have hr1':(1:Int)<=(r:Int):=by omega
          go_wp2_with (go_at_call 221;refine (hKN _).mono ?_;rintro e w1 ⟨rfl,hb1⟩;have L1:=hlow.trans (hb1.mono hlow.size))
          have L2:=L1.alloc L1.size (.cells #[.int .i64 0,.nilFunc] 305)
          obtain ⟨V,hV⟩:∃ V,w1.alloc (.cells #[.int .i64 0,.nilFunc] 305)=V:=⟨_,rfl⟩
          rw [hV] at L2 ⊢
          clear hV
          have cT:=(hE.below L2 Nat.le.refl).t
          clear hb1 hlow hblk hown c0 L1
          go_region
          go_wp2
          go_ret2
          exact ⟨rfl,below_drewN L2 1⟩
      · rw [List.length_drop] at hnl
        by_cases ht:kd=.turn
        · subst ht
          have hkt:=KT k hkd
          subst hkt
          rw [show Kd.turn.n=1 from rfl] at hnl
          have hr0:r=0:=by omega
          subst hr0
          clear KA RA RT WA WT
          go_wp2_with (go_at_call 221;refine (kindOf_turn _).mono ?_;rintro e w1 ⟨rfl,hb1⟩;have L1:=hlow.trans (hb1.mono hlow.size);have B1:=hblk.below hb1 Nat.le.refl)
          have L2:=L1.alloc L1.size (.cells #[.int .i64 1,.func (.func 269) #[] #[]] 305)
          obtain ⟨V,hV⟩:∃ V,w1.alloc (.cells #[.int .i64 1,.func (.func 269) #[] #[]] 305)=V:=⟨_,rfl⟩
          rw [hV] at L2 ⊢
          clear hV
          have cT:=(hE.below L2 Nat.le.refl).t
          clear hb1 hlow hblk hown c0 L1
          go_region
          go_wp2
          go_ret2
          exact ⟨rfl,below_drewN L2 1⟩
        · have hKA:=KA k kd hkd ht
          unfold KindA at hKA
          obtain ⟨hn1,hn2⟩:=kd.n_pos
          generalize kd.n=n at *
          have hnr:r<n:=by omega
          have hnr':(r:Int)<(n:Int):=by omega
          clear KA RA RT WA WT
          rcases Nat.eq_zero_or_pos r with hr0 | hr1
          · subst hr0
            go_wp2_with (go_at_call 221;refine (hKA _).mono ?_;rintro e w1 ⟨⟨B,hB,rfl,hBc⟩,hb1⟩;have L1:=hlow.trans (hb1.mono hlow.size);have B1:=hblk.below hb1 Nat.le.refl)
            have L2:=L1.alloc L1.size (.cells #[.int .i64 n,.func (.func 301) #[] #[.pointer (some ⟨B,0,none⟩)]] 305)
            obtain ⟨V,hV⟩:∃ V,w1.alloc (.cells #[.int .i64 n,.func (.func 301) #[] #[.pointer (some ⟨B,0,none⟩)]] 305)=V:=⟨_,rfl⟩
            rw [hV] at L2 ⊢
            clear hV
            have cT:=(hE.below L2 Nat.le.refl).t
            clear hb1 hlow hblk hown c0 L1
            go_region
            go_wp2
            go_ret2
            exact ⟨rfl,below_drewN L2 1⟩
          · have hr1':(1:Int)<=(r:Int):=by omega
            go_wp2_with (go_at_call 221;refine (hKA _).mono ?_;rintro e w1 ⟨⟨B,hB,rfl,hBc⟩,hb1⟩;have L1:=hlow.trans (hb1.mono hlow.size);have B1:=hblk.below hb1 Nat.le.refl)
            have L2:=L1.alloc L1.size (.cells #[.int .i64 n,.func (.func 301) #[] #[.pointer (some ⟨B,0,none⟩)]] 305)
            obtain ⟨V,hV⟩:∃ V,w1.alloc (.cells #[.int .i64 n,.func (.func 301) #[] #[.pointer (some ⟨B,0,none⟩)]] 305)=V:=⟨_,rfl⟩
            rw [hV] at L2 ⊢
            clear hV
            have cT:=(hE.below L2 Nat.le.refl).t
            clear hb1 hlow hblk hown c0 L1
            go_region
            go_wp2
            go_ret2
            exact ⟨rfl,below_drewN L2 1⟩
      · rw [List.length_drop] at hnl
        by_cases ht:kd=.turn
        · subst ht
          have hkt:=KT k hkd
          subst hkt
          have hWT:=WT
          unfold WrongT at hWT
          rw [show Kd.turn.n=1 from rfl] at hnl
          have hnr:1<=r:=by omega
          have hnr':(1:Int)<=(r:Int):=by omega
          clear KA RA RT WA WT
          go_wp2_with (go_at_call 221;refine (kindOf_turn _).mono ?_;rintro e w1 ⟨rfl,hb1⟩;have L1:=hlow.trans (hb1.mono hlow.size);have B1:=hblk.below hb1 Nat.le.refl)
          have K2:=Blk.new w1 #[.int .i64 1,.func (.func 269) #[] #[]] 305
          have L2:=L1.alloc L1.size (.cells #[.int .i64 1,.func (.func 269) #[] #[]] 305)
          have B2:=B1.alloc (.cells #[.int .i64 1,.func (.func 269) #[] #[]] 305)
          obtain ⟨V,hV⟩:∃ V,w1.alloc (.cells #[.int .i64 1,.func (.func 269) #[] #[]] 305)=V:=⟨_,rfl⟩
          have hVs:w1.heap.size<V.heap.size:=by rw [<- hV];simp
          rw [hV] at K2 L2 B2 ⊢
          clear hV L1 B1 hb1
          have hlt:=K2.lt
          have L3:=L2.alloc L2.size (.cells #[.int .i64 0,.int .i64 0,.int .i64 0,.int .i64 0,.int .i64 0,.int .i64 0,.int .i64 0,.int .i64 0,.int .i64 0,.int .i64 0,.int .i64 0,.int .i64 0] 113)
          have L2d:Below W.heap.size W V.drew:=below_drewN L2 1
          have L3d:Below W.heap.size W (V.alloc (.cells #[.int .i64 0,.int .i64 0,.int .i64 0,.int .i64 0,.int .i64 0,.int .i64 0,.int .i64 0,.int .i64 0,.int .i64 0,.int .i64 0,.int .i64 0,.int .i64 0] 113)).drew:=below_drewN L3 1
          have B2d:=B2.drew
          have B3d:=(B2.alloc (.cells #[.int .i64 0,.int .i64 0,.int .i64 0,.int .i64 0,.int .i64 0,.int .i64 0,.int .i64 0,.int .i64 0,.int .i64 0,.int .i64 0,.int .i64 0,.int .i64 0] 113)).drew
          have HZ:∀ u,Below (V.alloc (.cells #[.int .i64 0,.int .i64 0,.int .i64 0,.int .i64 0,.int .i64 0,.int .i64 0,.int .i64 0,.int .i64 0,.int .i64 0,.int .i64 0,.int .i64 0,.int .i64 0] 113)).drew.heap.size (V.alloc (.cells #[.int .i64 0,.int .i64 0,.int .i64 0,.int .i64 0,.int .i64 0,.int .i64 0,.int .i64 0,.int .i64 0,.int .i64 0,.int .i64 0,.int .i64 0,.int .i64 0] 113)).drew u->Blk u V.heap.size #[.int .i64 0,.int .i64 0,.int .i64 0,.int .i64 0,.int .i64 0,.int .i64 0,.int .i64 0,.int .i64 0,.int .i64 0,.int .i64 0,.int .i64 0,.int .i64 0] 113:=fun u h=>blk_after h
          have k0:=K2.cell 0 _ rfl
          have k1:=K2.cell 1 _ rfl
          have k0d:V.drew.cell? ⟨w1.heap.size,0,none⟩=some (.int .i64 1):=k0
          have k1d:V.drew.cell? ⟨w1.heap.size,1,none⟩=some (.func (.func 269) #[] #[]):=k1
          have k0e:(V.alloc (.cells #[.int .i64 0,.int .i64 0,.int .i64 0,.int .i64 0,.int .i64 0,.int .i64 0,.int .i64 0,.int .i64 0,.int .i64 0,.int .i64 0,.int .i64 0,.int .i64 0] 113)).drew.cell? ⟨w1.heap.size,0,none⟩=some (.int .i64 1):=cell_al _ k0
          have k1e:(V.alloc (.cells #[.int .i64 0,.int .i64 0,.int .i64 0,.int .i64 0,.int .i64 0,.int .i64 0,.int .i64 0,.int .i64 0,.int .i64 0,.int .i64 0,.int .i64 0,.int .i64 0] 113)).drew.cell? ⟨w1.heap.size,1,none⟩=some (.func (.func 269) #[] #[]):=cell_al _ k1
          have nv:w1.heap.size≠V.heap.size:=by omega
          have nv':¬ V.heap.size=w1.heap.size:=by omega
          have hle:j+1+1<=ws.length:=by omega
          go_cut [8,9] from 14 to 56 (fun p v wx=>v=.iface 409 (.pointer (some (eA aT aB aS c)))/\(∃ R,p=.pointer (some ⟨R,0,none⟩))/\Below V.heap.size V wx)
          case first=>
            go_region_held3 (fun w'=>w'.cell? ⟨w1.heap.size,0,none⟩=some (.int .i64 1)/\w'.cell? ⟨w1.heap.size,1,none⟩=some (.func (.func 269) #[] #[])) (refine ⟨?_,?_⟩ <;> (repeat rw [World.cell?_setCell_far _ _ _ _ nv']) <;> assumption) ((go_at_call 269;refine (hWT _ (j+1) _ c ?_ ?_ hle hkr hc).mono ?_;(first | exact L2d | exact L3d);(first | exact B2d | exact B3d);rintro e w3 ⟨rfl,hb3⟩;dsimp only [Mv.zero,Fr.zero];have hz3:=hb3.size;have hs3:=keep_b hb3 (by assumption);obtain ⟨j0,j1⟩:=hs3;have y0:=fun o=>cell_al o j0;have y1:=fun o=>cell_al o j1;have y4:=cell_al (.cells #[.int .i64 0,.int .i64 0,.int .i64 0,.int .i64 0,.int .i64 0,.int .i64 0,.int .i64 0,.int .i64 0,.int .i64 0,.int .i64 0,.int .i64 0,.int .i64 0] 113) j0;have y5:=cell_al (.cells #[.int .i64 0,.int .i64 0,.int .i64 0,.int .i64 0,.int .i64 0,.int .i64 0,.int .i64 0,.int .i64 0,.int .i64 0,.int .i64 0,.int .i64 0,.int .i64 0] 113) j1;(first | (have BZ:=HZ _ hb3;have zc0:=BZ.cell 0 _ rfl;have zf0:=BZ.froz 0 _ rfl;have zc1:=BZ.cell 1 _ rfl;have zf1:=BZ.froz 1 _ rfl;have zc2:=BZ.cell 2 _ rfl;have zf2:=BZ.froz 2 _ rfl;have zc3:=BZ.cell 3 _ rfl;have zf3:=BZ.froz 3 _ rfl;have zc4:=BZ.cell 4 _ rfl;have zf4:=BZ.froz 4 _ rfl;have zc5:=BZ.cell 5 _ rfl;have zf5:=BZ.froz 5 _ rfl;have zc6:=BZ.cell 6 _ rfl;have zf6:=BZ.froz 6 _ rfl;have zc7:=BZ.cell 7 _ rfl;have zf7:=BZ.froz 7 _ rfl;have zc8:=BZ.cell 8 _ rfl;have zf8:=BZ.froz 8 _ rfl;have zc9:=BZ.cell 9 _ rfl;have zf9:=BZ.froz 9 _ rfl;have zc10:=BZ.cell 10 _ rfl;have zf10:=BZ.froz 10 _ rfl;have zc11:=BZ.cell 11 _ rfl;have zf11:=BZ.froz 11 _ rfl) | skip)))
            · go_wp2_with fail
              go_meet
              exact ⟨rfl,⟨_,rfl⟩,(undrew hb3).alloc hz3 _⟩
            · go_wp2_with fail
              go_meet
              have hb4:Below V.heap.size V w3:=((Below.refl V.heap.size V).alloc Nat.le.refl (.cells #[.int .i64 0,.int .i64 0,.int .i64 0,.int .i64 0,.int .i64 0,.int .i64 0,.int .i64 0,.int .i64 0,.int .i64 0,.int .i64 0,.int .i64 0,.int .i64 0] 113)).trans ((undrew hb3).mono (by simp))
              exact ⟨rfl,⟨_,rfl⟩,put_below (R:=V.heap.size) Nat.le.refl [.int .i64 0,.int .i64 0,.int .i64 0,.int .i64 0,.int .i64 0,.int .i64 0,.int .i64 0,.int .i64 0,.int .i64 0,.int .i64 0,.int .i64 0,.int .i64 0] 0 hb4⟩
          case rest=>
            obtain ⟨rfl,⟨R',rfl⟩,hbV⟩:=hcut
            go_wp2_with fail
            go_ret2
            exact ⟨rfl,L2.trans (hbV.mono L2.size)⟩
        · have hKA:=KA k kd hkd ht
          have hWA:=WA kd ht
          unfold KindA at hKA
          unfold WrongA at hWA
          obtain ⟨hn1,hn2⟩:=kd.n_pos
          generalize kd.n=n at *
          have hnr:n<=r:=by omega
          have hnr':(n:Int)<=(r:Int):=by omega
          have hn0:(0:Int)<=(n:Int):=by omega
          clear KA RA RT WA WT
          go_wp2_with (go_at_call 221;refine (hKA _).mono ?_;rintro e w1 ⟨⟨B,hB,rfl,hBc⟩,hb1⟩;have L1:=hlow.trans (hb1.mono hlow.size);have B1:=hblk.below hb1 Nat.le.refl)
          have K2:=Blk.new w1 #[.int .i64 n,.func (.func 301) #[] #[.pointer (some ⟨B,0,none⟩)]] 305
          have L2:=L1.alloc L1.size (.cells #[.int .i64 n,.func (.func 301) #[] #[.pointer (some ⟨B,0,none⟩)]] 305)
          have B2:=B1.alloc (.cells #[.int .i64 n,.func (.func 301) #[] #[.pointer (some ⟨B,0,none⟩)]] 305)
          obtain ⟨V,hV⟩:∃ V,w1.alloc (.cells #[.int .i64 n,.func (.func 301) #[] #[.pointer (some ⟨B,0,none⟩)]] 305)=V:=⟨_,rfl⟩
          have hVs:w1.heap.size<V.heap.size:=by rw [<- hV];simp
          rw [hV] at K2 L2 B2 ⊢
          clear hV L1 B1 hb1
          have hlt:=K2.lt
          have L3:=L2.alloc L2.size (.cells #[.int .i64 0,.int .i64 0,.int .i64 0,.int .i64 0,.int .i64 0,.int .i64 0,.int .i64 0,.int .i64 0,.int .i64 0,.int .i64 0,.int .i64 0,.int .i64 0] 113)
          have L2d:Below W.heap.size W V.drew:=below_drewN L2 1
          have L3d:Below W.heap.size W (V.alloc (.cells #[.int .i64 0,.int .i64 0,.int .i64 0,.int .i64 0,.int .i64 0,.int .i64 0,.int .i64 0,.int .i64 0,.int .i64 0,.int .i64 0,.int .i64 0,.int .i64 0] 113)).drew:=below_drewN L3 1
          have B2d:=B2.drew
          have B3d:=(B2.alloc (.cells #[.int .i64 0,.int .i64 0,.int .i64 0,.int .i64 0,.int .i64 0,.int .i64 0,.int .i64 0,.int .i64 0,.int .i64 0,.int .i64 0,.int .i64 0,.int .i64 0] 113)).drew
          have HZ:∀ u,Below (V.alloc (.cells #[.int .i64 0,.int .i64 0,.int .i64 0,.int .i64 0,.int .i64 0,.int .i64 0,.int .i64 0,.int .i64 0,.int .i64 0,.int .i64 0,.int .i64 0,.int .i64 0] 113)).drew.heap.size (V.alloc (.cells #[.int .i64 0,.int .i64 0,.int .i64 0,.int .i64 0,.int .i64 0,.int .i64 0,.int .i64 0,.int .i64 0,.int .i64 0,.int .i64 0,.int .i64 0,.int .i64 0] 113)).drew u->Blk u V.heap.size #[.int .i64 0,.int .i64 0,.int .i64 0,.int .i64 0,.int .i64 0,.int .i64 0,.int .i64 0,.int .i64 0,.int .i64 0,.int .i64 0,.int .i64 0,.int .i64 0] 113:=fun u h=>blk_after h
          have k0:=K2.cell 0 _ rfl
          have k1:=K2.cell 1 _ rfl
          have k0d:V.drew.cell? ⟨w1.heap.size,0,none⟩=some (.int .i64 n):=k0
          have k1d:V.drew.cell? ⟨w1.heap.size,1,none⟩=some (.func (.func 301) #[] #[.pointer (some ⟨B,0,none⟩)]):=k1
          have k0e:(V.alloc (.cells #[.int .i64 0,.int .i64 0,.int .i64 0,.int .i64 0,.int .i64 0,.int .i64 0,.int .i64 0,.int .i64 0,.int .i64 0,.int .i64 0,.int .i64 0,.int .i64 0] 113)).drew.cell? ⟨w1.heap.size,0,none⟩=some (.int .i64 n):=cell_al _ k0
          have k1e:(V.alloc (.cells #[.int .i64 0,.int .i64 0,.int .i64 0,.int .i64 0,.int .i64 0,.int .i64 0,.int .i64 0,.int .i64 0,.int .i64 0,.int .i64 0,.int .i64 0,.int .i64 0] 113)).drew.cell? ⟨w1.heap.size,1,none⟩=some (.func (.func 301) #[] #[.pointer (some ⟨B,0,none⟩)]):=cell_al _ k1
          have nv:w1.heap.size≠V.heap.size:=by omega
          have nv':¬ V.heap.size=w1.heap.size:=by omega
          have hle:j+1+n<=ws.length:=by omega
          go_cut [8,9] from 14 to 56 (fun p v wx=>v=.iface 409 (.pointer (some (eA aT aB aS c)))/\(∃ R,p=.pointer (some ⟨R,0,none⟩))/\Below V.heap.size V wx)
          case first=>
            go_region_held3 (fun w'=>w'.cell? ⟨w1.heap.size,0,none⟩=some (.int .i64 n)/\w'.cell? ⟨w1.heap.size,1,none⟩=some (.func (.func 301) #[] #[.pointer (some ⟨B,0,none⟩)])) (refine ⟨?_,?_⟩ <;> (repeat rw [World.cell?_setCell_far _ _ _ _ nv']) <;> assumption) ((go_at_call 301;refine (hWA _ (j+1) B _ c ?_ ?_ hle hkr hc).mono ?_;(first | exact L2d | exact L3d);(first | exact B2d | exact B3d);rintro e w3 ⟨rfl,hb3⟩;dsimp only [Mv.zero,Fr.zero];have hz3:=hb3.size;have hs3:=keep_b hb3 (by assumption);obtain ⟨j0,j1⟩:=hs3;have y0:=fun o=>cell_al o j0;have y1:=fun o=>cell_al o j1;have y4:=cell_al (.cells #[.int .i64 0,.int .i64 0,.int .i64 0,.int .i64 0,.int .i64 0,.int .i64 0,.int .i64 0,.int .i64 0,.int .i64 0,.int .i64 0,.int .i64 0,.int .i64 0] 113) j0;have y5:=cell_al (.cells #[.int .i64 0,.int .i64 0,.int .i64 0,.int .i64 0,.int .i64 0,.int .i64 0,.int .i64 0,.int .i64 0,.int .i64 0,.int .i64 0,.int .i64 0,.int .i64 0] 113) j1;(first | (have BZ:=HZ _ hb3;have zc0:=BZ.cell 0 _ rfl;have zf0:=BZ.froz 0 _ rfl;have zc1:=BZ.cell 1 _ rfl;have zf1:=BZ.froz 1 _ rfl;have zc2:=BZ.cell 2 _ rfl;have zf2:=BZ.froz 2 _ rfl;have zc3:=BZ.cell 3 _ rfl;have zf3:=BZ.froz 3 _ rfl;have zc4:=BZ.cell 4 _ rfl;have zf4:=BZ.froz 4 _ rfl;have zc5:=BZ.cell 5 _ rfl;have zf5:=BZ.froz 5 _ rfl;have zc6:=BZ.cell 6 _ rfl;have zf6:=BZ.froz 6 _ rfl;have zc7:=BZ.cell 7 _ rfl;have zf7:=BZ.froz 7 _ rfl;have zc8:=BZ.cell 8 _ rfl;have zf8:=BZ.froz 8 _ rfl;have zc9:=BZ.cell 9 _ rfl;have zf9:=BZ.froz 9 _ rfl;have zc10:=BZ.cell 10 _ rfl;have zf10:=BZ.froz 10 _ rfl;have zc11:=BZ.cell 11 _ rfl;have zf11:=BZ.froz 11 _ rfl) | skip)))
            · go_wp2_with fail
              go_meet
              exact ⟨rfl,⟨_,rfl⟩,(undrew hb3).alloc hz3 _⟩
            · go_wp2_with fail
              go_meet
              have hb4:Below V.heap.size V w3:=((Below.refl V.heap.size V).alloc Nat.le.refl (.cells #[.int .i64 0,.int .i64 0,.int .i64 0,.int .i64 0,.int .i64 0,.int .i64 0,.int .i64 0,.int .i64 0,.int .i64 0,.int .i64 0,.int .i64 0,.int .i64 0] 113)).trans ((undrew hb3).mono (by simp))
              exact ⟨rfl,⟨_,rfl⟩,put_below (R:=V.heap.size) Nat.le.refl [.int .i64 0,.int .i64 0,.int .i64 0,.int .i64 0,.int .i64 0,.int .i64 0,.int .i64 0,.int .i64 0,.int .i64 0,.int .i64 0,.int .i64 0,.int .i64 0] 0 hb4⟩
          case rest=>
            obtain ⟨rfl,⟨R',rfl⟩,hbV⟩:=hcut
            go_wp2_with fail
            go_ret2
            exact ⟨rfl,L2.trans (hbV.mono L2.size)⟩
      · rw [List.length_drop] at hnl
        by_cases ht:kd=.turn
        · subst ht
          have hkt:=KT k hkd
          subst hkt
          have hRT:=RT
          unfold ReadT at hRT
          rw [show Kd.turn.n=1 from rfl] at hnl hRg
          have hnr:1<=r:=by omega
          have hnr':(1:Int)<=(r:Int):=by omega
          clear KA RA RT WA WT
          go_wp2_with (go_at_call 221;refine (kindOf_turn _).mono ?_;rintro e w1 ⟨rfl,hb1⟩;have L1:=hlow.trans (hb1.mono hlow.size);have B1:=hblk.below hb1 Nat.le.refl;have O1:=ownsRow_below hown hb1)
          have K2:=Blk.new w1 #[.int .i64 1,.func (.func 269) #[] #[]] 305
          have L2:=L1.alloc L1.size (.cells #[.int .i64 1,.func (.func 269) #[] #[]] 305)
          have B2:=B1.alloc (.cells #[.int .i64 1,.func (.func 269) #[] #[]] 305)
          have O2:=O1.alloc (.cells #[.int .i64 1,.func (.func 269) #[] #[]] 305)
          have q1:=hb1.size
          obtain ⟨V,hV⟩:∃ V,w1.alloc (.cells #[.int .i64 1,.func (.func 269) #[] #[]] 305)=V:=⟨_,rfl⟩
          have hVs:w1.heap.size<V.heap.size:=by rw [<- hV];simp
          rw [hV] at K2 L2 B2 O2 ⊢
          clear hV L1 B1 O1 hb1
          have hlt:=K2.lt
          have hOh:=own_hi hown
          have hOl:=own_lo hown
          have L3:=L2.alloc L2.size (.cells #[.int .i64 0,.int .i64 0,.int .i64 0,.int .i64 0,.int .i64 0,.int .i64 0,.int .i64 0,.int .i64 0,.int .i64 0,.int .i64 0,.int .i64 0,.int .i64 0] 113)
          have L2d:Below W.heap.size W V.drew:=below_drewN L2 1
          have L3d:Below W.heap.size W (V.alloc (.cells #[.int .i64 0,.int .i64 0,.int .i64 0,.int .i64 0,.int .i64 0,.int .i64 0,.int .i64 0,.int .i64 0,.int .i64 0,.int .i64 0,.int .i64 0,.int .i64 0] 113)).drew:=below_drewN L3 1
          have B2d:=B2.drew
          have B3d:=(B2.alloc (.cells #[.int .i64 0,.int .i64 0,.int .i64 0,.int .i64 0,.int .i64 0,.int .i64 0,.int .i64 0,.int .i64 0,.int .i64 0,.int .i64 0,.int .i64 0,.int .i64 0] 113)).drew
          have HZ:∀ u,Below (V.alloc (.cells #[.int .i64 0,.int .i64 0,.int .i64 0,.int .i64 0,.int .i64 0,.int .i64 0,.int .i64 0,.int .i64 0,.int .i64 0,.int .i64 0,.int .i64 0,.int .i64 0] 113)).drew.heap.size (V.alloc (.cells #[.int .i64 0,.int .i64 0,.int .i64 0,.int .i64 0,.int .i64 0,.int .i64 0,.int .i64 0,.int .i64 0,.int .i64 0,.int .i64 0,.int .i64 0,.int .i64 0] 113)).drew u->Blk u V.heap.size #[.int .i64 0,.int .i64 0,.int .i64 0,.int .i64 0,.int .i64 0,.int .i64 0,.int .i64 0,.int .i64 0,.int .i64 0,.int .i64 0,.int .i64 0,.int .i64 0] 113:=fun u h=>blk_after h
          have k0:=K2.cell 0 _ rfl
          have k1:=K2.cell 1 _ rfl
          have k0d:V.drew.cell? ⟨w1.heap.size,0,none⟩=some (.int .i64 1):=k0
          have k1d:V.drew.cell? ⟨w1.heap.size,1,none⟩=some (.func (.func 269) #[] #[]):=k1
          have k0e:(V.alloc (.cells #[.int .i64 0,.int .i64 0,.int .i64 0,.int .i64 0,.int .i64 0,.int .i64 0,.int .i64 0,.int .i64 0,.int .i64 0,.int .i64 0,.int .i64 0,.int .i64 0] 113)).drew.cell? ⟨w1.heap.size,0,none⟩=some (.int .i64 1):=cell_al _ k0
          have k1e:(V.alloc (.cells #[.int .i64 0,.int .i64 0,.int .i64 0,.int .i64 0,.int .i64 0,.int .i64 0,.int .i64 0,.int .i64 0,.int .i64 0,.int .i64 0,.int .i64 0,.int .i64 0] 113)).drew.cell? ⟨w1.heap.size,1,none⟩=some (.func (.func 269) #[] #[]):=cell_al _ k1
          have nv:w1.heap.size≠V.heap.size:=by omega
          have nv':¬ V.heap.size=w1.heap.size:=by omega
          have hle:j+1+1<=ws.length:=by omega
          go_cut [8,9] from 14 to 56 (fun p v wx=>v=.nilIface/\∃ R,p=.pointer (some ⟨R,0,none⟩)/\V.heap.size<=R/\(∀ j u,[.int .i64 m.a.n,.int .i64 m.a.d,.int .i64 m.b.n,.int .i64 m.b.d,.int .i64 m.c.n,.int .i64 m.c.d,.int .i64 m.d.n,.int .i64 m.d.d,.int .i64 m.e.n,.int .i64 m.e.d,.int .i64 m.f.n,.int .i64 m.f.d][j]? = some u->wx.cell? ⟨R,j,none⟩=some u)/\Below V.heap.size V wx)
          case first=>
            go_region_held3 (fun w'=>w'.cell? ⟨w1.heap.size,0,none⟩=some (.int .i64 1)/\w'.cell? ⟨w1.heap.size,1,none⟩=some (.func (.func 269) #[] #[])) (refine ⟨?_,?_⟩ <;> (repeat rw [World.cell?_setCell_far _ _ _ _ nv']) <;> assumption) ((go_at_call 269;refine (hRT _ (j+1) _ m ?_ ?_ hle hkr).mono ?_;(first | exact L2d | exact L3d);(first | exact B2d | exact B3d);rintro e w3 ⟨rfl,hb3⟩;have hz3:=hb3.size;have hs3:=keep_b hb3 (by assumption);obtain ⟨j0,j1⟩:=hs3;have y0:=fun o=>cell_al o j0;have y1:=fun o=>cell_al o j1;have y2:=cell_al (.cells #[.int .i64 m.a.n,.int .i64 m.a.d,.int .i64 m.b.n,.int .i64 m.b.d,.int .i64 m.c.n,.int .i64 m.c.d,.int .i64 m.d.n,.int .i64 m.d.d,.int .i64 m.e.n,.int .i64 m.e.d,.int .i64 m.f.n,.int .i64 m.f.d] 113) j0;have y3:=cell_al (.cells #[.int .i64 m.a.n,.int .i64 m.a.d,.int .i64 m.b.n,.int .i64 m.b.d,.int .i64 m.c.n,.int .i64 m.c.d,.int .i64 m.d.n,.int .i64 m.d.d,.int .i64 m.e.n,.int .i64 m.e.d,.int .i64 m.f.n,.int .i64 m.f.d] 113) j1;have y4:=cell_al (.cells #[.int .i64 0,.int .i64 0,.int .i64 0,.int .i64 0,.int .i64 0,.int .i64 0,.int .i64 0,.int .i64 0,.int .i64 0,.int .i64 0,.int .i64 0,.int .i64 0] 113) j0;have y5:=cell_al (.cells #[.int .i64 0,.int .i64 0,.int .i64 0,.int .i64 0,.int .i64 0,.int .i64 0,.int .i64 0,.int .i64 0,.int .i64 0,.int .i64 0,.int .i64 0,.int .i64 0] 113) j1;(first | (have BZ:=HZ _ hb3;have zc0:=BZ.cell 0 _ rfl;have zf0:=BZ.froz 0 _ rfl;have zc1:=BZ.cell 1 _ rfl;have zf1:=BZ.froz 1 _ rfl;have zc2:=BZ.cell 2 _ rfl;have zf2:=BZ.froz 2 _ rfl;have zc3:=BZ.cell 3 _ rfl;have zf3:=BZ.froz 3 _ rfl;have zc4:=BZ.cell 4 _ rfl;have zf4:=BZ.froz 4 _ rfl;have zc5:=BZ.cell 5 _ rfl;have zf5:=BZ.froz 5 _ rfl;have zc6:=BZ.cell 6 _ rfl;have zf6:=BZ.froz 6 _ rfl;have zc7:=BZ.cell 7 _ rfl;have zf7:=BZ.froz 7 _ rfl;have zc8:=BZ.cell 8 _ rfl;have zf8:=BZ.froz 8 _ rfl;have zc9:=BZ.cell 9 _ rfl;have zf9:=BZ.froz 9 _ rfl;have zc10:=BZ.cell 10 _ rfl;have zf10:=BZ.froz 10 _ rfl;have zc11:=BZ.cell 11 _ rfl;have zf11:=BZ.froz 11 _ rfl) | skip)))
            · go_wp2_with fail
              go_meet
              exact ⟨rfl,w3.heap.size,rfl,hz3,list_at (cs:=[.int .i64 m.a.n,.int .i64 m.a.d,.int .i64 m.b.n,.int .i64 m.b.d,.int .i64 m.c.n,.int .i64 m.c.d,.int .i64 m.d.n,.int .i64 m.d.d,.int .i64 m.e.n,.int .i64 m.e.d,.int .i64 m.f.n,.int .i64 m.f.d]),(undrew hb3).alloc hz3 _⟩
            · go_wp2_with fail
              go_meet
              have hb4:Below V.heap.size V w3:=((Below.refl V.heap.size V).alloc Nat.le.refl (.cells #[.int .i64 0,.int .i64 0,.int .i64 0,.int .i64 0,.int .i64 0,.int .i64 0,.int .i64 0,.int .i64 0,.int .i64 0,.int .i64 0,.int .i64 0,.int .i64 0] 113)).trans ((undrew hb3).mono (by simp))
              have hat:=put_at (R:=V.heap.size) [.int .i64 m.a.n,.int .i64 m.a.d,.int .i64 m.b.n,.int .i64 m.b.d,.int .i64 m.c.n,.int .i64 m.c.d,.int .i64 m.d.n,.int .i64 m.d.d,.int .i64 m.e.n,.int .i64 m.e.d,.int .i64 m.f.n,.int .i64 m.f.d] 0 w3 (fun i hi=>blk_some BZ i hi)
              simp only [Nat.zero_add] at hat
              exact ⟨rfl,V.heap.size,rfl,Nat.le_refl _,hat,put_below (R:=V.heap.size) Nat.le.refl [.int .i64 m.a.n,.int .i64 m.a.d,.int .i64 m.b.n,.int .i64 m.b.d,.int .i64 m.c.n,.int .i64 m.c.d,.int .i64 m.d.n,.int .i64 m.d.d,.int .i64 m.e.n,.int .i64 m.e.d,.int .i64 m.f.n,.int .i64 m.f.d] 0 hb4⟩
          case rest=>
            obtain ⟨rfl,R',rfl,hR',hcells,hbV⟩:=hcut
            have KC:=K2.below hbV Nat.le.refl
            have kk:=KC.cell 0 _ rfl
            have LC:=L2.trans (hbV.mono L2.size)
            have BC:=B2.below hbV Nat.le.refl
            have OC:=((ownsRow_below O2 hbV).alloc (.cells #[.int .i64 m.a.n,.int .i64 m.a.d,.int .i64 m.b.n,.int .i64 m.b.d,.int .i64 m.c.n,.int .i64 m.c.d,.int .i64 m.d.n,.int .i64 m.d.d,.int .i64 m.e.n,.int .i64 m.e.d,.int .i64 m.f.n,.int .i64 m.f.d] 113))
            have OCd:(wc.alloc (.cells #[.int .i64 m.a.n,.int .i64 m.a.d,.int .i64 m.b.n,.int .i64 m.b.d,.int .i64 m.c.n,.int .i64 m.c.d,.int .i64 m.d.n,.int .i64 m.d.d,.int .i64 m.e.n,.int .i64 m.e.d,.int .i64 m.f.n,.int .i64 m.f.d] 113)).drew.ownsRow (W.heap.size+1) 113 12 u4 acc.length (cellsM acc):=OC
            obtain ⟨m0,m1,m2,m3,m4,m5,m6,m7,m8,m9,m10,m11⟩:=And.intro (hcells 0 _ rfl) (And.intro (hcells 1 _ rfl) (And.intro (hcells 2 _ rfl) (And.intro (hcells 3 _ rfl) (And.intro (hcells 4 _ rfl) (And.intro (hcells 5 _ rfl) (And.intro (hcells 6 _ rfl) (And.intro (hcells 7 _ rfl) (And.intro (hcells 8 _ rfl) (And.intro (hcells 9 _ rfl) (And.intro (hcells 10 _ rfl) (hcells 11 _ rfl)))))))))))
            have szC:=hbV.size
            clear hcells k0 k1 k0d k1d k0e k1e HZ L2d L3d L3 B2d B3d OC
            have H0:=World.alloc_heap_new wc (.cells #[.int .i64 m.a.n,.int .i64 m.a.d,.int .i64 m.b.n,.int .i64 m.b.d,.int .i64 m.c.n,.int .i64 m.c.d,.int .i64 m.d.n,.int .i64 m.d.d,.int .i64 m.e.n,.int .i64 m.e.d,.int .i64 m.f.n,.int .i64 m.f.d] 113)
            go_wp2_with fail
            go_region_held3 (fun w'=>w'.cell? ⟨R',0,none⟩=some (.int .i64 m.a.n)/\w'.cell? ⟨R',1,none⟩=some (.int .i64 m.a.d)/\w'.cell? ⟨R',2,none⟩=some (.int .i64 m.b.n)/\w'.cell? ⟨R',3,none⟩=some (.int .i64 m.b.d)/\w'.cell? ⟨R',4,none⟩=some (.int .i64 m.c.n)/\w'.cell? ⟨R',5,none⟩=some (.int .i64 m.c.d)/\w'.cell? ⟨R',6,none⟩=some (.int .i64 m.d.n)/\w'.cell? ⟨R',7,none⟩=some (.int .i64 m.d.d)/\w'.cell? ⟨R',8,none⟩=some (.int .i64 m.e.n)/\w'.cell? ⟨R',9,none⟩=some (.int .i64 m.e.d)/\w'.cell? ⟨R',10,none⟩=some (.int .i64 m.f.n)/\w'.cell? ⟨R',11,none⟩=some (.int .i64 m.f.d)/\w'.cell? ⟨w1.heap.size,0,none⟩=some (.int .i64 1)) (refine ⟨?_,?_,?_,?_,?_,?_,?_,?_,?_,?_,?_,?_,?_⟩ <;> first | assumption | exact cell_al _ (by assumption) | exact hA _ _ (by assumption) (by simp only;omega)) ((refine step_append_lies _ rfl (.tmp 49) (.tmp 51) 247 rfl (W.heap.size+1) 113 i0 (.agg #[.int .i64 0,.int .i64 0,.int .i64 0,.int .i64 0,.int .i64 0,.int .i64 0,.int .i64 0,.int .i64 0,.int .i64 0,.int .i64 0,.int .i64 0,.int .i64 0]) 12 96 Tryz.underlying247 hi hz0 hz1 hz2 rfl (by decide) u4 acc.length (cellsM acc) rfl OCd ⟨wc.heap.size,0,none⟩ 1 1 [.int .i64 m.a.n,.int .i64 m.a.d,.int .i64 m.b.n,.int .i64 m.b.d,.int .i64 m.c.n,.int .i64 m.c.d,.int .i64 m.d.n,.int .i64 m.d.d,.int .i64 m.e.n,.int .i64 m.e.d,.int .i64 m.f.n,.int .i64 m.f.d] rfl rfl (World.news_of_block (w:=(wc.alloc (.cells #[.int .i64 m.a.n,.int .i64 m.a.d,.int .i64 m.b.n,.int .i64 m.b.d,.int .i64 m.c.n,.int .i64 m.c.d,.int .i64 m.d.n,.int .i64 m.d.d,.int .i64 m.e.n,.int .i64 m.e.d,.int .i64 m.f.n,.int .i64 m.f.d] 113)).drew) (cs:=#[.int .i64 m.a.n,.int .i64 m.a.d,.int .i64 m.b.n,.int .i64 m.b.d,.int .i64 m.c.n,.int .i64 m.c.d,.int .i64 m.d.n,.int .i64 m.d.d,.int .i64 m.e.n,.int .i64 m.e.d,.int .i64 m.f.n,.int .i64 m.f.d]) H0) one12 (by decide) (by unfold maxLen;omega) (by omega) (by have:=LC.size;simp;omega) _ rfl ?_;intro g cap w5 hown5 hgrow hat hlt5;have hgr:World.grownBy (wc.alloc (.cells #[.int .i64 m.a.n,.int .i64 m.a.d,.int .i64 m.b.n,.int .i64 m.b.d,.int .i64 m.c.n,.int .i64 m.c.d,.int .i64 m.d.n,.int .i64 m.d.d,.int .i64 m.e.n,.int .i64 m.e.d,.int .i64 m.f.n,.int .i64 m.f.d] 113)).drew w5 u4.ownBlock:=hgrow;have hA:∀ p v,wc.cell? p=some v->(p.block=W.heap.size\/w1.heap.size<=p.block)->w5.cell? p=some v:=(fun p v h hp=>(hgr.cell_far p (by have:=cell_lt h;simp;omega) (fun e=>by have:=hOh _ e.symm;have:=hOl _ e.symm;have:=q1;omega)).trans (cell_al (W:=wc) _ h))))
            go_wp2_with fail
            rw [List.drop_drop] at hRg
            refine ⟨⟨j+1+1,r - 1,f',acc++[m],by omega,by simp;omega,⟨_,rfl,fun h=>by rw [if_neg (by omega)]⟩,by rw [List.length_append,cellsM_snoc];exact hown5,((BC.alloc (.cells #[.int .i64 m.a.n,.int .i64 m.a.d,.int .i64 m.b.n,.int .i64 m.b.d,.int .i64 m.c.n,.int .i64 m.c.d,.int .i64 m.d.n,.int .i64 m.d.d,.int .i64 m.e.n,.int .i64 m.e.d,.int .i64 m.f.n,.int .i64 m.f.d] 113)).drew).grown hgr (fun e=>by have:=hOl _ e;omega),(below_drewN (LC.alloc LC.size (.cells #[.int .i64 m.a.n,.int .i64 m.a.d,.int .i64 m.b.n,.int .i64 m.b.d,.int .i64 m.c.n,.int .i64 m.c.d,.int .i64 m.d.n,.int .i64 m.d.d,.int .i64 m.e.n,.int .i64 m.e.d,.int .i64 m.f.n,.int .i64 m.f.d] 113)) 1).grown hgr (by have:=LC.size;simp;omega) (fun k e=>by have:=hOl k e;omega),by omega,hRg⟩,by simp only [lenOf];omega⟩
        · have hKA:=KA k kd hkd ht
          have hRA:=RA kd ht
          unfold KindA at hKA
          unfold ReadA at hRA
          obtain ⟨hn1,hn2⟩:=kd.n_pos
          generalize kd.n=n at *
          have hnr:n<=r:=by omega
          have hnr':(n:Int)<=(r:Int):=by omega
          have hn0:(0:Int)<=(n:Int):=by omega
          clear KA RA RT WA WT
          go_wp2_with (go_at_call 221;refine (hKA _).mono ?_;rintro e w1 ⟨⟨B,hB,rfl,hBc⟩,hb1⟩;have L1:=hlow.trans (hb1.mono hlow.size);have B1:=hblk.below hb1 Nat.le.refl;have O1:=ownsRow_below hown hb1)
          have C2:=cell_al (.cells #[.int .i64 n,.func (.func 301) #[] #[.pointer (some ⟨B,0,none⟩)]] 305) hBc
          have K2:=Blk.new w1 #[.int .i64 n,.func (.func 301) #[] #[.pointer (some ⟨B,0,none⟩)]] 305
          have L2:=L1.alloc L1.size (.cells #[.int .i64 n,.func (.func 301) #[] #[.pointer (some ⟨B,0,none⟩)]] 305)
          have B2:=B1.alloc (.cells #[.int .i64 n,.func (.func 301) #[] #[.pointer (some ⟨B,0,none⟩)]] 305)
          have O2:=O1.alloc (.cells #[.int .i64 n,.func (.func 301) #[] #[.pointer (some ⟨B,0,none⟩)]] 305)
          have q1:=hb1.size
          obtain ⟨V,hV⟩:∃ V,w1.alloc (.cells #[.int .i64 n,.func (.func 301) #[] #[.pointer (some ⟨B,0,none⟩)]] 305)=V:=⟨_,rfl⟩
          have hVs:w1.heap.size<V.heap.size:=by rw [<- hV];simp
          rw [hV] at K2 L2 B2 O2 C2 ⊢
          clear hV L1 B1 O1 hb1 hBc
          have hlt:=K2.lt
          have hOh:=own_hi hown
          have hOl:=own_lo hown
          have L3:=L2.alloc L2.size (.cells #[.int .i64 0,.int .i64 0,.int .i64 0,.int .i64 0,.int .i64 0,.int .i64 0,.int .i64 0,.int .i64 0,.int .i64 0,.int .i64 0,.int .i64 0,.int .i64 0] 113)
          have L2d:Below W.heap.size W V.drew:=below_drewN L2 1
          have L3d:Below W.heap.size W (V.alloc (.cells #[.int .i64 0,.int .i64 0,.int .i64 0,.int .i64 0,.int .i64 0,.int .i64 0,.int .i64 0,.int .i64 0,.int .i64 0,.int .i64 0,.int .i64 0,.int .i64 0] 113)).drew:=below_drewN L3 1
          have B2d:=B2.drew
          have B3d:=(B2.alloc (.cells #[.int .i64 0,.int .i64 0,.int .i64 0,.int .i64 0,.int .i64 0,.int .i64 0,.int .i64 0,.int .i64 0,.int .i64 0,.int .i64 0,.int .i64 0,.int .i64 0] 113)).drew
          have C2d:V.drew.cell? ⟨B,0,none⟩=some (.func (.func kd.f) #[] #[]):=C2
          have C3d:(V.alloc (.cells #[.int .i64 0,.int .i64 0,.int .i64 0,.int .i64 0,.int .i64 0,.int .i64 0,.int .i64 0,.int .i64 0,.int .i64 0,.int .i64 0,.int .i64 0,.int .i64 0] 113)).drew.cell? ⟨B,0,none⟩=some (.func (.func kd.f) #[] #[]):=cell_al _ C2
          have HZ:∀ u,Below (V.alloc (.cells #[.int .i64 0,.int .i64 0,.int .i64 0,.int .i64 0,.int .i64 0,.int .i64 0,.int .i64 0,.int .i64 0,.int .i64 0,.int .i64 0,.int .i64 0,.int .i64 0] 113)).drew.heap.size (V.alloc (.cells #[.int .i64 0,.int .i64 0,.int .i64 0,.int .i64 0,.int .i64 0,.int .i64 0,.int .i64 0,.int .i64 0,.int .i64 0,.int .i64 0,.int .i64 0,.int .i64 0] 113)).drew u->Blk u V.heap.size #[.int .i64 0,.int .i64 0,.int .i64 0,.int .i64 0,.int .i64 0,.int .i64 0,.int .i64 0,.int .i64 0,.int .i64 0,.int .i64 0,.int .i64 0,.int .i64 0] 113:=fun u h=>blk_after h
          have k0:=K2.cell 0 _ rfl
          have k1:=K2.cell 1 _ rfl
          have k0d:V.drew.cell? ⟨w1.heap.size,0,none⟩=some (.int .i64 n):=k0
          have k1d:V.drew.cell? ⟨w1.heap.size,1,none⟩=some (.func (.func 301) #[] #[.pointer (some ⟨B,0,none⟩)]):=k1
          have k0e:(V.alloc (.cells #[.int .i64 0,.int .i64 0,.int .i64 0,.int .i64 0,.int .i64 0,.int .i64 0,.int .i64 0,.int .i64 0,.int .i64 0,.int .i64 0,.int .i64 0,.int .i64 0] 113)).drew.cell? ⟨w1.heap.size,0,none⟩=some (.int .i64 n):=cell_al _ k0
          have k1e:(V.alloc (.cells #[.int .i64 0,.int .i64 0,.int .i64 0,.int .i64 0,.int .i64 0,.int .i64 0,.int .i64 0,.int .i64 0,.int .i64 0,.int .i64 0,.int .i64 0,.int .i64 0] 113)).drew.cell? ⟨w1.heap.size,1,none⟩=some (.func (.func 301) #[] #[.pointer (some ⟨B,0,none⟩)]):=cell_al _ k1
          have nv:w1.heap.size≠V.heap.size:=by omega
          have nv':¬ V.heap.size=w1.heap.size:=by omega
          have hle:j+1+n<=ws.length:=by omega
          go_cut [8,9] from 14 to 56 (fun p v wx=>v=.nilIface/\∃ R,p=.pointer (some ⟨R,0,none⟩)/\V.heap.size<=R/\(∀ j u,[.int .i64 m.a.n,.int .i64 m.a.d,.int .i64 m.b.n,.int .i64 m.b.d,.int .i64 m.c.n,.int .i64 m.c.d,.int .i64 m.d.n,.int .i64 m.d.d,.int .i64 m.e.n,.int .i64 m.e.d,.int .i64 m.f.n,.int .i64 m.f.d][j]? = some u->wx.cell? ⟨R,j,none⟩=some u)/\Below V.heap.size V wx)
          case first=>
            go_region_held3 (fun w'=>w'.cell? ⟨w1.heap.size,0,none⟩=some (.int .i64 n)/\w'.cell? ⟨w1.heap.size,1,none⟩=some (.func (.func 301) #[] #[.pointer (some ⟨B,0,none⟩)])) (refine ⟨?_,?_⟩ <;> (repeat rw [World.cell?_setCell_far _ _ _ _ nv']) <;> assumption) ((go_at_call 301;refine (hRA _ (j+1) B _ m ?_ ?_ ?_ hle hkr).mono ?_;(first | exact L2d | exact L3d);(first | exact B2d | exact B3d);(first | exact C2d | exact C3d);rintro e w3 ⟨rfl,hb3⟩;have hz3:=hb3.size;have hs3:=keep_b hb3 (by assumption);obtain ⟨j0,j1⟩:=hs3;have y0:=fun o=>cell_al o j0;have y1:=fun o=>cell_al o j1;have y2:=cell_al (.cells #[.int .i64 m.a.n,.int .i64 m.a.d,.int .i64 m.b.n,.int .i64 m.b.d,.int .i64 m.c.n,.int .i64 m.c.d,.int .i64 m.d.n,.int .i64 m.d.d,.int .i64 m.e.n,.int .i64 m.e.d,.int .i64 m.f.n,.int .i64 m.f.d] 113) j0;have y3:=cell_al (.cells #[.int .i64 m.a.n,.int .i64 m.a.d,.int .i64 m.b.n,.int .i64 m.b.d,.int .i64 m.c.n,.int .i64 m.c.d,.int .i64 m.d.n,.int .i64 m.d.d,.int .i64 m.e.n,.int .i64 m.e.d,.int .i64 m.f.n,.int .i64 m.f.d] 113) j1;have y4:=cell_al (.cells #[.int .i64 0,.int .i64 0,.int .i64 0,.int .i64 0,.int .i64 0,.int .i64 0,.int .i64 0,.int .i64 0,.int .i64 0,.int .i64 0,.int .i64 0,.int .i64 0] 113) j0;have y5:=cell_al (.cells #[.int .i64 0,.int .i64 0,.int .i64 0,.int .i64 0,.int .i64 0,.int .i64 0,.int .i64 0,.int .i64 0,.int .i64 0,.int .i64 0,.int .i64 0,.int .i64 0] 113) j1;(first | (have BZ:=HZ _ hb3;have zc0:=BZ.cell 0 _ rfl;have zf0:=BZ.froz 0 _ rfl;have zc1:=BZ.cell 1 _ rfl;have zf1:=BZ.froz 1 _ rfl;have zc2:=BZ.cell 2 _ rfl;have zf2:=BZ.froz 2 _ rfl;have zc3:=BZ.cell 3 _ rfl;have zf3:=BZ.froz 3 _ rfl;have zc4:=BZ.cell 4 _ rfl;have zf4:=BZ.froz 4 _ rfl;have zc5:=BZ.cell 5 _ rfl;have zf5:=BZ.froz 5 _ rfl;have zc6:=BZ.cell 6 _ rfl;have zf6:=BZ.froz 6 _ rfl;have zc7:=BZ.cell 7 _ rfl;have zf7:=BZ.froz 7 _ rfl;have zc8:=BZ.cell 8 _ rfl;have zf8:=BZ.froz 8 _ rfl;have zc9:=BZ.cell 9 _ rfl;have zf9:=BZ.froz 9 _ rfl;have zc10:=BZ.cell 10 _ rfl;have zf10:=BZ.froz 10 _ rfl;have zc11:=BZ.cell 11 _ rfl;have zf11:=BZ.froz 11 _ rfl) | skip)))
            · go_wp2_with fail
              go_meet
              exact ⟨rfl,w3.heap.size,rfl,hz3,list_at (cs:=[.int .i64 m.a.n,.int .i64 m.a.d,.int .i64 m.b.n,.int .i64 m.b.d,.int .i64 m.c.n,.int .i64 m.c.d,.int .i64 m.d.n,.int .i64 m.d.d,.int .i64 m.e.n,.int .i64 m.e.d,.int .i64 m.f.n,.int .i64 m.f.d]),(undrew hb3).alloc hz3 _⟩
            · go_wp2_with fail
              go_meet
              have hb4:Below V.heap.size V w3:=((Below.refl V.heap.size V).alloc Nat.le.refl (.cells #[.int .i64 0,.int .i64 0,.int .i64 0,.int .i64 0,.int .i64 0,.int .i64 0,.int .i64 0,.int .i64 0,.int .i64 0,.int .i64 0,.int .i64 0,.int .i64 0] 113)).trans ((undrew hb3).mono (by simp))
              have hat:=put_at (R:=V.heap.size) [.int .i64 m.a.n,.int .i64 m.a.d,.int .i64 m.b.n,.int .i64 m.b.d,.int .i64 m.c.n,.int .i64 m.c.d,.int .i64 m.d.n,.int .i64 m.d.d,.int .i64 m.e.n,.int .i64 m.e.d,.int .i64 m.f.n,.int .i64 m.f.d] 0 w3 (fun i hi=>blk_some BZ i hi)
              simp only [Nat.zero_add] at hat
              exact ⟨rfl,V.heap.size,rfl,Nat.le_refl _,hat,put_below (R:=V.heap.size) Nat.le.refl [.int .i64 m.a.n,.int .i64 m.a.d,.int .i64 m.b.n,.int .i64 m.b.d,.int .i64 m.c.n,.int .i64 m.c.d,.int .i64 m.d.n,.int .i64 m.d.d,.int .i64 m.e.n,.int .i64 m.e.d,.int .i64 m.f.n,.int .i64 m.f.d] 0 hb4⟩
          case rest=>
            obtain ⟨rfl,R',rfl,hR',hcells,hbV⟩:=hcut
            have KC:=K2.below hbV Nat.le.refl
            have kk:=KC.cell 0 _ rfl
            have LC:=L2.trans (hbV.mono L2.size)
            have BC:=B2.below hbV Nat.le.refl
            have OC:=((ownsRow_below O2 hbV).alloc (.cells #[.int .i64 m.a.n,.int .i64 m.a.d,.int .i64 m.b.n,.int .i64 m.b.d,.int .i64 m.c.n,.int .i64 m.c.d,.int .i64 m.d.n,.int .i64 m.d.d,.int .i64 m.e.n,.int .i64 m.e.d,.int .i64 m.f.n,.int .i64 m.f.d] 113))
            have OCd:(wc.alloc (.cells #[.int .i64 m.a.n,.int .i64 m.a.d,.int .i64 m.b.n,.int .i64 m.b.d,.int .i64 m.c.n,.int .i64 m.c.d,.int .i64 m.d.n,.int .i64 m.d.d,.int .i64 m.e.n,.int .i64 m.e.d,.int .i64 m.f.n,.int .i64 m.f.d] 113)).drew.ownsRow (W.heap.size+1) 113 12 u4 acc.length (cellsM acc):=OC
            obtain ⟨m0,m1,m2,m3,m4,m5,m6,m7,m8,m9,m10,m11⟩:=And.intro (hcells 0 _ rfl) (And.intro (hcells 1 _ rfl) (And.intro (hcells 2 _ rfl) (And.intro (hcells 3 _ rfl) (And.intro (hcells 4 _ rfl) (And.intro (hcells 5 _ rfl) (And.intro (hcells 6 _ rfl) (And.intro (hcells 7 _ rfl) (And.intro (hcells 8 _ rfl) (And.intro (hcells 9 _ rfl) (And.intro (hcells 10 _ rfl) (hcells 11 _ rfl)))))))))))
            have szC:=hbV.size
            clear hcells k0 k1 k0d k1d k0e k1e HZ L2d L3d L3 B2d B3d OC
            have H0:=World.alloc_heap_new wc (.cells #[.int .i64 m.a.n,.int .i64 m.a.d,.int .i64 m.b.n,.int .i64 m.b.d,.int .i64 m.c.n,.int .i64 m.c.d,.int .i64 m.d.n,.int .i64 m.d.d,.int .i64 m.e.n,.int .i64 m.e.d,.int .i64 m.f.n,.int .i64 m.f.d] 113)
            go_wp2_with fail
            go_region_held3 (fun w'=>w'.cell? ⟨R',0,none⟩=some (.int .i64 m.a.n)/\w'.cell? ⟨R',1,none⟩=some (.int .i64 m.a.d)/\w'.cell? ⟨R',2,none⟩=some (.int .i64 m.b.n)/\w'.cell? ⟨R',3,none⟩=some (.int .i64 m.b.d)/\w'.cell? ⟨R',4,none⟩=some (.int .i64 m.c.n)/\w'.cell? ⟨R',5,none⟩=some (.int .i64 m.c.d)/\w'.cell? ⟨R',6,none⟩=some (.int .i64 m.d.n)/\w'.cell? ⟨R',7,none⟩=some (.int .i64 m.d.d)/\w'.cell? ⟨R',8,none⟩=some (.int .i64 m.e.n)/\w'.cell? ⟨R',9,none⟩=some (.int .i64 m.e.d)/\w'.cell? ⟨R',10,none⟩=some (.int .i64 m.f.n)/\w'.cell? ⟨R',11,none⟩=some (.int .i64 m.f.d)/\w'.cell? ⟨w1.heap.size,0,none⟩=some (.int .i64 n)) (refine ⟨?_,?_,?_,?_,?_,?_,?_,?_,?_,?_,?_,?_,?_⟩ <;> first | assumption | exact cell_al _ (by assumption) | exact hA _ _ (by assumption) (by simp only;omega)) ((refine step_append_lies _ rfl (.tmp 49) (.tmp 51) 247 rfl (W.heap.size+1) 113 i0 (.agg #[.int .i64 0,.int .i64 0,.int .i64 0,.int .i64 0,.int .i64 0,.int .i64 0,.int .i64 0,.int .i64 0,.int .i64 0,.int .i64 0,.int .i64 0,.int .i64 0]) 12 96 Tryz.underlying247 hi hz0 hz1 hz2 rfl (by decide) u4 acc.length (cellsM acc) rfl OCd ⟨wc.heap.size,0,none⟩ 1 1 [.int .i64 m.a.n,.int .i64 m.a.d,.int .i64 m.b.n,.int .i64 m.b.d,.int .i64 m.c.n,.int .i64 m.c.d,.int .i64 m.d.n,.int .i64 m.d.d,.int .i64 m.e.n,.int .i64 m.e.d,.int .i64 m.f.n,.int .i64 m.f.d] rfl rfl (World.news_of_block (w:=(wc.alloc (.cells #[.int .i64 m.a.n,.int .i64 m.a.d,.int .i64 m.b.n,.int .i64 m.b.d,.int .i64 m.c.n,.int .i64 m.c.d,.int .i64 m.d.n,.int .i64 m.d.d,.int .i64 m.e.n,.int .i64 m.e.d,.int .i64 m.f.n,.int .i64 m.f.d] 113)).drew) (cs:=#[.int .i64 m.a.n,.int .i64 m.a.d,.int .i64 m.b.n,.int .i64 m.b.d,.int .i64 m.c.n,.int .i64 m.c.d,.int .i64 m.d.n,.int .i64 m.d.d,.int .i64 m.e.n,.int .i64 m.e.d,.int .i64 m.f.n,.int .i64 m.f.d]) H0) one12 (by decide) (by unfold maxLen;omega) (by omega) (by have:=LC.size;simp;omega) _ rfl ?_;intro g cap w5 hown5 hgrow hat hlt5;have hgr:World.grownBy (wc.alloc (.cells #[.int .i64 m.a.n,.int .i64 m.a.d,.int .i64 m.b.n,.int .i64 m.b.d,.int .i64 m.c.n,.int .i64 m.c.d,.int .i64 m.d.n,.int .i64 m.d.d,.int .i64 m.e.n,.int .i64 m.e.d,.int .i64 m.f.n,.int .i64 m.f.d] 113)).drew w5 u4.ownBlock:=hgrow;have hA:∀ p v,wc.cell? p=some v->(p.block=W.heap.size\/w1.heap.size<=p.block)->w5.cell? p=some v:=(fun p v h hp=>(hgr.cell_far p (by have:=cell_lt h;simp;omega) (fun e=>by have:=hOh _ e.symm;have:=hOl _ e.symm;have:=q1;omega)).trans (cell_al (W:=wc) _ h))))
            go_wp2_with fail
            rw [List.drop_drop] at hRg
            refine ⟨⟨j+1+n,r - n,f',acc++[m],by omega,by simp;omega,⟨_,rfl,fun h=>by rw [if_neg (by omega)]⟩,by rw [List.length_append,cellsM_snoc];exact hown5,((BC.alloc (.cells #[.int .i64 m.a.n,.int .i64 m.a.d,.int .i64 m.b.n,.int .i64 m.b.d,.int .i64 m.c.n,.int .i64 m.c.d,.int .i64 m.d.n,.int .i64 m.d.d,.int .i64 m.e.n,.int .i64 m.e.d,.int .i64 m.f.n,.int .i64 m.f.d] 113)).drew).grown hgr (fun e=>by have:=hOl _ e;omega),(below_drewN (LC.alloc LC.size (.cells #[.int .i64 m.a.n,.int .i64 m.a.d,.int .i64 m.b.n,.int .i64 m.b.d,.int .i64 m.c.n,.int .i64 m.c.d,.int .i64 m.d.n,.int .i64 m.d.d,.int .i64 m.e.n,.int .i64 m.e.d,.int .i64 m.f.n,.int .i64 m.f.d] 113)) 1).grown hgr (by have:=LC.size;simp;omega) (fun k e=>by have:=hOl k e;omega),by omega,hRg⟩,by simp only [lenOf];omega⟩
end
end Go.Proofs.YtgphclgmmocdhaaGreatDoor

/-
  Parts of the proof.
-/
import Derived.Test.YtgphclgmmocdhaaGreatDoorQu26
import Derived.Test.YtgphclgmmocdhaaGreatDoorQu20
namespace Go.Proofs.YtgphclgmmocdhaaGreatDoor
section
open Go.RowKit Go.Shelf
set_option maxHeartbeats 8000000
set_option maxRecDepth 100000
attribute [local go_sem] Oper.semAt_some
def wtS (l:List Bs):Nat:=(l.map fun t=>wtPts (ptsOf t)).sum
theorem wtS_snoc (l:List Bs) (x:Bs):wtS (l++[x])=wtS l+wtPts (pts 0 x):=by
 unfold wtS
 rw [List.map_append,List.sum_append]
 simp [ptsOf,pts]
theorem wtPt_le (x:UInt8 × Bs):wtPt x<=100:=by
 unfold wtPt
 split
 ·exact Nat.le_refl _
 ·split
  ·decide
  ·split <;> decide
theorem wtPts_le:∀ l:List (UInt8 × Bs),wtPts l<=100 * l.length
 | []=>Nat.le_refl _
 | x :: l=>by
  have h1:=wtPt_le x
  have h2:=wtPts_le l
  unfold wtPts at h2 ⊢
  rw [List.map_cons,List.sum_cons,List.length_cons]
  omega
theorem wtS_le:∀ l:List Bs,(∀ x ∈ l,x.length<=1000000)->wtS l<=100000100 * l.length
 | [],_=>Nat.le_refl _
 | x :: l,h=>by
  have h1:=wtPts_le (pts 0 x)
  have h2:=pts_len x.length 0 x Nat.le.refl
  have h3:=h x (by simp)
  have h4:=wtS_le l (fun y hy=>h y (by simp [hy]))
  unfold wtS at h4 ⊢
  rw [List.map_cons,List.sum_cons,List.length_cons,show ptsOf x=pts 0 x from rfl]
  omega
theorem Weight_in (s:Bs) (hs:s.length<=1000000) (W:World):CallsIn Fence.wide 12 Tryz.prog 158 #[.agg #[bV s]] W fun e w'=>e=.returned (.int .i64 (wtM s:Nat))/\Below W.heap.size W w':=by
 obtain ⟨hS0,hT0,hB0,hsz0,b0⟩:=three_blocks W (.cells #[bV s] 178) (.cells #[.int .i64 0] 3) (.cells #[bV s] 9)
 have hmx:Tryz.prog.follows .mixedOrders=true:=by kernel_rfl
 refine callsIn_of_wp_marks Tryz.func158 rfl trivial ?_ rfl
 simp only [Tryz.ntmps158,List.size_toArray,List.length_cons,List.length_nil,Nat.reduceAdd,Nat.reduceSub,Array.replicate_succ,Array.replicate_zero,List.push_toArray,List.append_toArray,List.nil_append,List.cons_append]
 gi_wp2_with (refine ⟨trivial,?_⟩;gi_at_call 192;refine (callsIn_wide.2 (stepsOf_any s _)).mono ?_;rintro e w1 ⟨rfl,h1⟩;rw [h1];clear h1)
 obtain ⟨U,hU⟩:∃ U,(((W.alloc (.cells #[bV s] 178)).alloc (.cells #[.int .i64 0] 3)).alloc (.cells #[bV s] 9))=U:=⟨_,rfl⟩
 rw [hU] at b0 hS0 hT0 hB0 hsz0 ⊢
 clear hU
 refine wpIn_rangeFunc_ownH rfl (by omega) (gf:=238) (lb:=#[.pointer (some ⟨W.heap.size+1+1,0,none⟩)]) rfl trivial (enters_of Tryz.func238 (by kernel_rfl) rfl)
  (encs:=fun x:StB=>#[bV x.1]) (Kp:=KpB (W.heap.size+1+1)) (S:=fun xs=>stL xs=stsOf s) (Sp:=fun p=>stL p <+: stsOf s) (N:=(stsOf s).length) (w0:=U)
  (steps_seq s hs _ _ U hB0) KpB.trans (fun X l o o' hl h1 h2 h3=>KpB.put (w:=U) (by omega) X l o o' hl h1 h2 h3) (Below.refl _ _) (fun _=>rfl)
  (fun pre X=>X.heap[W.heap.size+1]? = some (.cells #[.int .i64 (wtS (stL pre):Nat)] 3)/\Below W.heap.size W X/\U.heap.size<=X.heap.size)
  (fun _ _ _=>False)
  (fun pre A C row hs hg hr=>⟨blk_own hs.1 (by omega) hg hr,bel_own hs.2.1 (by omega) hg hr,Nat.le_trans hs.2.2 hg.size⟩)
  (fun _ _ _ _ _ h _ _=>h)
  ⟨hT0,b0,Nat.le_refl _⟩
  (fun x a' _=>a'={ tmps:=#[.agg #[bV s],.pointer (some ⟨W.heap.size,0,none⟩),.int .i64 0,.pointer (some ⟨W.heap.size+1,0,none⟩),bV x.1,undef,undef,.pointer (some ⟨W.heap.size,0,none⟩),bV s,.func (.func 238) #[] #[.pointer (some ⟨W.heap.size+1+1,0,none⟩)],bV x.1,undef,undef,undef,undef,undef,undef,undef,undef,undef,undef],defers:=[] })
  (fun _ _ _ _ _ _ h _ _=>h)
  ?assign ?body ?done ?stop
 case assign=>
  intro l pre x X K hI hK
  gi_wp2
  exact hK _ _ (KeepsFrom.refl _ _) rfl hI rfl
 case body=>
  rintro l pre x a' X hl ⟨r₀,hl₀⟩ ⟨hT,hb,hu⟩ rfl hlen
  obtain ⟨st,hnl⟩:=x
  gi_wp2_with (refine ⟨trivial,?_⟩;gi_at_call 206;refine (CallsIn.inRound l (callsIn_wide.2 (partsOf_any st _))).mono ?_;rintro e w2 ⟨rfl,h⟩;rw [h];clear h)
  have hB2:=World.alloc_heap_new X (.cells #[bV st] 9)
  have hT2:(X.alloc (.cells #[bV st] 9)).heap[W.heap.size+1]? = some (.cells #[.int .i64 (wtS (stL pre):Nat)] 3):=(Below.heap_alloc _ _ _ (by omega)).trans hT
  have hl2:(X.alloc (.cells #[bV st] 9)).heap[l]? = some (.loop r₀):=(Below.heap_alloc _ _ _ (by have:=(Array.getElem?_eq_some_iff.1 hl₀).1;omega)).trans hl₀
  have hb2:Below W.heap.size W (X.alloc (.cells #[bV st] 9)):=hb.alloc hb.size _
  have hk2:KpB (W.heap.size+1+1) X (X.alloc (.cells #[bV st] 9)):=Below.heap_alloc _ _ _ (by omega)
  have kf2:KeepsFrom U.heap.size X (X.alloc (.cells #[bV st] 9)):=(KeepsOthers.alloc _ _).from _
  have hz2:(X.alloc (.cells #[bV st] 9)).heap.size=X.heap.size+1:=World.size_alloc _ _
  obtain ⟨X2,hX2⟩:∃ X2,X.alloc (.cells #[bV st] 9)=X2:=⟨_,rfl⟩
  rw [hX2] at hB2 hT2 hl2 hb2 hk2 kf2 hz2 ⊢
  clear hX2
  have hwl:=wtS_le (stL pre) (fun y hy=>by obtain ⟨z, -,rfl⟩:=List.mem_map.1 hy;exact z.2)
  rw [List.length_map] at hwl
  have hpc:pre.length<=1000001:=by
   have:=stepsM_count (s.length+1) s
   unfold stsOf at hlen
   omega
  have HWS:Hid (wtS (stL pre++[st])=wtS (stL pre)+wtPts (pts 0 st)):=wtS_snoc _ _
  obtain ⟨a0,ha0⟩:∃ a0,wtS (stL pre)=a0:=⟨_,rfl⟩
  rw [ha0] at hT2 hwl HWS
  clear ha0 hT
  refine wpIn_rangeFunc_ownN (l₀:=l) (r₀:=r₀) rfl hl2 (by omega) (gf:=250) (lb:=#[.pointer (some ⟨X.heap.size,0,none⟩)]) rfl trivial (enters_of Tryz.func250 (by kernel_rfl) rfl)
   (encs:=ptV) (Kp:=KpB X.heap.size) (S:=fun xs=>ptL xs=pts 0 st) (Sp:=fun p=>ptL p <+: pts 0 st) (N:=(pts 0 st).length) (w0:=X2)
   (SeqStopsK.inRound l (parts_seq st hnl _ _ X2 hB2)) KpB.trans (fun Y l o o' hl h1 h2 h3=>KpB.put (w:=X2) (by omega) Y l o o' hl h1 h2 h3) (Below.refl _ _) (fun _=>rfl)
   (fun pre' Y=>Y.heap[W.heap.size+1]? = some (.cells #[.int .i64 (a0+wtPts (ptL pre'):Nat)] 3)/\Below W.heap.size W Y/\KeepsFrom U.heap.size X Y/\KpB (W.heap.size+1+1) X Y/\X2.heap.size<=Y.heap.size)
   (fun _ _ _=>False)
   (fun pre' A C row hs hg hr=>⟨blk_own hs.1 (by omega) hg hr,bel_own hs.2.1 (by omega) hg hr,ownFrom_keepsFrom (β:=Unit) (w₀:=X) (B':=X2.heap.size) (by omega) () A C row hs.2.2.1 hg hr,hs.2.2.2.1.trans (hg.block _ (by omega) (fun e=>by have:=(hr _ e.symm).1;omega)),Nat.le_trans hs.2.2.2.2 hg.size⟩)
   (fun _ _ _ _ _ h _ _=>h)
   ⟨hT2,hb2,kf2,hk2,Nat.le_refl _⟩
   (fun y a' _=>a'={ tmps:=#[.agg #[bV s],.pointer (some ⟨W.heap.size,0,none⟩),.int .i64 0,.pointer (some ⟨W.heap.size+1,0,none⟩),bV st,.int .u8 y.1.1.toNat,bV y.1.2,.pointer (some ⟨W.heap.size,0,none⟩),bV s,.func (.func 238) #[] #[.pointer (some ⟨W.heap.size+1+1,0,none⟩)],bV st,bV st,.func (.func 250) #[] #[.pointer (some ⟨X.heap.size,0,none⟩)],.int .u8 y.1.1.toNat,bV y.1.2,undef,undef,undef,undef,undef,undef],defers:=[] })
   (fun _ _ _ _ _ _ h _ _=>h)
   ?assign2 ?body2 ?done2 ?stop2
  case assign2=>
   intro l2 pre' y Y K hI hK
   gi_wp2
   exact hK _ _ (KeepsFrom.refl _ _) rfl hI rfl
  case body2=>
   rintro l2 pre' y a' Y hl2 - ⟨hT3,hb3,kf3,hk3,hz3⟩ rfl hlen2
   obtain ⟨⟨k,nm⟩,hnm⟩:=y
   have c1:=cell_one hT3
   have f1:=froz_one hT3
   have WO:=fun V=>weightOf_any k nm V
   have hp1:=wtPts_le (ptL pre')
   have hp2:=pts_len st.length 0 st Nat.le.refl
   have hp3:=wtPt_le (k,nm)
   rw [List.length_map] at hp1
   have hpe:ptL (pre'++[⟨(k,nm),hnm⟩])=ptL pre'++[(k,nm)]:=by simp
   have HV:Hid (a0+wtPts (ptL (pre'++[⟨(k,nm),hnm⟩]))=(a0+wtPts (ptL pre'))+wtPt (k,nm)):=(by
    rw [hpe,wtPts_app]
    simp [wtPts]
    omega:a0+wtPts (ptL (pre'++[⟨(k,nm),hnm⟩]))=(a0+wtPts (ptL pre'))+wtPt (k,nm))
   have hbc:a0+wtPts (ptL pre')<=1000000000000000:=by omega
   obtain ⟨c,hc⟩:∃ c,a0+wtPts (ptL pre')=c:=⟨_,rfl⟩
   obtain ⟨wk,hwk⟩:∃ wk,wtPt (k,nm)=wk:=⟨_,rfl⟩
   rw [hc] at c1 hT3 HV hbc
   rw [hwk] at WO hp3 HV
   clear hc hwk hpe hp1 hp2
   have hwr:IntKind.i64.wrap ((c:Int)+(wk:Int))=((c+wk:Nat):Int):=by
    rw [IntWalk.i64_in _ (by omega)]
    omega
   have h4:=set_one hT3 (.int .i64 ((c:Int)+(wk:Int)))
   have HT4:Hid ((Y.setCell ⟨W.heap.size+1,0,none⟩ (.int .i64 ((c:Int)+(wk:Int)))).drew.heap[W.heap.size+1]? = some (.cells #[.int .i64 ((c:Int)+(wk:Int))] 3)):=h4
   have hb4:=(hb3.setCell (p:=⟨W.heap.size+1,0,none⟩) (by simp only;omega) (.int .i64 ((c:Int)+(wk:Int)))).drew
   have ko4:=(KeepsOthers.setCell Y ⟨W.heap.size+1,0,none⟩ (.int .i64 ((c:Int)+(wk:Int)))).trans (KeepsOthers.drew _)
   have hk4:KpB X.heap.size Y (Y.setCell ⟨W.heap.size+1,0,none⟩ (.int .i64 ((c:Int)+(wk:Int)))).drew:=Below.heap_setCell Y ⟨W.heap.size+1,0,none⟩ _ X.heap.size (by simp only;omega)
   have hk5:KpB (W.heap.size+1+1) Y (Y.setCell ⟨W.heap.size+1,0,none⟩ (.int .i64 ((c:Int)+(wk:Int)))).drew:=Below.heap_setCell Y ⟨W.heap.size+1,0,none⟩ _ (W.heap.size+1+1) (by simp only;omega)
   clear h4
   gi_wp2
   gi_region_with_o ((refine ⟨trivial,?_⟩;gi_at_call 207;refine (CallsIn.inRound l2 (CallsIn.inRound l (callsIn_wide.2 (WO _)))).mono ?_;rintro e w3 ⟨rfl,h⟩;rw [h];clear h))
   all_goals gi_wp2
   all_goals exact ⟨ko4.from _,hk4,by rw [HV.out,Int.natCast_add];exact HT4.out,hb4,kf3.trans (ko4.from _),hk3.trans hk5,Nat.le_trans hz3 ko4.size⟩
  case done2=>
   rintro xs Y hS ⟨hT3,hb3,kf3,hk3,hz3⟩
   rw [hS] at hT3
   have hpe:stL (pre++[⟨st,hnl⟩])=stL pre++[st]:=by simp
   gi_wp2
   exact ⟨kf3,hk3,by rw [hpe,HWS.out];exact hT3,hb3,by omega⟩
  case stop2=>
   rintro c pre' Y - h
   exact h.elim
 case done=>
  rintro D xs X hD hS ⟨hT,hb, -⟩ hK
  rw [hS] at hT
  have c1:=cell_one hT
  gi_wp2
  refine ⟨by simp,.inl ⟨_,_,rfl,run_takeDeferred hK,?_⟩⟩
  refine ⟨.int .i64 (wtS (stsOf s):Nat),?_,rfl,hb.trans (belowK_b (w:=W) Nat.le.refl X D _ _ (by omega) hK rfl rfl)⟩
  simp [results,Tryz.results158,go_sem]
 case stop=>
  rintro D c pre X - - h -
  exact h.elim
theorem Weight_any (s:Bs) (hs:s.length<=1000000) (W:World):Calls Tryz.prog 158 #[.agg #[bV s]] W fun e w'=>e=.returned (.int .i64 (wtM s:Nat))/\Below W.heap.size W w':=callsIn_wide.1 (Weight_in s hs W)
end
section
open Go.RowKit Go.Shelf
set_option maxHeartbeats 8000000
set_option maxRecDepth 100000
attribute [local go_sem] Oper.semAt_some
theorem split_blank (s:ByteArray) (hs:s.size<4294967281) (W:World) :
  Calls Tryz.prog 217 #[.string s,.string ⟨#[32]⟩] W fun e w'=>e=.returned (.slice (some ⟨W.heap.size,0,none⟩) (Lib.countB s ⟨#[32]⟩+1) (Lib.countB s ⟨#[32]⟩+1))/\w'=W.alloc (.cells ((Lib.splitB ⟨#[32]⟩ 0 (Lib.countB s ⟨#[32]⟩) s).map Value.string).toArray 9):=by
 have h1:1<=(⟨#[32]⟩:ByteArray).size:=by decide
 have hle:=Lib.countB_le ⟨#[32]⟩ h1 s.size s Nat.le.refl
 have hlen:=Lib.splitB_all ⟨#[32]⟩ h1 0 _ s rfl
 have c:=Any.strings_genSplit_core Tryz.lays221 (by kernel_rfl) s ⟨#[32]⟩ 0 (-1) (Lib.countB s ⟨#[32]⟩+1) W hs h1 (Nat.zero_le _)
  (fun x c _=>(Any.strings_Index_one Tryz.lays143 x 32 _).mono fun e w' ⟨he,hw⟩=>⟨by rw [he,<- Lib.index_one],hw⟩)
  ((Any.strings_Count_one Tryz.lays138 s 32 W).mono fun e w' ⟨he,hw⟩=>⟨by rw [he];show _=Ending.returned (Value.int .i64 ((Lib.count s.data.toList [32]:Nat):Int));rw [Lib.count_one];rfl,hw⟩)
  (by decide) (by decide) (by rw [if_pos (by decide)];omega)
 rw [Nat.add_sub_cancel,hlen] at c
 have e2:Lib.cellsOf (Lib.splitB ⟨#[32]⟩ 0 (Lib.countB s ⟨#[32]⟩) s) (Lib.countB s ⟨#[32]⟩+1)=((Lib.splitB ⟨#[32]⟩ 0 (Lib.countB s ⟨#[32]⟩) s).map Value.string).toArray:=by rw [<- hlen];exact Lib.cellsOf_full _
 rw [e2] at c
 go_enter Tryz.func217,Tryz.ntmps217
 go_wp2_with (go_at_call 265;refine c.mono ?_;rintro e w' ⟨rfl,hw⟩;rw [hw])
 go_ret
 exact ⟨rfl,rfl⟩
theorem class_any (v nm:Bs) (hv:v.length<=1000000) (W:World) :
  Calls Tryz.prog 255 #[.slice (some ⟨W.heap.size,0,none⟩) (Lib.countB ⟨v.toArray⟩ ⟨#[32]⟩+1) (Lib.countB ⟨v.toArray⟩ ⟨#[32]⟩+1),.string ⟨nm.toArray⟩] (W.alloc (.cells ((Lib.splitB ⟨#[32]⟩ 0 (Lib.countB ⟨v.toArray⟩ ⟨#[32]⟩) ⟨v.toArray⟩).map Value.string).toArray 9)) fun e w'=>e=.returned (.bool (clsM v nm))/\w'=W.alloc (.cells ((Lib.splitB ⟨#[32]⟩ 0 (Lib.countB ⟨v.toArray⟩ ⟨#[32]⟩) ⟨v.toArray⟩).map Value.string).toArray 9):=by
 have h1:1<=(⟨#[32]⟩:ByteArray).size:=by decide
 have hlen:=Lib.splitB_all ⟨#[32]⟩ h1 0 _ (⟨v.toArray⟩:ByteArray) rfl
 have hle:=Lib.countB_le ⟨#[32]⟩ h1 (⟨v.toArray⟩:ByteArray).size ⟨v.toArray⟩ Nat.le.refl
 rw [ba_size] at hle
 have h:=Tryz.slices_Contains_string W.heap.size 0 (Lib.countB ⟨v.toArray⟩ ⟨#[32]⟩+1) (Lib.countB ⟨v.toArray⟩ ⟨#[32]⟩+1) (Lib.splitB ⟨#[32]⟩ 0 (Lib.countB ⟨v.toArray⟩ ⟨#[32]⟩) ⟨v.toArray⟩) ⟨nm.toArray⟩ (W.alloc (.cells ((Lib.splitB ⟨#[32]⟩ 0 (Lib.countB ⟨v.toArray⟩ ⟨#[32]⟩) ⟨v.toArray⟩).map Value.string).toArray 9)) (by rw [hlen];exact Nat.le_refl _) (by omega) (fun j hj=>by
  have hb:=World.alloc_heap_new W (.cells ((Lib.splitB ⟨#[32]⟩ 0 (Lib.countB ⟨v.toArray⟩ ⟨#[32]⟩) ⟨v.toArray⟩).map Value.string).toArray 9)
  refine bcell hb (0+j) _ ?_
  rw [Nat.zero_add,List.getElem?_toArray,List.getElem?_map,List.getElem?_eq_getElem hj]
  simp [hj])
 rw [List.take_of_length_le (by rw [hlen];exact Nat.le_refl _)] at h
 exact h
section
variable {B:Nat} {tg:Tags} {W:World} {DB MB:Nat} {p:Int->Option Nat} {M:Dm} {nx c:Nat}
theorem partFits_doc (h:DocW B tg W DB MB p M nx c) (n:Int) (e:Elm) (he:M n=some e) (hva:∀ a ∈ e.ats,a.2.length<=1000000) (k:UInt8) (nm:Bs) :
  Calls Tryz.prog 209 #[.int .u8 k.toNat,bV nm,.pointer (some ⟨DB,0,none⟩),.int .i64 n] W fun r w'=>r=.returned (.bool (fitPt e (k,nm)))/\Below W.heap.size W w':=by
 have hn:=h.i64 he
 have hatt:∀ x,attD M n x=atOf e.ats x:=fun x=>by unfold attD;rw [he]
 have hal:∀ x,((atOf e.ats x).getD []).length<=1000000:=fun x=>by
  rcases atOf_fI e.ats x 0 with ⟨-,h2⟩ | ⟨i,y, -,h2,h3⟩
  ·rw [h2];exact Nat.zero_le _
  ·rw [h3];exact hva y (List.mem_of_getElem? h2)
 have h1:((k.toNat:Int)==35)=(k==35):=u8_eq k 35
 have h2:((k.toNat:Int)==46)=(k==46):=u8_eq k 46
 have h3:((k.toNat:Int)==91)=(k==91):=u8_eq k 91
 unfold fitPt
 simp only
 by_cases k1:k=35
 ·have e1:(k==35)=true:=by rw [k1];rfl
  rw [e1] at h1
  rw [if_pos k1]
  have AT:Calls Tryz.prog 28 #[.pointer (some ⟨DB,0,none⟩),.int .i64 n,.string ⟨#[105,100]⟩] W _:=Attr_doc h n hn [105,100]
  rw [hatt] at AT
  obtain ⟨v,hv⟩:∃ v,(atOf e.ats [105,100]).getD []=v:=⟨_,rfl⟩
  rw [hv] at AT ⊢
  have hcm:((⟨v.toArray⟩:ByteArray).toList==(⟨nm.toArray⟩:ByteArray).toList)=(v==nm):=by rw [ByteArray.toList_eq,ByteArray.toList_eq]
  clear k1 h2 h3 hal hv
  go_enter Tryz.func209,Tryz.ntmps209
  go_wp2_with (go_at_call 28;refine AT.mono ?_;rintro r w1 ⟨rfl,hb1⟩)
  go_ret
  exact ⟨rfl,hb1⟩
 have e1:(k==35)=false:=by rw [beq_eq_false_iff_ne];exact k1
 rw [e1] at h1
 rw [if_neg k1]
 by_cases k2:k=46
 ·have e2:(k==46)=true:=by rw [k2];rfl
  rw [e2] at h2
  rw [if_pos k2]
  have AT:Calls Tryz.prog 28 #[.pointer (some ⟨DB,0,none⟩),.int .i64 n,.string ⟨#[99,108,97,115,115]⟩] W _:=Attr_doc h n hn [99,108,97,115,115]
  rw [hatt] at AT
  have hvl:=hal [99,108,97,115,115]
  obtain ⟨v,hv⟩:∃ v,(atOf e.ats [99,108,97,115,115]).getD []=v:=⟨_,rfl⟩
  rw [hv] at AT hvl ⊢
  have SP:=fun V=>split_blank ⟨v.toArray⟩ (by rw [ba_size];omega) V
  have CL:=fun V=>class_any v nm hvl V
  clear k1 k2 h3 hal hv hvl
  go_enter Tryz.func209,Tryz.ntmps209
  go_wp2_with (first | (go_at_call 255;refine (CL _).mono ?_;rintro r w3 ⟨rfl,h3⟩;rw [h3];clear h3) | (go_at_call 217;refine (SP _).mono ?_;rintro r w2 ⟨rfl,h2⟩;rw [h2];clear h2) | (go_at_call 28;refine AT.mono ?_;rintro r w1 ⟨rfl,hb1⟩))
  go_ret
  exact ⟨rfl,hb1.alloc hb1.size _⟩
 have e2:(k==46)=false:=by rw [beq_eq_false_iff_ne];exact k2
 rw [e2] at h2
 rw [if_neg k2]
 by_cases k3:k=91
 ·have e3:(k==91)=true:=by rw [k3];rfl
  rw [e3] at h3
  rw [if_pos k3]
  have AT:=Attr_doc h n hn nm
  rw [hatt] at AT
  clear k1 k2 k3 hal
  go_enter Tryz.func209,Tryz.ntmps209
  go_wp2_with (go_at_call 28;refine AT.mono ?_;rintro r w1 ⟨rfl,hb1⟩)
  go_ret
  exact ⟨rfl,hb1⟩
 have e3:(k==91)=false:=by rw [beq_eq_false_iff_ne];exact k3
 rw [e3] at h3
 rw [if_neg k3]
 have FA:=fitsAny_any nm W
 have NA:Calls Tryz.prog 76 #[.pointer (some ⟨DB,0,none⟩),.int .i64 n] W fun r w'=>r=.returned (bV e.name)/\w'=W:=by
  have h4:=Name_doc h n hn
  rw [he] at h4
  exact h4
 clear k1 k2 k3 hal hatt
 cases ha:anyNm nm with
 | true=>
  rw [ha] at FA
  go_enter Tryz.func209,Tryz.ntmps209
  go_wp2_with (go_at_call 253;refine FA.mono ?_;rintro r w1 ⟨rfl,h⟩;rw [h];clear h)
  go_ret
  exact ⟨rfl,Below.refl _ _⟩
 | false=>
  rw [ha] at FA
  have hcm:((⟨e.name.toArray⟩:ByteArray).toList==(⟨nm.toArray⟩:ByteArray).toList)=(e.name==nm):=by rw [ByteArray.toList_eq,ByteArray.toList_eq]
  go_enter Tryz.func209,Tryz.ntmps209
  go_wp2_with (first | (go_at_call 253;refine FA.mono ?_;rintro r w1 ⟨rfl,h⟩;rw [h];clear h) | (go_at_call 76;refine NA.mono ?_;rintro r w1 ⟨rfl,h⟩;rw [h];clear h))
  go_ret
  exact ⟨by simp,Below.refl _ _⟩
theorem stepFits_in (h:DocW B tg W DB MB p M nx c) (n:Int) (hn:Wf64 n) (e:Elm) (he:M n=some e) (hne:e.name≠[]) (hva:∀ a ∈ e.ats,a.2.length<=1000000) (s:Bs) (hs:s.length<=1000000) :
  CallsIn Fence.wide 9 Tryz.prog 161 #[bV s,.pointer (some ⟨DB,0,none⟩),.int .i64 n] W fun r w'=>r=.returned (.bool ((ptsOf s).all (fitPt e)))/\Below W.heap.size W w':=by
 obtain ⟨hP0,hN0,hR0,hB0,hsz0,b0⟩:=four_blocks W (.cells #[.pointer (some ⟨DB,0,none⟩)] 29) (.cells #[.int .i64 n] 3) (.cells #[.bool false] 4) (.cells #[bV s] 9)
 obtain ⟨-, -, -, -,b3⟩:=three_blocks W (.cells #[.pointer (some ⟨DB,0,none⟩)] 29) (.cells #[.int .i64 n] 3) (.cells #[.bool false] 4)
 have NA:Calls Tryz.prog 76 #[.pointer (some ⟨DB,0,none⟩),.int .i64 n] (((W.alloc (.cells #[.pointer (some ⟨DB,0,none⟩)] 29)).alloc (.cells #[.int .i64 n] 3)).alloc (.cells #[.bool false] 4)) fun r w'=>r=.returned (bV e.name)/\w'=(((W.alloc (.cells #[.pointer (some ⟨DB,0,none⟩)] 29)).alloc (.cells #[.int .i64 n] 3)).alloc (.cells #[.bool false] 4)):=by
  have h4:=Name_doc (h.below b3) n hn
  rw [he] at h4
  exact h4
 have hem:e.name.isEmpty=false:=by
  cases hq:e.name with
  | nil=>exact absurd hq hne
  | cons _ _=>rfl
 refine callsIn_of_wp_marks Tryz.func161 rfl trivial ?_ rfl
 simp only [Tryz.ntmps161,List.size_toArray,List.length_cons,List.length_nil,Nat.reduceAdd,Nat.reduceSub,Array.replicate_succ,Array.replicate_zero,List.push_toArray,List.append_toArray,List.nil_append,List.cons_append]
 gi_wp2_with (first | (refine ⟨trivial,?_⟩;gi_at_call 76;refine (callsIn_wide.2 NA).mono ?_;rintro r w1 ⟨rfl,h1⟩;rw [h1];clear h1) | (refine ⟨trivial,?_⟩;gi_at_call 206;refine (callsIn_wide.2 (partsOf_any s _)).mono ?_;rintro r w1 ⟨rfl,h1⟩;rw [h1];clear h1))
 obtain ⟨U,hU⟩:∃ U,((((W.alloc (.cells #[.pointer (some ⟨DB,0,none⟩)] 29)).alloc (.cells #[.int .i64 n] 3)).alloc (.cells #[.bool false] 4)).alloc (.cells #[bV s] 9))=U:=⟨_,rfl⟩
 rw [hU] at b0 hP0 hN0 hR0 hB0 hsz0 ⊢
 clear hU NA b3
 refine wpIn_rangeFunc_ownF rfl (by omega) (gf:=250) (lb:=#[.pointer (some ⟨W.heap.size+1+1+1,0,none⟩)]) rfl trivial (enters_of Tryz.func250 (by kernel_rfl) rfl)
  (encs:=ptV) (Kp:=KpB (W.heap.size+1+1+1)) (S:=fun xs=>ptL xs=pts 0 s) (Sp:=fun p=>ptL p <+: pts 0 s) (N:=(pts 0 s).length) (w0:=U)
  (parts_seq s hs _ _ U hB0) KpB.trans (fun X l o o' hl h1 h2 h3=>KpB.put (w:=U) (by omega) X l o o' hl h1 h2 h3) (Below.refl _ _) (fun _=>rfl)
  (fun pre X=>X.heap[W.heap.size]? = some (.cells #[.pointer (some ⟨DB,0,none⟩)] 29)/\X.heap[W.heap.size+1]? = some (.cells #[.int .i64 n] 3)/\X.heap[W.heap.size+1+1]? = some (.cells #[.bool false] 4)/\Below W.heap.size W X/\(ptL pre).all (fitPt e)=true/\U.heap.size<=X.heap.size)
  (fun c pre X=>c=.ret/\(ptL pre).all (fitPt e)=false/\X.heap[W.heap.size+1+1]? = some (.cells #[.bool false] 4)/\Below W.heap.size W X)
  (fun pre A C row hs hg hr=>⟨blk_own hs.1 (by omega) hg hr,blk_own hs.2.1 (by omega) hg hr,blk_own hs.2.2.1 (by omega) hg hr,bel_own hs.2.2.2.1 (by omega) hg hr,hs.2.2.2.2.1,Nat.le_trans hs.2.2.2.2.2 hg.size⟩)
  (fun c pre A C row hs hg hr=>⟨hs.1,hs.2.1,blk_own hs.2.2.1 (by omega) hg hr,bel_own hs.2.2.2 (by omega) hg hr⟩)
  ⟨hP0,hN0,hR0,b0,rfl,Nat.le_refl _⟩
  (fun x=>{ tmps:=#[bV s,.pointer (some ⟨DB,0,none⟩),.int .i64 n,undef,.pointer (some ⟨W.heap.size,0,none⟩),.pointer (some ⟨W.heap.size+1,0,none⟩),.pointer (some ⟨W.heap.size+1+1,0,none⟩),.int .u8 x.1.1.toNat,bV x.1.2,.pointer (some ⟨DB,0,none⟩),.int .i64 n,bV e.name,.bool false,bV s,.func (.func 250) #[] #[.pointer (some ⟨W.heap.size+1+1+1,0,none⟩)],.int .u8 x.1.1.toNat,bV x.1.2,undef,undef,undef,undef,undef,undef],defers:=[] })
  ?assign ?body ?done ?stop
 case assign=>
  intro l x X K hK
  gi_wp2
  exact hK
 case body=>
  rintro l pre x X ⟨hP,hN,hR,hb,hok,hu⟩ hlen
  obtain ⟨⟨k,nm⟩,hnl⟩:=x
  have c1:=cell_one hP
  have c2:=cell_one hN
  have hpe:ptL (pre++[⟨(k,nm),hnl⟩])=ptL pre++[(k,nm)]:=by simp
  have PF:=partFits_doc (h.below hb) n e he hva k nm
  cases hp:fitPt e (k,nm) with
  | true=>
   rw [hp] at PF
   gi_wp2_with (refine ⟨trivial,?_⟩;gi_at_call 209;refine (CallsIn.inRound l (callsIn_wide.2 PF)).mono ?_;rintro r w2 ⟨rfl,b2⟩)
   exact ⟨below_oth b2,b2.block _ (by omega),bel_blk b2 hP,bel_blk b2 hN,bel_blk b2 hR,hb.trans (b2.mono hb.size),by rw [hpe,List.all_append,hok];simp [hp],Nat.le_trans hu b2.size⟩
  | false=>
   rw [hp] at PF
   gi_wp2_with (refine ⟨trivial,?_⟩;gi_at_call 209;refine (CallsIn.inRound l (callsIn_wide.2 PF)).mono ?_;rintro r w2 ⟨rfl,b2⟩;have c3:=cell_one (bel_blk b2 hR);have f3:=froz_one (bel_blk b2 hR))
   exact ⟨(below_oth b2).trans (KeepsOthers.setCell _ _ _),rfl,by rw [hpe,List.all_append];simp [hp],set_one (bel_blk b2 hR) _,(hb.trans (b2.mono hb.size)).setCell (by simp only;omega) _⟩
 case done=>
  rintro D xs X hD hS ⟨hP,hN,hR,hb,hok, -⟩ hK
  rw [hS] at hok
  have c3:=cell_one hR
  have f3:=froz_one hR
  gi_wp2
  have hK':=(KeepsOthers.setCell X ⟨W.heap.size+1+1,0,none⟩ (.bool true)).same D _ hK rfl
  refine ⟨by simp,.inl ⟨_,_,rfl,run_takeDeferred hK',?_⟩⟩
  have hr2:=set_one hR (.bool true)
  have hr3:=(World.putObj_heap_other (w:=X.setCell ⟨W.heap.size+1+1,0,none⟩ (.bool true)) (o:=.deferred none) (show W.heap.size+1+1≠D by omega)).trans hr2
  have oc:=cell_one hr3
  refine ⟨.bool true,?_,by rw [show ptsOf s=pts 0 s from rfl,hok],(hb.setCell (p:=⟨W.heap.size+1+1,0,none⟩) (by simp only;omega) _).trans (belowK_b (w:=W) Nat.le.refl _ D _ _ (by omega) hK' rfl rfl)⟩
  simp [results,Tryz.results161,go_sem,oc]
 case stop=>
  rintro D c pre X hD hpre ⟨rfl,hbad,hR,hb⟩ hK
  have hv:(ptsOf s).all (fitPt e)=false:=by
   obtain ⟨rest,hrest⟩:=hpre
   rw [show ptsOf s=pts 0 s from rfl,<- hrest,List.all_append,hbad]
   rfl
  gi_wp2
  refine ⟨by simp,.inl ⟨_,_,rfl,run_takeDeferred hK,?_⟩⟩
  have hr3:=(World.putObj_heap_other (w:=X) (o:=.deferred none) (show W.heap.size+1+1≠D by omega)).trans hR
  have oc:=cell_one hr3
  refine ⟨.bool false,?_,by rw [hv],hb.trans (belowK_b (w:=W) Nat.le.refl X D _ _ (by omega) hK rfl rfl)⟩
  simp [results,Tryz.results161,go_sem,oc]
def FitD (M:Dm):Prop:=∀ n e,M n=some e->e.name≠[]/\∀ a ∈ e.ats,a.2.length<=1000000
theorem stepFits_doc (h:DocW B tg W DB MB p M nx c) (hF:FitD M) (n:Int) (hn:Wf64 n) (s:Bs) (hs:s.length<=1000000) :
  Calls Tryz.prog 161 #[bV s,.pointer (some ⟨DB,0,none⟩),.int .i64 n] W fun r w'=>r=.returned (.bool (fitSt M s n))/\Below W.heap.size W w':=by
 unfold fitSt
 cases he:M n with
 | none=>
  obtain ⟨-, -,hR0,hsz0,b3⟩:=three_blocks W (.cells #[.pointer (some ⟨DB,0,none⟩)] 29) (.cells #[.int .i64 n] 3) (.cells #[.bool false] 4)
  have NA:Calls Tryz.prog 76 #[.pointer (some ⟨DB,0,none⟩),.int .i64 n] (((W.alloc (.cells #[.pointer (some ⟨DB,0,none⟩)] 29)).alloc (.cells #[.int .i64 n] 3)).alloc (.cells #[.bool false] 4)) fun r w'=>r=.returned (.string ⟨#[]⟩)/\w'=(((W.alloc (.cells #[.pointer (some ⟨DB,0,none⟩)] 29)).alloc (.cells #[.int .i64 n] 3)).alloc (.cells #[.bool false] 4)):=by
   have h4:=Name_doc (h.below b3) n hn
   rw [he] at h4
   exact h4
  refine (callsIn_wide (n:=9)).1 ?_
  refine callsIn_of_wp_marks Tryz.func161 rfl trivial ?_ rfl
  simp only [Tryz.ntmps161,List.size_toArray,List.length_cons,List.length_nil,Nat.reduceAdd,Nat.reduceSub,Array.replicate_succ,Array.replicate_zero,List.push_toArray,List.append_toArray,List.nil_append,List.cons_append]
  gi_wp2_with (refine ⟨trivial,?_⟩;gi_at_call 76;refine (callsIn_wide.2 NA).mono ?_;rintro r w1 ⟨rfl,h1⟩;rw [h1];clear h1)
  have oc:=cell_one hR0
  refine ⟨.bool false,?_,rfl,b3⟩
  simp [results,Tryz.results161,go_sem,oc]
 | some e=>
  obtain ⟨h1,h2⟩:=hF n e he
  refine (callsIn_wide.1 (stepFits_in h n hn e he h1 h2 s hs)).mono fun r w' hr=>⟨?_,hr.2⟩
  rw [hr.1]
  simp [h1]
end
end
end Go.Proofs.YtgphclgmmocdhaaGreatDoor

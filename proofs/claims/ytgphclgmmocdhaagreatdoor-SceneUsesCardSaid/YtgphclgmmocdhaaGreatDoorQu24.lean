/-
  Parts of the proof.
-/
import Derived.Test.YtgphclgmmocdhaaGreatDoorQu23
namespace Go.Proofs.YtgphclgmmocdhaaGreatDoor
section
open Go.RowKit Go.Shelf
set_option maxHeartbeats 8000000
set_option maxRecDepth 100000
attribute [local go_sem] Oper.semAt_some
theorem keeps_drew {A B:World} (h:KeepsOthers A B):KeepsOthers A B.drew:=⟨h.size,h.same⟩
theorem Open12.drew {W:World} {R:Nat} {vs:List Value} (h:Open12 W R vs):Open12 W.drew R vs:=h
theorem cell_drew {W:World} {p:Addr} {v:Value} (h:W.cell? p=some v):W.drew.cell? p=some v:=h
theorem ReadE_in (aB:Addr) (s:ByteArray) (ms:Nat->Mv) (n:Nat) (acc:List Nat->Mv) (okp:List Nat->Prop) (hok0:okp []) (hokm:∀ p q,okp (p++q)->okp p) (W:World) (hn:0<n) (hn':n<=1000) (ha:acc []=.one)
    (HL:∀ V,Below W.heap.size W V->Calls Tryz.prog 172 #[.string s] V fun e w'=>(∃ g cap,e=.returned (.tuple #[.slice (some ⟨g,0,none⟩) n cap,.nilIface])/\g<w'.heap.size/\∀ j,j<n->∀ i u,[.int .i64 (ms j).a.n,.int .i64 (ms j).a.d,.int .i64 (ms j).b.n,.int .i64 (ms j).b.d,.int .i64 (ms j).c.n,.int .i64 (ms j).c.d,.int .i64 (ms j).d.n,.int .i64 (ms j).d.d,.int .i64 (ms j).e.n,.int .i64 (ms j).e.d,.int .i64 (ms j).f.n,.int .i64 (ms j).f.d][i]? = some u->w'.cell? ⟨g,j * 12+i,none⟩=some u)/\Below V.heap.size V w')
    (HT:∀ pre x,okp pre->okp (pre++[x])->∀ V,Below W.heap.size W V->Calls Tryz.prog 122 #[mv (acc pre),mv (ms x)] V fun e w'=>e=.returned (.tuple #[mv (acc (pre++[x])),.nilIface])/\Below V.heap.size V w')
    (HN:∀ pre x,okp pre->¬ okp (pre++[x])->∀ V,Below W.heap.size W V->Calls Tryz.prog 122 #[mv (acc pre),mv (ms x)] V fun e w'=>e=.returned (.tuple #[mv .zero,.iface 409 (.pointer (some aB))])/\Below V.heap.size V w') :
    CallsIn Fence.wide 9 Tryz.prog 121 #[.string s] W fun e w'=>(okp (cameAll n)/\e=.returned (.tuple #[mv (acc (cameAll n)),.nilIface])\/¬ okp (cameAll n)/\e=.returned (.tuple #[mv .zero,.iface 409 (.pointer (some aB))]))/\Below W.heap.size W w':=by
  have HO:=One_any
  have HB:=backward_any
  have L0:=((Below.refl W.heap.size W).alloc Nat.le.refl (.cells #[.int .i64 0,.int .i64 0,.int .i64 0,.int .i64 0,.int .i64 0,.int .i64 0,.int .i64 0,.int .i64 0,.int .i64 0,.int .i64 0,.int .i64 0,.int .i64 0] 113)).alloc (by simp) (.cells #[.nilIface] 31)
  have R0:Blk ((W.alloc (.cells #[.int .i64 0,.int .i64 0,.int .i64 0,.int .i64 0,.int .i64 0,.int .i64 0,.int .i64 0,.int .i64 0,.int .i64 0,.int .i64 0,.int .i64 0,.int .i64 0] 113)).alloc (.cells #[.nilIface] 31)) W.heap.size #[.int .i64 0,.int .i64 0,.int .i64 0,.int .i64 0,.int .i64 0,.int .i64 0,.int .i64 0,.int .i64 0,.int .i64 0,.int .i64 0,.int .i64 0,.int .i64 0] 113:=(Blk.new W _ _).alloc _
  have Q0:=Blk.new (W.alloc (.cells #[.int .i64 0,.int .i64 0,.int .i64 0,.int .i64 0,.int .i64 0,.int .i64 0,.int .i64 0,.int .i64 0,.int .i64 0,.int .i64 0,.int .i64 0,.int .i64 0] 113)) #[.nilIface] 31
  rw [World.size_alloc] at Q0
  refine callsIn_of_wp_marks Tryz.func121 rfl trivial ?_ rfl
  simp only [Tryz.ntmps121,List.size_toArray,List.length_cons,List.length_nil,Nat.reduceAdd,Nat.reduceSub,Array.replicate_succ,Array.replicate_zero,List.push_toArray,List.append_toArray,List.nil_append,List.cons_append]
  gi_wp2_with (first | (refine ⟨trivial,?_⟩;gi_at_call 173;refine (callsIn_wide.2 (HB _ _ _ _ rfl _)).mono ?_;rintro e w' ⟨rfl,rfl⟩) | (refine ⟨trivial,?_⟩;gi_at_call 45;refine (callsIn_wide.2 (HO _)).mono ?_;rintro e w2 ⟨rfl,hb2⟩;dsimp only [Mv.one,Fr.whole]) | (refine ⟨trivial,?_⟩;gi_at_call 172;refine (callsIn_wide.2 (HL _ L0)).mono ?_;rintro e w1 ⟨⟨g,cap,rfl,hg,hcells⟩,hb1⟩))
  have sz1:=hb1.size
  simp only [World.size_alloc] at sz1
  have sz2:=hb2.size
  simp only [World.size_alloc] at sz2
  have e1:(w1.alloc (.cells #[.nilIface] 31)).heap.size=w1.heap.size+1:=by simp
  have E2:=(Blk.new w1 #[.nilIface] 31).below hb2 Nat.le.refl
  have R2:=((R0.below hb1 Nat.le.refl).alloc (.cells #[.nilIface] 31)).below hb2 Nat.le.refl
  have Q2:=((Q0.below hb1 Nat.le.refl).alloc (.cells #[.nilIface] 31)).below hb2 Nat.le.refl
  have L2:=((L0.trans (hb1.mono (by simp;omega))).alloc (by omega) (.cells #[.nilIface] 31)).trans (hb2.mono (by simp;omega))
  have hc2:∀ j,j<n->∀ i u,[.int .i64 (ms j).a.n,.int .i64 (ms j).a.d,.int .i64 (ms j).b.n,.int .i64 (ms j).b.d,.int .i64 (ms j).c.n,.int .i64 (ms j).c.d,.int .i64 (ms j).d.n,.int .i64 (ms j).d.d,.int .i64 (ms j).e.n,.int .i64 (ms j).e.d,.int .i64 (ms j).f.n,.int .i64 (ms j).f.d][i]? = some u->w2.cell? ⟨g,j * 12+i,none⟩=some u:=fun j hj i u hu=>(hb2.cell (p:=⟨g,j * 12+i,none⟩) (by simp;omega)).trans (cell_al _ (hcells j hj i u hu))
  obtain ⟨U,hU⟩:∃ U,(w2.alloc (.cells #[.int .i64 1,.int .i64 1,.int .i64 0,.int .i64 1,.int .i64 0,.int .i64 1,.int .i64 1,.int .i64 1,.int .i64 0,.int .i64 1,.int .i64 0,.int .i64 1] 113)).alloc (.cells #[.slice (some ⟨g,0,none⟩) n cap] 247)=U:=⟨_,rfl⟩
  have szU:U.heap.size=w2.heap.size+2:=by rw [<- hU];simp
  have A3:Blk U w2.heap.size #[.int .i64 1,.int .i64 1,.int .i64 0,.int .i64 1,.int .i64 0,.int .i64 1,.int .i64 1,.int .i64 1,.int .i64 0,.int .i64 1,.int .i64 0,.int .i64 1] 113:=by rw [<- hU];exact (Blk.new w2 _ _).alloc _
  have C3:U.cell? ⟨w2.heap.size+1,0,none⟩=some (.slice (some ⟨g,0,none⟩) n cap):=by rw [<- hU];exact cell_at (by simp) rfl
  have E3:Blk U w1.heap.size #[.nilIface] 31:=by rw [<- hU];exact (E2.alloc _).alloc _
  have R3:Blk U W.heap.size #[.int .i64 0,.int .i64 0,.int .i64 0,.int .i64 0,.int .i64 0,.int .i64 0,.int .i64 0,.int .i64 0,.int .i64 0,.int .i64 0,.int .i64 0,.int .i64 0] 113:=by rw [<- hU];exact (R2.alloc _).alloc _
  have Q3:Blk U (W.heap.size+1) #[.nilIface] 31:=by rw [<- hU];exact (Q2.alloc _).alloc _
  have L3:Below W.heap.size W U:=by rw [<- hU];exact (L2.alloc (by omega) _).alloc (by simp;omega) _
  have hc3:∀ j,j<n->∀ i u,[.int .i64 (ms j).a.n,.int .i64 (ms j).a.d,.int .i64 (ms j).b.n,.int .i64 (ms j).b.d,.int .i64 (ms j).c.n,.int .i64 (ms j).c.d,.int .i64 (ms j).d.n,.int .i64 (ms j).d.d,.int .i64 (ms j).e.n,.int .i64 (ms j).e.d,.int .i64 (ms j).f.n,.int .i64 (ms j).f.d][i]? = some u->U.cell? ⟨g,j * 12+i,none⟩=some u:=fun j hj i u hu=>by rw [<- hU];exact cell_al _ (cell_al _ (hc2 j hj i u hu))
  rw [hU]
  clear hU L2 hc2 hcells R0 Q0 E2 R2 Q2
  refine wpIn_rangeFunc_ownH rfl (by omega) (gf:=222) (lb:=#[.pointer (some ⟨w2.heap.size+1,0,none⟩)]) rfl trivial (enters_of Tryz.func222 (by kernel_rfl) rfl)
    (encs:=fun x:Nat=>itemM (ms x) x) (Kp:=KeepX w1.heap.size w2.heap.size U.heap.size) (S:=fun ys=>ys=cameAll n) (Sp:=fun pre=>pre <+: cameAll n) (N:=n) (w0:=U)
    (fun l J Jx X hX _ _ hY h0=>backN_in Fence.wide _ trivial rfl (by omega) l (w2.heap.size+1) g n cap ms hn hn' _ (KeepX.refl _ _ _) (fun _ _ _=>KeepX.trans)
      (fun A B h=>World.cell?_of_block (h.block (w2.heap.size+1) (by omega) (by omega) (by omega))) (fun A B h o=>World.cell?_of_block (h.block g (by omega) (by omega) (by omega))) J Jx hY X ((hX.cell (p:=⟨w2.heap.size+1,0,none⟩) (by simp only;omega)).trans C3) (fun j hj i u hu=>(hX.cell (p:=⟨g,j * 12+i,none⟩) (by simp only;omega)).trans (hc3 j hj i u hu)) h0)
    KeepX.trans (fun X l o o' hl _ _ _=>KeepX.put X l o' hl) (Below.refl _ _) (fun _=>rfl)
    (fun pre X=>(okp pre/\Open12 X w2.heap.size [.int .i64 (acc pre).a.n,.int .i64 (acc pre).a.d,.int .i64 (acc pre).b.n,.int .i64 (acc pre).b.d,.int .i64 (acc pre).c.n,.int .i64 (acc pre).c.d,.int .i64 (acc pre).d.n,.int .i64 (acc pre).d.d,.int .i64 (acc pre).e.n,.int .i64 (acc pre).e.d,.int .i64 (acc pre).f.n,.int .i64 (acc pre).f.d]/\(X.cell? ⟨w1.heap.size,0,none⟩=some .nilIface/\X.frozen? ⟨w1.heap.size,0,none⟩=false)/\Open12 X W.heap.size [.int .i64 0,.int .i64 0,.int .i64 0,.int .i64 0,.int .i64 0,.int .i64 0,.int .i64 0,.int .i64 0,.int .i64 0,.int .i64 0,.int .i64 0,.int .i64 0]/\(X.cell? ⟨W.heap.size+1,0,none⟩=some .nilIface/\X.frozen? ⟨W.heap.size+1,0,none⟩=false)/\U.heap.size<=X.heap.size)/\Below W.heap.size W X)
    (fun c pre X=>(c=.ret/\¬ okp pre/\Open12 X W.heap.size [.int .i64 0,.int .i64 0,.int .i64 0,.int .i64 0,.int .i64 0,.int .i64 0,.int .i64 0,.int .i64 0,.int .i64 0,.int .i64 0,.int .i64 0,.int .i64 0]/\X.cell? ⟨W.heap.size+1,0,none⟩=some (.iface 409 (.pointer (some aB))))/\Below W.heap.size W X)
    (OwnFrom.and (Own.from (fun pre A B row hs hg hr=>⟨hs.1,hs.2.1.kept hg hr,⟨cell_kept hs.2.2.1.1 hg hr,(frozen_kept hs.2.2.1.1 hg hr).trans hs.2.2.1.2⟩,hs.2.2.2.1.kept hg hr,⟨cell_kept hs.2.2.2.2.1.1 hg hr,(frozen_kept hs.2.2.2.2.1.1 hg hr).trans hs.2.2.2.2.1.2⟩,Nat.le_trans hs.2.2.2.2.2 hg.size⟩) _) (ownFrom_below Nat.le.refl (by omega)))
    (fun c=>OwnFrom.and (Own.from (fun s A B row hs hg hr=>⟨hs.1,hs.2.1,hs.2.2.1.kept hg hr,cell_kept hs.2.2.2 hg hr⟩) _) (ownFrom_below Nat.le.refl (by omega)))
    ⟨⟨hok0,by rw [ha];exact Open12.of_blk (vs:=[.int .i64 1,.int .i64 1,.int .i64 0,.int .i64 1,.int .i64 0,.int .i64 1,.int .i64 1,.int .i64 1,.int .i64 0,.int .i64 1,.int .i64 0,.int .i64 1]) A3 rfl,⟨E3.cell 0 _ rfl,E3.froz 0 _ rfl⟩,Open12.of_blk (vs:=[.int .i64 0,.int .i64 0,.int .i64 0,.int .i64 0,.int .i64 0,.int .i64 0,.int .i64 0,.int .i64 0,.int .i64 0,.int .i64 0,.int .i64 0,.int .i64 0]) R3 rfl,⟨Q3.cell 0 _ rfl,Q3.froz 0 _ rfl⟩,Nat.le_refl _⟩,L3⟩
    (fun x a' X=>∃ Bx,U.heap.size<=Bx/\Open12 X Bx [.int .i64 (ms x).a.n,.int .i64 (ms x).a.d,.int .i64 (ms x).b.n,.int .i64 (ms x).b.d,.int .i64 (ms x).c.n,.int .i64 (ms x).c.d,.int .i64 (ms x).d.n,.int .i64 (ms x).d.d,.int .i64 (ms x).e.n,.int .i64 (ms x).e.d,.int .i64 (ms x).f.n,.int .i64 (ms x).f.d]/\a'={ tmps:=#[.string s,undef,.pointer (some ⟨W.heap.size,0,none⟩),.pointer (some ⟨W.heap.size+1,0,none⟩),.slice (some ⟨g,0,none⟩) n cap,.pointer (some ⟨w1.heap.size,0,none⟩),.pointer (some ⟨w2.heap.size,0,none⟩),undef,.pointer (some ⟨Bx,0,none⟩),.tuple #[.slice (some ⟨g,0,none⟩) n cap,.nilIface],.string s,.tuple #[.slice (some ⟨g,0,none⟩) n cap,.nilIface],.slice (some ⟨g,0,none⟩) n cap,.nilIface,.nilIface,.bool false,undef,undef,.agg #[.int .i64 1,.int .i64 1,.int .i64 0,.int .i64 1,.int .i64 0,.int .i64 1,.int .i64 1,.int .i64 1,.int .i64 0,.int .i64 1,.int .i64 0,.int .i64 1],.slice (some ⟨g,0,none⟩) n cap,.func (.func 222) #[] #[.pointer (some ⟨w2.heap.size+1,0,none⟩)],.int .i64 (x:Nat),.agg #[.int .i64 (ms x).a.n,.int .i64 (ms x).a.d,.int .i64 (ms x).b.n,.int .i64 (ms x).b.d,.int .i64 (ms x).c.n,.int .i64 (ms x).c.d,.int .i64 (ms x).d.n,.int .i64 (ms x).d.d,.int .i64 (ms x).e.n,.int .i64 (ms x).e.d,.int .i64 (ms x).f.n,.int .i64 (ms x).f.d],undef,undef,undef,undef,undef,undef,undef,undef,undef,undef,undef],defers:=[] })
    (fun x a' s A B row hs hg hr=>by obtain ⟨Bx,h1,h2,h3⟩:=hs;exact ⟨Bx,h1,h2.kept hg (fun r e=>(hr r e).2),h3⟩)
    ?assign ?body ?done ?stop
  case assign=>
    rintro l pre x X K ⟨⟨hop,h1,⟨h2,h2f⟩,h3,⟨h4,h4f⟩,hU⟩,hB⟩ hK
    gi_wp2
    have hs:=hB.size
    have hal:=(Below.refl X.heap.size X).alloc Nat.le.refl (.cells #[.int .i64 (ms x).a.n,.int .i64 (ms x).a.d,.int .i64 (ms x).b.n,.int .i64 (ms x).b.d,.int .i64 (ms x).c.n,.int .i64 (ms x).c.d,.int .i64 (ms x).d.n,.int .i64 (ms x).d.d,.int .i64 (ms x).e.n,.int .i64 (ms x).e.d,.int .i64 (ms x).f.n,.int .i64 (ms x).f.d] 113)
    exact hK _ _ ((KeepsOthers.alloc _ _).from _) (KeepX.of_below hal hU) ⟨⟨hop,h1.below hal,⟨cell_al _ h2,froz_al _ h2 h2f⟩,h3.below hal,⟨cell_al _ h4,froz_al _ h4 h4f⟩,Nat.le_trans hU hal.size⟩,hB.alloc hs _⟩ ⟨X.heap.size,hU,Open12.of_blk (vs:=[.int .i64 (ms x).a.n,.int .i64 (ms x).a.d,.int .i64 (ms x).b.n,.int .i64 (ms x).b.d,.int .i64 (ms x).c.n,.int .i64 (ms x).c.d,.int .i64 (ms x).d.n,.int .i64 (ms x).d.d,.int .i64 (ms x).e.n,.int .i64 (ms x).e.d,.int .i64 (ms x).f.n,.int .i64 (ms x).f.d]) (Blk.new X _ _) rfl,rfl⟩
  case body=>
    rintro l pre x a' X hl hr ⟨⟨hop,h1,⟨h2,h2f⟩,h3,⟨h4,h4f⟩,hU⟩,hB⟩ ⟨Bx,hBx,hM,rfl⟩ hlen
    have ac0:=h1.2.1 0 _ rfl
    have mc0:=hM.2.1 0 _ rfl
    have ac1:=h1.2.1 1 _ rfl
    have mc1:=hM.2.1 1 _ rfl
    have ac2:=h1.2.1 2 _ rfl
    have mc2:=hM.2.1 2 _ rfl
    have ac3:=h1.2.1 3 _ rfl
    have mc3:=hM.2.1 3 _ rfl
    have ac4:=h1.2.1 4 _ rfl
    have mc4:=hM.2.1 4 _ rfl
    have ac5:=h1.2.1 5 _ rfl
    have mc5:=hM.2.1 5 _ rfl
    have ac6:=h1.2.1 6 _ rfl
    have mc6:=hM.2.1 6 _ rfl
    have ac7:=h1.2.1 7 _ rfl
    have mc7:=hM.2.1 7 _ rfl
    have ac8:=h1.2.1 8 _ rfl
    have mc8:=hM.2.1 8 _ rfl
    have ac9:=h1.2.1 9 _ rfl
    have mc9:=hM.2.1 9 _ rfl
    have ac10:=h1.2.1 10 _ rfl
    have mc10:=hM.2.1 10 _ rfl
    have ac11:=h1.2.1 11 _ rfl
    have mc11:=hM.2.1 11 _ rfl
    have ne1:¬ w1.heap.size=w2.heap.size:=by omega
    have ne2:¬ w2.heap.size=w1.heap.size:=by omega
    by_cases hxp:okp (pre++[x])
    · have HK:=HT pre x hop hxp X hB
      gi_wp2_with ((refine ⟨trivial,?_⟩;gi_at_call 122;refine (CallsIn.inRound l (callsIn_wide.2 HK)).mono ?_;rintro e w' ⟨rfl,hb'⟩;have h1':=h1.below hb';have hz':=hb'.size;have bc0:=h1'.2.1 0 _ rfl;have bf0:=h1'.2.2 0 (by omega);have bc1:=h1'.2.1 1 _ rfl;have bf1:=h1'.2.2 1 (by omega);have bc2:=h1'.2.1 2 _ rfl;have bf2:=h1'.2.2 2 (by omega);have bc3:=h1'.2.1 3 _ rfl;have bf3:=h1'.2.2 3 (by omega);have bc4:=h1'.2.1 4 _ rfl;have bf4:=h1'.2.2 4 (by omega);have bc5:=h1'.2.1 5 _ rfl;have bf5:=h1'.2.2 5 (by omega);have bc6:=h1'.2.1 6 _ rfl;have bf6:=h1'.2.2 6 (by omega);have bc7:=h1'.2.1 7 _ rfl;have bf7:=h1'.2.2 7 (by omega);have bc8:=h1'.2.1 8 _ rfl;have bf8:=h1'.2.2 8 (by omega);have bc9:=h1'.2.1 9 _ rfl;have bf9:=h1'.2.2 9 (by omega);have bc10:=h1'.2.1 10 _ rfl;have bf10:=h1'.2.2 10 (by omega);have bc11:=h1'.2.1 11 _ rfl;have bf11:=h1'.2.2 11 (by omega);have ec:=(hb'.cell (p:=⟨w1.heap.size,0,none⟩) (cell_lt h2)).trans h2;have ef:=(hb'.frozen (p:=⟨w1.heap.size,0,none⟩) (cell_lt h2)).trans h2f))
      have h3':=h3.below hb'
      have c4:=(hb'.cell (p:=⟨W.heap.size+1,0,none⟩) (cell_lt h4)).trans h4
      have f4:=(hb'.frozen (p:=⟨W.heap.size+1,0,none⟩) (cell_lt h4)).trans h4f
      refine ⟨(((below_others hb').trans (put_keeps [.int .i64 (acc (pre++[x])).a.n,.int .i64 (acc (pre++[x])).a.d,.int .i64 (acc (pre++[x])).b.n,.int .i64 (acc (pre++[x])).b.d,.int .i64 (acc (pre++[x])).c.n,.int .i64 (acc (pre++[x])).c.d,.int .i64 (acc (pre++[x])).d.n,.int .i64 (acc (pre++[x])).d.d,.int .i64 (acc (pre++[x])).e.n,.int .i64 (acc (pre++[x])).e.d,.int .i64 (acc (pre++[x])).f.n,.int .i64 (acc (pre++[x])).f.d] 0 w2.heap.size w')).trans (KeepsOthers.setCell _ _ _)).from _,((KeepX.of_below hb' hU).putA [.int .i64 (acc (pre++[x])).a.n,.int .i64 (acc (pre++[x])).a.d,.int .i64 (acc (pre++[x])).b.n,.int .i64 (acc (pre++[x])).b.d,.int .i64 (acc (pre++[x])).c.n,.int .i64 (acc (pre++[x])).c.d,.int .i64 (acc (pre++[x])).d.n,.int .i64 (acc (pre++[x])).d.d,.int .i64 (acc (pre++[x])).e.n,.int .i64 (acc (pre++[x])).e.d,.int .i64 (acc (pre++[x])).f.n,.int .i64 (acc (pre++[x])).f.d] 0).setE 0 .nilIface,⟨hxp,?_,⟨?_,?_⟩,?_,⟨?_,?_⟩,?_⟩,?_⟩
      · exact (h1'.put (us:=[.int .i64 (acc (pre++[x])).a.n,.int .i64 (acc (pre++[x])).a.d,.int .i64 (acc (pre++[x])).b.n,.int .i64 (acc (pre++[x])).b.d,.int .i64 (acc (pre++[x])).c.n,.int .i64 (acc (pre++[x])).c.d,.int .i64 (acc (pre++[x])).d.n,.int .i64 (acc (pre++[x])).d.d,.int .i64 (acc (pre++[x])).e.n,.int .i64 (acc (pre++[x])).e.d,.int .i64 (acc (pre++[x])).f.n,.int .i64 (acc (pre++[x])).f.d]) rfl).set_other ne2
      · exact World.cell?_setCell_same' _ _ _ (isSome_of ((put_cell (p:=⟨w1.heap.size,0,none⟩) (R:=w2.heap.size) ne1 [.int .i64 (acc (pre++[x])).a.n,.int .i64 (acc (pre++[x])).a.d,.int .i64 (acc (pre++[x])).b.n,.int .i64 (acc (pre++[x])).b.d,.int .i64 (acc (pre++[x])).c.n,.int .i64 (acc (pre++[x])).c.d,.int .i64 (acc (pre++[x])).d.n,.int .i64 (acc (pre++[x])).d.d,.int .i64 (acc (pre++[x])).e.n,.int .i64 (acc (pre++[x])).e.d,.int .i64 (acc (pre++[x])).f.n,.int .i64 (acc (pre++[x])).f.d] 0 w').trans ec))
      · exact (World.frozen?_setCell _ _ _ _).trans ((frozen_put [.int .i64 (acc (pre++[x])).a.n,.int .i64 (acc (pre++[x])).a.d,.int .i64 (acc (pre++[x])).b.n,.int .i64 (acc (pre++[x])).b.d,.int .i64 (acc (pre++[x])).c.n,.int .i64 (acc (pre++[x])).c.d,.int .i64 (acc (pre++[x])).d.n,.int .i64 (acc (pre++[x])).d.d,.int .i64 (acc (pre++[x])).e.n,.int .i64 (acc (pre++[x])).e.d,.int .i64 (acc (pre++[x])).f.n,.int .i64 (acc (pre++[x])).f.d] 0 w2.heap.size w').trans ef)
      · exact (h3'.put_other (us:=[.int .i64 (acc (pre++[x])).a.n,.int .i64 (acc (pre++[x])).a.d,.int .i64 (acc (pre++[x])).b.n,.int .i64 (acc (pre++[x])).b.d,.int .i64 (acc (pre++[x])).c.n,.int .i64 (acc (pre++[x])).c.d,.int .i64 (acc (pre++[x])).d.n,.int .i64 (acc (pre++[x])).d.d,.int .i64 (acc (pre++[x])).e.n,.int .i64 (acc (pre++[x])).e.d,.int .i64 (acc (pre++[x])).f.n,.int .i64 (acc (pre++[x])).f.d]) (R':=w2.heap.size) (by omega)).set_other (by omega)
      · exact (World.cell?_setCell_far _ _ _ _ (by simp only;omega)).trans ((put_cell (p:=⟨W.heap.size+1,0,none⟩) (R:=w2.heap.size) (by simp only;omega) [.int .i64 (acc (pre++[x])).a.n,.int .i64 (acc (pre++[x])).a.d,.int .i64 (acc (pre++[x])).b.n,.int .i64 (acc (pre++[x])).b.d,.int .i64 (acc (pre++[x])).c.n,.int .i64 (acc (pre++[x])).c.d,.int .i64 (acc (pre++[x])).d.n,.int .i64 (acc (pre++[x])).d.d,.int .i64 (acc (pre++[x])).e.n,.int .i64 (acc (pre++[x])).e.d,.int .i64 (acc (pre++[x])).f.n,.int .i64 (acc (pre++[x])).f.d] 0 w').trans c4)
      · exact (World.frozen?_setCell _ _ _ _).trans ((frozen_put [.int .i64 (acc (pre++[x])).a.n,.int .i64 (acc (pre++[x])).a.d,.int .i64 (acc (pre++[x])).b.n,.int .i64 (acc (pre++[x])).b.d,.int .i64 (acc (pre++[x])).c.n,.int .i64 (acc (pre++[x])).c.d,.int .i64 (acc (pre++[x])).d.n,.int .i64 (acc (pre++[x])).d.d,.int .i64 (acc (pre++[x])).e.n,.int .i64 (acc (pre++[x])).e.d,.int .i64 (acc (pre++[x])).f.n,.int .i64 (acc (pre++[x])).f.d] 0 w2.heap.size w').trans f4)
      · have:=(put_below (B:=0) (A:=w') (R:=w2.heap.size) (Nat.zero_le _) [.int .i64 (acc (pre++[x])).a.n,.int .i64 (acc (pre++[x])).a.d,.int .i64 (acc (pre++[x])).b.n,.int .i64 (acc (pre++[x])).b.d,.int .i64 (acc (pre++[x])).c.n,.int .i64 (acc (pre++[x])).c.d,.int .i64 (acc (pre++[x])).d.n,.int .i64 (acc (pre++[x])).d.d,.int .i64 (acc (pre++[x])).e.n,.int .i64 (acc (pre++[x])).e.d,.int .i64 (acc (pre++[x])).f.n,.int .i64 (acc (pre++[x])).f.d] 0 (Below.refl 0 w')).size
        simp only [World.size_setCell] at *
        omega
      · exact (put_below (R:=w2.heap.size) (by omega) [.int .i64 (acc (pre++[x])).a.n,.int .i64 (acc (pre++[x])).a.d,.int .i64 (acc (pre++[x])).b.n,.int .i64 (acc (pre++[x])).b.d,.int .i64 (acc (pre++[x])).c.n,.int .i64 (acc (pre++[x])).c.d,.int .i64 (acc (pre++[x])).d.n,.int .i64 (acc (pre++[x])).d.d,.int .i64 (acc (pre++[x])).e.n,.int .i64 (acc (pre++[x])).e.d,.int .i64 (acc (pre++[x])).f.n,.int .i64 (acc (pre++[x])).f.d] 0 (hB.trans (hb'.mono hB.size))).setCell (p:=⟨w1.heap.size,0,none⟩) (by simp only;omega) _
    · have HK:=HN pre x hop hxp X hB
      gi_wp2_with ((refine ⟨trivial,?_⟩;gi_at_call 122;refine (CallsIn.inRound l (callsIn_wide.2 HK)).mono ?_;rintro e w' ⟨rfl,hb'⟩;dsimp only [Mv.zero,Fr.zero];have h1':=h1.below hb';have hz':=hb'.size;have bc0:=h1'.2.1 0 _ rfl;have bf0:=h1'.2.2 0 (by omega);have bc1:=h1'.2.1 1 _ rfl;have bf1:=h1'.2.2 1 (by omega);have bc2:=h1'.2.1 2 _ rfl;have bf2:=h1'.2.2 2 (by omega);have bc3:=h1'.2.1 3 _ rfl;have bf3:=h1'.2.2 3 (by omega);have bc4:=h1'.2.1 4 _ rfl;have bf4:=h1'.2.2 4 (by omega);have bc5:=h1'.2.1 5 _ rfl;have bf5:=h1'.2.2 5 (by omega);have bc6:=h1'.2.1 6 _ rfl;have bf6:=h1'.2.2 6 (by omega);have bc7:=h1'.2.1 7 _ rfl;have bf7:=h1'.2.2 7 (by omega);have bc8:=h1'.2.1 8 _ rfl;have bf8:=h1'.2.2 8 (by omega);have bc9:=h1'.2.1 9 _ rfl;have bf9:=h1'.2.2 9 (by omega);have bc10:=h1'.2.1 10 _ rfl;have bf10:=h1'.2.2 10 (by omega);have bc11:=h1'.2.1 11 _ rfl;have bf11:=h1'.2.2 11 (by omega);have ec:=(hb'.cell (p:=⟨w1.heap.size,0,none⟩) (cell_lt h2)).trans h2;have ef:=(hb'.frozen (p:=⟨w1.heap.size,0,none⟩) (cell_lt h2)).trans h2f))
      have h3':=h3.below hb'
      have c4:=(hb'.cell (p:=⟨W.heap.size+1,0,none⟩) (cell_lt h4)).trans h4
      have f4:=(hb'.frozen (p:=⟨W.heap.size+1,0,none⟩) (cell_lt h4)).trans h4f
      obtain ⟨Y,hY⟩:∃ Y,(put w' w2.heap.size 0 [.int .i64 0,.int .i64 0,.int .i64 0,.int .i64 0,.int .i64 0,.int .i64 0,.int .i64 0,.int .i64 0,.int .i64 0,.int .i64 0,.int .i64 0,.int .i64 0]).setCell ⟨w1.heap.size,0,none⟩ (.iface 409 (.pointer (some aB)))=Y:=⟨_,rfl⟩
      have hKO:KeepsOthers X Y:=by rw [<- hY];exact ((below_others hb').trans (put_keeps [.int .i64 0,.int .i64 0,.int .i64 0,.int .i64 0,.int .i64 0,.int .i64 0,.int .i64 0,.int .i64 0,.int .i64 0,.int .i64 0,.int .i64 0,.int .i64 0] 0 w2.heap.size w')).trans (KeepsOthers.setCell _ _ _)
      have y1:Y.cell? ⟨w1.heap.size,0,none⟩=some (.iface 409 (.pointer (some aB))):=by rw [<- hY];exact World.cell?_setCell_same' _ _ _ (isSome_of ((put_cell (p:=⟨w1.heap.size,0,none⟩) (R:=w2.heap.size) ne1 [.int .i64 0,.int .i64 0,.int .i64 0,.int .i64 0,.int .i64 0,.int .i64 0,.int .i64 0,.int .i64 0,.int .i64 0,.int .i64 0,.int .i64 0,.int .i64 0] 0 w').trans ec))
      have y3:Open12 Y W.heap.size [.int .i64 0,.int .i64 0,.int .i64 0,.int .i64 0,.int .i64 0,.int .i64 0,.int .i64 0,.int .i64 0,.int .i64 0,.int .i64 0,.int .i64 0,.int .i64 0]:=by rw [<- hY];exact (h3'.put_other (us:=[.int .i64 0,.int .i64 0,.int .i64 0,.int .i64 0,.int .i64 0,.int .i64 0,.int .i64 0,.int .i64 0,.int .i64 0,.int .i64 0,.int .i64 0,.int .i64 0]) (R':=w2.heap.size) (by omega)).set_other (by omega)
      have y4:Y.cell? ⟨W.heap.size+1,0,none⟩=some .nilIface:=by rw [<- hY];exact (World.cell?_setCell_far _ _ _ _ (by simp only;omega)).trans ((put_cell (p:=⟨W.heap.size+1,0,none⟩) (R:=w2.heap.size) (by simp only;omega) [.int .i64 0,.int .i64 0,.int .i64 0,.int .i64 0,.int .i64 0,.int .i64 0,.int .i64 0,.int .i64 0,.int .i64 0,.int .i64 0,.int .i64 0,.int .i64 0] 0 w').trans c4)
      have y5:Y.frozen? ⟨W.heap.size+1,0,none⟩=false:=by rw [<- hY];exact (World.frozen?_setCell _ _ _ _).trans ((frozen_put [.int .i64 0,.int .i64 0,.int .i64 0,.int .i64 0,.int .i64 0,.int .i64 0,.int .i64 0,.int .i64 0,.int .i64 0,.int .i64 0,.int .i64 0,.int .i64 0] 0 w2.heap.size w').trans f4)
      have yB:Below W.heap.size W Y:=by rw [<- hY];exact (put_below (R:=w2.heap.size) (by omega) [.int .i64 0,.int .i64 0,.int .i64 0,.int .i64 0,.int .i64 0,.int .i64 0,.int .i64 0,.int .i64 0,.int .i64 0,.int .i64 0,.int .i64 0,.int .i64 0] 0 (hB.trans (hb'.mono hB.size))).setCell (p:=⟨w1.heap.size,0,none⟩) (by simp only;omega) _
      change Code.wpIn _ _ _ _ _ _ ((put w' w2.heap.size 0 [.int .i64 0,.int .i64 0,.int .i64 0,.int .i64 0,.int .i64 0,.int .i64 0,.int .i64 0,.int .i64 0,.int .i64 0,.int .i64 0,.int .i64 0,.int .i64 0]).setCell ⟨w1.heap.size,0,none⟩ (.iface 409 (.pointer (some aB))))
      rw [hY]
      clear hY
      have rc0:=y3.2.1 0 _ rfl
      have rf0:=y3.2.2 0 (by omega)
      have rc1:=y3.2.1 1 _ rfl
      have rf1:=y3.2.2 1 (by omega)
      have rc2:=y3.2.1 2 _ rfl
      have rf2:=y3.2.2 2 (by omega)
      have rc3:=y3.2.1 3 _ rfl
      have rf3:=y3.2.2 3 (by omega)
      have rc4:=y3.2.1 4 _ rfl
      have rf4:=y3.2.2 4 (by omega)
      have rc5:=y3.2.1 5 _ rfl
      have rf5:=y3.2.2 5 (by omega)
      have rc6:=y3.2.1 6 _ rfl
      have rf6:=y3.2.2 6 (by omega)
      have rc7:=y3.2.1 7 _ rfl
      have rf7:=y3.2.2 7 (by omega)
      have rc8:=y3.2.1 8 _ rfl
      have rf8:=y3.2.2 8 (by omega)
      have rc9:=y3.2.1 9 _ rfl
      have rf9:=y3.2.2 9 (by omega)
      have rc10:=y3.2.1 10 _ rfl
      have rf10:=y3.2.2 10 (by omega)
      have rc11:=y3.2.1 11 _ rfl
      have rf11:=y3.2.2 11 (by omega)
      have ne3:¬ W.heap.size=w1.heap.size:=by omega
      have ne4:¬ w1.heap.size=W.heap.size:=by omega
      have ne5:¬ W.heap.size+1=W.heap.size:=by omega
      have ne6:¬ W.heap.size=W.heap.size+1:=by omega
      have ne7:¬ W.heap.size+1=w1.heap.size:=by omega
      have ne8:¬ w1.heap.size=W.heap.size+1:=by omega
      clear ec ef bc0 bf0 bc1 bf1 bc2 bf2 bc3 bf3 bc4 bf4 bc5 bf5 bc6 bf6 bc7 bf7 bc8 bf8 bc9 bf9 bc10 bf10 bc11 bf11 h1' h3' c4 f4 hb' hz'
      gi_region
      all_goals
        gi_wp2
        refine ⟨KeepsOthers.from (keeps_drew ((hKO.trans (put_keeps [.int .i64 0,.int .i64 0,.int .i64 0,.int .i64 0,.int .i64 0,.int .i64 0,.int .i64 0,.int .i64 0,.int .i64 0,.int .i64 0,.int .i64 0,.int .i64 0] 0 W.heap.size Y)).trans (KeepsOthers.setCell _ ⟨W.heap.size+1,0,none⟩ (.iface 409 (.pointer (some aB)))))) _,⟨rfl,hxp,?_,?_⟩,?_⟩
        · exact Open12.drew ((y3.put (us:=[.int .i64 0,.int .i64 0,.int .i64 0,.int .i64 0,.int .i64 0,.int .i64 0,.int .i64 0,.int .i64 0,.int .i64 0,.int .i64 0,.int .i64 0,.int .i64 0]) rfl).set_other ne6)
        · exact cell_drew (World.cell?_setCell_same' _ _ _ (isSome_of ((put_cell (p:=⟨W.heap.size+1,0,none⟩) (R:=W.heap.size) ne5 [.int .i64 0,.int .i64 0,.int .i64 0,.int .i64 0,.int .i64 0,.int .i64 0,.int .i64 0,.int .i64 0,.int .i64 0,.int .i64 0,.int .i64 0,.int .i64 0] 0 Y).trans y4)))
        · exact below_drewN ((put_below (R:=W.heap.size) Nat.le.refl [.int .i64 0,.int .i64 0,.int .i64 0,.int .i64 0,.int .i64 0,.int .i64 0,.int .i64 0,.int .i64 0,.int .i64 0,.int .i64 0,.int .i64 0,.int .i64 0] 0 yB).setCell (p:=⟨W.heap.size+1,0,none⟩) (by simp only;omega) _) 1
  case done=>
    rintro D ys X hD rfl ⟨⟨hop,h1,⟨h2,h2f⟩,h3,⟨h4,h4f⟩,hU⟩,hB⟩ hK
    have ac0:=h1.2.1 0 _ rfl
    have rc0:=h3.2.1 0 _ rfl
    have rf0:=h3.2.2 0 (by omega)
    have ac1:=h1.2.1 1 _ rfl
    have rc1:=h3.2.1 1 _ rfl
    have rf1:=h3.2.2 1 (by omega)
    have ac2:=h1.2.1 2 _ rfl
    have rc2:=h3.2.1 2 _ rfl
    have rf2:=h3.2.2 2 (by omega)
    have ac3:=h1.2.1 3 _ rfl
    have rc3:=h3.2.1 3 _ rfl
    have rf3:=h3.2.2 3 (by omega)
    have ac4:=h1.2.1 4 _ rfl
    have rc4:=h3.2.1 4 _ rfl
    have rf4:=h3.2.2 4 (by omega)
    have ac5:=h1.2.1 5 _ rfl
    have rc5:=h3.2.1 5 _ rfl
    have rf5:=h3.2.2 5 (by omega)
    have ac6:=h1.2.1 6 _ rfl
    have rc6:=h3.2.1 6 _ rfl
    have rf6:=h3.2.2 6 (by omega)
    have ac7:=h1.2.1 7 _ rfl
    have rc7:=h3.2.1 7 _ rfl
    have rf7:=h3.2.2 7 (by omega)
    have ac8:=h1.2.1 8 _ rfl
    have rc8:=h3.2.1 8 _ rfl
    have rf8:=h3.2.2 8 (by omega)
    have ac9:=h1.2.1 9 _ rfl
    have rc9:=h3.2.1 9 _ rfl
    have rf9:=h3.2.2 9 (by omega)
    have ac10:=h1.2.1 10 _ rfl
    have rc10:=h3.2.1 10 _ rfl
    have rf10:=h3.2.2 10 (by omega)
    have ac11:=h1.2.1 11 _ rfl
    have rc11:=h3.2.1 11 _ rfl
    have rf11:=h3.2.2 11 (by omega)
    have ne3:¬ W.heap.size=w2.heap.size:=by omega
    have ne4:¬ w2.heap.size=W.heap.size:=by omega
    have ne5:¬ W.heap.size+1=W.heap.size:=by omega
    have ne6:¬ W.heap.size=W.heap.size+1:=by omega
    gi_wp2
    have hK':=((put_keeps [.int .i64 (acc (cameAll n)).a.n,.int .i64 (acc (cameAll n)).a.d,.int .i64 (acc (cameAll n)).b.n,.int .i64 (acc (cameAll n)).b.d,.int .i64 (acc (cameAll n)).c.n,.int .i64 (acc (cameAll n)).c.d,.int .i64 (acc (cameAll n)).d.n,.int .i64 (acc (cameAll n)).d.d,.int .i64 (acc (cameAll n)).e.n,.int .i64 (acc (cameAll n)).e.d,.int .i64 (acc (cameAll n)).f.n,.int .i64 (acc (cameAll n)).f.d] 0 W.heap.size X).trans (KeepsOthers.setCell _ ⟨W.heap.size+1,0,none⟩ .nilIface)).same D _ hK rfl
    refine ⟨by simp,.inl ⟨_,_,rfl,run_takeDeferred hK',?_⟩⟩
    have hO:Open12 ((((((((((((((X.setCell ⟨W.heap.size,0,none⟩ (.int .i64 (acc (cameAll n)).a.n)).setCell ⟨W.heap.size,1,none⟩ (.int .i64 (acc (cameAll n)).a.d)).setCell ⟨W.heap.size,2,none⟩ (.int .i64 (acc (cameAll n)).b.n)).setCell ⟨W.heap.size,3,none⟩ (.int .i64 (acc (cameAll n)).b.d)).setCell ⟨W.heap.size,4,none⟩ (.int .i64 (acc (cameAll n)).c.n)).setCell ⟨W.heap.size,5,none⟩ (.int .i64 (acc (cameAll n)).c.d)).setCell ⟨W.heap.size,6,none⟩ (.int .i64 (acc (cameAll n)).d.n)).setCell ⟨W.heap.size,7,none⟩ (.int .i64 (acc (cameAll n)).d.d)).setCell ⟨W.heap.size,8,none⟩ (.int .i64 (acc (cameAll n)).e.n)).setCell ⟨W.heap.size,9,none⟩ (.int .i64 (acc (cameAll n)).e.d)).setCell ⟨W.heap.size,10,none⟩ (.int .i64 (acc (cameAll n)).f.n)).setCell ⟨W.heap.size,11,none⟩ (.int .i64 (acc (cameAll n)).f.d)).setCell ⟨W.heap.size+1,0,none⟩ .nilIface).putObj D (.deferred none)) W.heap.size [.int .i64 (acc (cameAll n)).a.n,.int .i64 (acc (cameAll n)).a.d,.int .i64 (acc (cameAll n)).b.n,.int .i64 (acc (cameAll n)).b.d,.int .i64 (acc (cameAll n)).c.n,.int .i64 (acc (cameAll n)).c.d,.int .i64 (acc (cameAll n)).d.n,.int .i64 (acc (cameAll n)).d.d,.int .i64 (acc (cameAll n)).e.n,.int .i64 (acc (cameAll n)).e.d,.int .i64 (acc (cameAll n)).f.n,.int .i64 (acc (cameAll n)).f.d]:=((h3.put (us:=[.int .i64 (acc (cameAll n)).a.n,.int .i64 (acc (cameAll n)).a.d,.int .i64 (acc (cameAll n)).b.n,.int .i64 (acc (cameAll n)).b.d,.int .i64 (acc (cameAll n)).c.n,.int .i64 (acc (cameAll n)).c.d,.int .i64 (acc (cameAll n)).d.n,.int .i64 (acc (cameAll n)).d.d,.int .i64 (acc (cameAll n)).e.n,.int .i64 (acc (cameAll n)).e.d,.int .i64 (acc (cameAll n)).f.n,.int .i64 (acc (cameAll n)).f.d]) rfl).set_other (o:=0) (v:=.nilIface) ne6).kept (grownBy_putObj' _ D (.deferred none)) (fun r e=>by cases e;exact ⟨_,hK',rfl⟩)
    have hQ:((((((((((((((X.setCell ⟨W.heap.size,0,none⟩ (.int .i64 (acc (cameAll n)).a.n)).setCell ⟨W.heap.size,1,none⟩ (.int .i64 (acc (cameAll n)).a.d)).setCell ⟨W.heap.size,2,none⟩ (.int .i64 (acc (cameAll n)).b.n)).setCell ⟨W.heap.size,3,none⟩ (.int .i64 (acc (cameAll n)).b.d)).setCell ⟨W.heap.size,4,none⟩ (.int .i64 (acc (cameAll n)).c.n)).setCell ⟨W.heap.size,5,none⟩ (.int .i64 (acc (cameAll n)).c.d)).setCell ⟨W.heap.size,6,none⟩ (.int .i64 (acc (cameAll n)).d.n)).setCell ⟨W.heap.size,7,none⟩ (.int .i64 (acc (cameAll n)).d.d)).setCell ⟨W.heap.size,8,none⟩ (.int .i64 (acc (cameAll n)).e.n)).setCell ⟨W.heap.size,9,none⟩ (.int .i64 (acc (cameAll n)).e.d)).setCell ⟨W.heap.size,10,none⟩ (.int .i64 (acc (cameAll n)).f.n)).setCell ⟨W.heap.size,11,none⟩ (.int .i64 (acc (cameAll n)).f.d)).setCell ⟨W.heap.size+1,0,none⟩ .nilIface).putObj D (.deferred none)).cell? ⟨W.heap.size+1,0,none⟩=some .nilIface:=cell_kept (World.cell?_setCell_same' _ _ .nilIface (isSome_of ((put_cell (p:=⟨W.heap.size+1,0,none⟩) (R:=W.heap.size) ne5 [.int .i64 (acc (cameAll n)).a.n,.int .i64 (acc (cameAll n)).a.d,.int .i64 (acc (cameAll n)).b.n,.int .i64 (acc (cameAll n)).b.d,.int .i64 (acc (cameAll n)).c.n,.int .i64 (acc (cameAll n)).c.d,.int .i64 (acc (cameAll n)).d.n,.int .i64 (acc (cameAll n)).d.d,.int .i64 (acc (cameAll n)).e.n,.int .i64 (acc (cameAll n)).e.d,.int .i64 (acc (cameAll n)).f.n,.int .i64 (acc (cameAll n)).f.d] 0 X).trans h4))) (grownBy_putObj' _ D (.deferred none)) (fun r e=>by cases e;exact ⟨_,hK',rfl⟩)
    have oc0:=hO.2.1 0 _ rfl
    have oc1:=hO.2.1 1 _ rfl
    have oc2:=hO.2.1 2 _ rfl
    have oc3:=hO.2.1 3 _ rfl
    have oc4:=hO.2.1 4 _ rfl
    have oc5:=hO.2.1 5 _ rfl
    have oc6:=hO.2.1 6 _ rfl
    have oc7:=hO.2.1 7 _ rfl
    have oc8:=hO.2.1 8 _ rfl
    have oc9:=hO.2.1 9 _ rfl
    have oc10:=hO.2.1 10 _ rfl
    have oc11:=hO.2.1 11 _ rfl
    clear hO
    have hL:=(put_below (R:=W.heap.size) Nat.le.refl [.int .i64 (acc (cameAll n)).a.n,.int .i64 (acc (cameAll n)).a.d,.int .i64 (acc (cameAll n)).b.n,.int .i64 (acc (cameAll n)).b.d,.int .i64 (acc (cameAll n)).c.n,.int .i64 (acc (cameAll n)).c.d,.int .i64 (acc (cameAll n)).d.n,.int .i64 (acc (cameAll n)).d.d,.int .i64 (acc (cameAll n)).e.n,.int .i64 (acc (cameAll n)).e.d,.int .i64 (acc (cameAll n)).f.n,.int .i64 (acc (cameAll n)).f.d] 0 hB).setCell (p:=⟨W.heap.size+1,0,none⟩) (by simp only;omega) .nilIface
    refine ⟨.tuple #[mv (acc (cameAll n)),.nilIface],?_,.inl ⟨hop,rfl⟩,hL.trans (belowK_b (w:=W) Nat.le.refl _ D _ _ (by omega) hK' rfl rfl)⟩
    simp [results,Tryz.results121,go_sem,hQ,oc0,oc1,oc2,oc3,oc4,oc5,oc6,oc7,oc8,oc9,oc10,oc11]
  case stop=>
    rintro D c pre X hD hpre ⟨⟨rfl,h1,h2,h3⟩,hB⟩ hK
    gi_wp2
    refine ⟨by simp,.inl ⟨_,_,rfl,run_takeDeferred hK,?_⟩⟩
    have hr:∀ r,some D=some r->∃ o:Obj,X.heap[r]? = some o/\o.isCells=false:=fun r e=>by cases e;exact ⟨_,hK,rfl⟩
    have hg:=grownBy_putObj' X D (.deferred none)
    have hc5:=cell_kept h3 hg hr
    have h2':=h2.kept hg hr
    have oc0:=h2'.2.1 0 _ rfl
    have oc1:=h2'.2.1 1 _ rfl
    have oc2:=h2'.2.1 2 _ rfl
    have oc3:=h2'.2.1 3 _ rfl
    have oc4:=h2'.2.1 4 _ rfl
    have oc5:=h2'.2.1 5 _ rfl
    have oc6:=h2'.2.1 6 _ rfl
    have oc7:=h2'.2.1 7 _ rfl
    have oc8:=h2'.2.1 8 _ rfl
    have oc9:=h2'.2.1 9 _ rfl
    have oc10:=h2'.2.1 10 _ rfl
    have oc11:=h2'.2.1 11 _ rfl
    obtain ⟨r,hr'⟩:=hpre
    refine ⟨.tuple #[mv .zero,.iface 409 (.pointer (some aB))],?_,.inr ⟨fun e=>h1 (hokm pre r (by rw [hr'];exact e)),rfl⟩,hB.trans (belowK_b (w:=W) Nat.le.refl X D _ _ (by omega) hK rfl rfl)⟩
    simp [results,Tryz.results121,go_sem,Mv.zero,Fr.zero,hc5,oc0,oc1,oc2,oc3,oc4,oc5,oc6,oc7,oc8,oc9,oc10,oc11]
end
section
open Go.RowKit Go.Shelf
set_option maxHeartbeats 8000000
set_option maxRecDepth 100000
attribute [local go_sem] Oper.semAt_some
theorem back0_in (F:Fence) (n:Nat) (hf:F.fn 222) (hro:F.round=none) (l Bl:Nat) (J Jx:List Nat->World->Prop)
  (W:World) (hBl:W.cell? ⟨Bl,0,none⟩=some (.slice none 0 0)) (h0:J [] W) :
  CallsIn F n Tryz.prog 222 #[.func (.yield l) #[] #[],.pointer (some ⟨Bl,0,none⟩)] W fun e W'=>(∃ v,e=.returned v)/\
   ((∃ ys,ys=[]/\J ys W')\/(∃ pre,pre <+: []/\Jx pre W')):=by
 refine callsIn_of_wp Tryz.func222 rfl hf ?_ hro
 simp only [Tryz.ntmps222,List.size_toArray,List.length_cons,List.length_nil,Nat.reduceAdd,Nat.reduceSub,Array.replicate_succ,Array.replicate_zero,List.push_toArray,List.append_toArray,List.nil_append,List.cons_append]
 gi_wp2
 gi_loopw [3] (fun i wr=>i=.int .i64 (-1)/\J [] wr) (fun _ _=>0)
 case atStart=>exact ⟨rfl,h0⟩
 case round=>
  obtain ⟨rfl,hJ⟩:=hrel
  gi_wp2
  go_end0
  exact ⟨⟨_,rfl⟩,.inl ⟨_,rfl,hJ⟩⟩
theorem Read0_in (s:ByteArray) (W:World)
  (HL:∀ V,Below W.heap.size W V->Calls Tryz.prog 172 #[.string s] V fun e w'=>e=.returned (.tuple #[.slice none 0 0,.nilIface])/\Below V.heap.size V w') :
  CallsIn Fence.wide 9 Tryz.prog 121 #[.string s] W fun e w'=>e=.returned (.tuple #[mv (Mv.one),.nilIface])/\Below W.heap.size W w':=by
 have HO:=One_any
 have HB:=backward_any
 have L0:=((Below.refl W.heap.size W).alloc Nat.le.refl (.cells #[.int .i64 0,.int .i64 0,.int .i64 0,.int .i64 0,.int .i64 0,.int .i64 0,.int .i64 0,.int .i64 0,.int .i64 0,.int .i64 0,.int .i64 0,.int .i64 0] 113)).alloc (by simp) (.cells #[.nilIface] 31)
 have R0:Blk ((W.alloc (.cells #[.int .i64 0,.int .i64 0,.int .i64 0,.int .i64 0,.int .i64 0,.int .i64 0,.int .i64 0,.int .i64 0,.int .i64 0,.int .i64 0,.int .i64 0,.int .i64 0] 113)).alloc (.cells #[.nilIface] 31)) W.heap.size #[.int .i64 0,.int .i64 0,.int .i64 0,.int .i64 0,.int .i64 0,.int .i64 0,.int .i64 0,.int .i64 0,.int .i64 0,.int .i64 0,.int .i64 0,.int .i64 0] 113:=(Blk.new W _ _).alloc _
 have Q0:=Blk.new (W.alloc (.cells #[.int .i64 0,.int .i64 0,.int .i64 0,.int .i64 0,.int .i64 0,.int .i64 0,.int .i64 0,.int .i64 0,.int .i64 0,.int .i64 0,.int .i64 0,.int .i64 0] 113)) #[.nilIface] 31
 rw [World.size_alloc] at Q0
 refine callsIn_of_wp_marks Tryz.func121 rfl trivial ?_ rfl
 simp only [Tryz.ntmps121,List.size_toArray,List.length_cons,List.length_nil,Nat.reduceAdd,Nat.reduceSub,Array.replicate_succ,Array.replicate_zero,List.push_toArray,List.append_toArray,List.nil_append,List.cons_append]
 gi_wp2_with (first | (refine ⟨trivial,?_⟩;gi_at_call 173;refine (callsIn_wide.2 (HB _ _ _ _ rfl _)).mono ?_;rintro e w' ⟨rfl,rfl⟩) | (refine ⟨trivial,?_⟩;gi_at_call 45;refine (callsIn_wide.2 (HO _)).mono ?_;rintro e w2 ⟨rfl,hb2⟩;dsimp only [Mv.one,Fr.whole]) | (refine ⟨trivial,?_⟩;gi_at_call 172;refine (callsIn_wide.2 (HL _ L0)).mono ?_;rintro e w1 ⟨rfl,hb1⟩))
 have sz1:=hb1.size
 simp only [World.size_alloc] at sz1
 have sz2:=hb2.size
 simp only [World.size_alloc] at sz2
 have e1:(w1.alloc (.cells #[.nilIface] 31)).heap.size=w1.heap.size+1:=by simp
 have E2:=(Blk.new w1 #[.nilIface] 31).below hb2 Nat.le.refl
 have R2:=((R0.below hb1 Nat.le.refl).alloc (.cells #[.nilIface] 31)).below hb2 Nat.le.refl
 have Q2:=((Q0.below hb1 Nat.le.refl).alloc (.cells #[.nilIface] 31)).below hb2 Nat.le.refl
 have L2:=((L0.trans (hb1.mono (by simp;omega))).alloc (by omega) (.cells #[.nilIface] 31)).trans (hb2.mono (by simp;omega))
 obtain ⟨U,hU⟩:∃ U,(w2.alloc (.cells #[.int .i64 1,.int .i64 1,.int .i64 0,.int .i64 1,.int .i64 0,.int .i64 1,.int .i64 1,.int .i64 1,.int .i64 0,.int .i64 1,.int .i64 0,.int .i64 1] 113)).alloc (.cells #[.slice none 0 0] 247)=U:=⟨_,rfl⟩
 have szU:U.heap.size=w2.heap.size+2:=by rw [<- hU];simp
 have A3:Blk U w2.heap.size #[.int .i64 1,.int .i64 1,.int .i64 0,.int .i64 1,.int .i64 0,.int .i64 1,.int .i64 1,.int .i64 1,.int .i64 0,.int .i64 1,.int .i64 0,.int .i64 1] 113:=by rw [<- hU];exact (Blk.new w2 _ _).alloc _
 have C3:U.cell? ⟨w2.heap.size+1,0,none⟩=some (.slice none 0 0):=by rw [<- hU];exact cell_at (by simp) rfl
 have E3:Blk U w1.heap.size #[.nilIface] 31:=by rw [<- hU];exact (E2.alloc _).alloc _
 have R3:Blk U W.heap.size #[.int .i64 0,.int .i64 0,.int .i64 0,.int .i64 0,.int .i64 0,.int .i64 0,.int .i64 0,.int .i64 0,.int .i64 0,.int .i64 0,.int .i64 0,.int .i64 0] 113:=by rw [<- hU];exact (R2.alloc _).alloc _
 have Q3:Blk U (W.heap.size+1) #[.nilIface] 31:=by rw [<- hU];exact (Q2.alloc _).alloc _
 have L3:Below W.heap.size W U:=by rw [<- hU];exact (L2.alloc (by omega) _).alloc (by simp;omega) _
 rw [hU]
 clear hU L2 R0 Q0 E2 R2 Q2
 refine wpIn_rangeFunc_ownH rfl (by omega) (gf:=222) (lb:=#[.pointer (some ⟨w2.heap.size+1,0,none⟩)]) rfl trivial (enters_of Tryz.func222 (by kernel_rfl) rfl)
  (encs:=fun x:Nat=>itemM Mv.one x) (Kp:=KeepX w1.heap.size w2.heap.size U.heap.size) (S:=fun ys=>ys=[]) (Sp:=fun pre=>pre <+: []) (N:=0) (w0:=U)
  (fun l J Jx X hX _ _ hY h0=>back0_in Fence.wide _ trivial rfl l (w2.heap.size+1) J Jx X ((hX.cell (p:=⟨w2.heap.size+1,0,none⟩) (by simp only;omega)).trans C3) h0)
  KeepX.trans (fun X l o o' hl _ _ _=>KeepX.put X l o' hl) (Below.refl _ _) (fun _=>rfl)
  (fun pre X=>(Open12 X w2.heap.size [.int .i64 Mv.one.a.n,.int .i64 Mv.one.a.d,.int .i64 Mv.one.b.n,.int .i64 Mv.one.b.d,.int .i64 Mv.one.c.n,.int .i64 Mv.one.c.d,.int .i64 Mv.one.d.n,.int .i64 Mv.one.d.d,.int .i64 Mv.one.e.n,.int .i64 Mv.one.e.d,.int .i64 Mv.one.f.n,.int .i64 Mv.one.f.d]/\(X.cell? ⟨w1.heap.size,0,none⟩=some .nilIface/\X.frozen? ⟨w1.heap.size,0,none⟩=false)/\Open12 X W.heap.size [.int .i64 0,.int .i64 0,.int .i64 0,.int .i64 0,.int .i64 0,.int .i64 0,.int .i64 0,.int .i64 0,.int .i64 0,.int .i64 0,.int .i64 0,.int .i64 0]/\(X.cell? ⟨W.heap.size+1,0,none⟩=some .nilIface/\X.frozen? ⟨W.heap.size+1,0,none⟩=false)/\U.heap.size<=X.heap.size)/\Below W.heap.size W X)
  (fun _ _ _=>False)
  (OwnFrom.and (Own.from (fun pre A B row hs hg hr=>⟨hs.1.kept hg hr,⟨cell_kept hs.2.1.1 hg hr,(frozen_kept hs.2.1.1 hg hr).trans hs.2.1.2⟩,hs.2.2.1.kept hg hr,⟨cell_kept hs.2.2.2.1.1 hg hr,(frozen_kept hs.2.2.2.1.1 hg hr).trans hs.2.2.2.1.2⟩,Nat.le_trans hs.2.2.2.2 hg.size⟩) _) (ownFrom_below Nat.le.refl (by omega)))
  (fun _ _ _ _ _ h _ _=>h)
  ⟨⟨Open12.of_blk (vs:=[.int .i64 1,.int .i64 1,.int .i64 0,.int .i64 1,.int .i64 0,.int .i64 1,.int .i64 1,.int .i64 1,.int .i64 0,.int .i64 1,.int .i64 0,.int .i64 1]) A3 rfl,⟨E3.cell 0 _ rfl,E3.froz 0 _ rfl⟩,Open12.of_blk (vs:=[.int .i64 0,.int .i64 0,.int .i64 0,.int .i64 0,.int .i64 0,.int .i64 0,.int .i64 0,.int .i64 0,.int .i64 0,.int .i64 0,.int .i64 0,.int .i64 0]) R3 rfl,⟨Q3.cell 0 _ rfl,Q3.froz 0 _ rfl⟩,Nat.le_refl _⟩,L3⟩
  (fun x a' X=>∃ Bx,U.heap.size<=Bx/\Open12 X Bx [.int .i64 Mv.one.a.n,.int .i64 Mv.one.a.d,.int .i64 Mv.one.b.n,.int .i64 Mv.one.b.d,.int .i64 Mv.one.c.n,.int .i64 Mv.one.c.d,.int .i64 Mv.one.d.n,.int .i64 Mv.one.d.d,.int .i64 Mv.one.e.n,.int .i64 Mv.one.e.d,.int .i64 Mv.one.f.n,.int .i64 Mv.one.f.d]/\a'={ tmps:=#[.string s,undef,.pointer (some ⟨W.heap.size,0,none⟩),.pointer (some ⟨W.heap.size+1,0,none⟩),.slice none 0 0,.pointer (some ⟨w1.heap.size,0,none⟩),.pointer (some ⟨w2.heap.size,0,none⟩),undef,.pointer (some ⟨Bx,0,none⟩),.tuple #[.slice none 0 0,.nilIface],.string s,.tuple #[.slice none 0 0,.nilIface],.slice none 0 0,.nilIface,.nilIface,.bool false,undef,undef,.agg #[.int .i64 1,.int .i64 1,.int .i64 0,.int .i64 1,.int .i64 0,.int .i64 1,.int .i64 1,.int .i64 1,.int .i64 0,.int .i64 1,.int .i64 0,.int .i64 1],.slice none 0 0,.func (.func 222) #[] #[.pointer (some ⟨w2.heap.size+1,0,none⟩)],.int .i64 (x:Nat),.agg #[.int .i64 Mv.one.a.n,.int .i64 Mv.one.a.d,.int .i64 Mv.one.b.n,.int .i64 Mv.one.b.d,.int .i64 Mv.one.c.n,.int .i64 Mv.one.c.d,.int .i64 Mv.one.d.n,.int .i64 Mv.one.d.d,.int .i64 Mv.one.e.n,.int .i64 Mv.one.e.d,.int .i64 Mv.one.f.n,.int .i64 Mv.one.f.d],undef,undef,undef,undef,undef,undef,undef,undef,undef,undef,undef],defers:=[] })
  (fun x a' s A B row hs hg hr=>by obtain ⟨Bx,h1,h2,h3⟩:=hs;exact ⟨Bx,h1,h2.kept hg (fun r e=>(hr r e).2),h3⟩)
  ?assign ?body ?done ?stop
 case assign=>
  rintro l pre x X K ⟨⟨h1,⟨h2,h2f⟩,h3,⟨h4,h4f⟩,hU⟩,hB⟩ hK
  gi_wp2
  have hs:=hB.size
  have hal:=(Below.refl X.heap.size X).alloc Nat.le.refl (.cells #[.int .i64 Mv.one.a.n,.int .i64 Mv.one.a.d,.int .i64 Mv.one.b.n,.int .i64 Mv.one.b.d,.int .i64 Mv.one.c.n,.int .i64 Mv.one.c.d,.int .i64 Mv.one.d.n,.int .i64 Mv.one.d.d,.int .i64 Mv.one.e.n,.int .i64 Mv.one.e.d,.int .i64 Mv.one.f.n,.int .i64 Mv.one.f.d] 113)
  exact hK _ _ ((KeepsOthers.alloc _ _).from _) (KeepX.of_below hal hU) ⟨⟨h1.below hal,⟨cell_al _ h2,froz_al _ h2 h2f⟩,h3.below hal,⟨cell_al _ h4,froz_al _ h4 h4f⟩,Nat.le_trans hU hal.size⟩,hB.alloc hs _⟩ ⟨X.heap.size,hU,Open12.of_blk (vs:=[.int .i64 Mv.one.a.n,.int .i64 Mv.one.a.d,.int .i64 Mv.one.b.n,.int .i64 Mv.one.b.d,.int .i64 Mv.one.c.n,.int .i64 Mv.one.c.d,.int .i64 Mv.one.d.n,.int .i64 Mv.one.d.d,.int .i64 Mv.one.e.n,.int .i64 Mv.one.e.d,.int .i64 Mv.one.f.n,.int .i64 Mv.one.f.d]) (Blk.new X _ _) rfl,rfl⟩
 case body=>
  rintro l pre x a' X hl hr _ _ hlen
  exact (Nat.not_lt_zero _ hlen).elim
 case done=>
  rintro D ys X hD rfl ⟨⟨h1,⟨h2,h2f⟩,h3,⟨h4,h4f⟩,hU⟩,hB⟩ hK
  have ac0:=h1.2.1 0 _ rfl
  have rc0:=h3.2.1 0 _ rfl
  have rf0:=h3.2.2 0 (by omega)
  have ac1:=h1.2.1 1 _ rfl
  have rc1:=h3.2.1 1 _ rfl
  have rf1:=h3.2.2 1 (by omega)
  have ac2:=h1.2.1 2 _ rfl
  have rc2:=h3.2.1 2 _ rfl
  have rf2:=h3.2.2 2 (by omega)
  have ac3:=h1.2.1 3 _ rfl
  have rc3:=h3.2.1 3 _ rfl
  have rf3:=h3.2.2 3 (by omega)
  have ac4:=h1.2.1 4 _ rfl
  have rc4:=h3.2.1 4 _ rfl
  have rf4:=h3.2.2 4 (by omega)
  have ac5:=h1.2.1 5 _ rfl
  have rc5:=h3.2.1 5 _ rfl
  have rf5:=h3.2.2 5 (by omega)
  have ac6:=h1.2.1 6 _ rfl
  have rc6:=h3.2.1 6 _ rfl
  have rf6:=h3.2.2 6 (by omega)
  have ac7:=h1.2.1 7 _ rfl
  have rc7:=h3.2.1 7 _ rfl
  have rf7:=h3.2.2 7 (by omega)
  have ac8:=h1.2.1 8 _ rfl
  have rc8:=h3.2.1 8 _ rfl
  have rf8:=h3.2.2 8 (by omega)
  have ac9:=h1.2.1 9 _ rfl
  have rc9:=h3.2.1 9 _ rfl
  have rf9:=h3.2.2 9 (by omega)
  have ac10:=h1.2.1 10 _ rfl
  have rc10:=h3.2.1 10 _ rfl
  have rf10:=h3.2.2 10 (by omega)
  have ac11:=h1.2.1 11 _ rfl
  have rc11:=h3.2.1 11 _ rfl
  have rf11:=h3.2.2 11 (by omega)
  have ne3:¬ W.heap.size=w2.heap.size:=by omega
  have ne4:¬ w2.heap.size=W.heap.size:=by omega
  have ne5:¬ W.heap.size+1=W.heap.size:=by omega
  have ne6:¬ W.heap.size=W.heap.size+1:=by omega
  gi_wp2
  have hK':=((put_keeps [.int .i64 (Mv.one).a.n,.int .i64 (Mv.one).a.d,.int .i64 (Mv.one).b.n,.int .i64 (Mv.one).b.d,.int .i64 (Mv.one).c.n,.int .i64 (Mv.one).c.d,.int .i64 (Mv.one).d.n,.int .i64 (Mv.one).d.d,.int .i64 (Mv.one).e.n,.int .i64 (Mv.one).e.d,.int .i64 (Mv.one).f.n,.int .i64 (Mv.one).f.d] 0 W.heap.size X).trans (KeepsOthers.setCell _ ⟨W.heap.size+1,0,none⟩ .nilIface)).same D _ hK rfl
  refine ⟨by simp,.inl ⟨_,_,rfl,run_takeDeferred hK',?_⟩⟩
  have hO:Open12 ((((((((((((((X.setCell ⟨W.heap.size,0,none⟩ (.int .i64 (Mv.one).a.n)).setCell ⟨W.heap.size,1,none⟩ (.int .i64 (Mv.one).a.d)).setCell ⟨W.heap.size,2,none⟩ (.int .i64 (Mv.one).b.n)).setCell ⟨W.heap.size,3,none⟩ (.int .i64 (Mv.one).b.d)).setCell ⟨W.heap.size,4,none⟩ (.int .i64 (Mv.one).c.n)).setCell ⟨W.heap.size,5,none⟩ (.int .i64 (Mv.one).c.d)).setCell ⟨W.heap.size,6,none⟩ (.int .i64 (Mv.one).d.n)).setCell ⟨W.heap.size,7,none⟩ (.int .i64 (Mv.one).d.d)).setCell ⟨W.heap.size,8,none⟩ (.int .i64 (Mv.one).e.n)).setCell ⟨W.heap.size,9,none⟩ (.int .i64 (Mv.one).e.d)).setCell ⟨W.heap.size,10,none⟩ (.int .i64 (Mv.one).f.n)).setCell ⟨W.heap.size,11,none⟩ (.int .i64 (Mv.one).f.d)).setCell ⟨W.heap.size+1,0,none⟩ .nilIface).putObj D (.deferred none)) W.heap.size [.int .i64 (Mv.one).a.n,.int .i64 (Mv.one).a.d,.int .i64 (Mv.one).b.n,.int .i64 (Mv.one).b.d,.int .i64 (Mv.one).c.n,.int .i64 (Mv.one).c.d,.int .i64 (Mv.one).d.n,.int .i64 (Mv.one).d.d,.int .i64 (Mv.one).e.n,.int .i64 (Mv.one).e.d,.int .i64 (Mv.one).f.n,.int .i64 (Mv.one).f.d]:=((h3.put (us:=[.int .i64 (Mv.one).a.n,.int .i64 (Mv.one).a.d,.int .i64 (Mv.one).b.n,.int .i64 (Mv.one).b.d,.int .i64 (Mv.one).c.n,.int .i64 (Mv.one).c.d,.int .i64 (Mv.one).d.n,.int .i64 (Mv.one).d.d,.int .i64 (Mv.one).e.n,.int .i64 (Mv.one).e.d,.int .i64 (Mv.one).f.n,.int .i64 (Mv.one).f.d]) rfl).set_other (o:=0) (v:=.nilIface) ne6).kept (grownBy_putObj' _ D (.deferred none)) (fun r e=>by cases e;exact ⟨_,hK',rfl⟩)
  have hQ:((((((((((((((X.setCell ⟨W.heap.size,0,none⟩ (.int .i64 (Mv.one).a.n)).setCell ⟨W.heap.size,1,none⟩ (.int .i64 (Mv.one).a.d)).setCell ⟨W.heap.size,2,none⟩ (.int .i64 (Mv.one).b.n)).setCell ⟨W.heap.size,3,none⟩ (.int .i64 (Mv.one).b.d)).setCell ⟨W.heap.size,4,none⟩ (.int .i64 (Mv.one).c.n)).setCell ⟨W.heap.size,5,none⟩ (.int .i64 (Mv.one).c.d)).setCell ⟨W.heap.size,6,none⟩ (.int .i64 (Mv.one).d.n)).setCell ⟨W.heap.size,7,none⟩ (.int .i64 (Mv.one).d.d)).setCell ⟨W.heap.size,8,none⟩ (.int .i64 (Mv.one).e.n)).setCell ⟨W.heap.size,9,none⟩ (.int .i64 (Mv.one).e.d)).setCell ⟨W.heap.size,10,none⟩ (.int .i64 (Mv.one).f.n)).setCell ⟨W.heap.size,11,none⟩ (.int .i64 (Mv.one).f.d)).setCell ⟨W.heap.size+1,0,none⟩ .nilIface).putObj D (.deferred none)).cell? ⟨W.heap.size+1,0,none⟩=some .nilIface:=cell_kept (World.cell?_setCell_same' _ _ .nilIface (isSome_of ((put_cell (p:=⟨W.heap.size+1,0,none⟩) (R:=W.heap.size) ne5 [.int .i64 (Mv.one).a.n,.int .i64 (Mv.one).a.d,.int .i64 (Mv.one).b.n,.int .i64 (Mv.one).b.d,.int .i64 (Mv.one).c.n,.int .i64 (Mv.one).c.d,.int .i64 (Mv.one).d.n,.int .i64 (Mv.one).d.d,.int .i64 (Mv.one).e.n,.int .i64 (Mv.one).e.d,.int .i64 (Mv.one).f.n,.int .i64 (Mv.one).f.d] 0 X).trans h4))) (grownBy_putObj' _ D (.deferred none)) (fun r e=>by cases e;exact ⟨_,hK',rfl⟩)
  have oc0:=hO.2.1 0 _ rfl
  have oc1:=hO.2.1 1 _ rfl
  have oc2:=hO.2.1 2 _ rfl
  have oc3:=hO.2.1 3 _ rfl
  have oc4:=hO.2.1 4 _ rfl
  have oc5:=hO.2.1 5 _ rfl
  have oc6:=hO.2.1 6 _ rfl
  have oc7:=hO.2.1 7 _ rfl
  have oc8:=hO.2.1 8 _ rfl
  have oc9:=hO.2.1 9 _ rfl
  have oc10:=hO.2.1 10 _ rfl
  have oc11:=hO.2.1 11 _ rfl
  clear hO
  have hL:=(put_below (R:=W.heap.size) Nat.le.refl [.int .i64 (Mv.one).a.n,.int .i64 (Mv.one).a.d,.int .i64 (Mv.one).b.n,.int .i64 (Mv.one).b.d,.int .i64 (Mv.one).c.n,.int .i64 (Mv.one).c.d,.int .i64 (Mv.one).d.n,.int .i64 (Mv.one).d.d,.int .i64 (Mv.one).e.n,.int .i64 (Mv.one).e.d,.int .i64 (Mv.one).f.n,.int .i64 (Mv.one).f.d] 0 hB).setCell (p:=⟨W.heap.size+1,0,none⟩) (by simp only;omega) .nilIface
  refine ⟨.tuple #[mv (Mv.one),.nilIface],?_,rfl,hL.trans (belowK_b (w:=W) Nat.le.refl _ D _ _ (by omega) hK' rfl rfl)⟩
  simp [results,Tryz.results121,go_sem,hQ,oc0,oc1,oc2,oc3,oc4,oc5,oc6,oc7,oc8,oc9,oc10,oc11]
 case stop=>
  rintro D c pre X _ _ h _
  exact h.elim
theorem Read_listno (s:ByteArray) (a:Addr) (W:World)
  (HL:∀ V,Below W.heap.size W V->Calls Tryz.prog 172 #[.string s] V fun e w'=>e=.returned (.tuple #[.slice none 0 0,.iface 409 (.pointer (some a))])/\Below V.heap.size V w') :
  CallsIn Fence.wide 9 Tryz.prog 121 #[.string s] W fun e w'=>e=.returned (.tuple #[mv .zero,.iface 409 (.pointer (some a))])/\Below W.heap.size W w':=by
 have L0:=((Below.refl W.heap.size W).alloc Nat.le.refl (.cells #[.int .i64 0,.int .i64 0,.int .i64 0,.int .i64 0,.int .i64 0,.int .i64 0,.int .i64 0,.int .i64 0,.int .i64 0,.int .i64 0,.int .i64 0,.int .i64 0] 113)).alloc (by simp) (.cells #[.nilIface] 31)
 have R0:Blk ((W.alloc (.cells #[.int .i64 0,.int .i64 0,.int .i64 0,.int .i64 0,.int .i64 0,.int .i64 0,.int .i64 0,.int .i64 0,.int .i64 0,.int .i64 0,.int .i64 0,.int .i64 0] 113)).alloc (.cells #[.nilIface] 31)) W.heap.size #[.int .i64 0,.int .i64 0,.int .i64 0,.int .i64 0,.int .i64 0,.int .i64 0,.int .i64 0,.int .i64 0,.int .i64 0,.int .i64 0,.int .i64 0,.int .i64 0] 113:=(Blk.new W _ _).alloc _
 have Q0:=Blk.new (W.alloc (.cells #[.int .i64 0,.int .i64 0,.int .i64 0,.int .i64 0,.int .i64 0,.int .i64 0,.int .i64 0,.int .i64 0,.int .i64 0,.int .i64 0,.int .i64 0,.int .i64 0] 113)) #[.nilIface] 31
 rw [World.size_alloc] at Q0
 refine callsIn_of_wp_marks Tryz.func121 rfl trivial ?_ rfl
 simp only [Tryz.ntmps121,List.size_toArray,List.length_cons,List.length_nil,Nat.reduceAdd,Nat.reduceSub,Array.replicate_succ,Array.replicate_zero,List.push_toArray,List.append_toArray,List.nil_append,List.cons_append]
 gi_wp2_with ((refine ⟨trivial,?_⟩;gi_at_call 172;refine (callsIn_wide.2 (HL _ L0)).mono ?_;rintro e w1 ⟨rfl,hb1⟩))
 have sz1:=hb1.size
 simp only [World.size_alloc] at sz1
 obtain ⟨Y,hY⟩:∃ Y,w1.alloc (.cells #[.iface 409 (.pointer (some a))] 31)=Y:=⟨_,rfl⟩
 have y1:Y.cell? ⟨w1.heap.size,0,none⟩=some (.iface 409 (.pointer (some a))):=by rw [<- hY];exact cell_at rfl rfl
 have y3:Blk Y W.heap.size #[.int .i64 0,.int .i64 0,.int .i64 0,.int .i64 0,.int .i64 0,.int .i64 0,.int .i64 0,.int .i64 0,.int .i64 0,.int .i64 0,.int .i64 0,.int .i64 0] 113:=by rw [<- hY];exact (R0.below hb1 Nat.le.refl).alloc _
 have y4:Blk Y (W.heap.size+1) #[.nilIface] 31:=by rw [<- hY];exact (Q0.below hb1 Nat.le.refl).alloc _
 have yB:Below W.heap.size W Y:=by rw [<- hY];exact (L0.trans (hb1.mono (by simp;omega))).alloc (by omega) _
 rw [hY]
 clear hY hb1 R0 Q0 L0
 have qc:=y4.cell 0 _ rfl
 have qf:=y4.froz 0 _ rfl
 have zc0:=y3.cell 0 _ rfl
 have zf0:=y3.froz 0 _ rfl
 have zc1:=y3.cell 1 _ rfl
 have zf1:=y3.froz 1 _ rfl
 have zc2:=y3.cell 2 _ rfl
 have zf2:=y3.froz 2 _ rfl
 have zc3:=y3.cell 3 _ rfl
 have zf3:=y3.froz 3 _ rfl
 have zc4:=y3.cell 4 _ rfl
 have zf4:=y3.froz 4 _ rfl
 have zc5:=y3.cell 5 _ rfl
 have zf5:=y3.froz 5 _ rfl
 have zc6:=y3.cell 6 _ rfl
 have zf6:=y3.froz 6 _ rfl
 have zc7:=y3.cell 7 _ rfl
 have zf7:=y3.froz 7 _ rfl
 have zc8:=y3.cell 8 _ rfl
 have zf8:=y3.froz 8 _ rfl
 have zc9:=y3.cell 9 _ rfl
 have zf9:=y3.froz 9 _ rfl
 have zc10:=y3.cell 10 _ rfl
 have zf10:=y3.froz 10 _ rfl
 have zc11:=y3.cell 11 _ rfl
 have zf11:=y3.froz 11 _ rfl
 have ne3:¬ W.heap.size=w1.heap.size:=by omega
 have ne4:¬ w1.heap.size=W.heap.size:=by omega
 have ne5:¬ W.heap.size+1=W.heap.size:=by omega
 have ne6:¬ W.heap.size=W.heap.size+1:=by omega
 have ne7:¬ W.heap.size+1=w1.heap.size:=by omega
 have ne8:¬ w1.heap.size=W.heap.size+1:=by omega
 gi_region
 all_goals
  gi_wp2
  have hO:=Open12.drew (((Open12.of_blk (vs:=[.int .i64 0,.int .i64 0,.int .i64 0,.int .i64 0,.int .i64 0,.int .i64 0,.int .i64 0,.int .i64 0,.int .i64 0,.int .i64 0,.int .i64 0,.int .i64 0]) y3 rfl).put (us:=[.int .i64 0,.int .i64 0,.int .i64 0,.int .i64 0,.int .i64 0,.int .i64 0,.int .i64 0,.int .i64 0,.int .i64 0,.int .i64 0,.int .i64 0,.int .i64 0]) rfl).set_other (E:=W.heap.size+1) (o:=0) (v:=.iface 409 (.pointer (some a))) ne6)
  have hQ:=cell_drew (World.cell?_setCell_same' (put Y W.heap.size 0 [.int .i64 0,.int .i64 0,.int .i64 0,.int .i64 0,.int .i64 0,.int .i64 0,.int .i64 0,.int .i64 0,.int .i64 0,.int .i64 0,.int .i64 0,.int .i64 0]) ⟨W.heap.size+1,0,none⟩ (.iface 409 (.pointer (some a))) (isSome_of ((put_cell (p:=⟨W.heap.size+1,0,none⟩) (R:=W.heap.size) ne5 [.int .i64 0,.int .i64 0,.int .i64 0,.int .i64 0,.int .i64 0,.int .i64 0,.int .i64 0,.int .i64 0,.int .i64 0,.int .i64 0,.int .i64 0,.int .i64 0] 0 Y).trans qc)))
  simp only [put,Nat.zero_add,Nat.reduceAdd] at hO hQ
  have oc0:=hO.2.1 0 _ rfl
  have oc1:=hO.2.1 1 _ rfl
  have oc2:=hO.2.1 2 _ rfl
  have oc3:=hO.2.1 3 _ rfl
  have oc4:=hO.2.1 4 _ rfl
  have oc5:=hO.2.1 5 _ rfl
  have oc6:=hO.2.1 6 _ rfl
  have oc7:=hO.2.1 7 _ rfl
  have oc8:=hO.2.1 8 _ rfl
  have oc9:=hO.2.1 9 _ rfl
  have oc10:=hO.2.1 10 _ rfl
  have oc11:=hO.2.1 11 _ rfl
  clear hO
  have hL:=below_drewN ((put_below (R:=W.heap.size) Nat.le.refl [.int .i64 0,.int .i64 0,.int .i64 0,.int .i64 0,.int .i64 0,.int .i64 0,.int .i64 0,.int .i64 0,.int .i64 0,.int .i64 0,.int .i64 0,.int .i64 0] 0 yB).setCell (p:=⟨W.heap.size+1,0,none⟩) (by simp only;omega) (.iface 409 (.pointer (some a)))) 1
  refine ⟨.tuple #[mv .zero,.iface 409 (.pointer (some a))],?_,rfl,hL⟩
  simp [results,Tryz.results121,go_sem,Mv.zero,Fr.zero,hQ,oc0,oc1,oc2,oc3,oc4,oc5,oc6,oc7,oc8,oc9,oc10,oc11]
end
section
open Go.RowKit
set_option maxHeartbeats 1000000
theorem pair_eq {α β:Type} {p:α × β} {b:β} (h:p.2=b):p=(p.1,b):=by cases p;cases h;rfl
theorem foldR_cons (m a:Mv) (l:List Mv):foldR m (a :: l)=if (thenS m a).2=0 then foldR (thenS m a).1 l else (.zero,2):=rfl
theorem foldR_app (p q:List Mv) (m:Mv) (h:(foldR m (p++q)).2=0):(foldR m p).2=0:=by
  induction p generalizing m with
  | nil=>rfl
  | cons a p ih=>
    rw [List.cons_append,foldR_cons] at h
    rw [foldR_cons]
    by_cases h1:(thenS m a).2=0
    · rw [if_pos h1] at h ⊢;exact ih _ h
    · rw [if_neg h1] at h;cases h
theorem foldR_snoc (l:List Mv) (m n:Mv) (h:(foldR m l).2=0):foldR m (l++[n])=if (thenS (foldR m l).1 n).2=0 then ((thenS (foldR m l).1 n).1,0) else (.zero,2):=by
  induction l generalizing m with
  | nil=>exact foldR_cons m n []
  | cons a l ih=>
    rw [List.cons_append,foldR_cons,foldR_cons]
    rw [foldR_cons] at h
    by_cases h1:(thenS m a).2=0
    · rw [if_pos h1] at h;rw [if_pos h1,if_pos h1];exact ih _ h
    · rw [if_neg h1] at h;cases h
theorem foldR_ok (l:List Mv) (m:Mv) (hm:m.ok) (hl:∀ n ∈ l,n.ok) (h:(foldR m l).2=0):(foldR m l).1.ok:=by
  induction l generalizing m with
  | nil=>exact hm
  | cons a l ih=>
    rw [foldR_cons] at h ⊢
    by_cases h1:(thenS m a).2=0
    · rw [if_pos h1] at h ⊢
      exact ih _ ((then_step hm (hl a (by simp))).2 h1).1 (fun n hn=>hl n (by simp [hn])) h
    · rw [if_neg h1] at h;cases h
theorem foldR_two (l:List Mv) (m:Mv):(foldR m l).2=0\/foldR m l=(.zero,2):=by
  induction l generalizing m with
  | nil=>exact .inl rfl
  | cons a l ih=>
    rw [foldR_cons]
    by_cases h1:(thenS m a).2=0
    · rw [if_pos h1];exact ih _
    · rw [if_neg h1];exact .inr rfl
theorem came_map (R:List Mv):(cameAll R.length).map (fun j=>R.getD j .one)=R.reverse:=by
  apply List.ext_getElem?
  intro i
  unfold cameAll
  rw [List.map_map,List.getElem?_map]
  by_cases h:i<R.length
  · rw [List.getElem?_range h,List.getElem?_reverse h]
    simp [List.getElem?_eq_getElem (show R.length - 1 - i<R.length by omega)]
  · rw [List.getElem?_eq_none (by simp;omega),List.getElem?_eq_none (by simp;omega)]
    rfl
theorem readL_err:∀ (f:Nat) (ws:List ByteArray) (acc:List Mv),(readL f ws acc).2≠0->(readL f ws acc).1=[]
  | _,[],acc,h=>by simp [readL] at h
  | 0,_ :: _,_,_=>rfl
  | f+1,k :: ws,acc,h=>by
    unfold readL at h ⊢
    cases hk:kdOf k with
    | none=>rfl
    | some kd=>
      rw [hk] at h
      simp only at h ⊢
      split at h
      · rename_i h1;rw [if_pos h1]
      · rename_i h1;rw [if_neg h1]
        split at h
        · rename_i h2;rw [if_pos h2];exact readL_err f _ _ h
        · rename_i h2;rw [if_neg h2]
theorem readL_len:∀ (f:Nat) (ws:List ByteArray) (acc:List Mv),(readL f ws acc).2=0->acc.length<=(readL f ws acc).1.length/\(readL f ws acc).1.length<=acc.length+ws.length/\(ws≠[]->acc.length<(readL f ws acc).1.length)
  | _,[],acc,_=>by simp [readL]
  | 0,_ :: _,_,h=>by simp [readL] at h
  | f+1,k :: ws,acc,h=>by
    unfold readL at h ⊢
    cases hk:kdOf k with
    | none=>rw [hk] at h;simp at h
    | some kd=>
      rw [hk] at h
      simp only at h ⊢
      split at h
      · simp at h
      · rename_i h1;rw [if_neg h1]
        split at h
        · rename_i h2;rw [if_pos h2]
          obtain ⟨a1,a2,_⟩:=readL_len f _ _ h
          simp only [List.length_append,List.length_cons,List.length_nil,List.length_drop] at a1 a2 ⊢
          exact ⟨by omega,by omega,fun _=>by omega⟩
        · rename_i h2;exact (h2 h).elim
theorem split_le:∀ (k:Nat) (s:ByteArray),∀ a ∈ Lib.splitB ⟨#[32]⟩ 0 k s,a.size<=s.size
  | 0,s,a,h=>by rw [Lib.splitB_zero] at h;simp at h;subst h;exact Nat.le_refl _
  | k+1,s,a,h=>by
    unfold Lib.splitB at h
    split at h
    · simp at h;subst h;exact Nat.le_refl _
    · rcases List.mem_cons.1 h with rfl | h
      · rw [ByteArray.size_extract];omega
      · have:=split_le k _ a h
        rw [ByteArray.size_extract] at this
        omega
def er0 (aT aB aS:Addr) (c:Nat):Value:=if c=0 then .nilIface else .iface 409 (.pointer (some (eA aT aB aS c)))
theorem readList_empty (W:World):Calls Tryz.prog 172 #[.string ⟨#[]⟩] W fun e w'=>e=.returned (.tuple #[.slice none 0 0,.nilIface])/\Below W.heap.size W w':=by
  go_enter Tryz.func172,Tryz.ntmps172
  go_wp2
  go_ret2
  exact ⟨rfl,Below.refl _ _⟩
attribute [local irreducible] thenS in
theorem Read_gen {aT aB aS:Addr} (s:ByteArray) (hs:s.size<=900) (W:World) (hE:E4 aT aB aS W) :
    Calls Tryz.prog 121 #[.string s] W fun e w'=>e=.returned (.tuple #[mv (readR s).1,er0 aT aB aS (readR s).2])/\Below W.heap.size W w':=by
  by_cases h0:s.size=0
  · have hs0:s=⟨#[]⟩:=ext_list (List.length_eq_zero_iff.1 (by rw [len_eq];exact h0))
    subst hs0
    have:=Read0_in ⟨#[]⟩ W (fun V _=>readList_empty V)
    exact callsIn_wide.1 this
  · have hne:s.toList.isEmpty=false:=by
      rw [ByteArray.toList_eq,List.isEmpty_eq_false_iff]
      intro e
      exact h0 (by rw [<- len_eq,e];rfl)
    have hlen:(words s).length=Lib.countB s ⟨#[32]⟩+1:=Lib.splitB_all ⟨#[32]⟩ (by decide) 0 _ s rfl
    have hle:=Lib.countB_le ⟨#[32]⟩ (by decide) s.size s Nat.le.refl
    have hsz:∀ a ∈ words s,a.size<=1000000:=fun a ha=>by have:=split_le _ s a ha;omega
    have hL:listR s=readL (words s).length (words s) []:=by unfold listR;rw [if_neg h0]
    by_cases hc:(listR s).2=0
    · have hR:readL (words s).length (words s) []=((listR s).1,0):=by rw [<- hL];exact Prod.ext rfl hc
      obtain ⟨_,l2,l3⟩:=readL_len (words s).length (words s) [] (by rw [hR])
      have hok:=readL_ok (words s).length (words s) [] (by simp) (by rw [hR])
      rw [hR] at l2 l3 hok
      have l4:=l3 (fun e=>by rw [e] at hlen;simp at hlen)
      simp only [List.length_nil] at l2 l4
      obtain ⟨R,hRR⟩:∃ R,(listR s).1=R:=⟨_,rfl⟩
      rw [hRR] at hR l2 l4 hok
      have hms:∀ x,(R.getD x .one).ok:=fun x=>by
        by_cases hx:x<R.length
        · rw [show R.getD x .one=R[x] by simp [List.getD,hx]];exact hok _ (by simp)
        · rw [show R.getD x .one=.one by simp [List.getD,List.getElem?_eq_none (show R.length<=x by omega)]];exact one_ok
      have hmm:∀ pre:List Nat,∀ n ∈ pre.map (fun j=>R.getD j .one),n.ok:=fun pre n hn=>by
        obtain ⟨j,_,rfl⟩:=List.mem_map.1 hn
        exact hms j
      have:=ReadE_in aB s (fun j=>R.getD j .one) R.length (fun pre=>(foldR .one (pre.map (fun j=>R.getD j .one))).1) (fun pre=>(foldR .one (pre.map (fun j=>R.getD j .one))).2=0) rfl
        (fun p q h=>by rw [List.map_append] at h;exact foldR_app _ _ _ h) W l4 (by omega) rfl
        (fun V hV=>(readList_ok s (words s) (words s).length R V (by omega) hne hlen.symm rfl rfl (by omega) hR (fun k kd h1 h2=>kindA_of h1 h2) (fun k h=>kindT_of h) (fun kd h=>readA_of (hE.below hV Nat.le.refl) hsz h) readT_of).mono fun e w' ⟨⟨v,he,hown⟩,hb⟩=>by
          obtain ⟨n,hn⟩:∃ n,R.length=n+1:=⟨R.length - 1,by omega⟩
          rw [hn] at hown ⊢
          obtain ⟨g,cap,rfl,_,h3,_,_,h6⟩:=ownsRow_pos hown
          exact ⟨⟨g,cap,he,h3,fun j hj i u hu=>by
            have hj':j<R.length:=by omega
            rw [show R.getD j .one=R[j] by simp [List.getD,hj']] at hu
            exact h6 _ u (cellsM_get R j R[j] (by simp [hj']) i u hu)⟩,hb⟩)
        (fun pre x h1 h2 V hV=>by
          rw [List.map_append,List.map_singleton] at h2 ⊢
          have ho:=foldR_ok _ _ one_ok (hmm pre) h1
          rw [foldR_snoc _ _ _ h1] at h2 ⊢
          by_cases h3:(thenS (foldR .one (pre.map (fun j=>R.getD j .one))).1 (R.getD x .one)).2=0
          · rw [if_pos h3]
            exact Then_ok (ok_all ho) (ok_all (hms x)) (thenR_ok ho (hms x) (pair_eq h3)) V (hE.below hV Nat.le.refl).e3
          · rw [if_neg h3] at h2;cases h2)
        (fun pre x h1 h2 V hV=>by
          rw [List.map_append,List.map_singleton,foldR_snoc _ _ _ h1] at h2
          have ho:=foldR_ok _ _ one_ok (hmm pre) h1
          by_cases h3:(thenS (foldR .one (pre.map (fun j=>R.getD j .one))).1 (R.getD x .one)).2=0
          · rw [if_pos h3] at h2;exact (h2 rfl).elim
          · rw [if_neg h3] at h2
            refine (Then_no (ok_all ho) (ok_all (hms x)) (fun y e=>h3 (by rw [(thenR_no e).2.2])) V (hE.below hV Nat.le.refl).e3).mono fun e w' ⟨⟨v,he,hv⟩,hb⟩=>?_
            unfold thenR at hv
            rw [if_neg (fun e=>e (bad_ok ho)),if_neg (fun e=>e (bad_ok (hms x))),if_neg h3] at hv
            obtain ⟨_,rfl⟩:=hv
            exact ⟨he,hb⟩)
      have hr:readR s=foldR .one R.reverse:=by unfold readR;rw [if_pos hc,hRR]
      refine (callsIn_wide.1 this).mono fun e w' ⟨he,hb⟩=>⟨?_,hb⟩
      rw [hr]
      rw [came_map] at he
      rcases he with ⟨h1,he⟩ | ⟨h1,he⟩
      · rw [he,h1];rfl
      · have h2:=(foldR_two R.reverse .one).resolve_left h1
        rw [he,h2];rfl
    · have hR:readL (words s).length (words s) []=([],(listR s).2):=by
        rw [<- hL]
        exact Prod.ext (by rw [hL];exact readL_err _ _ _ (by rw [<- hL];exact hc)) rfl
      have:=Read_listno s (eA aT aB aS (listR s).2) W (fun V hV=>readList_no aT aB aS s (words s) (words s).length (listR s).2 V (hE.below hV Nat.le.refl) (by omega) hne hlen.symm rfl rfl (by omega) hR hc (fun k kd h1 h2=>kindA_of h1 h2) (fun k h=>kindT_of h) (fun kd h=>readA_of (hE.below hV Nat.le.refl) hsz h) readT_of (fun kd h=>wrongA_of (hE.below hV Nat.le.refl) hsz h) (wrongT_of (hE.below hV Nat.le.refl)))
      have hr:readR s=(.zero,(listR s).2):=by unfold readR;rw [if_neg hc]
      refine (callsIn_wide.1 this).mono fun e w' ⟨he,hb⟩=>⟨?_,hb⟩
      rw [he,hr,er0,if_neg hc]
end
end Go.Proofs.YtgphclgmmocdhaaGreatDoor

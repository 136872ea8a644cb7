/- Parts of the proof. -/
import Derived.Test.YtjfiehbcamfdfaaGreatDoorQz16
namespace Go.Proofs.YtjfiehbcamfdfaaGreatDoor
open Go.Proofs.Tryz
set_option maxHeartbeats 8000000
section
open Go.RowKit Go.Shelf
set_option maxRecDepth 100000
attribute [local go_sem] Oper.semAt_some
theorem MP {A B:ag}(h:KeepsOthers A B):KeepsOthers A B.drew:=⟨h.size,h.same⟩
theorem bK.drew {W:ag}{R:Nat}{vs:List ah}(h:bK W R vs):bK W.drew R vs:=h
theorem EI {W:ag}{p:Addr}{v:ah}(h:W.cell? p=some v):W.drew.cell? p=some v:=h
theorem Wy (aB:Addr)(s:aD)(ms:Nat->Mv)(n:Nat)(acc:List Nat->Mv)(Ul:List Nat->Prop)(hok0:Ul [])(abl:∀p q,Ul (p++q)->Ul p)(W:ag)(hn:0<n)(hn':n<=1000)(ha:acc []=.one)
    (HL:∀V,Below W.heap.size W V->ax 198 #[.string s] V fun e w'=>(∃g cap,e=.returned (.tuple #[.slice (some ⟨g,0,none⟩) n cap,.nilIface])/\g<w'.heap.size/\∀j,j<n->∀i u,(mL (ms j))[i]? =some u->w'.cell? (ak g (j*12+i))=some u)/\Below V.heap.size V w')
    (HT:∀pre x,Ul pre->Ul (pre++[x])->∀V,Below W.heap.size W V->ax 145 #[mv (acc pre),mv (ms x)] V fun e w'=>e=.returned (.tuple #[mv (acc (pre++[x])),.nilIface])/\Below V.heap.size V w')
    (HN:∀pre x,Ul pre->¬Ul (pre++[x])->∀V,Below W.heap.size W V->ax 145 #[mv (acc pre),mv (ms x)] V fun e w'=>e=.returned (.tuple #[mv .zero,.iface 390 (.pointer (some aB))])/\Below V.heap.size V w'):
    CallsIn Fence.wide 9 prog 144 #[.string s] W fun e w'=>(Ul (aX n)/\e=.returned (.tuple #[mv (acc (aX n)),.nilIface])\/¬Ul (aX n)/\e=.returned (.tuple #[mv .zero,.iface 390 (.pointer (some aB))]))/\Below W.heap.size W w':=by
  have HO:=nO;have HB:=vI;have L0:=((Below.refl W.heap.size W).alloc ai (.cells zA 129)).alloc (by simp) (.cells #[.nilIface] 33);have R0:dH ((W.alloc (.cells zA 129)).alloc (.cells #[.nilIface] 33)) W.heap.size zA 129:=(dH.new W _ _).alloc _;have Q0:=dH.new (W.alloc (.cells zA 129)) #[.nilIface] 33;rw[World.size_alloc] at Q0;refine callsIn_of_wp_marks func144 rfl trivial ?_ rfl;simp only[ntmps144,List.size_toArray,List.length_cons,List.length_nil,Nat.reduceAdd,Nat.reduceSub,Array.replicate_succ,Array.replicate_zero,List.push_toArray,List.append_toArray,List.nil_append,List.cons_append]
  gi_wp2_with (first|(refine⟨trivial,?_⟩;gi_at_call 199;refine(callsIn_wide.2 (HB _ _ _ _ rfl _)).mono ?_;rintro e w' ⟨rfl,rfl⟩)|(refine⟨trivial,?_⟩;gi_at_call 52;refine(callsIn_wide.2 (HO _)).mono ?_;rintro e w2 ⟨rfl,hb2⟩;dsimp only[Mv.one,Fr.whole])|(refine⟨trivial,?_⟩;gi_at_call 198;refine(callsIn_wide.2 (HL _ L0)).mono ?_;rintro e w1 ⟨⟨g,cap,rfl,hg,hcells⟩,hb1⟩))
  have Mj:=hb1.size;simp only[World.size_alloc] at Mj;have sz2:=hb2.size;simp only[World.size_alloc] at sz2;have e1:(w1.alloc (.cells #[.nilIface] 33)).heap.size=w1.heap.size+1:=by simp
  have E2:=(dH.new w1 #[.nilIface] 33).below hb2 ai;have R2:=((R0.below hb1 ai).alloc (.cells #[.nilIface] 33)).below hb2 ai;have Q2:=((Q0.below hb1 ai).alloc (.cells #[.nilIface] 33)).below hb2 ai;have L2:=((L0.trans (hb1.mono (by simp;omega))).alloc (by omega) (.cells #[.nilIface] 33)).trans (hb2.mono (by simp;omega));have hc2:∀j,j<n->∀i u,(mL (ms j))[i]? =some u->w2.cell? (ak g (j*12+i))=some u:=fun j hj i u hu=>(hb2.cell (p:=⟨g,j*12+i,none⟩) (by simp;omega)).trans (au _ (hcells j hj i u hu));obtain⟨U,hU⟩:∃U,(w2.alloc (.cells oA 129)).alloc (.cells #[.slice (some ⟨g,0,none⟩) n cap] 277)=U:=⟨_,rfl⟩;have szU:U.heap.size=w2.heap.size+2:=by rw[<- hU];simp
  have A3:dH U w2.heap.size oA 129:=by rw[<- hU];exact(dH.new w2 _ _).alloc _
  have C3:U.cell? ⟨w2.heap.size+1,0,none⟩=some (.slice (some ⟨g,0,none⟩) n cap):=by rw[<- hU];exact bg (by simp) rfl
  have E3:dH U w1.heap.size #[.nilIface] 33:=by rw[<- hU];exact(E2.alloc _).alloc _
  have R3:dH U W.heap.size zA 129:=by rw[<- hU];exact(R2.alloc _).alloc _
  have Q3:dH U (W.heap.size+1) #[.nilIface] 33:=by rw[<- hU];exact(Q2.alloc _).alloc _
  have L3:Below W.heap.size W U:=by rw[<- hU];exact(L2.alloc (by omega) _).alloc (by simp;omega) _
  have hc3:∀j,j<n->∀i u,(mL (ms j))[i]? =some u->U.cell? (ak g (j*12+i))=some u:=fun j hj i u hu=>by rw[<- hU];exact au _ (au _ (hc2 j hj i u hu))
  rw[hU];clear hU L2 hc2 hcells R0 Q0 E2 R2 Q2;refine wpIn_rangeFunc_ownH rfl (by omega) (gf:=240) (lb:=#[.pointer (some ⟨w2.heap.size+1,0,none⟩)]) rfl trivial (enters_of func240 (by kernel_rfl) rfl)
    (encs:=fun x:Nat=>a1V (ms x) x) (Kp:=fM w1.heap.size w2.heap.size U.heap.size) (S:=fun ys=>ys=aX n) (Sp:=fun pre=>pre<+:aX n) (N:=n) (w0:=U)
    (fun l J Jx X hX _ _ hY h0=>Wq Fence.wide _ trivial rfl (by omega) l (w2.heap.size+1) g n cap ms hn hn' _ (fM.refl _ _ _) (fun _ _ _=>fM.trans)
      (fun A B h=>World.cell?_of_block (h.block (w2.heap.size+1) (by omega) (by omega) (by omega))) (fun A B h o=>World.cell?_of_block (h.block g (by omega) (by omega) (by omega))) J Jx hY X ((hX.cell (p:=⟨w2.heap.size+1,0,none⟩) (by simp only;omega)).trans C3) (fun j hj i u hu=>(hX.cell (p:=⟨g,j*12+i,none⟩) (by simp only;omega)).trans (hc3 j hj i u hu)) h0)
    fM.trans (fun X l o o' hl _ _ _=>fM.put X l o' hl) (Below.refl _ _) (fun _=>rfl)
    (fun pre X=>(Ul pre/\bK X w2.heap.size (mL (acc pre))/\(X.cell? ⟨w1.heap.size,0,none⟩=some .nilIface/\X.frozen? ⟨w1.heap.size,0,none⟩=false)/\bK X W.heap.size zL/\(X.cell? ⟨W.heap.size+1,0,none⟩=some .nilIface/\X.frozen? ⟨W.heap.size+1,0,none⟩=false)/\U.heap.size<=X.heap.size)/\Below W.heap.size W X)
    (fun c pre X=>(c=.ret/\¬Ul pre/\bK X W.heap.size zL/\X.cell? ⟨W.heap.size+1,0,none⟩=some (.iface 390 (.pointer (some aB))))/\Below W.heap.size W X)
    (OwnFrom.and (Own.from (fun pre A B row hs hg hr=>⟨hs.1,hs.2.1.kept hg hr,⟨cell_kept hs.2.2.1.1 hg hr,(frozen_kept hs.2.2.1.1 hg hr).trans hs.2.2.1.2⟩,hs.2.2.2.1.kept hg hr,⟨cell_kept hs.2.2.2.2.1.1 hg hr,(frozen_kept hs.2.2.2.2.1.1 hg hr).trans hs.2.2.2.2.1.2⟩,Nat.le_trans hs.2.2.2.2.2 hg.size⟩) _) (ownFrom_below ai (by omega)))
    (fun c=>OwnFrom.and (Own.from (fun s A B row hs hg hr=>⟨hs.1,hs.2.1,hs.2.2.1.kept hg hr,cell_kept hs.2.2.2 hg hr⟩) _) (ownFrom_below ai (by omega)))
    ⟨⟨hok0,by rw[ha];exact bK.uh (vs:=oL) A3 rfl,⟨E3.cell 0 _ rfl,E3.dD 0 _ rfl⟩,bK.uh (vs:=zL) R3 rfl,⟨Q3.cell 0 _ rfl,Q3.dD 0 _ rfl⟩,Nat.le_refl _⟩,L3⟩
    (fun x a' X=>∃Bx,U.heap.size<=Bx/\bK X Bx (mL (ms x))/\a'={tmps:=#[.string s,undef,ay W.heap.size,.pointer (some ⟨W.heap.size+1,0,none⟩),.slice (some ⟨g,0,none⟩) n cap,ay w1.heap.size,ay w2.heap.size,undef,ay Bx,.tuple #[.slice (some ⟨g,0,none⟩) n cap,.nilIface],.string s,.tuple #[.slice (some ⟨g,0,none⟩) n cap,.nilIface],.slice (some ⟨g,0,none⟩) n cap,.nilIface,.nilIface,.bool false,undef,undef,.agg oA,.slice (some ⟨g,0,none⟩) n cap,.func (.func 240) #[] #[.pointer (some ⟨w2.heap.size+1,0,none⟩)],aa (x:Nat),.agg (mA (ms x)),undef,undef,undef,undef,undef,undef,undef,undef,undef,undef,undef],defers:=[]})
    (fun x a' s A B row hs hg hr=>by obtain⟨Bx,h1,h2,h3⟩:=hs;exact⟨Bx,h1,h2.kept hg (fun r e=>(hr r e).2),h3⟩)
    ?assign ?body ?done ?stop
  case assign=>
    rintro l pre x X K ⟨⟨hop,h1,⟨h2,h2f⟩,h3,⟨h4,h4f⟩,hU⟩,hB⟩ hK
    gi_wp2
    have hs:=hB.size;have hal:=(Below.refl X.heap.size X).alloc ai (.cells (mA (ms x)) 129);exact hK _ _ ((KeepsOthers.alloc _ _).from _) (fM.of_below hal hU) ⟨⟨hop,h1.below hal,⟨au _ h2,dK _ h2 h2f⟩,h3.below hal,⟨au _ h4,dK _ h4 h4f⟩,Nat.le_trans hU hal.size⟩,hB.alloc hs _⟩ ⟨X.heap.size,hU,bK.uh (vs:=(mL (ms x))) (dH.new X _ _) rfl,rfl⟩
  case body=>
    rintro l pre x a' X hl hr ⟨⟨hop,h1,⟨h2,h2f⟩,h3,⟨h4,h4f⟩,hU⟩,hB⟩ ⟨Bx,hBx,hM,rfl⟩ hlen;obtain⟨ac0,ac1,ac2,ac3,ac4,ac5,ac6,ac7,ac8,ac9,R7,R8⟩:=h1.twelve;obtain⟨mc0,mc1,mc2,mc3,mc4,mc5,mc6,mc7,mc8,mc9,aaN,aaO⟩:=hM.twelve;have ne1:¬w1.heap.size=w2.heap.size:=by omega
    have ne2:¬w2.heap.size=w1.heap.size:=by omega
    by_cases hxp:Ul (pre++[x])
    · have HK:=HT pre x hop hxp X hB
      gi_wp2_with ((refine⟨trivial,?_⟩;gi_at_call 145;refine(CallsIn.inRound l (callsIn_wide.2 HK)).mono ?_;rintro e w' ⟨rfl,hb'⟩;have h1':=h1.below hb';have hz':=hb'.size;obtain⟨bc0,bf0,bc1,bf1,bc2,bf2,bc3,bf3,bc4,bf4,bc5,bf5,bc6,bf6,bc7,bf7,bc8,bf8,bc9,bf9,Zn,a7u,Zo,a7v⟩:=h1'.six;have ec:=(hb'.cell (p:=⟨w1.heap.size,0,none⟩) (aC h2)).trans h2;have ef:=(hb'.frozen (p:=⟨w1.heap.size,0,none⟩) (aC h2)).trans h2f))
      have h3':=h3.below hb';have c4:=(hb'.cell (p:=⟨W.heap.size+1,0,none⟩) (aC h4)).trans h4;have f4:=(hb'.frozen (p:=⟨W.heap.size+1,0,none⟩) (aC h4)).trans h4f;refine⟨(((kg hb').trans (kM (mL (acc (pre++[x]))) 0 w2.heap.size w')).trans (KeepsOthers.setCell _ _ _)).from _,((fM.of_below hb' hU).a7n (mL (acc (pre++[x]))) 0).abg 0 .nilIface,⟨hxp,?_,⟨?_,?_⟩,?_,⟨?_,?_⟩,?_⟩,?_⟩
      · exact(h1'.put (us:=(mL (acc (pre++[x])))) rfl).jJ ne2
      · exact World.cell?_setCell_same' _ _ _ (kK ((dP (p:=⟨w1.heap.size,0,none⟩) (R:=w2.heap.size) ne1 (mL (acc (pre++[x]))) 0 w').trans ec))
      · exact(World.frozen?_setCell _ _ _ _).trans ((jI (mL (acc (pre++[x]))) 0 w2.heap.size w').trans ef)
      · exact(h3'.EH (us:=(mL (acc (pre++[x])))) (R':=w2.heap.size) (by omega)).jJ (by omega)
      · exact(World.cell?_setCell_far _ _ _ _ (by simp only;omega)).trans ((dP (p:=⟨W.heap.size+1,0,none⟩) (R:=w2.heap.size) (by simp only;omega) (mL (acc (pre++[x]))) 0 w').trans c4)
      · exact(World.frozen?_setCell _ _ _ _).trans ((jI (mL (acc (pre++[x]))) 0 w2.heap.size w').trans f4)
      · have:=(aQ (B:=0) (A:=w') (R:=w2.heap.size) (Nat.zero_le _) (mL (acc (pre++[x]))) 0 (Below.refl 0 w')).size
        simp only[World.size_setCell] at*;omega
      · exact(aQ (R:=w2.heap.size) (by omega) (mL (acc (pre++[x]))) 0 (hB.trans (hb'.mono hB.size))).setCell (p:=⟨w1.heap.size,0,none⟩) (by simp only;omega) _
    · have HK:=HN pre x hop hxp X hB
      gi_wp2_with ((refine⟨trivial,?_⟩;gi_at_call 145;refine(CallsIn.inRound l (callsIn_wide.2 HK)).mono ?_;rintro e w' ⟨rfl,hb'⟩;dsimp only[Mv.zero,Fr.zero];have h1':=h1.below hb';have hz':=hb'.size;obtain⟨bc0,bf0,bc1,bf1,bc2,bf2,bc3,bf3,bc4,bf4,bc5,bf5,bc6,bf6,bc7,bf7,bc8,bf8,bc9,bf9,Zn,a7u,Zo,a7v⟩:=h1'.six;have ec:=(hb'.cell (p:=⟨w1.heap.size,0,none⟩) (aC h2)).trans h2;have ef:=(hb'.frozen (p:=⟨w1.heap.size,0,none⟩) (aC h2)).trans h2f))
      have h3':=h3.below hb';have c4:=(hb'.cell (p:=⟨W.heap.size+1,0,none⟩) (aC h4)).trans h4;have f4:=(hb'.frozen (p:=⟨W.heap.size+1,0,none⟩) (aC h4)).trans h4f;obtain⟨Y,hY⟩:∃Y,(put w' w2.heap.size 0 zL).setCell ⟨w1.heap.size,0,none⟩ (.iface 390 (.pointer (some aB)))=Y:=⟨_,rfl⟩;have hKO:KeepsOthers X Y:=by rw[<- hY];exact((kg hb').trans (kM zL 0 w2.heap.size w')).trans (KeepsOthers.setCell _ _ _)
      have y1:Y.cell? ⟨w1.heap.size,0,none⟩=some (.iface 390 (.pointer (some aB))):=by rw[<- hY];exact World.cell?_setCell_same' _ _ _ (kK ((dP (p:=⟨w1.heap.size,0,none⟩) (R:=w2.heap.size) ne1 zL 0 w').trans ec))
      have y3:bK Y W.heap.size zL:=by rw[<- hY];exact(h3'.EH (us:=zL) (R':=w2.heap.size) (by omega)).jJ (by omega)
      have y4:Y.cell? ⟨W.heap.size+1,0,none⟩=some .nilIface:=by rw[<- hY];exact(World.cell?_setCell_far _ _ _ _ (by simp only;omega)).trans ((dP (p:=⟨W.heap.size+1,0,none⟩) (R:=w2.heap.size) (by simp only;omega) zL 0 w').trans c4)
      have y5:Y.frozen? ⟨W.heap.size+1,0,none⟩=false:=by rw[<- hY];exact(World.frozen?_setCell _ _ _ _).trans ((jI zL 0 w2.heap.size w').trans f4)
      have yB:Below W.heap.size W Y:=by rw[<- hY];exact(aQ (R:=w2.heap.size) (by omega) zL 0 (hB.trans (hb'.mono hB.size))).setCell (p:=⟨w1.heap.size,0,none⟩) (by simp only;omega) _
      change Code.wpIn _ _ _ _ _ _ ((put w' w2.heap.size 0 zL).setCell ⟨w1.heap.size,0,none⟩ (.iface 390 (.pointer (some aB))));rw[hY];clear hY;obtain⟨rc0,rf0,rc1,rf1,xx,rf2,rc3,rf3,rc4,rf4,rc5,rf5,rc6,rf6,rc7,rf7,rc8,rf8,rc9,rf9,a7w,a7x,a7y,a7z⟩:=y3.six;have ne3:¬W.heap.size=w1.heap.size:=by omega
      have ne4:¬w1.heap.size=W.heap.size:=by omega
      have ne5:¬W.heap.size+1=W.heap.size:=by omega
      have ne6:¬W.heap.size=W.heap.size+1:=by omega
      clear ec ef bc0 bf0 bc1 bf1 bc2 bf2 bc3 bf3 bc4 bf4 bc5 bf5 bc6 bf6 bc7 bf7 bc8 bf8 bc9 bf9 Zn a7u Zo a7v h1' h3' c4 f4 hb' hz'
      gi_region
      all_goals
        gi_wp2
        refine⟨KeepsOthers.from (MP ((hKO.trans (kM zL 0 W.heap.size Y)).trans (KeepsOthers.setCell _ ⟨W.heap.size+1,0,none⟩ (.iface 390 (.pointer (some aB)))))) _,⟨rfl,hxp,?_,?_⟩,?_⟩
        · exact bK.drew ((y3.put (us:=zL) rfl).jJ ne6)
        · exact EI (World.cell?_setCell_same' _ _ _ (kK ((dP (p:=⟨W.heap.size+1,0,none⟩) (R:=W.heap.size) ne5 zL 0 Y).trans y4)))
        · exact below_drewN ((aQ (R:=W.heap.size) ai zL 0 yB).setCell (p:=⟨W.heap.size+1,0,none⟩) (by simp only;omega) _) 1
  case done=>
    rintro D ys X hD rfl ⟨⟨hop,h1,⟨h2,h2f⟩,h3,⟨h4,h4f⟩,hU⟩,hB⟩ hK;obtain⟨ac0,ac1,ac2,ac3,ac4,ac5,ac6,ac7,ac8,ac9,R7,R8⟩:=h1.twelve;obtain⟨rc0,rf0,rc1,rf1,xx,rf2,rc3,rf3,rc4,rf4,rc5,rf5,rc6,rf6,rc7,rf7,rc8,rf8,rc9,rf9,a7w,a7x,a7y,a7z⟩:=h3.six;have ne3:¬W.heap.size=w2.heap.size:=by omega
    have ne4:¬w2.heap.size=W.heap.size:=by omega
    have ne5:¬W.heap.size+1=W.heap.size:=by omega
    have ne6:¬W.heap.size=W.heap.size+1:=by omega
    gi_wp2
    have hK':=((kM (mL (acc (aX n))) 0 W.heap.size X).trans (KeepsOthers.setCell _ ⟨W.heap.size+1,0,none⟩ .nilIface)).same D _ hK rfl;refine⟨by simp,.inl ⟨_,_,rfl,run_takeDeferred hK',?_⟩⟩;have hO:bK ((((((((((((((X.setCell ⟨W.heap.size,0,none⟩ (aa (acc (aX n)).a.n)).setCell ⟨W.heap.size,1,none⟩ (aa (acc (aX n)).a.d)).setCell ⟨W.heap.size,2,none⟩ (aa (acc (aX n)).b.n)).setCell ⟨W.heap.size,3,none⟩ (aa (acc (aX n)).b.d)).setCell ⟨W.heap.size,4,none⟩ (aa (acc (aX n)).c.n)).setCell ⟨W.heap.size,5,none⟩ (aa (acc (aX n)).c.d)).setCell ⟨W.heap.size,6,none⟩ (aa (acc (aX n)).d.n)).setCell ⟨W.heap.size,7,none⟩ (aa (acc (aX n)).d.d)).setCell ⟨W.heap.size,8,none⟩ (aa (acc (aX n)).e.n)).setCell ⟨W.heap.size,9,none⟩ (aa (acc (aX n)).e.d)).setCell ⟨W.heap.size,10,none⟩ (aa (acc (aX n)).f.n)).setCell ⟨W.heap.size,11,none⟩ (aa (acc (aX n)).f.d)).setCell ⟨W.heap.size+1,0,none⟩ .nilIface).putObj D (.deferred none)) W.heap.size (mL (acc (aX n))):=((h3.put (us:=(mL (acc (aX n)))) rfl).jJ (o:=0) (v:=.nilIface) ne6).kept (grownBy_putObj' _ D (.deferred none)) (fun r e=>by cases e;exact⟨_,hK',rfl⟩);have hQ:((((((((((((((X.setCell ⟨W.heap.size,0,none⟩ (aa (acc (aX n)).a.n)).setCell ⟨W.heap.size,1,none⟩ (aa (acc (aX n)).a.d)).setCell ⟨W.heap.size,2,none⟩ (aa (acc (aX n)).b.n)).setCell ⟨W.heap.size,3,none⟩ (aa (acc (aX n)).b.d)).setCell ⟨W.heap.size,4,none⟩ (aa (acc (aX n)).c.n)).setCell ⟨W.heap.size,5,none⟩ (aa (acc (aX n)).c.d)).setCell ⟨W.heap.size,6,none⟩ (aa (acc (aX n)).d.n)).setCell ⟨W.heap.size,7,none⟩ (aa (acc (aX n)).d.d)).setCell ⟨W.heap.size,8,none⟩ (aa (acc (aX n)).e.n)).setCell ⟨W.heap.size,9,none⟩ (aa (acc (aX n)).e.d)).setCell ⟨W.heap.size,10,none⟩ (aa (acc (aX n)).f.n)).setCell ⟨W.heap.size,11,none⟩ (aa (acc (aX n)).f.d)).setCell ⟨W.heap.size+1,0,none⟩ .nilIface).putObj D (.deferred none)).cell? ⟨W.heap.size+1,0,none⟩=some .nilIface:=cell_kept (World.cell?_setCell_same' _ _ .nilIface (kK ((dP (p:=⟨W.heap.size+1,0,none⟩) (R:=W.heap.size) ne5 (mL (acc (aX n))) 0 X).trans h4))) (grownBy_putObj' _ D (.deferred none)) (fun r e=>by cases e;exact⟨_,hK',rfl⟩)
    obtain⟨oc0,oc1,oc2,oc3,oc4,oc5,oc6,oc7,oc8,oc9,MR,MS⟩:=hO.twelve;clear hO;have hL:=(aQ (R:=W.heap.size) ai (mL (acc (aX n))) 0 hB).setCell (p:=⟨W.heap.size+1,0,none⟩) (by simp only;omega) .nilIface;refine⟨.tuple #[mv (acc (aX n)),.nilIface],?_,.inl ⟨hop,rfl⟩,hL.trans (belowK_b (w:=W) ai _ D _ _ (by omega) hK' rfl rfl)⟩;simp[results,results144,go_sem,hQ,oc0,oc1,oc2,oc3,oc4,oc5,oc6,oc7,oc8,oc9,MR,MS]
  case stop=>
    rintro D c pre X hD hpre ⟨⟨rfl,h1,h2,h3⟩,hB⟩ hK
    gi_wp2
    refine⟨by simp,.inl ⟨_,_,rfl,run_takeDeferred hK,?_⟩⟩;have hr:∀r,some D=some r->∃o:Obj,X.heap[r]? =some o/\o.isCells=false:=fun r e=>by cases e;exact⟨_,hK,rfl⟩
    have hg:=grownBy_putObj' X D (.deferred none);have hc5:=cell_kept h3 hg hr;have h2':=h2.kept hg hr;obtain⟨oc0,oc1,oc2,oc3,oc4,oc5,oc6,oc7,oc8,oc9,MR,MS⟩:=h2'.twelve;obtain⟨r,hr'⟩:=hpre;refine⟨.tuple #[mv .zero,.iface 390 (.pointer (some aB))],?_,.inr ⟨fun e=>h1 (abl pre r (by rw[hr'];exact e)),rfl⟩,hB.trans (belowK_b (w:=W) ai X D _ _ (by omega) hK rfl rfl)⟩;simp[results,results144,go_sem,Mv.zero,Fr.zero,hc5,oc0,oc1,oc2,oc3,oc4,oc5,oc6,oc7,oc8,oc9,MR,MS]
end
section
open Go.RowKit Go.Shelf
set_option maxRecDepth 100000
attribute [local go_sem] Oper.semAt_some
theorem Wz (F:Fence)(n:Nat)(hf:F.fn 240)(hro:F.round=none)(l Bl:Nat)(J Jx:List Nat->ag->Prop)
  (W:ag) (hBl:W.cell? (ak Bl 0)=some (.slice none 0 0)) (h0:J [] W):
  CallsIn F n prog 240 #[.func (.yield l) #[] #[],ay Bl] W fun e W'=>(∃v,e=.returned v)/\
   ((∃ys,ys=[]/\J ys W')\/(∃pre,pre<+:[]/\Jx pre W')):=by
 refine callsIn_of_wp func240 rfl hf ?_ hro;simp only[ntmps240,List.size_toArray,List.length_cons,List.length_nil,Nat.reduceAdd,Nat.reduceSub,Array.replicate_succ,Array.replicate_zero,List.push_toArray,List.append_toArray,List.nil_append,List.cons_append]
 gi_wp2
 gi_loopw [3] (fun i wr=>i=aa (-1)/\J [] wr) (fun _ _=>0)
 case atStart=>exact⟨rfl,h0⟩
 case round=>
  obtain⟨rfl,hJ⟩:=hrel
  gi_wp2
  go_end0
  exact⟨⟨_,rfl⟩,.inl ⟨_,rfl,hJ⟩⟩
theorem WC (s:aD)(W:ag)
  (HL:∀V,Below W.heap.size W V->ax 198 #[.string s] V fun e w'=>e=.returned (.tuple #[.slice none 0 0,.nilIface])/\Below V.heap.size V w'):
  CallsIn Fence.wide 9 prog 144 #[.string s] W fun e w'=>e=.returned (.tuple #[mv (Mv.one),.nilIface])/\Below W.heap.size W w':=by
 have HO:=nO;have HB:=vI;have L0:=((Below.refl W.heap.size W).alloc ai (.cells zA 129)).alloc (by simp) (.cells #[.nilIface] 33);have R0:dH ((W.alloc (.cells zA 129)).alloc (.cells #[.nilIface] 33)) W.heap.size zA 129:=(dH.new W _ _).alloc _;have Q0:=dH.new (W.alloc (.cells zA 129)) #[.nilIface] 33;rw[World.size_alloc] at Q0;refine callsIn_of_wp_marks func144 rfl trivial ?_ rfl;simp only[ntmps144,List.size_toArray,List.length_cons,List.length_nil,Nat.reduceAdd,Nat.reduceSub,Array.replicate_succ,Array.replicate_zero,List.push_toArray,List.append_toArray,List.nil_append,List.cons_append]
 gi_wp2_with (first|(refine⟨trivial,?_⟩;gi_at_call 199;refine(callsIn_wide.2 (HB _ _ _ _ rfl _)).mono ?_;rintro e w' ⟨rfl,rfl⟩)|(refine⟨trivial,?_⟩;gi_at_call 52;refine(callsIn_wide.2 (HO _)).mono ?_;rintro e w2 ⟨rfl,hb2⟩;dsimp only[Mv.one,Fr.whole])|(refine⟨trivial,?_⟩;gi_at_call 198;refine(callsIn_wide.2 (HL _ L0)).mono ?_;rintro e w1 ⟨rfl,hb1⟩))
 have Mj:=hb1.size;simp only[World.size_alloc] at Mj;have sz2:=hb2.size;simp only[World.size_alloc] at sz2;have e1:(w1.alloc (.cells #[.nilIface] 33)).heap.size=w1.heap.size+1:=by simp
 have E2:=(dH.new w1 #[.nilIface] 33).below hb2 ai;have R2:=((R0.below hb1 ai).alloc (.cells #[.nilIface] 33)).below hb2 ai;have Q2:=((Q0.below hb1 ai).alloc (.cells #[.nilIface] 33)).below hb2 ai;have L2:=((L0.trans (hb1.mono (by simp;omega))).alloc (by omega) (.cells #[.nilIface] 33)).trans (hb2.mono (by simp;omega));obtain⟨U,hU⟩:∃U,(w2.alloc (.cells oA 129)).alloc (.cells #[.slice none 0 0] 277)=U:=⟨_,rfl⟩;have szU:U.heap.size=w2.heap.size+2:=by rw[<- hU];simp
 have A3:dH U w2.heap.size oA 129:=by rw[<- hU];exact(dH.new w2 _ _).alloc _
 have C3:U.cell? ⟨w2.heap.size+1,0,none⟩=some (.slice none 0 0):=by rw[<- hU];exact bg (by simp) rfl
 have E3:dH U w1.heap.size #[.nilIface] 33:=by rw[<- hU];exact(E2.alloc _).alloc _
 have R3:dH U W.heap.size zA 129:=by rw[<- hU];exact(R2.alloc _).alloc _
 have Q3:dH U (W.heap.size+1) #[.nilIface] 33:=by rw[<- hU];exact(Q2.alloc _).alloc _
 have L3:Below W.heap.size W U:=by rw[<- hU];exact(L2.alloc (by omega) _).alloc (by simp;omega) _
 rw[hU];clear hU L2 R0 Q0 E2 R2 Q2;refine wpIn_rangeFunc_ownH rfl (by omega) (gf:=240) (lb:=#[.pointer (some ⟨w2.heap.size+1,0,none⟩)]) rfl trivial (enters_of func240 (by kernel_rfl) rfl)
  (encs:=fun x:Nat=>a1V Mv.one x) (Kp:=fM w1.heap.size w2.heap.size U.heap.size) (S:=fun ys=>ys=[]) (Sp:=fun pre=>pre<+:[]) (N:=0) (w0:=U)
  (fun l J Jx X hX _ _ hY h0=>Wz Fence.wide _ trivial rfl l (w2.heap.size+1) J Jx X ((hX.cell (p:=⟨w2.heap.size+1,0,none⟩) (by simp only;omega)).trans C3) h0)
  fM.trans (fun X l o o' hl _ _ _=>fM.put X l o' hl) (Below.refl _ _) (fun _=>rfl)
  (fun pre X=>(bK X w2.heap.size (mL Mv.one)/\(X.cell? ⟨w1.heap.size,0,none⟩=some .nilIface/\X.frozen? ⟨w1.heap.size,0,none⟩=false)/\bK X W.heap.size zL/\(X.cell? ⟨W.heap.size+1,0,none⟩=some .nilIface/\X.frozen? ⟨W.heap.size+1,0,none⟩=false)/\U.heap.size<=X.heap.size)/\Below W.heap.size W X)
  (fun _ _ _=>False)
  (OwnFrom.and (Own.from (fun pre A B row hs hg hr=>⟨hs.1.kept hg hr,⟨cell_kept hs.2.1.1 hg hr,(frozen_kept hs.2.1.1 hg hr).trans hs.2.1.2⟩,hs.2.2.1.kept hg hr,⟨cell_kept hs.2.2.2.1.1 hg hr,(frozen_kept hs.2.2.2.1.1 hg hr).trans hs.2.2.2.1.2⟩,Nat.le_trans hs.2.2.2.2 hg.size⟩) _) (ownFrom_below ai (by omega)))
  (fun _ _ _ _ _ h _ _=>h)
  ⟨⟨bK.uh (vs:=oL) A3 rfl,⟨E3.cell 0 _ rfl,E3.dD 0 _ rfl⟩,bK.uh (vs:=zL) R3 rfl,⟨Q3.cell 0 _ rfl,Q3.dD 0 _ rfl⟩,Nat.le_refl _⟩,L3⟩
  (fun x a' X=>∃Bx,U.heap.size<=Bx/\bK X Bx (mL Mv.one)/\a'={tmps:=#[.string s,undef,ay W.heap.size,.pointer (some ⟨W.heap.size+1,0,none⟩),.slice none 0 0,ay w1.heap.size,ay w2.heap.size,undef,ay Bx,.tuple #[.slice none 0 0,.nilIface],.string s,.tuple #[.slice none 0 0,.nilIface],.slice none 0 0,.nilIface,.nilIface,.bool false,undef,undef,.agg oA,.slice none 0 0,.func (.func 240) #[] #[.pointer (some ⟨w2.heap.size+1,0,none⟩)],aa (x:Nat),.agg (mA Mv.one),undef,undef,undef,undef,undef,undef,undef,undef,undef,undef,undef],defers:=[]})
  (fun x a' s A B row hs hg hr=>by obtain⟨Bx,h1,h2,h3⟩:=hs;exact⟨Bx,h1,h2.kept hg (fun r e=>(hr r e).2),h3⟩)
  ?assign ?body ?done ?stop
 case assign=>
  rintro l pre x X K ⟨⟨h1,⟨h2,h2f⟩,h3,⟨h4,h4f⟩,hU⟩,hB⟩ hK
  gi_wp2
  have hs:=hB.size;have hal:=(Below.refl X.heap.size X).alloc ai (.cells (mA Mv.one) 129);exact hK _ _ ((KeepsOthers.alloc _ _).from _) (fM.of_below hal hU) ⟨⟨h1.below hal,⟨au _ h2,dK _ h2 h2f⟩,h3.below hal,⟨au _ h4,dK _ h4 h4f⟩,Nat.le_trans hU hal.size⟩,hB.alloc hs _⟩ ⟨X.heap.size,hU,bK.uh (vs:=(mL Mv.one)) (dH.new X _ _) rfl,rfl⟩
 case body=>
  rintro l pre x a' X hl hr _ _ hlen;exact(Nat.not_lt_zero _ hlen).elim
 case done=>
  rintro D ys X hD rfl ⟨⟨h1,⟨h2,h2f⟩,h3,⟨h4,h4f⟩,hU⟩,hB⟩ hK;obtain⟨ac0,ac1,ac2,ac3,ac4,ac5,ac6,ac7,ac8,ac9,R7,R8⟩:=h1.twelve;obtain⟨rc0,rf0,rc1,rf1,xx,rf2,rc3,rf3,rc4,rf4,rc5,rf5,rc6,rf6,rc7,rf7,rc8,rf8,rc9,rf9,a7w,a7x,a7y,a7z⟩:=h3.six;have ne5:¬W.heap.size+1=W.heap.size:=by omega
  have ne6:¬W.heap.size=W.heap.size+1:=by omega
  gi_wp2
  have hK':=((kM (mL (Mv.one)) 0 W.heap.size X).trans (KeepsOthers.setCell _ ⟨W.heap.size+1,0,none⟩ .nilIface)).same D _ hK rfl;refine⟨by simp,.inl ⟨_,_,rfl,run_takeDeferred hK',?_⟩⟩;have hO:bK ((((((((((((((X.setCell ⟨W.heap.size,0,none⟩ (aa (Mv.one).a.n)).setCell ⟨W.heap.size,1,none⟩ (aa (Mv.one).a.d)).setCell ⟨W.heap.size,2,none⟩ (aa (Mv.one).b.n)).setCell ⟨W.heap.size,3,none⟩ (aa (Mv.one).b.d)).setCell ⟨W.heap.size,4,none⟩ (aa (Mv.one).c.n)).setCell ⟨W.heap.size,5,none⟩ (aa (Mv.one).c.d)).setCell ⟨W.heap.size,6,none⟩ (aa (Mv.one).d.n)).setCell ⟨W.heap.size,7,none⟩ (aa (Mv.one).d.d)).setCell ⟨W.heap.size,8,none⟩ (aa (Mv.one).e.n)).setCell ⟨W.heap.size,9,none⟩ (aa (Mv.one).e.d)).setCell ⟨W.heap.size,10,none⟩ (aa (Mv.one).f.n)).setCell ⟨W.heap.size,11,none⟩ (aa (Mv.one).f.d)).setCell ⟨W.heap.size+1,0,none⟩ .nilIface).putObj D (.deferred none)) W.heap.size (mL (Mv.one)):=((h3.put (us:=(mL (Mv.one))) rfl).jJ (o:=0) (v:=.nilIface) ne6).kept (grownBy_putObj' _ D (.deferred none)) (fun r e=>by cases e;exact⟨_,hK',rfl⟩);have hQ:((((((((((((((X.setCell ⟨W.heap.size,0,none⟩ (aa (Mv.one).a.n)).setCell ⟨W.heap.size,1,none⟩ (aa (Mv.one).a.d)).setCell ⟨W.heap.size,2,none⟩ (aa (Mv.one).b.n)).setCell ⟨W.heap.size,3,none⟩ (aa (Mv.one).b.d)).setCell ⟨W.heap.size,4,none⟩ (aa (Mv.one).c.n)).setCell ⟨W.heap.size,5,none⟩ (aa (Mv.one).c.d)).setCell ⟨W.heap.size,6,none⟩ (aa (Mv.one).d.n)).setCell ⟨W.heap.size,7,none⟩ (aa (Mv.one).d.d)).setCell ⟨W.heap.size,8,none⟩ (aa (Mv.one).e.n)).setCell ⟨W.heap.size,9,none⟩ (aa (Mv.one).e.d)).setCell ⟨W.heap.size,10,none⟩ (aa (Mv.one).f.n)).setCell ⟨W.heap.size,11,none⟩ (aa (Mv.one).f.d)).setCell ⟨W.heap.size+1,0,none⟩ .nilIface).putObj D (.deferred none)).cell? ⟨W.heap.size+1,0,none⟩=some .nilIface:=cell_kept (World.cell?_setCell_same' _ _ .nilIface (kK ((dP (p:=⟨W.heap.size+1,0,none⟩) (R:=W.heap.size) ne5 (mL (Mv.one)) 0 X).trans h4))) (grownBy_putObj' _ D (.deferred none)) (fun r e=>by cases e;exact⟨_,hK',rfl⟩)
  obtain⟨oc0,oc1,oc2,oc3,oc4,oc5,oc6,oc7,oc8,oc9,MR,MS⟩:=hO.twelve;clear hO;have hL:=(aQ (R:=W.heap.size) ai (mL (Mv.one)) 0 hB).setCell (p:=⟨W.heap.size+1,0,none⟩) (by simp only;omega) .nilIface;refine⟨.tuple #[mv (Mv.one),.nilIface],?_,rfl,hL.trans (belowK_b (w:=W) ai _ D _ _ (by omega) hK' rfl rfl)⟩;simp[results,results144,go_sem,hQ,oc0,oc1,oc2,oc3,oc4,oc5,oc6,oc7,oc8,oc9,MR,MS]
 case stop=>
  rintro D c pre X _ _ h _;exact h.elim
theorem JJ (s:aD)(a:Addr)(W:ag)
  (HL:∀V,Below W.heap.size W V->ax 198 #[.string s] V fun e w'=>e=.returned (.tuple #[.slice none 0 0,.iface 390 (.pointer (some a))])/\Below V.heap.size V w'):
  CallsIn Fence.wide 9 prog 144 #[.string s] W fun e w'=>e=.returned (.tuple #[mv .zero,.iface 390 (.pointer (some a))])/\Below W.heap.size W w':=by
 have L0:=((Below.refl W.heap.size W).alloc ai (.cells zA 129)).alloc (by simp) (.cells #[.nilIface] 33);have R0:dH ((W.alloc (.cells zA 129)).alloc (.cells #[.nilIface] 33)) W.heap.size zA 129:=(dH.new W _ _).alloc _;have Q0:=dH.new (W.alloc (.cells zA 129)) #[.nilIface] 33;rw[World.size_alloc] at Q0;refine callsIn_of_wp_marks func144 rfl trivial ?_ rfl;simp only[ntmps144,List.size_toArray,List.length_cons,List.length_nil,Nat.reduceAdd,Nat.reduceSub,Array.replicate_succ,Array.replicate_zero,List.push_toArray,List.append_toArray,List.nil_append,List.cons_append]
 gi_wp2_with ((refine⟨trivial,?_⟩;gi_at_call 198;refine(callsIn_wide.2 (HL _ L0)).mono ?_;rintro e w1 ⟨rfl,hb1⟩))
 have Mj:=hb1.size;simp only[World.size_alloc] at Mj;obtain⟨Y,hY⟩:∃Y,w1.alloc (.cells #[.iface 390 (.pointer (some a))] 33)=Y:=⟨_,rfl⟩;have y1:Y.cell? ⟨w1.heap.size,0,none⟩=some (.iface 390 (.pointer (some a))):=by rw[<- hY];exact bg rfl rfl
 have y3:dH Y W.heap.size zA 129:=by rw[<- hY];exact(R0.below hb1 ai).alloc _
 have y4:dH Y (W.heap.size+1) #[.nilIface] 33:=by rw[<- hY];exact(Q0.below hb1 ai).alloc _
 have yB:Below W.heap.size W Y:=by rw[<- hY];exact(L0.trans (hb1.mono (by simp;omega))).alloc (by omega) _
 rw[hY];clear hY hb1 R0 Q0 L0;have qc:=y4.cell 0 _ rfl;have qf:=y4.dD 0 _ rfl;obtain⟨oV,El,oZ,Em,pg,Eo,pz,Ep,uC,Iy,uD,Iz,uF,IG,uG,II,uH,IJ,uI,IK,je,qh,jf,qi⟩:=y3.six;have ne5:¬W.heap.size+1=W.heap.size:=by omega
 have ne6:¬W.heap.size=W.heap.size+1:=by omega
 gi_region
 all_goals
  gi_wp2
  have hO:=bK.drew (((bK.uh (vs:=zL) y3 rfl).put (us:=zL) rfl).jJ (E:=W.heap.size+1) (o:=0) (v:=.iface 390 (.pointer (some a))) ne6);have hQ:=EI (World.cell?_setCell_same' (put Y W.heap.size 0 zL) ⟨W.heap.size+1,0,none⟩ (.iface 390 (.pointer (some a))) (kK ((dP (p:=⟨W.heap.size+1,0,none⟩) (R:=W.heap.size) ne5 zL 0 Y).trans qc)));simp only[put,Nat.zero_add,Nat.reduceAdd] at hO hQ;obtain⟨oc0,oc1,oc2,oc3,oc4,oc5,oc6,oc7,oc8,oc9,MR,MS⟩:=hO.twelve;clear hO;have hL:=below_drewN ((aQ (R:=W.heap.size) ai zL 0 yB).setCell (p:=⟨W.heap.size+1,0,none⟩) (by simp only;omega) (.iface 390 (.pointer (some a)))) 1;refine⟨.tuple #[mv .zero,.iface 390 (.pointer (some a))],?_,rfl,hL⟩;simp[results,results144,go_sem,Mv.zero,Fr.zero,hQ,oc0,oc1,oc2,oc3,oc4,oc5,oc6,oc7,oc8,oc9,MR,MS]
end
section
open Go.RowKit
theorem Gd {α β:Type}{p:α×β}{b:β}(h:p.2=b):p=(p.1,b):=by cases p;cases h;rfl
theorem ic (m a:Mv)(l:List Mv):jq m (a::l)=if(thenS m a).2=0 then jq (thenS m a).1 l else(.zero,2):=rfl
theorem RU (p q:List Mv)(m:Mv)(h:(jq m (p++q)).2=0):(jq m p).2=0:=by
  induction p generalizing m with
  |nil=>rfl
  |cons a p ih=>
    rw[List.cons_append,ic] at h;rw[ic];by_cases h1:(thenS m a).2=0
    · rw[if_pos h1] at h⊢;exact ih _ h
    · rw[if_neg h1] at h;cases h
theorem Bo (l:List Mv)(m n:Mv)(h:(jq m l).2=0):jq m (l++[n])=if(thenS (jq m l).1 n).2=0 then((thenS (jq m l).1 n).1,0) else(.zero,2):=by
  induction l generalizing m with
  |nil=>exact ic m n []
  |cons a l ih=>
    rw[List.cons_append,ic,ic];rw[ic] at h;by_cases h1:(thenS m a).2=0
    · rw[if_pos h1] at h;rw[if_pos h1,if_pos h1];exact ih _ h
    · rw[if_neg h1] at h;cases h
theorem Bp (l:List Mv)(m:Mv)(hm:m.ok)(hl:∀n∈l,n.ok)(h:(jq m l).2=0):(jq m l).1.ok:=by
  induction l generalizing m with
  |nil=>exact hm
  |cons a l ih=>
    rw[ic] at h⊢;by_cases h1:(thenS m a).2=0
    · rw[if_pos h1] at h⊢
      exact ih _ ((wQ hm (hl a (by simp))).2 h1).1 (fun n hn=>hl n (by simp[hn])) h
    · rw[if_neg h1] at h;cases h
theorem EJ (l:List Mv)(m:Mv):(jq m l).2=0\/jq m l=(.zero,2):=by
  induction l generalizing m with
  |nil=>exact .inl rfl
  |cons a l ih=>
    rw[ic];by_cases h1:(thenS m a).2=0
    · rw[if_pos h1];exact ih _
    · rw[if_neg h1];exact .inr rfl
theorem WE (R:List Mv):(aX R.length).map (fun j=>R.getD j .one)=R.reverse:=by
  apply List.ext_getElem?;intro i;unfold aX;rw[List.map_map,List.getElem?_map];by_cases h:i<R.length
  · rw[List.getElem?_range h,List.getElem?_reverse h]
    simp[List.getElem?_eq_getElem (show R.length-1-i<R.length by omega)]
  · rw[List.getElem?_eq_none (by simp;omega),List.getElem?_eq_none (by simp;omega)]
    rfl
theorem EK:∀(f:Nat) (ws:List aD) (acc:List Mv),(eU f ws acc).2≠0->(eU f ws acc).1=[]
  |_,[],acc,h=>by simp[eU] at h
  |0,_::_,_,_=>rfl
  |f+1,k::ws,acc,h=>by
    unfold eU at h⊢;cases hk:pE k with
    |none=>rfl
    |some kd=>
      rw[hk] at h;simp only at h⊢;split at h
      · rename_i h1;rw[if_pos h1]
      · rename_i h1;rw[if_neg h1]
        split at h
        · rename_i h2;rw[if_pos h2];exact EK f _ _ h
        · rename_i h2;rw[if_neg h2]
theorem EL:∀(f:Nat) (ws:List aD) (acc:List Mv),(eU f ws acc).2=0->acc.length<=(eU f ws acc).1.length/\(eU f ws acc).1.length<=acc.length+ws.length/\(ws≠[]->acc.length<(eU f ws acc).1.length)
  |_,[],acc,_=>by simp[eU]
  |0,_::_,_,h=>by simp[eU] at h
  |f+1,k::ws,acc,h=>by
    unfold eU at h⊢;cases hk:pE k with
    |none=>rw[hk] at h;simp at h
    |some kd=>
      rw[hk] at h;simp only at h⊢;split at h
      · simp at h
      · rename_i h1;rw[if_neg h1]
        split at h
        · rename_i h2;rw[if_pos h2]
          obtain⟨a1,a2,_⟩:=EL f _ _ h;simp only[List.length_append,List.length_cons,List.length_nil,List.length_drop] at a1 a2⊢;exact⟨by omega,by omega,fun _=>by omega⟩
        · rename_i h2;exact(h2 h).elim
theorem Bq:∀(k:Nat) (s:aD),∀a∈Lib.splitB ⟨#[32]⟩ 0 k s,a.size<=s.size
  |0,s,a,h=>by rw[Lib.splitB_zero] at h;simp at h;subst h;exact Nat.le_refl _
  |k+1,s,a,h=>by
    unfold Lib.splitB at h;split at h
    · simp at h;subst h;exact Nat.le_refl _
    · rcases List.mem_cons.1 h with rfl|h
      · rw[ByteArray.size_extract];omega
      · have:=Bq k _ a h
        rw[ByteArray.size_extract] at this;omega
def er0 (aT aB aS:Addr)(c:Nat):ah:=if c=0 then .nilIface else .iface 390 (.pointer (some (eA aT aB aS c)))
theorem Bt (W:ag):ax 198 #[.string ⟨#[]⟩] W fun e w'=>e=.returned (.tuple #[.slice none 0 0,.nilIface])/\Below W.heap.size W w':=by
  go_enter func198,ntmps198;go_wp2
  go_ret2
  exact⟨rfl,Below.refl _ _⟩
attribute [local irreducible] thenS in
theorem WG {aT aB aS:Addr}(s:aD)(hs:s.size<=900)(W:ag)(hE:E4 aT aB aS W):
    ax 144 #[.string s] W fun e w'=>e=.returned (.tuple #[mv (iL s).1,er0 aT aB aS (iL s).2])/\Below W.heap.size W w':=by
  by_cases h0:s.size=0
  · have hs0:s=⟨#[]⟩:=ext_list (List.length_eq_zero_iff.1 (by rw[jG];exact h0))
    subst hs0;have:=WC ⟨#[]⟩ W (fun V _=>Bt V);exact callsIn_wide.1 this
  · have hne:s.toList.isEmpty=false:=by
      rw[ByteArray.toList_eq,List.isEmpty_eq_false_iff];intro e;exact h0 (by rw[<- jG,e];rfl)
    have hlen:(words s).length=Lib.countB s ⟨#[32]⟩+1:=Lib.splitB_all ⟨#[32]⟩ (by decide) 0 _ s rfl;have hle:=Lib.countB_le ⟨#[32]⟩ (by decide) s.size s ai;have hsz:∀a∈words s,a.size<=1000000:=fun a ha=>by have:=Bq _ s a ha;omega
    have hL:l6 s=eU (words s).length (words s) []:=by unfold l6;rw[if_neg h0]
    have RL:=fun V (hV:Below W.heap.size W V) R c hR=>Gc aT aB aS s (words s) (words s).length R c V (hE.below hV ai) (by omega) hne hlen.symm rfl rfl (by omega) hR (fun k kd h1 h2=>Ws h1 h2) (fun k h=>Wt h) (fun kd h=>Wv (hE.below hV ai) hsz h) Ww (fun kd h=>RJ (hE.below hV ai) hsz h) (RN (hE.below hV ai));by_cases hc:(l6 s).2=0
    · have hR:eU (words s).length (words s) []=((l6 s).1,0):=by rw[<- hL];exact Prod.ext rfl hc
      obtain⟨_,l2,l3⟩:=EL (words s).length (words s) [] (by rw[hR]);have hok:=Aw (words s).length (words s) [] (by simp) (by rw[hR]);rw[hR] at l2 l3 hok;have l4:=l3 (fun e=>by rw[e] at hlen;simp at hlen);simp only[List.length_nil] at l2 l4;obtain⟨R,hRR⟩:∃R,(l6 s).1=R:=⟨_,rfl⟩;rw[hRR] at hR l2 l4 hok;have hms:∀x,(R.getD x .one).ok:=fun x=>by
        by_cases hx:x<R.length
        · rw[show R.getD x .one=R[x] by simp[List.getD,hx]];exact hok _ (by simp)
        · rw[show R.getD x .one=.one by simp[List.getD,List.getElem?_eq_none (show R.length<=x by omega)]];exact Au
      have hmm:∀pre:List Nat,∀n∈pre.map (fun j=>R.getD j .one),n.ok:=fun pre n hn=>by
        obtain⟨j,_,rfl⟩:=List.mem_map.1 hn;exact hms j
      have:=Wy aB s (fun j=>R.getD j .one) R.length (fun pre=>(jq .one (pre.map (fun j=>R.getD j .one))).1) (fun pre=>(jq .one (pre.map (fun j=>R.getD j .one))).2=0) rfl
        (fun p q h=>by rw[List.map_append] at h;exact RU _ _ _ h) W l4 (by omega) rfl
        (fun V hV=>(RL V hV R 0 hR).mono fun e w' ⟨h,hb⟩=>by
          obtain⟨-,v,he,hown⟩|⟨h, -⟩:=h
          rotate_left
          · exact absurd rfl h
          obtain⟨n,hn⟩:∃n,R.length=n+1:=⟨R.length-1,by omega⟩;rw[hn] at hown⊢;obtain⟨g,cap,rfl,_,h3,_,_,h6⟩:=qp hown;exact⟨⟨g,cap,he,h3,fun j hj i u hu=>by
            have hj':j<R.length:=by omega
            rw[show R.getD j .one=R[j] by simp[List.getD,hj']] at hu;exact h6 _ u (Bj R j R[j] (by simp[hj']) i u hu)⟩,hb⟩)
        (fun pre x h1 h2 V hV=>by
          rw[List.map_append,List.map_singleton] at h2⊢;have ho:=Bp _ _ Au (hmm pre) h1;rw[Bo _ _ _ h1] at h2⊢;by_cases h3:(thenS (jq .one (pre.map (fun j=>R.getD j .one))).1 (R.getD x .one)).2=0
          · rw[if_pos h3]
            exact OT (lg ho) (lg (hms x)) (Jk ho (hms x) (Gd h3)) V (hE.below hV ai).e3
          · rw[if_neg h3] at h2;cases h2)
        (fun pre x h1 h2 V hV=>by
          rw[List.map_append,List.map_singleton,Bo _ _ _ h1] at h2;have ho:=Bp _ _ Au (hmm pre) h1;by_cases h3:(thenS (jq .one (pre.map (fun j=>R.getD j .one))).1 (R.getD x .one)).2=0
          · rw[if_pos h3] at h2;exact(h2 rfl).elim
          · rw[if_neg h3] at h2
            refine(OU (lg ho) (lg (hms x)) (fun y e=>h3 (by rw[(Jl e).2.2])) V (hE.below hV ai).e3).mono fun e w' ⟨⟨v,he,hv⟩,hb⟩=>?_;unfold oO at hv;rw[if_neg (fun e=>e (nQ ho)),if_neg (fun e=>e (nQ (hms x))),if_neg h3] at hv;obtain⟨_,rfl⟩:=hv;exact⟨he,hb⟩)
      have hr:iL s=jq .one R.reverse:=by unfold iL;rw[if_pos hc,hRR]
      refine(callsIn_wide.1 this).mono fun e w' ⟨he,hb⟩=>⟨?_,hb⟩;rw[hr];rw[WE] at he;rcases he with⟨h1,he⟩|⟨h1,he⟩
      · rw[he,h1];rfl
      · have h2:=(EJ R.reverse .one).resolve_left h1
        rw[he,h2];rfl
    · have hR:eU (words s).length (words s) []=([],(l6 s).2):=by
        rw[<- hL];exact Prod.ext (by rw[hL];exact EK _ _ _ (by rw[<- hL];exact hc)) rfl
      have:=JJ s (eA aT aB aS (l6 s).2) W (fun V hV=>(RL V hV [] _ hR).mono fun e w' ⟨h,hb⟩=>⟨(h.resolve_left fun h=>hc h.1).2,hb⟩);have hr:iL s=(.zero,(l6 s).2):=by unfold iL;rw[if_neg hc]
      refine(callsIn_wide.1 this).mono fun e w' ⟨he,hb⟩=>⟨?_,hb⟩;rw[he,hr,er0,if_neg hc]
end
section
theorem Pz (s:Bs)(j:Nat)(c:UInt8)(h:s[j]? =some c):((⟨s.toArray⟩:aD).data[j]!)=c:=by
 have hj:=(List.getElem?_eq_some_iff.1 h).1;have h2:=(List.getElem?_eq_some_iff.1 h).2;simp[getElem!_pos,hj,h2]
theorem eG (s:Bs):(⟨s.toArray⟩:aD).size=s.length:=by simp[ByteArray.size]
theorem RV {s:Bs}(h:lastB s=none):Lib.lastIndexByte ⟨s.toArray⟩ 32= -1:=by
 rcases Lib.lastIndexByte_spec ⟨s.toArray⟩ 32 with⟨h1, -⟩|⟨i,hi,h1,h2, -⟩
 ·exact h1
 ·exfalso;rw[eG] at hi;have h3:s[i]? =some s[i]:=List.getElem?_eq_getElem hi;rw[Pz s i _ h3] at h2;have h4:s[i]=32:=by
   rw[<- UInt8.toNat_inj];have:((32:UInt8).toNat:Int)=32:=rfl;omega
  exact kT h (by rw[<- h4];exact List.getElem_mem hi)
theorem RZ {s a b:Bs}(h:lastB s=some (a,b)):Lib.lastIndexByte ⟨s.toArray⟩ 32=a.length:=by
 obtain⟨h1,h2⟩:=jE h;have ha:s[a.length]? =some 32:=by rw[h1];simp
 rcases Lib.lastIndexByte_spec ⟨s.toArray⟩ 32 with⟨-,h3⟩|⟨i,hi,h3,h4,h5⟩
 ·exfalso;have h6:=h3 a.length (by rw[eG,h1];simp);rw[Pz s _ _ ha] at h6;exact h6 rfl
 ·rw[h3];rw[eG] at hi h5;have h6:s[i]? =some s[i]:=List.getElem?_eq_getElem hi;rw[Pz s i _ h6] at h4;have h7:s[i]=32:=by
   rw[<- UInt8.toNat_inj];have:((32:UInt8).toNat:Int)=32:=rfl;omega
  rcases Nat.lt_trichotomy i a.length with hlt|heq|hgt
  ·exfalso;have h8:=h5 a.length hlt (by rw[h1];simp);rw[Pz s _ _ ha] at h8;exact h8 rfl
  ·rw[heq]
  ·exfalso;rw[h7,h1,List.getElem?_append_right (by omega)] at h6;obtain⟨k,hk⟩:∃k,i-a.length=k+1:=⟨i-a.length-1,by omega⟩;rw[hk,List.getElem?_cons_succ] at h6;exact h2 (List.mem_of_getElem? h6)
theorem PE (a p:Bs):Lib.hasSuffix a p=decide (a.drop (a.length-p.length)=p):=by
 unfold Lib.hasSuffix;rw[Bool.eq_iff_iff,decide_eq_true_eq,List.isSuffixOf_iff_suffix];constructor
 ·rintro⟨t,rfl⟩;rw[List.length_append,Nat.add_sub_cancel,List.drop_left]
 ·intro h;refine⟨a.take (a.length-p.length),?_⟩;have h2:=List.take_append_drop (a.length-p.length) a;rw[h] at h2;exact h2
theorem a0b (a:Bs):Lib.hasSuffix a [32,62]=(CZ a).isSome/\Lib.trimSuffix a [32,62]=(CZ a).getD a:=by
 unfold Lib.trimSuffix;rw[PE];unfold CZ;show(decide (a.drop (a.length-2)=[32,62])=_)/\(if decide (a.drop (a.length-2)=[32,62])=true then a.take (a.length-2) else a)=_;by_cases h:a.drop (a.length-2)=[32,62]
 ·rw[if_pos h,if_pos (decide_eq_true h),decide_eq_true h];exact⟨rfl,rfl⟩
 ·rw[if_neg h,if_neg (by simpa using h),decide_eq_false h];exact⟨rfl,rfl⟩
theorem any_mk (c:UInt8):([35,46,91]:List UInt8).contains c=QS c:=by
 unfold QS;rw[List.contains_cons,List.contains_cons,List.contains_cons,List.contains_nil,Bool.or_false,Bool.or_assoc]
theorem any_none:∀{s:Bs},eD s=none->Lib.indexAny s [35,46,91]= -1
 |[],_=>rfl
 |c::s,h=>by
  rw[eD] at h;split at h
  ·cases h
  ·rename_i hc;have hs:eD s=none:=by
    cases hs:eD s with
    |none=>rfl
    |some x=>rw[hs] at h;cases h
   rw[Lib.indexAny,any_mk,if_neg hc,any_none hs];rfl
theorem any_some:∀{s a r:Bs} {m:UInt8},eD s=some (a,m,r)->Lib.indexAny s [35,46,91]=a.length
 |[],_,_,_,h=>by simp[eD] at h
 |c::s,a,r,m,h=>by
  rw[eD] at h;split at h
  ·rename_i hc;cases h;rw[Lib.indexAny,any_mk,if_pos hc];rfl
  ·rename_i hc;cases hs:eD s with
   |none=>rw[hs] at h;cases h
   |some x=>
    obtain⟨x1,x2,x3⟩:=x;rw[hs] at h;cases h;have h1:=any_some hs;rw[Lib.indexAny,any_mk,if_neg hc,h1,if_neg (by rw[beq_iff_eq];omega)];show(x1.length:Int)+1=((c::x1:Bs).length:Int);rw[List.length_cons];omega
end
end Go.Proofs.YtjfiehbcamfdfaaGreatDoor

/-
  Parts of the proof.
-/
import Derived.Test.YtjfiehbcamfdfaaGreatDoorQy16
namespace Go.Proofs.YtjfiehbcamfdfaaGreatDoor
open Go.Proofs.Tryz
section
open Go.RowKit Go.Shelf
set_option maxHeartbeats 8000000
set_option maxRecDepth 100000
attribute [local go_sem] Oper.semAt_some
theorem MJ {A B:World}(h:KeepsOthers A B):KeepsOthers A B.drew:=⟨h.size,h.same⟩
theorem bu.drew {W:World}{R:Nat}{vs:List Value}(h:bu W R vs):bu W.drew R vs:=h
theorem Ep {W:World}{p:Addr}{v:Value}(h:W.cell? p=some v):W.drew.cell? p=some v:=h
theorem VK (aB:Addr)(s:ByteArray)(ms:Nat->Mv)(n:Nat)(acc:List Nat->Mv)(Tx:List Nat->Prop)(hok0:Tx [])(abl:∀p q,Tx (p++q)->Tx p)(W:World)(hn:0<n)(hn':n<=1000)(ha:acc []=.one)
    (HL:∀V,Below W.heap.size W V->ak 198 #[.string s] V fun e w'=>(∃g cap,e=.returned (.tuple #[.slice (some ⟨g,0,none⟩) n cap,.nilIface])/\g<w'.heap.size/\∀j,j<n->∀i u,(mL (ms j))[i]? =some u->w'.cell? (ag g (j*12+i))=some u)/\Below V.heap.size V w')
    (HT:∀pre x,Tx pre->Tx (pre++[x])->∀V,Below W.heap.size W V->ak 145 #[mv (acc pre),mv (ms x)] V fun e w'=>e=.returned (.tuple #[mv (acc (pre++[x])),.nilIface])/\Below V.heap.size V w')
    (HN:∀pre x,Tx pre->¬Tx (pre++[x])->∀V,Below W.heap.size W V->ak 145 #[mv (acc pre),mv (ms x)] V fun e w'=>e=.returned (.tuple #[mv .zero,.iface 390 (.pointer (some aB))])/\Below V.heap.size V w'):
    CallsIn Fence.wide 9 prog 144 #[.string s] W fun e w'=>(Tx (aO n)/\e=.returned (.tuple #[mv (acc (aO n)),.nilIface])\/¬Tx (aO n)/\e=.returned (.tuple #[mv .zero,.iface 390 (.pointer (some aB))]))/\Below W.heap.size W w':=by
  have HO:=oH;have HB:=uZ;have L0:=((Below.refl W.heap.size W).alloc eU (.cells zA 129)).alloc (by simp) (.cells #[.nilIface] 33);have R0:bN ((W.alloc (.cells zA 129)).alloc (.cells #[.nilIface] 33)) W.heap.size zA 129:=(bN.new W _ _).alloc _;have Q0:=bN.new (W.alloc (.cells zA 129)) #[.nilIface] 33;rw[World.size_alloc] at Q0;refine callsIn_of_wp_marks func144 rfl trivial ?_ rfl;simp only[ntmps144,List.size_toArray,List.length_cons,List.length_nil,Nat.reduceAdd,Nat.reduceSub,Array.replicate_succ,Array.replicate_zero,List.push_toArray,List.append_toArray,List.nil_append,List.cons_append]
  gi_wp2_with (first|(refine⟨trivial,?_⟩;gi_at_call 199;refine(callsIn_wide.2 (HB _ _ _ _ rfl _)).mono ?_;rintro e w' ⟨rfl,rfl⟩)|(refine⟨trivial,?_⟩;gi_at_call 52;refine(callsIn_wide.2 (HO _)).mono ?_;rintro e w2 ⟨rfl,hb2⟩;dsimp only[Mv.one,Fr.whole])|(refine⟨trivial,?_⟩;gi_at_call 198;refine(callsIn_wide.2 (HL _ L0)).mono ?_;rintro e w1 ⟨⟨g,cap,rfl,hg,hcells⟩,hb1⟩))
  have GH:=hb1.size;simp only[World.size_alloc] at GH;have Tt:=hb2.size;simp only[World.size_alloc] at Tt;have e1:(w1.alloc (.cells #[.nilIface] 33)).heap.size=w1.heap.size+1:=by simp
  have E2:=(bN.new w1 #[.nilIface] 33).below hb2 eU;have R2:=((R0.below hb1 eU).alloc (.cells #[.nilIface] 33)).below hb2 eU;have Q2:=((Q0.below hb1 eU).alloc (.cells #[.nilIface] 33)).below hb2 eU;have L2:=((L0.trans (hb1.mono (by simp;omega))).alloc (by omega) (.cells #[.nilIface] 33)).trans (hb2.mono (by simp;omega));have hc2:∀j,j<n->∀i u,(mL (ms j))[i]? =some u->w2.cell? (ag g (j*12+i))=some u:=fun j hj i u hu=>(hb2.cell (p:=⟨g,j*12+i,none⟩) (by simp;omega)).trans (ah _ (hcells j hj i u hu));obtain⟨U,hU⟩:∃U,(w2.alloc (.cells oA 129)).alloc (.cells #[.slice (some ⟨g,0,none⟩) n cap] 277)=U:=⟨_,rfl⟩;have szU:U.heap.size=w2.heap.size+2:=by rw[<- hU];simp
  have A3:bN U w2.heap.size oA 129:=by rw[<- hU];exact(bN.new w2 _ _).alloc _
  have C3:U.cell? ⟨w2.heap.size+1,0,none⟩=some (.slice (some ⟨g,0,none⟩) n cap):=by rw[<- hU];exact aM (by simp) rfl
  have E3:bN U w1.heap.size #[.nilIface] 33:=by rw[<- hU];exact(E2.alloc _).alloc _
  have R3:bN U W.heap.size zA 129:=by rw[<- hU];exact(R2.alloc _).alloc _
  have Q3:bN U (W.heap.size+1) #[.nilIface] 33:=by rw[<- hU];exact(Q2.alloc _).alloc _
  have L3:Below W.heap.size W U:=by rw[<- hU];exact(L2.alloc (by omega) _).alloc (by simp;omega) _
  have hc3:∀j,j<n->∀i u,(mL (ms j))[i]? =some u->U.cell? (ag g (j*12+i))=some u:=fun j hj i u hu=>by rw[<- hU];exact ah _ (ah _ (hc2 j hj i u hu))
  rw[hU];clear hU L2 hc2 hcells R0 Q0 E2 R2 Q2;refine wpIn_rangeFunc_ownH rfl (by omega) (gf:=240) (lb:=#[.pointer (some ⟨w2.heap.size+1,0,none⟩)]) rfl trivial (enters_of func240 (by kernel_rfl) rfl)
    (encs:=fun x:Nat=>a1w (ms x) x) (Kp:=eZ w1.heap.size w2.heap.size U.heap.size) (S:=fun ys=>ys=aO n) (Sp:=fun pre=>pre<+:aO n) (N:=n) (w0:=U)
    (fun l J Jx X hX _ _ hY h0=>UJ Fence.wide _ trivial rfl (by omega) l (w2.heap.size+1) g n cap ms hn hn' _ (eZ.refl _ _ _) (fun _ _ _=>eZ.trans)
      (fun A B h=>World.cell?_of_block (h.block (w2.heap.size+1) (by omega) (by omega) (by omega))) (fun A B h o=>World.cell?_of_block (h.block g (by omega) (by omega) (by omega))) J Jx hY X ((hX.cell (p:=⟨w2.heap.size+1,0,none⟩) (by simp only;omega)).trans C3) (fun j hj i u hu=>(hX.cell (p:=⟨g,j*12+i,none⟩) (by simp only;omega)).trans (hc3 j hj i u hu)) h0)
    eZ.trans (fun X l o o' hl _ _ _=>eZ.put X l o' hl) (Below.refl _ _) (fun _=>rfl)
    (fun pre X=>(Tx pre/\bu X w2.heap.size (mL (acc pre))/\(X.cell? ⟨w1.heap.size,0,none⟩=some .nilIface/\X.frozen? ⟨w1.heap.size,0,none⟩=false)/\bu X W.heap.size zL/\(X.cell? ⟨W.heap.size+1,0,none⟩=some .nilIface/\X.frozen? ⟨W.heap.size+1,0,none⟩=false)/\U.heap.size<=X.heap.size)/\Below W.heap.size W X)
    (fun c pre X=>(c=.ret/\¬Tx pre/\bu X W.heap.size zL/\X.cell? ⟨W.heap.size+1,0,none⟩=some (.iface 390 (.pointer (some aB))))/\Below W.heap.size W X)
    (OwnFrom.and (Own.from (fun pre A B row hs hg hr=>⟨hs.1,hs.2.1.kept hg hr,⟨cell_kept hs.2.2.1.1 hg hr,(frozen_kept hs.2.2.1.1 hg hr).trans hs.2.2.1.2⟩,hs.2.2.2.1.kept hg hr,⟨cell_kept hs.2.2.2.2.1.1 hg hr,(frozen_kept hs.2.2.2.2.1.1 hg hr).trans hs.2.2.2.2.1.2⟩,Nat.le_trans hs.2.2.2.2.2 hg.size⟩) _) (ownFrom_below eU (by omega)))
    (fun c=>OwnFrom.and (Own.from (fun s A B row hs hg hr=>⟨hs.1,hs.2.1,hs.2.2.1.kept hg hr,cell_kept hs.2.2.2 hg hr⟩) _) (ownFrom_below eU (by omega)))
    ⟨⟨hok0,by rw[ha];exact bu.uo (vs:=oL) A3 rfl,⟨E3.cell 0 _ rfl,E3.bf 0 _ rfl⟩,bu.uo (vs:=zL) R3 rfl,⟨Q3.cell 0 _ rfl,Q3.bf 0 _ rfl⟩,Nat.le_refl _⟩,L3⟩
    (fun x a' X=>∃Bx,U.heap.size<=Bx/\bu X Bx (mL (ms x))/\a'={tmps:=#[.string s,undef,aj W.heap.size,.pointer (some ⟨W.heap.size+1,0,none⟩),.slice (some ⟨g,0,none⟩) n cap,aj w1.heap.size,aj w2.heap.size,undef,aj Bx,.tuple #[.slice (some ⟨g,0,none⟩) n cap,.nilIface],.string s,.tuple #[.slice (some ⟨g,0,none⟩) n cap,.nilIface],.slice (some ⟨g,0,none⟩) n cap,.nilIface,.nilIface,.bool false,undef,undef,.agg oA,.slice (some ⟨g,0,none⟩) n cap,.func (.func 240) #[] #[.pointer (some ⟨w2.heap.size+1,0,none⟩)],aa (x:Nat),.agg (mA (ms x)),undef,undef,undef,undef,undef,undef,undef,undef,undef,undef,undef],defers:=[]})
    (fun x a' s A B row hs hg hr=>by obtain⟨Bx,h1,h2,h3⟩:=hs;exact⟨Bx,h1,h2.kept hg (fun r e=>(hr r e).2),h3⟩)
    ?assign ?body ?done ?stop
  case assign=>
    rintro l pre x X K ⟨⟨hop,h1,⟨h2,h2f⟩,h3,⟨h4,h4f⟩,hU⟩,hB⟩ hK
    gi_wp2
    have hs:=hB.size;have hal:=(Below.refl X.heap.size X).alloc eU (.cells (mA (ms x)) 129);exact hK _ _ ((KeepsOthers.alloc _ _).from _) (eZ.of_below hal hU) ⟨⟨hop,h1.below hal,⟨ah _ h2,bI _ h2 h2f⟩,h3.below hal,⟨ah _ h4,bI _ h4 h4f⟩,Nat.le_trans hU hal.size⟩,hB.alloc hs _⟩ ⟨X.heap.size,hU,bu.uo (vs:=(mL (ms x))) (bN.new X _ _) rfl,rfl⟩
  case body=>
    rintro l pre x a' X hl hr ⟨⟨hop,h1,⟨h2,h2f⟩,h3,⟨h4,h4f⟩,hU⟩,hB⟩ ⟨Bx,hBx,hM,rfl⟩ hlen;obtain⟨Yf,Yg,Yh,Yi,Yj,Yk,Yl,Ym,Yo,Yp,Cx,Cy⟩:=h1.twelve;obtain⟨mc0,mc1,mc2,mc3,mc4,mc5,mc6,mc7,mc8,mc9,aaN,aaO⟩:=hM.twelve;have ne1:¬w1.heap.size=w2.heap.size:=by omega
    have ne2:¬w2.heap.size=w1.heap.size:=by omega
    by_cases hxp:Tx (pre++[x])
    · have HK:=HT pre x hop hxp X hB
      gi_wp2_with ((refine⟨trivial,?_⟩;gi_at_call 145;refine(CallsIn.inRound l (callsIn_wide.2 HK)).mono ?_;rintro e w' ⟨rfl,hb'⟩;have h1':=h1.below hb';have hz':=hb'.size;obtain⟨bc0,bf0,bc1,bf1,bc2,bf2,bc3,bf3,bc4,bf4,bc5,bf5,bc6,bf6,bc7,bf7,bc8,bf8,bc9,bf9,Qq,a7o,Qr,a7p⟩:=h1'.six;have ec:=(hb'.cell (p:=⟨w1.heap.size,0,none⟩) (ay h2)).trans h2;have ef:=(hb'.frozen (p:=⟨w1.heap.size,0,none⟩) (ay h2)).trans h2f))
      have h3':=h3.below hb';have c4:=(hb'.cell (p:=⟨W.heap.size+1,0,none⟩) (ay h4)).trans h4;have f4:=(hb'.frozen (p:=⟨W.heap.size+1,0,none⟩) (ay h4)).trans h4f;refine⟨(((kz hb').trans (kM (mL (acc (pre++[x]))) 0 w2.heap.size w')).trans (KeepsOthers.setCell _ _ _)).from _,((eZ.of_below hb' hU).a6K (mL (acc (pre++[x]))) 0).aaM 0 .nilIface,⟨hxp,?_,⟨?_,?_⟩,?_,⟨?_,?_⟩,?_⟩,?_⟩
      · exact(h1'.put (us:=(mL (acc (pre++[x])))) rfl).jD ne2
      · exact World.cell?_setCell_same' _ _ _ (kK ((dG (p:=⟨w1.heap.size,0,none⟩) (R:=w2.heap.size) ne1 (mL (acc (pre++[x]))) 0 w').trans ec))
      · exact(World.frozen?_setCell _ _ _ _).trans ((jC (mL (acc (pre++[x]))) 0 w2.heap.size w').trans ef)
      · exact(h3'.E5 (us:=(mL (acc (pre++[x])))) (R':=w2.heap.size) (by omega)).jD (by omega)
      · exact(World.cell?_setCell_far _ _ _ _ (by simp only;omega)).trans ((dG (p:=⟨W.heap.size+1,0,none⟩) (R:=w2.heap.size) (by simp only;omega) (mL (acc (pre++[x]))) 0 w').trans c4)
      · exact(World.frozen?_setCell _ _ _ _).trans ((jC (mL (acc (pre++[x]))) 0 w2.heap.size w').trans f4)
      · have:=(aJ (B:=0) (A:=w') (R:=w2.heap.size) (Nat.zero_le _) (mL (acc (pre++[x]))) 0 (Below.refl 0 w')).size
        simp only[World.size_setCell] at*;omega
      · exact(aJ (R:=w2.heap.size) (by omega) (mL (acc (pre++[x]))) 0 (hB.trans (hb'.mono hB.size))).setCell (p:=⟨w1.heap.size,0,none⟩) (by simp only;omega) _
    · have HK:=HN pre x hop hxp X hB
      gi_wp2_with ((refine⟨trivial,?_⟩;gi_at_call 145;refine(CallsIn.inRound l (callsIn_wide.2 HK)).mono ?_;rintro e w' ⟨rfl,hb'⟩;dsimp only[Mv.zero,Fr.zero];have h1':=h1.below hb';have hz':=hb'.size;obtain⟨bc0,bf0,bc1,bf1,bc2,bf2,bc3,bf3,bc4,bf4,bc5,bf5,bc6,bf6,bc7,bf7,bc8,bf8,bc9,bf9,Qq,a7o,Qr,a7p⟩:=h1'.six;have ec:=(hb'.cell (p:=⟨w1.heap.size,0,none⟩) (ay h2)).trans h2;have ef:=(hb'.frozen (p:=⟨w1.heap.size,0,none⟩) (ay h2)).trans h2f))
      have h3':=h3.below hb';have c4:=(hb'.cell (p:=⟨W.heap.size+1,0,none⟩) (ay h4)).trans h4;have f4:=(hb'.frozen (p:=⟨W.heap.size+1,0,none⟩) (ay h4)).trans h4f;obtain⟨Y,hY⟩:∃Y,(put w' w2.heap.size 0 zL).setCell ⟨w1.heap.size,0,none⟩ (.iface 390 (.pointer (some aB)))=Y:=⟨_,rfl⟩;have hKO:KeepsOthers X Y:=by rw[<- hY];exact((kz hb').trans (kM zL 0 w2.heap.size w')).trans (KeepsOthers.setCell _ _ _)
      have y1:Y.cell? ⟨w1.heap.size,0,none⟩=some (.iface 390 (.pointer (some aB))):=by rw[<- hY];exact World.cell?_setCell_same' _ _ _ (kK ((dG (p:=⟨w1.heap.size,0,none⟩) (R:=w2.heap.size) ne1 zL 0 w').trans ec))
      have y3:bu Y W.heap.size zL:=by rw[<- hY];exact(h3'.E5 (us:=zL) (R':=w2.heap.size) (by omega)).jD (by omega)
      have y4:Y.cell? ⟨W.heap.size+1,0,none⟩=some .nilIface:=by rw[<- hY];exact(World.cell?_setCell_far _ _ _ _ (by simp only;omega)).trans ((dG (p:=⟨W.heap.size+1,0,none⟩) (R:=w2.heap.size) (by simp only;omega) zL 0 w').trans c4)
      have y5:Y.frozen? ⟨W.heap.size+1,0,none⟩=false:=by rw[<- hY];exact(World.frozen?_setCell _ _ _ _).trans ((jC zL 0 w2.heap.size w').trans f4)
      have yB:Below W.heap.size W Y:=by rw[<- hY];exact(aJ (R:=w2.heap.size) (by omega) zL 0 (hB.trans (hb'.mono hB.size))).setCell (p:=⟨w1.heap.size,0,none⟩) (by simp only;omega) _
      change Code.wpIn _ _ _ _ _ _ ((put w' w2.heap.size 0 zL).setCell ⟨w1.heap.size,0,none⟩ (.iface 390 (.pointer (some aB))));rw[hY];clear hY;obtain⟨rc0,rf0,rc1,rf1,wu,rf2,rc3,rf3,rc4,rf4,rc5,rf5,rc6,rf6,rc7,rf7,rc8,rf8,rc9,rf9,a7q,a7r,a7s,a7t⟩:=y3.six;have ne3:¬W.heap.size=w1.heap.size:=by omega
      have ne4:¬w1.heap.size=W.heap.size:=by omega
      have ZX:¬W.heap.size+1=W.heap.size:=by omega
      have ne6:¬W.heap.size=W.heap.size+1:=by omega
      have ne7:¬W.heap.size+1=w1.heap.size:=by omega
      have ne8:¬w1.heap.size=W.heap.size+1:=by omega
      clear ec ef bc0 bf0 bc1 bf1 bc2 bf2 bc3 bf3 bc4 bf4 bc5 bf5 bc6 bf6 bc7 bf7 bc8 bf8 bc9 bf9 Qq a7o Qr a7p h1' h3' c4 f4 hb' hz'
      gi_region
      all_goals
        gi_wp2
        refine⟨KeepsOthers.from (MJ ((hKO.trans (kM zL 0 W.heap.size Y)).trans (KeepsOthers.setCell _ ⟨W.heap.size+1,0,none⟩ (.iface 390 (.pointer (some aB)))))) _,⟨rfl,hxp,?_,?_⟩,?_⟩
        · exact bu.drew ((y3.put (us:=zL) rfl).jD ne6)
        · exact Ep (World.cell?_setCell_same' _ _ _ (kK ((dG (p:=⟨W.heap.size+1,0,none⟩) (R:=W.heap.size) ZX zL 0 Y).trans y4)))
        · exact below_drewN ((aJ (R:=W.heap.size) eU zL 0 yB).setCell (p:=⟨W.heap.size+1,0,none⟩) (by simp only;omega) _) 1
  case done=>
    rintro D ys X hD rfl ⟨⟨hop,h1,⟨h2,h2f⟩,h3,⟨h4,h4f⟩,hU⟩,hB⟩ hK;obtain⟨Yf,Yg,Yh,Yi,Yj,Yk,Yl,Ym,Yo,Yp,Cx,Cy⟩:=h1.twelve;obtain⟨rc0,rf0,rc1,rf1,wu,rf2,rc3,rf3,rc4,rf4,rc5,rf5,rc6,rf6,rc7,rf7,rc8,rf8,rc9,rf9,a7q,a7r,a7s,a7t⟩:=h3.six;have ne3:¬W.heap.size=w2.heap.size:=by omega
    have ne4:¬w2.heap.size=W.heap.size:=by omega
    have ZX:¬W.heap.size+1=W.heap.size:=by omega
    have ne6:¬W.heap.size=W.heap.size+1:=by omega
    gi_wp2
    have hK':=((kM (mL (acc (aO n))) 0 W.heap.size X).trans (KeepsOthers.setCell _ ⟨W.heap.size+1,0,none⟩ .nilIface)).same D _ hK rfl;refine⟨by simp,.inl ⟨_,_,rfl,run_takeDeferred hK',?_⟩⟩;have hO:bu ((((((((((((((X.setCell ⟨W.heap.size,0,none⟩ (aa (acc (aO n)).a.n)).setCell ⟨W.heap.size,1,none⟩ (aa (acc (aO n)).a.d)).setCell ⟨W.heap.size,2,none⟩ (aa (acc (aO n)).b.n)).setCell ⟨W.heap.size,3,none⟩ (aa (acc (aO n)).b.d)).setCell ⟨W.heap.size,4,none⟩ (aa (acc (aO n)).c.n)).setCell ⟨W.heap.size,5,none⟩ (aa (acc (aO n)).c.d)).setCell ⟨W.heap.size,6,none⟩ (aa (acc (aO n)).d.n)).setCell ⟨W.heap.size,7,none⟩ (aa (acc (aO n)).d.d)).setCell ⟨W.heap.size,8,none⟩ (aa (acc (aO n)).e.n)).setCell ⟨W.heap.size,9,none⟩ (aa (acc (aO n)).e.d)).setCell ⟨W.heap.size,10,none⟩ (aa (acc (aO n)).f.n)).setCell ⟨W.heap.size,11,none⟩ (aa (acc (aO n)).f.d)).setCell ⟨W.heap.size+1,0,none⟩ .nilIface).putObj D (.deferred none)) W.heap.size (mL (acc (aO n))):=((h3.put (us:=(mL (acc (aO n)))) rfl).jD (o:=0) (v:=.nilIface) ne6).kept (grownBy_putObj' _ D (.deferred none)) (fun r e=>by cases e;exact⟨_,hK',rfl⟩);have hQ:((((((((((((((X.setCell ⟨W.heap.size,0,none⟩ (aa (acc (aO n)).a.n)).setCell ⟨W.heap.size,1,none⟩ (aa (acc (aO n)).a.d)).setCell ⟨W.heap.size,2,none⟩ (aa (acc (aO n)).b.n)).setCell ⟨W.heap.size,3,none⟩ (aa (acc (aO n)).b.d)).setCell ⟨W.heap.size,4,none⟩ (aa (acc (aO n)).c.n)).setCell ⟨W.heap.size,5,none⟩ (aa (acc (aO n)).c.d)).setCell ⟨W.heap.size,6,none⟩ (aa (acc (aO n)).d.n)).setCell ⟨W.heap.size,7,none⟩ (aa (acc (aO n)).d.d)).setCell ⟨W.heap.size,8,none⟩ (aa (acc (aO n)).e.n)).setCell ⟨W.heap.size,9,none⟩ (aa (acc (aO n)).e.d)).setCell ⟨W.heap.size,10,none⟩ (aa (acc (aO n)).f.n)).setCell ⟨W.heap.size,11,none⟩ (aa (acc (aO n)).f.d)).setCell ⟨W.heap.size+1,0,none⟩ .nilIface).putObj D (.deferred none)).cell? ⟨W.heap.size+1,0,none⟩=some .nilIface:=cell_kept (World.cell?_setCell_same' _ _ .nilIface (kK ((dG (p:=⟨W.heap.size+1,0,none⟩) (R:=W.heap.size) ZX (mL (acc (aO n))) 0 X).trans h4))) (grownBy_putObj' _ D (.deferred none)) (fun r e=>by cases e;exact⟨_,hK',rfl⟩)
    obtain⟨oc0,oc1,oc2,oc3,oc4,oc5,oc6,oc7,oc8,oc9,ML,MM⟩:=hO.twelve;clear hO;have hL:=(aJ (R:=W.heap.size) eU (mL (acc (aO n))) 0 hB).setCell (p:=⟨W.heap.size+1,0,none⟩) (by simp only;omega) .nilIface;refine⟨.tuple #[mv (acc (aO n)),.nilIface],?_,.inl ⟨hop,rfl⟩,hL.trans (belowK_b (w:=W) eU _ D _ _ (by omega) hK' rfl rfl)⟩;simp[results,results144,go_sem,hQ,oc0,oc1,oc2,oc3,oc4,oc5,oc6,oc7,oc8,oc9,ML,MM]
  case stop=>
    rintro D c pre X hD hpre ⟨⟨rfl,h1,h2,h3⟩,hB⟩ hK
    gi_wp2
    refine⟨by simp,.inl ⟨_,_,rfl,run_takeDeferred hK,?_⟩⟩;have hr:∀r,some D=some r->∃o:Obj,X.heap[r]? =some o/\o.isCells=false:=fun r e=>by cases e;exact⟨_,hK,rfl⟩
    have hg:=grownBy_putObj' X D (.deferred none);have hc5:=cell_kept h3 hg hr;have h2':=h2.kept hg hr;obtain⟨oc0,oc1,oc2,oc3,oc4,oc5,oc6,oc7,oc8,oc9,ML,MM⟩:=h2'.twelve;obtain⟨r,hr'⟩:=hpre;refine⟨.tuple #[mv .zero,.iface 390 (.pointer (some aB))],?_,.inr ⟨fun e=>h1 (abl pre r (by rw[hr'];exact e)),rfl⟩,hB.trans (belowK_b (w:=W) eU X D _ _ (by omega) hK rfl rfl)⟩;simp[results,results144,go_sem,Mv.zero,Fr.zero,hc5,oc0,oc1,oc2,oc3,oc4,oc5,oc6,oc7,oc8,oc9,ML,MM]
end
section
open Go.RowKit Go.Shelf
set_option maxHeartbeats 8000000
set_option maxRecDepth 100000
attribute [local go_sem] Oper.semAt_some
theorem VM (F:Fence)(n:Nat)(hf:F.fn 240)(hro:F.round=none)(l Bl:Nat)(J Jx:List Nat->World->Prop)
  (W:World) (hBl:W.cell? (ag Bl 0)=some (.slice none 0 0)) (h0:J [] W):
  CallsIn F n prog 240 #[.func (.yield l) #[] #[],aj Bl] W fun e W'=>(∃v,e=.returned v)/\
   ((∃ys,ys=[]/\J ys W')\/(∃pre,pre<+:[]/\Jx pre W')):=by
 refine callsIn_of_wp func240 rfl hf ?_ hro;simp only[ntmps240,List.size_toArray,List.length_cons,List.length_nil,Nat.reduceAdd,Nat.reduceSub,Array.replicate_succ,Array.replicate_zero,List.push_toArray,List.append_toArray,List.nil_append,List.cons_append]
 gi_wp2
 gi_loopw [3] (fun i wr=>i=aa (-1)/\J [] wr) (fun _ _=>0)
 case atStart=>exact⟨rfl,h0⟩
 case round=>
  obtain⟨rfl,hJ⟩:=hrel
  gi_wp2
  go_end0
  exact⟨⟨_,rfl⟩,.inl ⟨_,rfl,hJ⟩⟩
theorem VN (s:ByteArray)(W:World)
  (HL:∀V,Below W.heap.size W V->ak 198 #[.string s] V fun e w'=>e=.returned (.tuple #[.slice none 0 0,.nilIface])/\Below V.heap.size V w'):
  CallsIn Fence.wide 9 prog 144 #[.string s] W fun e w'=>e=.returned (.tuple #[mv (Mv.one),.nilIface])/\Below W.heap.size W w':=by
 have HO:=oH;have HB:=uZ;have L0:=((Below.refl W.heap.size W).alloc eU (.cells zA 129)).alloc (by simp) (.cells #[.nilIface] 33);have R0:bN ((W.alloc (.cells zA 129)).alloc (.cells #[.nilIface] 33)) W.heap.size zA 129:=(bN.new W _ _).alloc _;have Q0:=bN.new (W.alloc (.cells zA 129)) #[.nilIface] 33;rw[World.size_alloc] at Q0;refine callsIn_of_wp_marks func144 rfl trivial ?_ rfl;simp only[ntmps144,List.size_toArray,List.length_cons,List.length_nil,Nat.reduceAdd,Nat.reduceSub,Array.replicate_succ,Array.replicate_zero,List.push_toArray,List.append_toArray,List.nil_append,List.cons_append]
 gi_wp2_with (first|(refine⟨trivial,?_⟩;gi_at_call 199;refine(callsIn_wide.2 (HB _ _ _ _ rfl _)).mono ?_;rintro e w' ⟨rfl,rfl⟩)|(refine⟨trivial,?_⟩;gi_at_call 52;refine(callsIn_wide.2 (HO _)).mono ?_;rintro e w2 ⟨rfl,hb2⟩;dsimp only[Mv.one,Fr.whole])|(refine⟨trivial,?_⟩;gi_at_call 198;refine(callsIn_wide.2 (HL _ L0)).mono ?_;rintro e w1 ⟨rfl,hb1⟩))
 have GH:=hb1.size;simp only[World.size_alloc] at GH;have Tt:=hb2.size;simp only[World.size_alloc] at Tt;have e1:(w1.alloc (.cells #[.nilIface] 33)).heap.size=w1.heap.size+1:=by simp
 have E2:=(bN.new w1 #[.nilIface] 33).below hb2 eU;have R2:=((R0.below hb1 eU).alloc (.cells #[.nilIface] 33)).below hb2 eU;have Q2:=((Q0.below hb1 eU).alloc (.cells #[.nilIface] 33)).below hb2 eU;have L2:=((L0.trans (hb1.mono (by simp;omega))).alloc (by omega) (.cells #[.nilIface] 33)).trans (hb2.mono (by simp;omega));obtain⟨U,hU⟩:∃U,(w2.alloc (.cells oA 129)).alloc (.cells #[.slice none 0 0] 277)=U:=⟨_,rfl⟩;have szU:U.heap.size=w2.heap.size+2:=by rw[<- hU];simp
 have A3:bN U w2.heap.size oA 129:=by rw[<- hU];exact(bN.new w2 _ _).alloc _
 have C3:U.cell? ⟨w2.heap.size+1,0,none⟩=some (.slice none 0 0):=by rw[<- hU];exact aM (by simp) rfl
 have E3:bN U w1.heap.size #[.nilIface] 33:=by rw[<- hU];exact(E2.alloc _).alloc _
 have R3:bN U W.heap.size zA 129:=by rw[<- hU];exact(R2.alloc _).alloc _
 have Q3:bN U (W.heap.size+1) #[.nilIface] 33:=by rw[<- hU];exact(Q2.alloc _).alloc _
 have L3:Below W.heap.size W U:=by rw[<- hU];exact(L2.alloc (by omega) _).alloc (by simp;omega) _
 rw[hU];clear hU L2 R0 Q0 E2 R2 Q2;refine wpIn_rangeFunc_ownH rfl (by omega) (gf:=240) (lb:=#[.pointer (some ⟨w2.heap.size+1,0,none⟩)]) rfl trivial (enters_of func240 (by kernel_rfl) rfl)
  (encs:=fun x:Nat=>a1w Mv.one x) (Kp:=eZ w1.heap.size w2.heap.size U.heap.size) (S:=fun ys=>ys=[]) (Sp:=fun pre=>pre<+:[]) (N:=0) (w0:=U)
  (fun l J Jx X hX _ _ hY h0=>VM Fence.wide _ trivial rfl l (w2.heap.size+1) J Jx X ((hX.cell (p:=⟨w2.heap.size+1,0,none⟩) (by simp only;omega)).trans C3) h0)
  eZ.trans (fun X l o o' hl _ _ _=>eZ.put X l o' hl) (Below.refl _ _) (fun _=>rfl)
  (fun pre X=>(bu X w2.heap.size (mL Mv.one)/\(X.cell? ⟨w1.heap.size,0,none⟩=some .nilIface/\X.frozen? ⟨w1.heap.size,0,none⟩=false)/\bu X W.heap.size zL/\(X.cell? ⟨W.heap.size+1,0,none⟩=some .nilIface/\X.frozen? ⟨W.heap.size+1,0,none⟩=false)/\U.heap.size<=X.heap.size)/\Below W.heap.size W X)
  (fun _ _ _=>False)
  (OwnFrom.and (Own.from (fun pre A B row hs hg hr=>⟨hs.1.kept hg hr,⟨cell_kept hs.2.1.1 hg hr,(frozen_kept hs.2.1.1 hg hr).trans hs.2.1.2⟩,hs.2.2.1.kept hg hr,⟨cell_kept hs.2.2.2.1.1 hg hr,(frozen_kept hs.2.2.2.1.1 hg hr).trans hs.2.2.2.1.2⟩,Nat.le_trans hs.2.2.2.2 hg.size⟩) _) (ownFrom_below eU (by omega)))
  (fun _ _ _ _ _ h _ _=>h)
  ⟨⟨bu.uo (vs:=oL) A3 rfl,⟨E3.cell 0 _ rfl,E3.bf 0 _ rfl⟩,bu.uo (vs:=zL) R3 rfl,⟨Q3.cell 0 _ rfl,Q3.bf 0 _ rfl⟩,Nat.le_refl _⟩,L3⟩
  (fun x a' X=>∃Bx,U.heap.size<=Bx/\bu X Bx (mL Mv.one)/\a'={tmps:=#[.string s,undef,aj W.heap.size,.pointer (some ⟨W.heap.size+1,0,none⟩),.slice none 0 0,aj w1.heap.size,aj w2.heap.size,undef,aj Bx,.tuple #[.slice none 0 0,.nilIface],.string s,.tuple #[.slice none 0 0,.nilIface],.slice none 0 0,.nilIface,.nilIface,.bool false,undef,undef,.agg oA,.slice none 0 0,.func (.func 240) #[] #[.pointer (some ⟨w2.heap.size+1,0,none⟩)],aa (x:Nat),.agg (mA Mv.one),undef,undef,undef,undef,undef,undef,undef,undef,undef,undef,undef],defers:=[]})
  (fun x a' s A B row hs hg hr=>by obtain⟨Bx,h1,h2,h3⟩:=hs;exact⟨Bx,h1,h2.kept hg (fun r e=>(hr r e).2),h3⟩)
  ?assign ?body ?done ?stop
 case assign=>
  rintro l pre x X K ⟨⟨h1,⟨h2,h2f⟩,h3,⟨h4,h4f⟩,hU⟩,hB⟩ hK
  gi_wp2
  have hs:=hB.size;have hal:=(Below.refl X.heap.size X).alloc eU (.cells (mA Mv.one) 129);exact hK _ _ ((KeepsOthers.alloc _ _).from _) (eZ.of_below hal hU) ⟨⟨h1.below hal,⟨ah _ h2,bI _ h2 h2f⟩,h3.below hal,⟨ah _ h4,bI _ h4 h4f⟩,Nat.le_trans hU hal.size⟩,hB.alloc hs _⟩ ⟨X.heap.size,hU,bu.uo (vs:=(mL Mv.one)) (bN.new X _ _) rfl,rfl⟩
 case body=>
  rintro l pre x a' X hl hr _ _ hlen;exact(Nat.not_lt_zero _ hlen).elim
 case done=>
  rintro D ys X hD rfl ⟨⟨h1,⟨h2,h2f⟩,h3,⟨h4,h4f⟩,hU⟩,hB⟩ hK;obtain⟨Yf,Yg,Yh,Yi,Yj,Yk,Yl,Ym,Yo,Yp,Cx,Cy⟩:=h1.twelve;obtain⟨rc0,rf0,rc1,rf1,wu,rf2,rc3,rf3,rc4,rf4,rc5,rf5,rc6,rf6,rc7,rf7,rc8,rf8,rc9,rf9,a7q,a7r,a7s,a7t⟩:=h3.six;have ne3:¬W.heap.size=w2.heap.size:=by omega
  have ne4:¬w2.heap.size=W.heap.size:=by omega
  have ZX:¬W.heap.size+1=W.heap.size:=by omega
  have ne6:¬W.heap.size=W.heap.size+1:=by omega
  gi_wp2
  have hK':=((kM (mL (Mv.one)) 0 W.heap.size X).trans (KeepsOthers.setCell _ ⟨W.heap.size+1,0,none⟩ .nilIface)).same D _ hK rfl;refine⟨by simp,.inl ⟨_,_,rfl,run_takeDeferred hK',?_⟩⟩;have hO:bu ((((((((((((((X.setCell ⟨W.heap.size,0,none⟩ (aa (Mv.one).a.n)).setCell ⟨W.heap.size,1,none⟩ (aa (Mv.one).a.d)).setCell ⟨W.heap.size,2,none⟩ (aa (Mv.one).b.n)).setCell ⟨W.heap.size,3,none⟩ (aa (Mv.one).b.d)).setCell ⟨W.heap.size,4,none⟩ (aa (Mv.one).c.n)).setCell ⟨W.heap.size,5,none⟩ (aa (Mv.one).c.d)).setCell ⟨W.heap.size,6,none⟩ (aa (Mv.one).d.n)).setCell ⟨W.heap.size,7,none⟩ (aa (Mv.one).d.d)).setCell ⟨W.heap.size,8,none⟩ (aa (Mv.one).e.n)).setCell ⟨W.heap.size,9,none⟩ (aa (Mv.one).e.d)).setCell ⟨W.heap.size,10,none⟩ (aa (Mv.one).f.n)).setCell ⟨W.heap.size,11,none⟩ (aa (Mv.one).f.d)).setCell ⟨W.heap.size+1,0,none⟩ .nilIface).putObj D (.deferred none)) W.heap.size (mL (Mv.one)):=((h3.put (us:=(mL (Mv.one))) rfl).jD (o:=0) (v:=.nilIface) ne6).kept (grownBy_putObj' _ D (.deferred none)) (fun r e=>by cases e;exact⟨_,hK',rfl⟩);have hQ:((((((((((((((X.setCell ⟨W.heap.size,0,none⟩ (aa (Mv.one).a.n)).setCell ⟨W.heap.size,1,none⟩ (aa (Mv.one).a.d)).setCell ⟨W.heap.size,2,none⟩ (aa (Mv.one).b.n)).setCell ⟨W.heap.size,3,none⟩ (aa (Mv.one).b.d)).setCell ⟨W.heap.size,4,none⟩ (aa (Mv.one).c.n)).setCell ⟨W.heap.size,5,none⟩ (aa (Mv.one).c.d)).setCell ⟨W.heap.size,6,none⟩ (aa (Mv.one).d.n)).setCell ⟨W.heap.size,7,none⟩ (aa (Mv.one).d.d)).setCell ⟨W.heap.size,8,none⟩ (aa (Mv.one).e.n)).setCell ⟨W.heap.size,9,none⟩ (aa (Mv.one).e.d)).setCell ⟨W.heap.size,10,none⟩ (aa (Mv.one).f.n)).setCell ⟨W.heap.size,11,none⟩ (aa (Mv.one).f.d)).setCell ⟨W.heap.size+1,0,none⟩ .nilIface).putObj D (.deferred none)).cell? ⟨W.heap.size+1,0,none⟩=some .nilIface:=cell_kept (World.cell?_setCell_same' _ _ .nilIface (kK ((dG (p:=⟨W.heap.size+1,0,none⟩) (R:=W.heap.size) ZX (mL (Mv.one)) 0 X).trans h4))) (grownBy_putObj' _ D (.deferred none)) (fun r e=>by cases e;exact⟨_,hK',rfl⟩)
  obtain⟨oc0,oc1,oc2,oc3,oc4,oc5,oc6,oc7,oc8,oc9,ML,MM⟩:=hO.twelve;clear hO;have hL:=(aJ (R:=W.heap.size) eU (mL (Mv.one)) 0 hB).setCell (p:=⟨W.heap.size+1,0,none⟩) (by simp only;omega) .nilIface;refine⟨.tuple #[mv (Mv.one),.nilIface],?_,rfl,hL.trans (belowK_b (w:=W) eU _ D _ _ (by omega) hK' rfl rfl)⟩;simp[results,results144,go_sem,hQ,oc0,oc1,oc2,oc3,oc4,oc5,oc6,oc7,oc8,oc9,ML,MM]
 case stop=>
  rintro D c pre X _ _ h _;exact h.elim
theorem Ju (s:ByteArray)(a:Addr)(W:World)
  (HL:∀V,Below W.heap.size W V->ak 198 #[.string s] V fun e w'=>e=.returned (.tuple #[.slice none 0 0,.iface 390 (.pointer (some a))])/\Below V.heap.size V w'):
  CallsIn Fence.wide 9 prog 144 #[.string s] W fun e w'=>e=.returned (.tuple #[mv .zero,.iface 390 (.pointer (some a))])/\Below W.heap.size W w':=by
 have L0:=((Below.refl W.heap.size W).alloc eU (.cells zA 129)).alloc (by simp) (.cells #[.nilIface] 33);have R0:bN ((W.alloc (.cells zA 129)).alloc (.cells #[.nilIface] 33)) W.heap.size zA 129:=(bN.new W _ _).alloc _;have Q0:=bN.new (W.alloc (.cells zA 129)) #[.nilIface] 33;rw[World.size_alloc] at Q0;refine callsIn_of_wp_marks func144 rfl trivial ?_ rfl;simp only[ntmps144,List.size_toArray,List.length_cons,List.length_nil,Nat.reduceAdd,Nat.reduceSub,Array.replicate_succ,Array.replicate_zero,List.push_toArray,List.append_toArray,List.nil_append,List.cons_append]
 gi_wp2_with ((refine⟨trivial,?_⟩;gi_at_call 198;refine(callsIn_wide.2 (HL _ L0)).mono ?_;rintro e w1 ⟨rfl,hb1⟩))
 have GH:=hb1.size;simp only[World.size_alloc] at GH;obtain⟨Y,hY⟩:∃Y,w1.alloc (.cells #[.iface 390 (.pointer (some a))] 33)=Y:=⟨_,rfl⟩;have y1:Y.cell? ⟨w1.heap.size,0,none⟩=some (.iface 390 (.pointer (some a))):=by rw[<- hY];exact aM rfl rfl
 have y3:bN Y W.heap.size zA 129:=by rw[<- hY];exact(R0.below hb1 eU).alloc _
 have y4:bN Y (W.heap.size+1) #[.nilIface] 33:=by rw[<- hY];exact(Q0.below hb1 eU).alloc _
 have yB:Below W.heap.size W Y:=by rw[<- hY];exact(L0.trans (hb1.mono (by simp;omega))).alloc (by omega) _
 rw[hY];clear hY hb1 R0 Q0 L0;have qc:=y4.cell 0 _ rfl;have qf:=y4.bf 0 _ rfl;obtain⟨mQ,A9,mV,Aa,mW,Ab,mX,Ac,rD,Fa,rE,Fb,rF,Fe,rG,Ff,rH,Fg,rJ,Fh,ic,oF,ig,oG⟩:=y3.six;have ne3:¬W.heap.size=w1.heap.size:=by omega
 have ne4:¬w1.heap.size=W.heap.size:=by omega
 have ZX:¬W.heap.size+1=W.heap.size:=by omega
 have ne6:¬W.heap.size=W.heap.size+1:=by omega
 have ne7:¬W.heap.size+1=w1.heap.size:=by omega
 have ne8:¬w1.heap.size=W.heap.size+1:=by omega
 gi_region
 all_goals
  gi_wp2
  have hO:=bu.drew (((bu.uo (vs:=zL) y3 rfl).put (us:=zL) rfl).jD (E:=W.heap.size+1) (o:=0) (v:=.iface 390 (.pointer (some a))) ne6);have hQ:=Ep (World.cell?_setCell_same' (put Y W.heap.size 0 zL) ⟨W.heap.size+1,0,none⟩ (.iface 390 (.pointer (some a))) (kK ((dG (p:=⟨W.heap.size+1,0,none⟩) (R:=W.heap.size) ZX zL 0 Y).trans qc)));simp only[put,Nat.zero_add,Nat.reduceAdd] at hO hQ;obtain⟨oc0,oc1,oc2,oc3,oc4,oc5,oc6,oc7,oc8,oc9,ML,MM⟩:=hO.twelve;clear hO;have hL:=below_drewN ((aJ (R:=W.heap.size) eU zL 0 yB).setCell (p:=⟨W.heap.size+1,0,none⟩) (by simp only;omega) (.iface 390 (.pointer (some a)))) 1;refine⟨.tuple #[mv .zero,.iface 390 (.pointer (some a))],?_,rfl,hL⟩;simp[results,results144,go_sem,Mv.zero,Fr.zero,hQ,oc0,oc1,oc2,oc3,oc4,oc5,oc6,oc7,oc8,oc9,ML,MM]
end
section
open Go.RowKit
set_option maxHeartbeats 1000000
theorem FX {α β:Type}{p:α×β}{b:β}(h:p.2=b):p=(p.1,b):=by cases p;cases h;rfl
theorem gM (m a:Mv)(l:List Mv):jd m (a::l)=if(thenS m a).2=0 then jd (thenS m a).1 l else(.zero,2):=rfl
theorem R4 (p q:List Mv)(m:Mv)(h:(jd m (p++q)).2=0):(jd m p).2=0:=by
  induction p generalizing m with
  |nil=>rfl
  |cons a p ih=>
    rw[List.cons_append,gM] at h;rw[gM];by_cases h1:(thenS m a).2=0
    · rw[if_pos h1] at h⊢;exact ih _ h
    · rw[if_neg h1] at h;cases h
theorem Bi (l:List Mv)(m n:Mv)(h:(jd m l).2=0):jd m (l++[n])=if(thenS (jd m l).1 n).2=0 then((thenS (jd m l).1 n).1,0) else(.zero,2):=by
  induction l generalizing m with
  |nil=>exact gM m n []
  |cons a l ih=>
    rw[List.cons_append,gM,gM];rw[gM] at h;by_cases h1:(thenS m a).2=0
    · rw[if_pos h1] at h;rw[if_pos h1,if_pos h1];exact ih _ h
    · rw[if_neg h1] at h;cases h
theorem Bj (l:List Mv)(m:Mv)(hm:m.ok)(hl:∀n∈l,n.ok)(h:(jd m l).2=0):(jd m l).1.ok:=by
  induction l generalizing m with
  |nil=>exact hm
  |cons a l ih=>
    rw[gM] at h⊢;by_cases h1:(thenS m a).2=0
    · rw[if_pos h1] at h⊢
      exact ih _ ((wM hm (hl a (by simp))).2 h1).1 (fun n hn=>hl n (by simp[hn])) h
    · rw[if_neg h1] at h;cases h
theorem Es (l:List Mv)(m:Mv):(jd m l).2=0\/jd m l=(.zero,2):=by
  induction l generalizing m with
  |nil=>exact .inl rfl
  |cons a l ih=>
    rw[gM];by_cases h1:(thenS m a).2=0
    · rw[if_pos h1];exact ih _
    · rw[if_neg h1];exact .inr rfl
theorem VO (R:List Mv):(aO R.length).map (fun j=>R.getD j .one)=R.reverse:=by
  apply List.ext_getElem?;intro i;unfold aO;rw[List.map_map,List.getElem?_map];by_cases h:i<R.length
  · rw[List.getElem?_range h,List.getElem?_reverse h]
    simp[List.getElem?_eq_getElem (show R.length-1-i<R.length by omega)]
  · rw[List.getElem?_eq_none (by simp;omega),List.getElem?_eq_none (by simp;omega)]
    rfl
theorem Et:∀(f:Nat) (ws:List ByteArray) (acc:List Mv),(dV f ws acc).2≠0->(dV f ws acc).1=[]
  |_,[],acc,h=>by simp[dV] at h
  |0,_::_,_,_=>rfl
  |f+1,k::ws,acc,h=>by
    unfold dV at h⊢;cases hk:qg k with
    |none=>rfl
    |some kd=>
      rw[hk] at h;simp only at h⊢;split at h
      · rename_i h1;rw[if_pos h1]
      · rename_i h1;rw[if_neg h1]
        split at h
        · rename_i h2;rw[if_pos h2];exact Et f _ _ h
        · rename_i h2;rw[if_neg h2]
theorem Eu:∀(f:Nat) (ws:List ByteArray) (acc:List Mv),(dV f ws acc).2=0->acc.length<=(dV f ws acc).1.length/\(dV f ws acc).1.length<=acc.length+ws.length/\(ws≠[]->acc.length<(dV f ws acc).1.length)
  |_,[],acc,_=>by simp[dV]
  |0,_::_,_,h=>by simp[dV] at h
  |f+1,k::ws,acc,h=>by
    unfold dV at h⊢;cases hk:qg k with
    |none=>rw[hk] at h;simp at h
    |some kd=>
      rw[hk] at h;simp only at h⊢;split at h
      · simp at h
      · rename_i h1;rw[if_neg h1]
        split at h
        · rename_i h2;rw[if_pos h2]
          obtain⟨a1,a2,_⟩:=Eu f _ _ h;simp only[List.length_append,List.length_cons,List.length_nil,List.length_drop] at a1 a2⊢;exact⟨by omega,by omega,fun _=>by omega⟩
        · rename_i h2;exact(h2 h).elim
theorem Bn:∀(k:Nat) (s:ByteArray),∀a∈Lib.splitB ⟨#[32]⟩ 0 k s,a.size<=s.size
  |0,s,a,h=>by rw[Lib.splitB_zero] at h;simp at h;subst h;exact Nat.le_refl _
  |k+1,s,a,h=>by
    unfold Lib.splitB at h;split at h
    · simp at h;subst h;exact Nat.le_refl _
    · rcases List.mem_cons.1 h with rfl|h
      · rw[ByteArray.size_extract];omega
      · have:=Bn k _ a h
        rw[ByteArray.size_extract] at this;omega
def er0 (aT aB aS:Addr)(c:Nat):Value:=if c=0 then .nilIface else .iface 390 (.pointer (some (eA aT aB aS c)))
theorem Bo (W:World):ak 198 #[.string ⟨#[]⟩] W fun e w'=>e=.returned (.tuple #[.slice none 0 0,.nilIface])/\Below W.heap.size W w':=by
  go_enter func198,ntmps198;go_wp2
  go_ret2
  exact⟨rfl,Below.refl _ _⟩
attribute [local irreducible] thenS in
theorem VP {aT aB aS:Addr}(s:ByteArray)(hs:s.size<=900)(W:World)(hE:E4 aT aB aS W):
    ak 144 #[.string s] W fun e w'=>e=.returned (.tuple #[mv (iD s).1,er0 aT aB aS (iD s).2])/\Below W.heap.size W w':=by
  by_cases h0:s.size=0
  · have hs0:s=⟨#[]⟩:=ext_list (List.length_eq_zero_iff.1 (by rw[jB];exact h0))
    subst hs0;have:=VN ⟨#[]⟩ W (fun V _=>Bo V);exact callsIn_wide.1 this
  · have hne:s.toList.isEmpty=false:=by
      rw[ByteArray.toList_eq,List.isEmpty_eq_false_iff];intro e;exact h0 (by rw[<- jB,e];rfl)
    have hlen:(words s).length=Lib.countB s ⟨#[32]⟩+1:=Lib.splitB_all ⟨#[32]⟩ (by decide) 0 _ s rfl;have hle:=Lib.countB_le ⟨#[32]⟩ (by decide) s.size s eU;have hsz:∀a∈words s,a.size<=1000000:=fun a ha=>by have:=Bn _ s a ha;omega
    have hL:kU s=dV (words s).length (words s) []:=by unfold kU;rw[if_neg h0]
    have RL:=fun V (hV:Below W.heap.size W V) R c hR=>FW aT aB aS s (words s) (words s).length R c V (hE.below hV eU) (by omega) hne hlen.symm rfl rfl (by omega) hR (fun k kd h1 h2=>VE h1 h2) (fun k h=>VF h) (fun kd h=>VH (hE.below hV eU) hsz h) VI (fun kd h=>QX (hE.below hV eU) hsz h) (QY (hE.below hV eU));by_cases hc:(kU s).2=0
    · have hR:dV (words s).length (words s) []=((kU s).1,0):=by rw[<- hL];exact Prod.ext rfl hc
      obtain⟨_,l2,l3⟩:=Eu (words s).length (words s) [] (by rw[hR]);have hok:=Ao (words s).length (words s) [] (by simp) (by rw[hR]);rw[hR] at l2 l3 hok;have l4:=l3 (fun e=>by rw[e] at hlen;simp at hlen);simp only[List.length_nil] at l2 l4;obtain⟨R,hRR⟩:∃R,(kU s).1=R:=⟨_,rfl⟩;rw[hRR] at hR l2 l4 hok;have hms:∀x,(R.getD x .one).ok:=fun x=>by
        by_cases hx:x<R.length
        · rw[show R.getD x .one=R[x] by simp[List.getD,hx]];exact hok _ (by simp)
        · rw[show R.getD x .one=.one by simp[List.getD,List.getElem?_eq_none (show R.length<=x by omega)]];exact Al
      have hmm:∀pre:List Nat,∀n∈pre.map (fun j=>R.getD j .one),n.ok:=fun pre n hn=>by
        obtain⟨j,_,rfl⟩:=List.mem_map.1 hn;exact hms j
      have:=VK aB s (fun j=>R.getD j .one) R.length (fun pre=>(jd .one (pre.map (fun j=>R.getD j .one))).1) (fun pre=>(jd .one (pre.map (fun j=>R.getD j .one))).2=0) rfl
        (fun p q h=>by rw[List.map_append] at h;exact R4 _ _ _ h) W l4 (by omega) rfl
        (fun V hV=>(RL V hV R 0 hR).mono fun e w' ⟨h,hb⟩=>by
          obtain⟨-,v,he,hown⟩|⟨h, -⟩:=h
          rotate_left
          · exact absurd rfl h
          obtain⟨n,hn⟩:∃n,R.length=n+1:=⟨R.length-1,by omega⟩;rw[hn] at hown⊢;obtain⟨g,cap,rfl,_,h3,_,_,h6⟩:=lW hown;exact⟨⟨g,cap,he,h3,fun j hj i u hu=>by
            have hj':j<R.length:=by omega
            rw[show R.getD j .one=R[j] by simp[List.getD,hj']] at hu;exact h6 _ u (Bg R j R[j] (by simp[hj']) i u hu)⟩,hb⟩)
        (fun pre x h1 h2 V hV=>by
          rw[List.map_append,List.map_singleton] at h2⊢;have ho:=Bj _ _ Al (hmm pre) h1;rw[Bi _ _ _ h1] at h2⊢;by_cases h3:(thenS (jd .one (pre.map (fun j=>R.getD j .one))).1 (R.getD x .one)).2=0
          · rw[if_pos h3]
            exact Om (l9 ho) (l9 (hms x)) (J3 ho (hms x) (FX h3)) V (hE.below hV eU).e3
          · rw[if_neg h3] at h2;cases h2)
        (fun pre x h1 h2 V hV=>by
          rw[List.map_append,List.map_singleton,Bi _ _ _ h1] at h2;have ho:=Bj _ _ Al (hmm pre) h1;by_cases h3:(thenS (jd .one (pre.map (fun j=>R.getD j .one))).1 (R.getD x .one)).2=0
          · rw[if_pos h3] at h2;exact(h2 rfl).elim
          · rw[if_neg h3] at h2
            refine(Oo (l9 ho) (l9 (hms x)) (fun y e=>h3 (by rw[(J4 e).2.2])) V (hE.below hV eU).e3).mono fun e w' ⟨⟨v,he,hv⟩,hb⟩=>?_;unfold pJ at hv;rw[if_neg (fun e=>e (oM ho)),if_neg (fun e=>e (oM (hms x))),if_neg h3] at hv;obtain⟨_,rfl⟩:=hv;exact⟨he,hb⟩)
      have hr:iD s=jd .one R.reverse:=by unfold iD;rw[if_pos hc,hRR]
      refine(callsIn_wide.1 this).mono fun e w' ⟨he,hb⟩=>⟨?_,hb⟩;rw[hr];rw[VO] at he;rcases he with⟨h1,he⟩|⟨h1,he⟩
      · rw[he,h1];rfl
      · have h2:=(Es R.reverse .one).resolve_left h1
        rw[he,h2];rfl
    · have hR:dV (words s).length (words s) []=([],(kU s).2):=by
        rw[<- hL];exact Prod.ext (by rw[hL];exact Et _ _ _ (by rw[<- hL];exact hc)) rfl
      have:=Ju s (eA aT aB aS (kU s).2) W (fun V hV=>(RL V hV [] _ hR).mono fun e w' ⟨h,hb⟩=>⟨(h.resolve_left fun h=>hc h.1).2,hb⟩);have hr:iD s=(.zero,(kU s).2):=by unfold iD;rw[if_neg hc]
      refine(callsIn_wide.1 this).mono fun e w' ⟨he,hb⟩=>⟨?_,hb⟩;rw[he,hr,er0,if_neg hc]
end
end Go.Proofs.YtjfiehbcamfdfaaGreatDoor

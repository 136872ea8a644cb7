/- Parts of the proof. -/
import Derived.Test.YtecneflbncjhpaaGreatDoorQp28
namespace Go.Proofs.YtecneflbncjhpaaGreatDoor
open Go.Proofs.Tryz
set_option maxHeartbeats 8000000
section
open Go
section
variable {P:Program}{ops:Array Oper}{Q:Exit->Act->ag->Prop}{md:Region.Mode}{S:ag->Prop}{z:Nat}
def nL (P:Program)(md:Region.Mode)(ops:Array Oper)(Q:Exit->Act->ag->Prop)(S:ag->Prop)(z:Nat):Nat->Array Bool->Act->ag->Prop
 |0,listed,a,w=>Region.ready md ops listed=[]/\Q .normal a w
 |fuel+1,listed,a,w=>
  (Region.ready md ops listed=[]->Q .normal a w)/\
  ∀i∈Region.ready md ops listed,wpOp P ops Q i (fun a' w'=>(i≠z->S w')/\nL P md ops Q S z fuel (listed.setIfInBounds i true) a' w') a w
theorem Ml:∀(fuel:Nat) (listed:Array Bool) (a:Act) (w:ag),nL P md ops Q S z fuel listed a w->wpAny P md ops Q fuel listed a w
 |0,_,_,_,h=>h
 |fuel+1,_,_,_,h=>⟨h.1,fun i hi=>wpOp_mono (fun a' w' h'=>Ml fuel _ a' w' h'.2) (h.2 i hi)⟩
def IL (md:Region.Mode)(ops:Array Oper)(z i:Nat):Bool:=match ops[z]? with
 |some o=>o.after.any fun e=>Region.binds md e && e.on==i
 |none=>false
theorem Pq {i:Nat}{listed:Array Bool}(h:IL md ops z i=true)(hi:listed.getD i true=false):z ∉ Region.ready md ops listed:=fun hz=>by
 obtain⟨-,o,ho,hall⟩:=mem_ready.1 hz;unfold IL at h;rw[ho] at h;obtain⟨e,he,hb⟩:=Array.any_eq_true'.1 h;simp only[Bool.and_eq_true,beq_iff_eq] at hb;have h1:=hall e he hb.1;rw[hb.2] at h1;rcases Nat.lt_or_ge i listed.size with h'|h'
 ·simp[h'] at hi h1;rw[hi] at h1;cases h1
 ·simp[Array.getElem?_eq_none h'] at h1
theorem a2s {i:Nat}{oi:Oper}{v:ah}(hi:ops[i]? =some oi)(hsel:∀(j:Nat) (o:Oper) cs b,ops[j]? =some o->o.op≠.select cs b)(hz:IL md ops z i=true)
  (hQ:∀c a w,Q (.panic c) (a.put oi.dst v) w->Q (.panic c) a w):
  ∀(fuel:Nat) (listed:Array Bool) (a:Act) (w:ag),
   (∀j oj,ops[j]? =some oj->j≠i->listed.getD j true=false->(∀e∈oj.after,Region.binds md e=true->e.on≠i)->oi.apart ops oj=true)->
   i∈Region.ready md ops listed->YieldsIf P ops S oi v a->S w->
   nL P md ops Q S z fuel (listed.setIfInBounds i true) (a.put oi.dst v) w->nL P md ops Q S z (fuel+1) listed a w:=by
 intro fuel
 induction fuel with
 |zero=>
  intro listed a w _ hr hy hS H;refine⟨fun h=>(by rw[h] at hr;cases hr),fun j hj=>?_⟩;by_cases hji:j=i
  ·subst hji;exact hy.wpOp hi hS ⟨fun _=>hS,H⟩
  ·have:=ready_mono hj hji;rw[H.1] at this;cases this
 |succ fuel ih=>
  intro listed a w hfree hr hy hS H;refine⟨fun h=>(by rw[h] at hr;cases hr),fun j hj=>?_⟩;by_cases hji:j=i
  ·subst hji;exact hy.wpOp hi hS ⟨fun _=>hS,H⟩
  ·have hun:=(mem_ready.1 hr).1;have hjz:j≠z:=fun e=>Pq hz hun (e▸hj);have h1:=H.2 j (ready_mono hj hji);obtain⟨hjun,oj,hoj,hall⟩:=mem_ready.1 hj;have hnot:∀e∈oj.after,Region.binds md e=true->e.on≠i:=fun e he hb heq=>by
    have h1:=hall e he hb;rw[heq] at h1;rcases Nat.lt_or_ge i listed.size with h'|h'
    ·simp[h'] at hun h1;rw[hun] at h1;cases h1
    ·simp[Array.getElem?_eq_none h'] at h1
   have h2:=wpOp_putIf hoj (hfree j oj hoj hji hjun hnot) (fun cs b=>hsel i oi cs b hi) (fun cs b=>hsel j oj cs b hoj) hQ hy h1;refine wpOp_mono (fun a' w' h3=>⟨h3.2.1,ih (listed.setIfInBounds j true) a' w' (fun k ok hk hki aap hno=>hfree k ok hk hki ?_ hno) (ready_mono hr (Ne.symm hji)) h3.1 (h3.2.1 hjz) ?_⟩) h2
   ·by_cases hjk:j=k
    ·subst hjk;exact hjun
    ·rw[getD_set_ne true hjk] at aap;exact aap
   ·rw[Array.setIfInBounds_comm _ _ hji];exact h3.2.2
theorem bG (i:Nat){oi:Oper}{v:ah}{fuel:Nat}{listed:Array Bool}{a:Act}{w:ag}(hi:ops[i]? =some oi)
  (hs:Region.noSelect ops=true) (hz:IL md ops z i=true) (hf:Region.free md ops listed i=true) (hr:(Region.ready md ops listed).contains i=true)
  (hQ:∀c a w,Q (.panic c) (a.put oi.dst v) w->Q (.panic c) a w) (hS:S w) (hy:YieldsIf P ops S oi v a)
  (h:nL P md ops Q S z fuel (listed.setIfInBounds i true) (a.put oi.dst v) w):nL P md ops Q S z (fuel+1) listed a w:=
 a2s hi (Region.noSelect_spec hs) hz hQ fuel listed a w (Region.free_spec hi hf) (by simpa using hr) hy hS h
theorem jW (i:Nat){o:Oper}{fuel:Nat}{listed:Array Bool}{a:Act}{w:ag}(hr:Region.ready md ops listed=[i])(ho:ops[i]? =some o)
  (h:∀K':Act->ag->Prop,Shut (∀a w,(i≠z->S w)->nL P md ops Q S z fuel (listed.setIfInBounds i true) a w->K' a w)->if Region.wanted o (yielded ops a.tmps)=true then Oper.wp P o a w K' Q else K' (a.put o.dst undef) w):nL P md ops Q S z (fuel+1) listed a w:=by
 refine⟨fun h0=>(by rw[hr] at h0;cases h0),fun j hj=>?_⟩;rw[hr] at hj;have hji:j=i:=by simpa using hj
 subst hji;exact wpOp_step ho (fun K' hK=>h K' (fun a w hS hW=>hK a w ⟨hS,hW⟩))
theorem Pv {listed:Array Bool}{a:Act}{w:ag}(hr:Region.ready md ops listed=[])(h:Q .normal a w):∀fuel,nL P md ops Q S z fuel listed a w
 |0=>⟨hr,h⟩
 |_+1=>⟨fun _=>h,by rw[hr];simp⟩
theorem Dn {id:Nat}{a:Act}{w:ag}(S:ag->Prop)(z:Nat)(hm:P.follows .mixedOrders=true)
  (h:nL P .any ops Q S z ops.size (Array.replicate ops.size false) a w.drew):(Code.region id ops true).wp P Q a w:=
 wp_region_any hm (Ml _ _ _ _ h)
end
end
section
open Go.RowKit Go.Shelf
set_option maxRecDepth 20000
def jo (E:Nat->Addr)(base WB DB:Nat)(sf:ah)(v:ah)(V:ag)(x:Except Ft (Nat×List Pc))(e:Ending)(w':ag):Prop:=match x with
 | .error f=>∃u,e=.returned u/\VE E f V.heap.size u w'
 | .ok st=>e=.returned .nilIface/\∃ps v',ps.map dI.pc=st.2/\Sc base WB DB sf st.1 ps v' w'/\(v'.ownBlock=v.ownBlock\/∀b,v'.ownBlock=some b->V.heap.size<=b)
def vD (n:Int)(m:Mv)(x:Except Nat (List Qt))(fill rule level:Bs)(st:Nat×List Pc):Except Ft (Nat×List Pc):=match x with
 | .error c=>.error ⟨rD c,n⟩
 | .ok q=>match VC m q with
  |none=>.error ⟨2,n⟩
  |some q'=>if fill=uB then .ok st else .ok (st.1,st.2++[⟨n,q',fill,rule,G6 level⟩])
theorem Nj.below {E:Nat->Addr}{c:Nat}{v:ah}{w w':ag}(h:Nj E c v w)(hb:Below w.heap.size w w'):Nj E c v w':=by
 obtain⟨h1,h2,h3⟩:=h;refine⟨h1,h2,?_⟩;rcases h3 with h3|⟨pb,po,h3,h4⟩
 ·exact .inl h3
 ·exact .inr ⟨pb,po,h3,(hb.cell (aF h4)).trans h4⟩
theorem mJ.below {E:Nat->Addr}{x:Except Nat (List Qt)}{e:Ending}{w w':ag}(h:mJ E x e w)(hb:Below w.heap.size w w'):mJ E x e w':=by
 cases x with
 |error k=>
  obtain⟨v,h1,h2⟩:=h;exact⟨v,h1,h2.below hb⟩
 |ok l=>
  obtain⟨h0,h1,o,cap,h2,h3⟩:=h;exact⟨h0,h1,o,cap,h2,h3.below hb ai⟩
def a6p (E:Nat->Addr)(x:Except Nat (List Qt))(V:ag)(b rv:ah)(wx:ag):Prop:=∃BS ro rn rc,b=ay BS/\V.heap.size<=BS/\wx.heap[BS]? =some (.cells #[.slice ro rn rc] 132)/\mJ E x (.returned (.tuple #[.agg #[.slice ro rn rc],rv])) wx/\Below V.heap.size V wx
theorem YQ {E:Nat->Addr}{x:Except Nat (List Qt)}{V w1:ag}{ro:Option Addr}{rn rc:Nat}{rv:ah}(h:mJ E x (.returned (.tuple #[.agg #[.slice ro rn rc],rv])) w1)(b:Below V.heap.size V w1):a6p E x V (ay w1.heap.size) rv (w1.alloc (.cells #[.slice ro rn rc] 132)):=
 ⟨_,ro,rn,rc,rfl,b.size,dw w1 _ _,mJ.below h (bT w1 _),aH b (bT w1 _)⟩
theorem YR {E:Nat->Addr}{x:Except Nat (List Qt)}{V w1:ag}{ro:Option Addr}{rn rc:Nat}{rv:ah}(h:mJ E x (.returned (.tuple #[.agg #[.slice ro rn rc],rv])) w1)(b:Below (V.alloc (.cells #[.slice none 0 0] 132)).heap.size (V.alloc (.cells #[.slice none 0 0] 132)) w1):a6p E x V (ay V.heap.size) rv (w1.setCell ⟨V.heap.size,0,none⟩ (.slice ro rn rc)):=by
 have K:=dw V #[.slice none 0 0] 132;have K1:=(b.block _ (bu K)).trans K;refine⟨_,ro,rn,rc,rfl,Nat.le_refl _,?_,h.far K1,(aH (bT V _) b).setCell ai _⟩;have:=heap_setCell_same w1 V.heap.size 0 _ _ (.slice ro rn rc) K1;simpa using this
theorem VE.low {E:Nat->Addr}{f:Ft}{b b':Nat}{v:ah}{w:ag}(h:VE E f b v w)(hb:b'<=b):VE E f b' v w:=by
 obtain⟨pb,h1,h2,h3⟩:=h;exact⟨pb,aJ hb h1,h2,h3⟩
def aaq (E:Nat->Addr)(m:Mv)(l:List Qt)(BS:Nat)(V:ag)(rv:ah)(wx:ag):Prop:=∃ro rn rc,wx.heap[BS]? =some (.cells #[.slice ro rn rc] 132)/\UD E m l V.heap.size (.returned (.tuple #[.agg #[.slice ro rn rc],rv])) wx/\Below V.heap.size V wx
theorem UD.is {E:Nat->Addr}{m:Mv}{l:List Qt}{b:Nat}{e:Ending}{w:ag}(h:UD E m l b e w):∃o n c v,e=.returned (.tuple #[.agg #[.slice o n c],v]):=by
 unfold UD at h;cases hg:VC m l with
 |none=>rw[hg] at h;obtain⟨v,h1, -⟩:=h;exact⟨_,_,_,_,h1⟩
 |some l'=>
  rw[hg] at h;obtain⟨v,h1,h2⟩:=h;obtain⟨o,cap,rfl⟩:=aM h2;exact⟨_,_,_,_,h1⟩
theorem YS {E:Nat->Addr}{m:Mv}{l:List Qt}{BS:Nat}{V wc w2:ag}{x:ah}{ro:Option Addr}{rn rc:Nat}{rv:ah}(h:UD E m l wc.heap.size (.returned (.tuple #[.agg #[.slice ro rn rc],rv])) w2)(KB:wc.heap[BS]? =some (.cells #[x] 132))(b1:Below V.heap.size V wc)(hBS:V.heap.size<=BS)(b2:Below wc.heap.size wc w2):aaq E m l BS V rv (w2.setCell ⟨BS,0,none⟩ (.slice ro rn rc)):=by
 have hlt:=bu KB;have K2:=(b2.block _ hlt).trans KB;refine⟨ro,rn,rc,?_,?_,(aH b1 b2).setCell hBS _⟩
 ·have:=heap_setCell_same w2 BS 0 _ _ (.slice ro rn rc) K2;simpa using this
 ·unfold UD at h⊢;cases hg:VC m l with
  |none=>
   rw[hg] at h;obtain⟨v,h1,h2⟩:=h;exact⟨v,h1,h2.far⟩
  |some l'=>
   rw[hg] at h;obtain⟨v,h1,h2⟩:=h;exact⟨v,h1,(iM.far h2 hlt).low b1.size⟩
theorem Pw (ps:List dI)(x:dI):cellsS (ps++[x])=cellsS ps++[aa x.nd,Di x,bV x.fill,bV x.rule,aa x.lv]:=by rw[Dj];rfl
theorem a2t {m:Mv}{l l':List Qt}(hm:m.ok)(hl:lg l)(h:VC m l=some l'):∀a∈l',fT a=0:=by
 unfold VC at h;split at h
 ·next ha=>
  cases h;intro a hx;obtain⟨b,hb,rfl⟩:=List.mem_map.1 hx;exact Dg hm (hl.2 b hb) (yt (List.all_eq_true.1 ha b hb))
 ·cases h
theorem a2u:(prog.info? 134).map (fun i=>(i.zero,i.size,i.bytes))=some (some (.agg #[aa 0,.slice none 0 0,.string ⟨#[]⟩,.string ⟨#[]⟩,aa 0]),5,72):=by kernel_rfl
def S9 (Bw WB PB BS:Nat)(n:Int)(sf pv v:ah)(w:ag):Prop:=w.cell? (ak Bw 0)=some (ay WB)/\w.cell? (ak WB 1)=some sf/\w.cell? (ak PB 0)=some (aa n)/\w.cell? (ak BS 0)=some pv/\w.cell? (ak WB 3)=some v
theorem Sc.app {base WB DB:Nat}{sf:ah}{k:Nat}{ps:List dI}{v:ah}{V w6 w7:ag}{x:dI}{g cap:Nat}(h:Sc base WB DB sf k ps v V)(hb:Below V.heap.size V w6)(ho:iM w6 base (Di x) x.pts)(hrt:∀a∈x.pts,fT a=0)
  (ow:w7.ownsRow base 134 5 (.slice (some ⟨g,0,none⟩) (ps.length+1) cap) (ps.length+1) (cellsS ps++[aa x.nd,Di x,bV x.fill,bV x.rule,aa x.lv])) (gr:w6.grownBy w7 v.ownBlock) (hat:v.ownBlock=some g\/g=w6.heap.size):
  Sc base WB DB sf k (ps++[x]) (.slice (some ⟨g,0,none⟩) (ps.length+1) cap) (w7.setCell ⟨WB,3,none⟩ (.slice (some ⟨g,0,none⟩) (ps.length+1) cap))/\Kw WB v V (w7.setCell ⟨WB,3,none⟩ (.slice (some ⟨g,0,none⟩) (ps.length+1) cap))/\((Value.slice (some ⟨g,0,none⟩) (ps.length+1) cap).ownBlock=v.ownBlock\/∀b,(Value.slice (some ⟨g,0,none⟩) (ps.length+1) cap).ownBlock=some b->V.heap.size<=b):=by
 have wlt:=bu h.wb;have neW:v.ownBlock≠some WB:=fun e=>by
  obtain⟨cs,f,h1, -⟩:=dS h.own WB e;rw[h.wb] at h1;cases h1
 have gW:g≠WB:=fun e=>by
  rcases hat with h1|h1
  ·exact neW (by rw[h1,e])
  ·have:=hb.size;omega
 have aeC:w7.heap[WB]? =some (.cells #[ay DB,sf,aa k,v] 119):=by
  rw[gr.block WB (bI wlt hb.size) (fun e=>neW e.symm),hb.block WB wlt];exact h.wb
 have far:∀b,b≠WB->(w7.setCell ⟨WB,3,none⟩ (.slice (some ⟨g,0,none⟩) (ps.length+1) cap)).heap[b]? =w7.heap[b]? :=fun b hne=>aY _ _ _ b hne;have ptk:∀y:dI,iM w6 base (Di y) y.pts->iM (w7.setCell ⟨WB,3,none⟩ (.slice (some ⟨g,0,none⟩) (ps.length+1) cap)) base (Di y) y.pts:=fun y hy=>by
  refine bS hy fun j hj=>?_;obtain⟨cs,f,h1, -⟩:=dS hy j hj;have hlt:=bu h1;have n1:j≠WB:=fun e=>by
   subst e;rw[hb.block j wlt,h.wb] at h1;cases h1
  have n2:some j≠v.ownBlock:=fun e=>by
   obtain⟨cs',f',h3, -⟩:=dS (aQ h.own hb) j e.symm;rw[h1] at h3;cases h3
  rw[far j n1];exact gr.block j hlt n2
 have szs:(w7.setCell ⟨WB,3,none⟩ (.slice (some ⟨g,0,none⟩) (ps.length+1) cap)).heap.size=w7.heap.size:=World.size_setCell _ _ _;refine⟨⟨?_,?_,?_,?_⟩,⟨?_,?_,?_,?_,?_⟩,?_⟩
 ·have:=heap_setCell_same w7 WB 3 _ _ (.slice (some ⟨g,0,none⟩) (ps.length+1) cap) aeC;simpa using this
 ·rw[Pw,List.length_append];exact bS ow fun j hj=>far j (fun e=>gW (by cases hj;exact e))
 ·intro y hy;rcases List.mem_append.1 hy with hy|hy
  ·exact ptk y ((h.pts y hy).keep hb)
  ·simp at hy;subst hy;exact ptk _ ho
 ·intro y hy;rcases List.mem_append.1 hy with hy|hy
  ·exact h.rt y hy
  ·simp at hy;subst hy;exact hrt
 ·exact gr.os.trans hb.os
 ·exact gr.tape.trans hb.tape
 ·exact gr.output.trans hb.output
 ·rw[szs];exact aJ hb.size gr.size
 ·intro b hlt h1 h2;rw[far b h1,gr.block b (bI hlt hb.size) (fun e=>h2 e.symm),hb.block b hlt]
 ·rcases hat with h1|h1
  ·exact .inl h1.symm
  ·exact .inr fun b hb'=>by cases hb';rw[h1];exact hb.size
section
variable {E:Nat->Addr}{base WB DB:Nat}{k:Nat}{ps:List dI}{v:ah}{V:ag}
theorem IQ (hN:NE E V)(Bd Bl:Nat)(hS:Sc base WB DB (tV Bd Bl) k ps v V)(PB Br Bw fr:Nat)(hcf:∀(av:Array ah) (w:ag),Sem.run prog (callFunc fr av) w=.ok (.enter fr av) w)(n:Int)(q:ah)(m:Mv)(hm:m.ok)(hp:V.heap[PB]? =some (.cells (plA n q m) 128))
  (hr:V.cell? (ak Br 0)=some (.func (.func fr) #[ay WB] #[])) (hwB:V.heap[Bw]? =some (.cells #[ay WB] 115)) (x:Except Nat (List Qt)) (fill rule level:Bs) (hlv:level.length<=1000000) (hbase:base<=V.heap.size) (hps:ps.length<=1000)
  (RD:∀U,Below V.heap.size V U->au fr #[ay WB,aa n] U fun e w'=>mJ E x e w'/\Below U.heap.size U w')
  (SF:∀U,Below V.heap.size V U->au 48 #[aa n,bV wz,ay Bd,ay Bl] U fun e w'=>e=.returned (bV fill)/\Below U.heap.size U w')
  (SR:∀U,Below V.heap.size V U->au 48 #[aa n,bV yX,ay Bd,ay Bl] U fun e w'=>e=.returned (bV rule)/\Below U.heap.size U w')
  (SL:∀U,Below V.heap.size V U->au 48 #[aa n,bV uV,ay Bd,ay Bl] U fun e w'=>e=.returned (bV level)/\Below U.heap.size U w'):
  au 190 #[ay PB,ay Br,ay Bw] V fun e w'=>jo E base WB DB (tV Bd Bl) v V (vD n m x fill rule level (k,ps.map dI.pc)) e w'/\Kw WB v V w':=by
 have hw:=aD hwB 0 _ rfl;have HN:=aj hN;have HS:=aj hS;have HM:Hid m.ok:=hm;have p0:=aD hp 0 _ rfl;have R1:=RD V.drew (below_drewN (aG _ _) 1);obtain⟨ans,oF⟩:∃a,vD n m x fill rule level (k,ps.map dI.pc)=a:=⟨_,rfl⟩;rw[oF];have HA:=aj oF;clear oF hN hS hm;go_enter func190,ntmps190;go_upto_region 1 with fail
 go_cut [5,6] from 8 to 87 (fun b rv wx=>a6p E x V b rv wx)
 case first=>
  have R2:=RD (V.alloc (.cells #[.slice none 0 0] 132)).drew (below_drewN (bT V _) 1);have KK:∀w1,Below (V.alloc (.cells #[.slice none 0 0] 132)).drew.heap.size (V.alloc (.cells #[.slice none 0 0] 132)).drew w1->w1.cell? ⟨V.heap.size,0,none⟩=some (.slice none 0 0)/\w1.frozen? ⟨V.heap.size,0,none⟩=false:=fun w1 b1=>by
   have K:=dw V #[.slice none 0 0] 132;have K1:=(b1.block V.heap.size (bu K)).trans K;exact⟨aD K1 0 _ rfl,dz K1 0⟩
  have Q1:au fr #[ay WB,aa n] V.drew fun e w'=>∃ro rn rc rv,e=.returned (.tuple #[.agg #[.slice ro rn rc],rv])/\mJ E x (.returned (.tuple #[.agg #[.slice ro rn rc],rv])) w'/\Below V.drew.heap.size V.drew w':=R1.mono fun e w' ⟨h1,b1⟩=>by
   obtain⟨ro,rn,rc,rv,rfl⟩:=h1.is;exact⟨ro,rn,rc,rv,rfl,h1,b1⟩
  have Q2:au fr #[ay WB,aa n] (V.alloc (.cells #[.slice none 0 0] 132)).drew fun e w'=>∃ro rn rc rv,e=.returned (.tuple #[.agg #[.slice ro rn rc],rv])/\mJ E x (.returned (.tuple #[.agg #[.slice ro rn rc],rv])) w'/\Below (V.alloc (.cells #[.slice none 0 0] 132)).drew.heap.size (V.alloc (.cells #[.slice none 0 0] 132)).drew w':=R2.mono fun e w' ⟨h1,b1⟩=>by
   obtain⟨ro,rn,rc,rv,rfl⟩:=h1.is;exact⟨ro,rn,rc,rv,rfl,h1,b1⟩
  have ba:=bT V (.cells #[.slice none 0 0] 132);have p0a:=(ba.cell (aF p0)).trans p0;have hra:=(ba.cell (aF hr)).trans hr;clear R1 R2 RD SF SR SL hp ba hw
  go_region_with (first|(refine Q1.mono ?_;rintro e w1 ⟨ro,rn,rc,rv,rfl,h1,b1⟩)|(refine Q2.mono ?_;rintro e w1 ⟨ro,rn,rc,rv,rfl,h1,b1⟩;obtain⟨u0,uf⟩:=KK w1 b1))
  all_goals go_wp2_with fail
  all_goals go_meet
  all_goals first|(have hu:=u0;exact YR h1 ((below_drewN (aG _ _) 1).trans b1))|exact YQ h1 ((below_drewN (aG _ _) 1).trans b1)
 case rest=>
  obtain⟨BS,ro,rn,rc,rfl,hBS,KB,h1,b1⟩:=hcut;have hpw:=(b1.block _ (bu hp)).trans hp;have pw0:=aD hpw 0 _ rfl;have NW:=HN.out.below b1;have HX:=aj h1;clear h1;cases x with
  |error cd=>
   obtain⟨ev,he,hev⟩:=HX.out;have OE:u6=ev:=by simp at he;exact he.2
   subst OE;have FO:=rP NW hev n;have hne:u6≠.nilIface:=by
    rintro rfl;obtain⟨-, -,h|⟨pb,po,h, -⟩⟩:=hev<;>cases h
   have hpk:∀f:Except Ft (Nat×List Pc),ans=f->vD n m (.error cd) fill rule level (k,ps.map dI.pc)=f:=fun f hf=>by rw[<- hf];exact HA.out
   have ha:ans=.error ⟨rD cd,n⟩:=HA.out.symm;subst ha;obtain⟨-, -,hv2⟩:=hev;clear hpk he HX;rcases hv2 with rfl|⟨pb,po,rfl, -⟩
   ·go_wp2_with(go_at_call 92;refine FO.mono ?_;rintro e w2 ⟨u,rfl,hf,b2⟩);go_ret;exact⟨⟨u,rfl,VE.low hf b1.size⟩,Kw.of_below (aH b1 b2)⟩
   ·go_wp2_with(go_at_call 92;refine FO.mono ?_;rintro e w2 ⟨u,rfl,hf,b2⟩);go_ret;exact⟨⟨u,rfl,VE.low hf b1.size⟩,Kw.of_below (aH b1 b2)⟩
  |ok l=>
   obtain⟨hch,hok,o1,fo,he,hpt⟩:=HX.out;obtain⟨⟨rfl,rfl,rfl⟩,rfl⟩:(ro=o1/\rn=l.length/\rc=fo)/\u6=.nilIface:=by simp at he;exact⟨⟨he.1.1,he.1.2.1,he.1.2.2⟩,he.2⟩
   have bd:=below_drewN (aG wc.heap.size wc) 1;have MV:=UE m HM.out l ro rc wc.drew ((wY l).1 hok) (hpt.below bd ai) (NW.below bd);have s0:=aD KB 0 _ rfl;clear he HX;have HL:=aj hok;have HCH:=aj hch;clear hok hch hpt;have q2:=aD hpw 2 _ rfl;have q3:=aD hpw 3 _ rfl;have q4:=aD hpw 4 _ rfl;have q5:=aD hpw 5 _ rfl;have q6:=aD hpw 6 _ rfl;have q7:=aD hpw 7 _ rfl;have q8:=aD hpw 8 _ rfl;have q9:=aD hpw 9 _ rfl;have q10:=aD hpw 10 _ rfl;have q11:=aD hpw 11 _ rfl;have q12:=aD hpw 12 _ rfl;have q13:=aD hpw 13 _ rfl;go_upto_region 4 with fail
   go_cut [6] from 8 to 87 (fun rv wx=>aaq E m l BS V rv wx)
   case first=>
    have MQ:au 191 #[.agg #[.slice ro l.length rc],mv m] wc.drew fun e w'=>∃o n c rv,e=.returned (.tuple #[.agg #[.slice o n c],rv])/\UD E m l wc.heap.size (.returned (.tuple #[.agg #[.slice o n c],rv])) w'/\Below wc.heap.size wc w'/\w'.cell? (ak BS 0)=some (.slice ro l.length rc)/\w'.frozen? ⟨BS,0,none⟩=false:=MV.mono fun e w' ⟨h1,b2⟩=>by
     obtain⟨o,n,c,rv,rfl⟩:=h1.is;have bb:Below wc.heap.size wc w':=⟨b2.os,b2.tape,b2.output,b2.size,b2.block⟩;have K2:=(bb.block _ (bu KB)).trans KB;exact⟨o,n,c,rv,rfl,h1,bb,aD K2 0 _ rfl,dz K2 0⟩
    clear MV RD SF SR SL hpw hp
    go_region_with (go_at_call 191;refine MQ.mono ?_;rintro e w2 ⟨o2,n2,c2,rv2,rfl,h2,b2,k2,f2⟩)
    all_goals go_wp2_with fail
    all_goals go_meet
    all_goals exact YS h2 KB b1 hBS b2
   case rest=>
    obtain⟨Af,rn2,xU,KB2,h2,b2⟩:=hcut;have aas:=(b2.block _ (bu hp)).trans hp;have pz0:=aD aas 0 _ rfl;have NW2:=HN.out.below b2;unfold UD at h2;cases hg:VC m l with
    |none=>
     rw[hg] at h2;obtain⟨ev,he,hev⟩:=h2;have OE:u6=ev:=by simp at he;exact he.2
     subst OE;have FO:=rP NW2 hev n;have ha:ans=.error ⟨2,n⟩:=by
      have:=HA.out;unfold vD at this;simp only[hg] at this;exact this.symm
     subst ha;obtain⟨-, -,hv2⟩:=hev;rcases hv2 with rfl|⟨pb,po,rfl, -⟩ -- aiv
     ·go_wp2_with(go_at_call 92;refine FO.mono ?_;rintro e w2 ⟨u,rfl,hf,b3⟩);go_ret;exact⟨⟨u,rfl,VE.low hf b2.size⟩,Kw.of_below (aH b2 b3)⟩
     ·go_wp2_with(go_at_call 92;refine FO.mono ?_;rintro e w2 ⟨u,rfl,hf,b3⟩);go_ret;exact⟨⟨u,rfl,VE.low hf b2.size⟩,Kw.of_below (aH b2 b3)⟩
    |some l'=>
     rw[hg] at h2;obtain⟨v2,he,hown2⟩:=h2;obtain⟨hv2,rfl⟩:v2=.slice Af rn2 xU/\u6=.nilIface:=by simp at he;exact⟨he.1.symm,he.2⟩
     subst hv2;obtain⟨o9,c9,h9⟩:=aM hown2;obtain⟨rfl,rfl,rfl⟩:Af=o9/\rn2=l'.length/\xU=c9:=by simp at h9;exact h9
     have HOW:=aj hown2;have oF:Hid (vD n m (.ok l) fill rule level (k,ps.map dI.pc)=if fill=uB then .ok (k,ps.map dI.pc) else .ok (k,ps.map dI.pc++[⟨n,l',fill,rule,G6 level⟩])):=by
      show _=_;unfold vD;simp only[hg]
     have HA2:Hid (ans=if fill=uB then .ok (k,ps.map dI.pc) else .ok (k,ps.map dI.pc++[⟨n,l',fill,rule,G6 level⟩])):=HA.out.symm.trans oF.out;have HR:Hid (∀a∈l',fT a=0):=a2t HM.out ((wY l).1 HL.out) hg;have bw0:=(b2.cell (aF hw)).trans hw;have wbk:=(b2.block _ (bu HS.out.wb)).trans HS.out.wb;have wb1:=aD wbk 1 _ rfl;have wb3:=aD wbk 3 _ rfl;have bs0:=aD KB2 0 _ rfl;have SFd:=SF wc.drew (b2.trans (below_drewN (aG _ _) 1));clear oF HA h9 he RD q2 q3 q4 q5 q6 q7 q8 q9 q10 q11 q12 q13 MV;go_upto_region 7 with fail
     go_region_held3 (fun w'=>w'.cell? (ak Bw 0)=some (ay WB)/\w'.cell? (ak WB 1)=some (tV Bd Bl)/\w'.cell? (ak PB 0)=some (aa n)) (go_keep) (first|(go_at_call 48;refine SFd.mono ?_;rintro e w3 ⟨rfl,b3⟩;have x1:=(b3.cell (aF (w:=wc.drew) bw0)).trans bw0;have x2:=(b3.cell (aF (w:=wc.drew) wb1)).trans wb1;have x3:=(b3.cell (aF (w:=wc.drew) pz0)).trans pz0))
     have tH:Below V.heap.size V w3:=aH b2 ⟨b3.os,b3.tape,b3.output,b3.size,b3.block⟩;have hq:=gD fill uB;by_cases hf:fill=uB
     ·have hqt:(fill==uB)=true:=by simp[hf]
      rw[hqt] at hq;unfold uB at hq hqt;have ha:ans=.ok (k,ps.map dI.pc):=by rw[HA2.out,if_pos hf]
      subst ha;clear HA2 hf;go_wp2_with fail;go_ret;exact⟨⟨rfl,ps,v,rfl,HS.out.below tH,.inl rfl⟩,Kw.of_below tH⟩
     ·have hqt:(fill==uB)=false:=by simpa using hf
      rw[hqt] at hq;unfold uB at hq hqt;have ha:ans=.ok (k,ps.map dI.pc++[⟨n,l',fill,rule,G6 level⟩]):=by rw[HA2.out,if_neg hf]
      subst ha;clear HA2 hf SFd;have hVs:=tH.size;have y4:w3.cell? (ak BS 0)=some (.slice Af l'.length xU):=(b3.cell (aF (w:=wc.drew) bs0)).trans bs0;have y5:w3.cell? (ak WB 3)=some v:=(b3.cell (aF (w:=wc.drew) wb3)).trans wb3;obtain⟨ov,kv,Ou⟩:=aM HS.out.own;subst Ou;obtain⟨i0,hi,hz0,hz1,hz2⟩:=info_parts a2u;have SRd:=fun U (hU:Below w3.heap.size w3 U)=>SR U (aH tH hU);have SLd:=fun U (hU:Below w3.heap.size w3 U)=>SL U (aH tH hU);have RLd:=fun U (hU:Below w3.heap.size w3 U)=>EG (HN.out.below (aH tH hU)) level hlv;have KEEP:∀U,Below w3.heap.size w3 U->U.cell? (ak Bw 0)=some (ay WB)/\U.cell? (ak WB 1)=some (tV Bd Bl)/\U.cell? (ak PB 0)=some (aa n)/\U.cell? (ak BS 0)=some (.slice Af l'.length xU)/\U.cell? (ak WB 3)=some (.slice ov ps.length kv):=fun U hU=>⟨(hU.cell (aF x1)).trans x1,(hU.cell (aF x2)).trans x2,(hU.cell (aF x3)).trans x3,(hU.cell (aF y4)).trans y4,(hU.cell (aF y5)).trans y5⟩;have neW:(Value.slice ov ps.length kv).ownBlock≠some WB:=fun e1=>by
       obtain⟨cs,f,h1, -⟩:=dS HS.out.own WB e1;rw[HS.out.wb] at h1;cases h1
      have OW6:∀U,Below w3.heap.size w3 U->(U.alloc (.cells #[aa n,.slice Af l'.length xU,bV fill,bV rule,aa (G6 level)] 134)).ownsRow base 134 5 (.slice ov ps.length kv) ps.length (cellsS ps):=fun U hU=>World.ownsRow.alloc (aQ HS.out.own (aH tH hU)) _;have kw3:=(tH.block _ (bu hwB)).trans hwB;have kW3:=(tH.block _ (bu HS.out.wb)).trans HS.out.wb;have kP3:=(tH.block _ (bu hp)).trans hp;have kB3:w3.heap[BS]? =some (.cells #[.slice Af l'.length xU] 132):=(b3.block _ (bu (w:=wc.drew) KB2)).trans KB2;have ROW:∀U,Below w3.heap.size w3 U->∀w7,(U.alloc (.cells #[aa n,.slice Af l'.length xU,bV fill,bV rule,aa (G6 level)] 134)).grownBy w7 (Value.slice ov ps.length kv).ownBlock->∀(b:Nat) (cs:Array ah) (t:TypeId),w3.heap[b]? =some (Obj.cells cs t)->t≠134->w7.heap[b]? =some (Obj.cells cs t):=fun U hU w7 gr b cs t hb ht=>by
       have b8:=aH hU (bT U (.cells #[aa n,.slice Af l'.length xU,bV fill,bV rule,aa (G6 level)] 134));refine(gr.block b (bI (bu hb) b8.size) (fun e1=>?_)).trans ((b8.block b (bu hb)).trans hb);obtain⟨cs',f',h1, -⟩:=dS (aQ HS.out.own tH) b e1.symm;rw[hb] at h1;cases h1;exact ht rfl
      have A7:∀U,Below w3.heap.size w3 U->∀w7,(U.alloc (.cells #[aa n,.slice Af l'.length xU,bV fill,bV rule,aa (G6 level)] 134)).grownBy w7 (Value.slice ov ps.length kv).ownBlock->S9 Bw WB PB BS n (tV Bd Bl) (.slice Af l'.length xU) (.slice ov ps.length kv) w7/\w7.frozen? ⟨WB,3,none⟩=false:=fun U hU w7 gr=>by
       have rW:=ROW U hU w7 gr WB _ _ kW3 (by decide);exact⟨⟨aD (ROW U hU w7 gr Bw _ _ kw3 (by decide)) 0 _ rfl,aD rW 1 _ rfl,aD (ROW U hU w7 gr PB _ _ kP3 (by decide)) 0 _ rfl,aD (ROW U hU w7 gr BS _ _ kB3 (by decide)) 0 _ rfl,aD rW 3 _ rfl⟩,dz rW 3⟩
      have HB3:Hid (iM w3 V.heap.size (.slice Af l'.length xU) l'):=(HOW.out.keep (⟨b3.os,b3.tape,b3.output,b3.size,b3.block⟩:Below wc.heap.size wc w3):iM w3 V.heap.size (.slice Af l'.length xU) l');have aeJ:=aj tH;clear ROW kw3 kW3 kP3 kB3 hown2 HOW hwB NW2 NW b1 b2 b3 tH hpw aas KB KB2 wbk wb1 wb3 bs0 pz0 bw0 hr hw hp p0 pw0 SF SR SL;go_upto_region 9 with fail;refine Dn (S9 Bw WB PB BS n (tV Bd Bl) (.slice Af l'.length xU) (.slice ov ps.length kv)) 35 (by kernel_rfl) ?_;have hS:S9 Bw WB PB BS n (tV Bd Bl) (.slice Af l'.length xU) (.slice ov ps.length kv) w3.drew:=⟨x1,x2,x3,y4,y5⟩;refine bG (v:=?v0) 0 rfl (by kernel_rfl) (by kernel_rfl) (by kernel_rfl) (by kernel_rfl) (fun _ _ _ h=>h) hS (.inl ⟨rfl,fun w hw=>?hy0⟩) ?hr0
      case hy0=>obtain⟨g1,g2,g3,g4,g5⟩:=hw;go_simp;try with_reducible rfl
      simp only[Act.put,List.setIfInBounds_toArray];refine bG (v:=?v1) 1 rfl (by kernel_rfl) (by kernel_rfl) (by kernel_rfl) (by kernel_rfl) (fun _ _ _ h=>h) hS (.inl ⟨rfl,fun w hw=>?hy1⟩) ?hr1
      case hy1=>obtain⟨g1,g2,g3,g4,g5⟩:=hw;go_simp;try with_reducible rfl
      simp only[Act.put];refine bG (v:=?v2) 2 rfl (by kernel_rfl) (by kernel_rfl) (by kernel_rfl) (by kernel_rfl) (fun _ _ _ h=>h) hS (.inl ⟨rfl,fun w hw=>?hy2⟩) ?hr2
      case hy2=>obtain⟨g1,g2,g3,g4,g5⟩:=hw;go_simp;try with_reducible rfl
      simp only[Act.put];refine bG (v:=?v3) 3 rfl (by kernel_rfl) (by kernel_rfl) (by kernel_rfl) (by kernel_rfl) (fun _ _ _ h=>h) hS (.inl ⟨rfl,fun w hw=>?hy3⟩) ?hr3
      case hy3=>obtain⟨g1,g2,g3,g4,g5⟩:=hw;go_simp;try with_reducible rfl
      simp only[Act.put];refine bG (v:=?v4) 4 rfl (by kernel_rfl) (by kernel_rfl) (by kernel_rfl) (by kernel_rfl) (fun _ _ _ h=>h) hS (.inl ⟨rfl,fun w hw=>?hy4⟩) ?hr4
      case hy4=>obtain⟨g1,g2,g3,g4,g5⟩:=hw;go_simp;try with_reducible rfl
      simp only[Act.put];refine bG (v:=?v5) 5 rfl (by kernel_rfl) (by kernel_rfl) (by kernel_rfl) (by kernel_rfl) (fun _ _ _ h=>h) hS (.inl ⟨rfl,fun w hw=>?hy5⟩) ?hr5
      case hy5=>obtain⟨g1,g2,g3,g4,g5⟩:=hw;go_simp;try with_reducible rfl
      simp only[Act.put];refine bG (v:=?v6) 6 rfl (by kernel_rfl) (by kernel_rfl) (by kernel_rfl) (by kernel_rfl) (fun _ _ _ h=>h) hS (.inl ⟨rfl,fun w hw=>?hy6⟩) ?hr6
      case hy6=>obtain⟨g1,g2,g3,g4,g5⟩:=hw;go_simp;try with_reducible rfl
      simp only[Act.put];refine bG (v:=?v7) 7 rfl (by kernel_rfl) (by kernel_rfl) (by kernel_rfl) (by kernel_rfl) (fun _ _ _ h=>h) hS (.inl ⟨rfl,fun w hw=>?hy7⟩) ?hr7
      case hy7=>obtain⟨g1,g2,g3,g4,g5⟩:=hw;go_simp;try with_reducible rfl
      simp only[Act.put];refine bG (v:=?v8) 8 rfl (by kernel_rfl) (by kernel_rfl) (by kernel_rfl) (by kernel_rfl) (fun _ _ _ h=>h) hS (.inl ⟨rfl,fun w hw=>?hy8⟩) ?hr8
      case hy8=>obtain⟨g1,g2,g3,g4,g5⟩:=hw;go_simp;try with_reducible rfl
      simp only[Act.put];refine bG (v:=?v9) 9 rfl (by kernel_rfl) (by kernel_rfl) (by kernel_rfl) (by kernel_rfl) (fun _ _ _ h=>h) hS (.inl ⟨rfl,fun w hw=>?hy9⟩) ?hr9
      case hy9=>obtain⟨g1,g2,g3,g4,g5⟩:=hw;go_simp;try with_reducible rfl
      simp only[Act.put];refine bG (v:=?v10) 10 rfl (by kernel_rfl) (by kernel_rfl) (by kernel_rfl) (by kernel_rfl) (fun _ _ _ h=>h) hS (.inl ⟨rfl,fun w hw=>?a6q⟩) ?aeO
      case a6q=>obtain⟨g1,g2,g3,g4,g5⟩:=hw;go_simp;try with_reducible rfl
      simp only[Act.put];refine bG (v:=?v11) 11 rfl (by kernel_rfl) (by kernel_rfl) (by kernel_rfl) (by kernel_rfl) (fun _ _ _ h=>h) hS (.inl ⟨rfl,fun w hw=>?a6r⟩) ?aeP
      case a6r=>obtain⟨g1,g2,g3,g4,g5⟩:=hw;go_simp;try with_reducible rfl
      simp only[Act.put];refine bG (v:=?v12) 12 rfl (by kernel_rfl) (by kernel_rfl) (by kernel_rfl) (by kernel_rfl) (fun _ _ _ h=>h) hS (.inl ⟨rfl,fun w hw=>?a6s⟩) ?aeQ
      case a6s=>obtain⟨g1,g2,g3,g4,g5⟩:=hw;go_simp;try with_reducible rfl
      simp only[Act.put];refine bG (v:=?v13) 13 rfl (by kernel_rfl) (by kernel_rfl) (by kernel_rfl) (by kernel_rfl) (fun _ _ _ h=>h) hS (.inl ⟨rfl,fun w hw=>?aeR⟩) ?am4
      case aeR=>obtain⟨g1,g2,g3,g4,g5⟩:=hw;go_simp;try with_reducible rfl
      simp only[Act.put];refine bG (v:=?v14) 14 rfl (by kernel_rfl) (by kernel_rfl) (by kernel_rfl) (by kernel_rfl) (fun _ _ _ h=>h) hS (.inl ⟨rfl,fun w hw=>?a6t⟩) ?aeS
      case a6t=>obtain⟨g1,g2,g3,g4,g5⟩:=hw;go_simp;try with_reducible rfl
      simp only[Act.put];refine bG (v:=?v15) 15 rfl (by kernel_rfl) (by kernel_rfl) (by kernel_rfl) (by kernel_rfl) (fun _ _ _ h=>h) hS (.inl ⟨rfl,fun w hw=>?a6u⟩) ?aeT
      case a6u=>obtain⟨g1,g2,g3,g4,g5⟩:=hw;go_simp;try with_reducible rfl
      simp only[Act.put];refine bG (v:=?v16) 16 rfl (by kernel_rfl) (by kernel_rfl) (by kernel_rfl) (by kernel_rfl) (fun _ _ _ h=>h) hS (.inl ⟨rfl,fun w hw=>?a6v⟩) ?aeU
      case a6v=>obtain⟨g1,g2,g3,g4,g5⟩:=hw;go_simp;try with_reducible rfl
      simp only[Act.put];refine bG (v:=?v17) 17 rfl (by kernel_rfl) (by kernel_rfl) (by kernel_rfl) (by kernel_rfl) (fun _ _ _ h=>h) hS (.inl ⟨rfl,fun w hw=>?a6w⟩) ?aeV
      case a6w=>obtain⟨g1,g2,g3,g4,g5⟩:=hw;go_simp;try with_reducible rfl
      simp only[Act.put];refine bG (v:=?v18) 18 rfl (by kernel_rfl) (by kernel_rfl) (by kernel_rfl) (by kernel_rfl) (fun _ _ _ h=>h) hS (.inl ⟨rfl,fun w hw=>?a6x⟩) ?aeW
      case a6x=>obtain⟨g1,g2,g3,g4,g5⟩:=hw;go_simp;try with_reducible rfl
      simp only[Act.put];refine bG (v:=?v20) 20 rfl (by kernel_rfl) (by kernel_rfl) (by kernel_rfl) (by kernel_rfl) (fun _ _ _ h=>h) hS (.inl ⟨rfl,fun w hw=>?a6y⟩) ?aeX
      case a6y=>obtain⟨g1,g2,g3,g4,g5⟩:=hw;go_simp;try with_reducible rfl
      simp only[Act.put];refine bG (v:=?v21) 21 rfl (by kernel_rfl) (by kernel_rfl) (by kernel_rfl) (by kernel_rfl) (fun _ _ _ h=>h) hS (.inl ⟨rfl,fun w hw=>?a6z⟩) ?aeY
      case a6z=>obtain⟨g1,g2,g3,g4,g5⟩:=hw;go_simp;try with_reducible rfl
      simp only[Act.put];refine bG (v:=?v22) 22 rfl (by kernel_rfl) (by kernel_rfl) (by kernel_rfl) (by kernel_rfl) (fun _ _ _ h=>h) hS (.inl ⟨rfl,fun w hw=>?aeZ⟩) ?am5
      case aeZ=>obtain⟨g1,g2,g3,g4,g5⟩:=hw;go_simp;try with_reducible rfl
      simp only[Act.put];refine bG (v:=?v23) 23 rfl (by kernel_rfl) (by kernel_rfl) (by kernel_rfl) (by kernel_rfl) (fun _ _ _ h=>h) hS (.inl ⟨rfl,fun w hw=>?af0⟩) ?am6
      case af0=>obtain⟨g1,g2,g3,g4,g5⟩:=hw;go_simp;try with_reducible rfl
      simp only[Act.put];refine bG (v:=?v24) 24 rfl (by kernel_rfl) (by kernel_rfl) (by kernel_rfl) (by kernel_rfl) (fun _ _ _ h=>h) hS (.inl ⟨rfl,fun w hw=>?hy24⟩) ?am7
      case hy24=>obtain⟨g1,g2,g3,g4,g5⟩:=hw;go_simp;try with_reducible rfl
      simp only[Act.put];refine bG (v:=?v25) 25 rfl (by kernel_rfl) (by kernel_rfl) (by kernel_rfl) (by kernel_rfl) (fun _ _ _ h=>h) hS (.inl ⟨rfl,fun w hw=>?hy25⟩) ?am8
      case hy25=>obtain⟨g1,g2,g3,g4,g5⟩:=hw;go_simp;try with_reducible rfl
      simp only[Act.put];refine bG (v:=?v26) 26 rfl (by kernel_rfl) (by kernel_rfl) (by kernel_rfl) (by kernel_rfl) (fun _ _ _ h=>h) hS (.inl ⟨rfl,fun w hw=>?af1⟩) ?am9
      case af1=>obtain⟨g1,g2,g3,g4,g5⟩:=hw;go_simp;try with_reducible rfl
      simp only[Act.put];refine bG (v:=?v27) 27 rfl (by kernel_rfl) (by kernel_rfl) (by kernel_rfl) (by kernel_rfl) (fun _ _ _ h=>h) hS (.inl ⟨rfl,fun w hw=>?hy27⟩) ?ama
      case hy27=>obtain⟨g1,g2,g3,g4,g5⟩:=hw;go_simp;try with_reducible rfl
      simp only[Act.put];refine jW 19 (by kernel_rfl) rfl (fun K hK=>?_);go_simp;go_wp2_with(go_at_call 48;refine(SRd _ (below_drewN (aG _ _) 1)).mono ?_;rintro e w4 ⟨rfl,b4⟩);have bb4:Below w3.heap.size w3 w4:=aH (below_drewN (aG w3.heap.size w3) 1) b4;have hS4:S9 Bw WB PB BS n (tV Bd Bl) (.slice Af l'.length xU) (.slice ov ps.length kv) w4:=KEEP w4 bb4;refine hK.out _ _ (fun _=>hS4) ?_;clear hK;refine jW 28 (by kernel_rfl) rfl (fun K hK=>?_);go_simp;go_wp2_with(go_at_call 48;refine(SLd _ bb4).mono ?_;rintro e w5 ⟨rfl,b5⟩);have bb5:=aH bb4 b5;have hS5:S9 Bw WB PB BS n (tV Bd Bl) (.slice Af l'.length xU) (.slice ov ps.length kv) w5:=KEEP w5 bb5;refine hK.out _ _ (fun _=>hS5) ?_;clear hK;refine jW 29 (by kernel_rfl) rfl (fun K hK=>?_);go_simp;go_wp2_with(go_at_call 192;refine(RLd _ bb5).mono ?_;rintro e w6 ⟨rfl,b6⟩);have bb6:=aH bb5 b6;have hS6:S9 Bw WB PB BS n (tV Bd Bl) (.slice Af l'.length xU) (.slice ov ps.length kv) w6:=KEEP w6 bb6;refine hK.out _ _ (fun _=>hS6) ?_;clear hK;refine bG (v:=?v30) 30 rfl (by kernel_rfl) (by kernel_rfl) (by kernel_rfl) (by kernel_rfl) (fun _ _ _ h=>h) hS6 (.inl ⟨rfl,fun w hw=>?af6⟩) ?amb
      case af6=>obtain⟨g1,g2,g3,g4,g5⟩:=hw;go_simp;try with_reducible rfl
      simp only[Act.put];refine jW 31 (by kernel_rfl) rfl (fun K hK=>?_);go_simp;have hS7:S9 Bw WB PB BS n (tV Bd Bl) (.slice Af l'.length xU) (.slice ov ps.length kv) (w6.alloc (.cells #[aa n,.slice Af l'.length xU,bV fill,bV rule,aa (G6 level)] 134)):=⟨bK _ hS6.1,bK _ hS6.2.1,bK _ hS6.2.2.1,bK _ hS6.2.2.2.1,bK _ hS6.2.2.2.2⟩;have Px:=OW6 w6 bb6;have hs6:=bb6.size;have H0:=dw w6 #[aa n,.slice Af l'.length xU,bV fill,bV rule,aa (G6 level)] 134;refine hK.out _ _ (fun _=>hS7) ?_;clear hK;refine jW 32 (by kernel_rfl) rfl (fun K hK=>?_);refine step_append_lies _ rfl (.tmp 57) (.tmp 84) 63 rfl base 134 i0 (.agg #[aa 0,.slice none 0 0,.string ⟨#[]⟩,.string ⟨#[]⟩,aa 0]) 5 72 underlying63 hi hz0 hz1 hz2 rfl (by decide) (.slice ov ps.length kv) ps.length (cellsS ps) rfl Px ⟨w6.heap.size,0,none⟩ 1 1 [aa n,.slice Af l'.length xU,bV fill,bV rule,aa (G6 level)] rfl rfl (World.news_of_block H0) (fun u hu=>by simp at hu;rcases hu with rfl|rfl|rfl|rfl|rfl<;>rfl) (by decide) (by simp only[maxLen];omega) (by omega) (by simp;omega) _ rfl ?_;intro g7 tK w7 kN jS NP a4M;obtain⟨hS8,t6⟩:=A7 w6 bb6 w7 jS;have t5:=hS8.2.2.2.2;refine hK.out _ _ (fun _=>hS8) ?_;clear hK;simp only[Act.put];refine jW 33 (by kernel_rfl) rfl (fun K hK=>?_);go_simp;refine hK.out _ _ (fun _=>hS8) ?_;clear hK;refine jW 34 (by kernel_rfl) rfl (fun K hK=>?_);go_simp;refine hK.out _ _ (fun _=>hS8) ?_;clear hK;refine jW 35 (by kernel_rfl) rfl (fun K hK=>?_);go_simp;refine hK.out _ _ (fun h=>absurd rfl h) ?_;clear hK;refine Pv (by kernel_rfl) ?_ _;go_wp2_with fail;go_ret;have b37:=aH aeJ.out (aH bb6 (bT w6 (.cells #[aa n,.slice Af l'.length xU,bV fill,bV rule,aa (G6 level)] 134)));obtain⟨r1,r2,r3⟩:=Sc.app (x:=⟨n,Af,xU,l',fill,rule,G6 level⟩) HS.out b37 ((HB3.out.keep (aH bb6 (bT w6 _))).low hbase) HR.out kN jS NP;exact⟨⟨rfl,ps++[⟨n,Af,xU,l',fill,rule,G6 level⟩],_,by rw[List.map_append];rfl,r1,r3⟩,r2⟩
end
end
section
open Go.RowKit Go.Shelf
abbrev fnV (f WB:Nat):ah:=.func (.func f) #[ay WB] #[]
abbrev shV (Br Bw:Nat):ah:=.func (.func 190) #[] #[ay Br,ay Bw]
def ByR (WB f:Nat)(W:ag)(e:Ending)(w':ag):Prop:=∃Br Bw,e=.returned (shV Br Bw)/\w'.cell? (ak Br 0)=some (fnV f WB)/\w'.heap[Bw]? =some (.cells #[ay WB] 115)/\Below W.heap.size W w'
theorem zJ (WB f:Nat)(W:ag):au 141 #[ay WB,fnV f WB] W fun e w'=>ByR WB f W e w':=by
 have b0:=bT W (.cells #[ay WB] 115);have K0:=dw W #[ay WB] 115;have b1:=bT (W.alloc (.cells #[ay WB] 115)) (.cells #[fnV f WB] 229);have K1:=dw (W.alloc (.cells #[ay WB] 115)) #[fnV f WB] 229;have K2:=(b1.block _ (bu K0)).trans K0;rw[dB] at K1;have HH:Hid (ByR WB f W (.returned (shV (W.heap.size+1) W.heap.size)) ((W.alloc (.cells #[ay WB] 115)).alloc (.cells #[fnV f WB] 229))):=⟨_,_,rfl,aD K1 0 _ rfl,K2,aH b0 b1⟩;clear b0 K0 b1 K1 K2;go_enter func141,ntmps141;go_wp2;go_ret;exact HH.out
section
variable (WB:Nat)(W:ag)
theorem a2v:au 90 #[ay WB,bV Eu] W fun e w'=>ByR WB 142 W e w':=by
 have BY:=zJ WB 142 W;unfold Eu;go_enter func90,ntmps90;go_wp2_with(go_at_call 141;refine BY.mono ?_;rintro e w1 ⟨Br,Bw,rfl,h1,h2,h3⟩);go_ret;exact⟨Br,Bw,rfl,h1,h2,h3⟩
theorem YT:au 90 #[ay WB,bV uA] W fun e w'=>ByR WB 143 W e w':=by
 have BY:=zJ WB 143 W;unfold uA;go_enter func90,ntmps90;go_wp2_with(go_at_call 141;refine BY.mono ?_;rintro e w1 ⟨Br,Bw,rfl,h1,h2,h3⟩);go_ret;exact⟨Br,Bw,rfl,h1,h2,h3⟩
theorem UL:au 90 #[ay WB,bV nH] W fun e w'=>e=.returned (fnV 144 WB)/\w'=W:=by
 unfold nH;go_enter func90,ntmps90;go_wp2;go_ret;exact⟨rfl,rfl⟩
theorem a2w:au 90 #[ay WB,bV Lr] W fun e w'=>e=.returned (fnV 145 WB)/\w'=W:=by
 unfold Lr;go_enter func90,ntmps90;go_wp2;go_ret;exact⟨rfl,rfl⟩
theorem YU (nm:Bs)(h:pQ nm=false):au 90 #[ay WB,bV nm] W fun e w'=>e=.returned .nilFunc/\w'=W:=by
 have h1:=gD nm Eu;have h2:=gD nm uA;have h3:=gD nm nH;have h4:=gD nm Lr;have hh:(nm==Eu)=false/\(nm==uA)=false/\(nm==nH)=false/\(nm==Lr)=false:=by
  unfold pQ at h;simp only[Bool.or_eq_false_iff] at h;exact⟨h.1.1.1,h.1.1.2,h.1.2,h.2⟩
 obtain⟨q1,q2,q3,q4⟩:=hh;rw[q1] at h1;rw[q2] at h2;rw[q3] at h3;rw[q4] at h4;unfold Eu at h1 q1;unfold uA at h2 q2;unfold nH at h3 q3;unfold Lr at h4 q4;clear h;go_enter func90,ntmps90;go_wp2;go_ret;exact⟨rfl,rfl⟩
end
structure En (E:Nat->Addr)(B:Nat)(tg:bP)(W0:ag)(DB MB:Nat)(p:Int->Option Nat)(M:Dm)(nx c:Nat)(r:Int->Nat)(l:List Rl)(B0:Nat)(rv:ah):Prop where
 ds:jm B tg W0 DB MB p M nx c r
 ne:NE E W0
 fit:EA M
 sz:SzD M
 ok:∀x∈l,RlG x
 row:W0.ownsRow B0 109 3 rv l.length (eY l)
structure xw (WB DB Bd Bl:Nat)(rv:ah)(W0:ag)(k:Nat)(ps:List dI)(v:ah)(V:ag):Prop where
 low:Below W0.heap.size W0 V
 wb:W0.heap.size<=WB
 bd:V.heap[Bd]? =some (.cells #[ay DB] 55)
 bl:V.heap[Bl]? =some (.cells #[rv] 58)
 sc:Sc W0.heap.size WB DB (tV Bd Bl) k ps v V
section
variable {WB DB Bd Bl:Nat}{rv:ah}{W0:ag}{k k':Nat}{ps ps':List dI}{v v':ah}{V V':ag}
theorem xw.next (h:xw WB DB Bd Bl rv W0 k ps v V)(hk:Kw WB v V V')(hs:Sc W0.heap.size WB DB (tV Bd Bl) k' ps' v' V'):xw WB DB Bd Bl rv W0 k' ps' v' V':=
 ⟨h.low.trans (Sc.low h.sc hk h.wb h.low.size),h.wb,h.sc.keep hk h.bd (by decide) (by decide),h.sc.keep hk h.bl (by decide) (by decide),hs⟩
theorem xw.below (h:xw WB DB Bd Bl rv W0 k ps v V)(hb:Below V.heap.size V V'):xw WB DB Bd Bl rv W0 k ps v V':=h.next (Kw.of_below hb) (h.sc.below hb)
theorem xw.ints (h:xw WB DB Bd Bl rv W0 k ps v V)(hk:Kw WB v V V'){b n:Nat}{u:ah}{xs:List ah}(ho:V.ownsRow b 3 1 u n xs):V'.ownsRow b 3 1 u n xs:=
 bS ho fun g hg=>by
  obtain⟨cs,f,h1, -⟩:=dS ho g hg;rw[h1];exact h.sc.keep hk h1 (by decide) (by decide)
end
theorem fold_at {α β ε:Type}(g:β->α->Except ε β)(l:List α)(s s':β)(j:Nat)(h:(l.take j).foldlM g s=.ok s'):l.foldlM g s=(l.drop j).foldlM g s':=by
 conv=>lhs;rw[<- List.take_append_drop j l]
 rw[List.foldlM_append,h];rfl
theorem UM {α β ε:Type}(g:β->α->Except ε β)(l:List α)(s s' s'':β)(j:Nat)(x:α)(h:(l.take j).foldlM g s=.ok s')(hx:l[j]? =some x)(h2:g s' x=.ok s''):(l.take (j+1)).foldlM g s=.ok s'':=by
 rw[List.take_add_one,hx,List.foldlM_append,h];show([x].foldlM g s')=_;rw[List.foldlM_cons,h2];rfl
theorem YV {α β ε:Type}(g:β->α->Except ε β)(l:List α)(s s':β)(j:Nat)(x:α)(e:ε)(h:(l.take j).foldlM g s=.ok s')(hx:l[j]? =some x)(h2:g s' x=.error e):l.foldlM g s=.error e:=by
 obtain⟨hj,hx'⟩:=jc.1 hx;rw[fold_at g l s s' j h,List.drop_eq_getElem_cons hj,List.foldlM_cons,hx',h2];rfl
theorem yx {α:Type}(g:Nat×List Pc->α->Except Ft (Nat×List Pc))(hg:∀s x s',g s x=.ok s'->s.1<=s'.1):∀(l:List α) (s s':Nat×List Pc),l.foldlM g s=.ok s'->s.1<=s'.1
 |[],s,s',h=>by cases h;exact Nat.le_refl _
 |x::l,s,s',h=>by
  rw[List.foldlM_cons] at h;cases hx:g s x with
  |error e=>rw[hx] at h;cases h
  |ok t=>
   rw[hx] at h;exact aJ (hg s x t hx) (yx g hg l t s' h)
theorem yA (M:Dm)(l:List Rl):∀(f:Nat) (n:Int) (path:List Int) (m:Mv) (st s':Nat×List Pc),dM M l f n path m st=.ok s'->st.1<=s'.1
 |0,n,path,m,st,s',h=>by
  unfold dM at h;split at h<;>cases h
 |f+1,n,path,m,st,s',h=>by
  unfold dM at h;split at h
  ·cases h
  split at h
  ·cases h
  split at h
  ·cases h;exact Nat.le_succ _
  have PC:∀(m':Mv) (x:Except Nat (List Qt)),iF M l n m' x (st.1+1,st.2)=.ok s'->st.1<=s'.1:=fun m' x h=>by
   unfold iF at h;split at h
   ·cases h
   ·split at h
    ·cases h
    ·split at h<;>cases h<;>exact Nat.le_succ _
  split at h
  ·cases h
  ·split at h
   ·exact PC _ _ h
   ·split at h
    ·exact PC _ _ h
    ·split at h
     ·exact aJ (Nat.le_succ _) (yx _ (fun s x s' h=>yA M l f x _ _ s s' h) _ (st.1+1,st.2) s' h)
     ·split at h
      ·cases h
      ·exact aJ (Nat.le_succ _) (yA M l f _ _ _ (st.1+1,st.2) s' h)
theorem Dq {α:Type}(g:Nat×List Pc->α->Except Ft (Nat×List Pc))(hg:∀s x s',g s x=.ok s'->s.2.length<=s.1->s'.2.length<=s'.1):∀(l:List α) (s s':Nat×List Pc),l.foldlM g s=.ok s'->s.2.length<=s.1->s'.2.length<=s'.1
 |[],s,s',h,h0=>by cases h;exact h0
 |x::l,s,s',h,h0=>by
  rw[List.foldlM_cons] at h;cases hx:g s x with
  |error e=>rw[hx] at h;cases h
  |ok t=>
   rw[hx] at h;exact Dq g hg l t s' h (hg s x t hx h0)
theorem rT (M:Dm)(l:List Rl):∀(f:Nat) (n:Int) (path:List Int) (m:Mv) (st s':Nat×List Pc),dM M l f n path m st=.ok s'->st.2.length<=st.1->s'.2.length<=s'.1
 |0,n,path,m,st,s',h,_=>by
  unfold dM at h;split at h<;>cases h
 |f+1,n,path,m,st,s',h,h0=>by
  unfold dM at h;split at h
  ·cases h
  split at h
  ·cases h
  split at h
  ·cases h;exact Nat.le_succ_of_le h0
  have PC:∀(m':Mv) (x:Except Nat (List Qt)),iF M l n m' x (st.1+1,st.2)=.ok s'->s'.2.length<=s'.1:=fun m' x h=>by
   unfold iF at h;split at h
   ·cases h
   ·split at h
    ·cases h
    ·split at h
     ·cases h;exact Nat.le_succ_of_le h0
     ·cases h;rw[List.length_append];exact Nat.succ_le_succ h0
  split at h
  ·cases h
  ·split at h
   ·exact PC _ _ h
   ·split at h
    ·exact PC _ _ h
    ·split at h
     ·exact Dq _ (fun s x s' h=>rT M l f x _ _ s s' h) _ (st.1+1,st.2) s' h (Nat.le_succ_of_le h0)
     ·split at h
      ·cases h
      ·exact rT M l f _ _ _ (st.1+1,st.2) s' h (Nat.le_succ_of_le h0)
theorem YW {M:Dm}{n:Int}{m m':Mv}(hm:m.ok)(h:uC M n m=.ok m'):m'.ok:=by
 unfold uC at h;split at h
 ·cases h
 ·next h1=>
  split at h
  ·next h2=>
   cases h;exact((xM (Me (by omega)) hm).2 h2).1
  ·cases h
theorem a6D (p:Rl->Bool):∀(l:List Rl),(∀x∈l,NV x)->(E9 p l).1.length<=12:=fun l=>by
 have key:∀(l:List Rl) (a:Bs×Bool×Nat),(∀x∈l,NV x)->a.1.length<=12->(l.foldl (jL p) a).1.length<=12:=fun l=>by
  induction l with
  |nil=>intro a _ ha;exact ha
  |cons x l ih=>
   intro a hl ha;refine ih _ (fun y hy=>hl y (by simp[hy])) ?_;have hv:=(hl x (by simp)).2.2.1;unfold xI at hv;simp only[Bool.and_eq_true,decide_eq_true_eq] at hv;by_cases h1:a.2.2<=wtM x.wh
   ·cases h2:p x with
    |true=>rw[Bp h1 h2];exact hv.1.2
    |false=>rw[Fv h2];exact ha
   ·rw[Bo h1];exact ha
 intro hl;exact key l _ hl (by simp)
theorem a6E {M:Dm}{l:List Rl}(hz:SzD M)(hl:∀x∈l,NV x)(nm:Bs)(n:Int):(ofM M l nm n).length<=200:=by
 have F:(firstM nm).length<=200:=by
  unfold firstM
  repeat' split
  all_goals decide
 have key:∀(f:Nat) (n:Int),(JN M l nm f n).length<=200:=fun f=>by
  induction f with
  |zero=>intro n;exact F
  |succ f ih=>
   intro n;unfold JN;split
   ·exact F
   ·split
    ·next v hv=>
     unfold wB at hv;split at hv
     ·next v' ha=>cases hv;exact Iz hz ha
     ·split at hv
      ·cases hv;exact aJ (a6D _ l hl) (by omega)
      ·cases hv
    ·split
     ·exact ih _
     ·exact F
 unfold ofM;split
 ·exact key 12 n
 ·simp
section
variable {E:Nat->Addr}{B:Nat}{tg:bP}{W0:ag}{DB MB:Nat}{p:Int->Option Nat}{M:Dm}{nx c:Nat}{r:Int->Nat}{l:List Rl}{B0:Nat}{rv:ah}{WB Bd Bl:Nat}
theorem En.style (h:En E B tg W0 DB MB p M nx c r l B0 rv){k:Nat}{ps:List dI}{v:ah}{V:ag}(hw:xw WB DB Bd Bl rv W0 k ps v V)(n:Int)(hn:dR n)(nm:Bs):
  au 48 #[aa n,bV nm,ay Bd,ay Bl] V fun e w'=>e=.returned (bV (ofM M l nm n))/\Below V.heap.size V w':=
 UH (h.ds.below hw.low).w h.ds.d h.fit l h.ok B0 rv (aQ h.row hw.low) Bd Bl (aD hw.bd 0 _ rfl) (aD hw.bl 0 _ rfl) n hn nm
def COME (E:Nat->Addr)(WB DB Bd Bl:Nat)(rv:ah)(W0:ag)(M:Dm)(l:List Rl)(f:Nat):Prop:=∀(k:Nat) (ps:List dI) (v:ah) (V:ag) (n n0:Int) (m:Mv) (path:List (Int×Mv)) (q:Nat),101<=f+k->ps.length<=k->dR n->xw WB DB Bd Bl rv W0 k ps v V->fO V (some q) ((n0,m)::path)->m.ok->
 au 50 #[ay WB,aa n,ay q] V fun e w'=>jo E W0.heap.size WB DB (tV Bd Bl) v V (dM M l f n (n0::path.map Prod.fst) m (k,ps.map dI.pc)) e w'/\Kw WB v V w'
def GrL (WB DB Bd Bl:Nat)(rv:ah)(W0:ag)(V:ag)(v:ah)(g:Nat×List Pc->Int->Except Ft (Nat×List Pc))(ks:List Int)(s:Nat×List Pc)(j:Nat)(wr:ag):Prop:=∃ps' v',(ks.take j).foldlM g s=.ok ps'/\∃qs,qs.map dI.pc=ps'.2/\xw WB DB Bd Bl rv W0 ps'.1 qs v' wr/\Kw WB v V wr/\(v'.ownBlock=v.ownBlock\/∀b,v'.ownBlock=some b->V.heap.size<=b)
end
end
section
open Go.RowKit Go.Shelf
set_option maxRecDepth 20000
section
variable {E:Nat->Addr}{B:Nat}{tg:bP}{W0:ag}{DB MB:Nat}{p:Int->Option Nat}{M:Dm}{nx c:Nat}{r:Int->Nat}{l:List Rl}{B0:Nat}{rv:ah}{WB Bd Bl:Nat}
theorem a2x (h:En E B tg W0 DB MB p M nx c r l B0 rv)(n:Int):(∀x∈rJ M n,dR x)/\(rJ M n).length<=100:=by
 unfold rJ;cases hm:M n with
 |none=>exact⟨fun x hx=>(by cases hx),aP _⟩
 |some e=>exact⟨(h.ds.w.wf n e hm).2,h.ds.few hm⟩
theorem xg {v v' v2:ah}{V wr:ag}(h:v'.ownBlock=v.ownBlock\/∀b,v'.ownBlock=some b->V.heap.size<=b)(h2:v2.ownBlock=v'.ownBlock\/∀b,v2.ownBlock=some b->wr.heap.size<=b)(hs:V.heap.size<=wr.heap.size):v2.ownBlock=v.ownBlock\/∀b,v2.ownBlock=some b->V.heap.size<=b:=by
 rcases h2 with e|e
 ·rw[e];exact h
 ·exact .inr fun b hb=>aJ hs (e b hb)
theorem ET (h:En E B tg W0 DB MB p M nx c r l B0 rv)(f:Nat)(hC:COME E WB DB Bd Bl rv W0 M l f)(k:Nat)(ps:List dI)(v:ah)(V:ag)(n:Int)(m:Mv)(path:List (Int×Mv))(q:Nat)(hf:101<=f+k)(YX:ps.length<=k)(hn:dR n)(hw:xw WB DB Bd Bl rv W0 k ps v V)(hp:fO V (some q) ((n,m)::path))(hm:m.ok):
  au 144 #[ay WB,ay q] V fun e w'=>jo E W0.heap.size WB DB (tV Bd Bl) v V ((dM.QU M n).foldlM (fun s x=>dM M l f x (n::path.map Prod.fst) m s) (k,ps.map dI.pc)) e w'/\Kw WB v V w':=by
 obtain⟨hkw,hkl⟩:=a2x h n;have hwd:=hw.below (below_drewN (aG V.heap.size V) 1);have KD:=Yf (h.ds.below hwd.low).w n hn (by omega);have HC:=aj hC;have HW:=aj hw;have HP:=aj hp;have HM:Hid m.ok:=hm;have HKW:=aj hkw;have w0:=aD hw.sc.wb 0 _ rfl;have q0:V.cell? (ak q 0)=some (aa n):=by
  obtain⟨b,q',h1,h2, -⟩:=hp;cases h1;exact aD h2 0 _ rfl
 obtain⟨g,hg⟩:∃g:Nat×List Pc->Int->Except Ft (Nat×List Pc),(fun s x=>dM M l f x (n::path.map Prod.fst) m s)=g:=⟨_,rfl⟩;rw[hg];have HG:=aj hg;have hgr:Hid (∀(L:List Int) (s s':Nat×List Pc),L.foldlM g s=.ok s'->s.1<=s'.1):=(fun L s s' h=>yx g (fun s x s' hs=>yA M l f x _ m s s' (by rw[<- hg] at hs;exact hs)) L s s' h:∀(L:List Int) (s s':Nat×List Pc),L.foldlM g s=.ok s'->s.1<=s'.1);have hfw:Hid (∀(L:List Int) (s':Nat×List Pc),L.foldlM g (k,ps.map dI.pc)=.ok s'->s'.2.length<=s'.1):=(fun L s' h=>Dq g (fun s x s' hs=>rT M l f x _ m s s' (by rw[<- hg] at hs;exact hs)) L (k,ps.map dI.pc) s' h (by simpa using YX):∀(L:List Int) (s':Nat×List Pc),L.foldlM g (k,ps.map dI.pc)=.ok s'->s'.2.length<=s'.1);show Calls _ _ _ _ fun e w'=>jo E W0.heap.size WB DB (tV Bd Bl) v V ((rJ M n).foldlM g (k,ps.map dI.pc)) e w'/\Kw WB v V w';generalize rJ M n=ks at KD HKW hkl⊢;clear hkw hw hp hm hC hg hwd;go_enter func144,ntmps144;go_upto_region 1 with fail
 go_region_held3 (fun w'=>w'.cell? (ak WB 0)=some (ay DB)/\w'.cell? (ak q 0)=some (aa n)) (first|exact⟨w0,q0⟩|exact⟨z1,z2⟩) (first|(go_at_call 196;refine KD.mono ?_;rintro e w1 ⟨ok,kk,rfl,hown,hb1⟩;have z1:=(hb1.cell (aF (w:=V.drew) w0)).trans w0;have z2:=(hb1.cell (aF (w:=V.drew) q0)).trans q0))
 all_goals
  have bV1:Below V.heap.size V w1:=⟨hb1.os,hb1.tape,hb1.output,hb1.size,hb1.block⟩;have W1:Hid (xw WB DB Bd Bl rv W0 k ps v w1):=(HW.out.below bV1:xw WB DB Bd Bl rv W0 k ps v w1);have HO:=aj hown;clear hown hb1 KD w0 q0;have hcap:(ks.length:Int)<=(kk:Int):=by
   obtain⟨o',c',h1,h2, -⟩:=dL HO.out;cases h1;omega
  clear z1 z2;go_wp2_with fail
  go_loopw [18] (fun y wr=>∃j:Nat,j<=ks.length/\y=aa j/\GrL WB DB Bd Bl rv W0 w1 v g ks (k,ps.map dI.pc) j wr) (fun y _=>ks.length-(intOf y).toNat)
  case atStart=>exact⟨0,aP _,rfl,(k,ps.map dI.pc),v,rfl,ps,rfl,W1.out,Kw.refl _ _ _,.inl rfl⟩
  case round=>
   obtain⟨j,hj,rfl,st,v',hfo,qs,hqs,hwk,hkw,hloc⟩:=hrel;have HFO:=aj hfo;have HQS:=aj hqs;have HWK:=aj hwk;have HK:=aj hkw;have HL:=aj hloc;clear hfo hqs hwk hkw hloc;by_cases hlt:j<ks.length
   ·have hlt':(j:Int)<(ks.length:Int):=by omega
    obtain⟨x,hx, -⟩:=drop_at hlt;have HX:=aj hx;have hOr:=W1.out.ints HK.out HO.out;obtain⟨gb,c0⟩:∃gb,ok=some ⟨gb,0,none⟩/\wr.cell? (ak gb j)=some (aa x):=by
     rcases ints_at hOr with⟨h1, -⟩|⟨gb,cap,h1, -,h3⟩
     ·rw[h1] at hlt;simp at hlt
     ·cases h1;exact⟨gb,rfl,h3 j x hx⟩
    obtain⟨rfl,c0⟩:=c0;clear hOr;have hcnt:=hgr.out _ _ _ HFO.out;have hqf:qs.length<=st.1:=by
     have:=hfw.out _ _ HFO.out;rw[<- HQS.out,List.length_map] at this;exact this
    have hpt:fO wr (some q) ((n,m)::path):=W1.out.sc.path HK.out (HW.out.sc.path (Kw.of_below bV1) HP.out);have CM:=HC.out st.1 qs v' wr x n m path q (by simp only at hcnt;omega) hqf (HKW.out x (fV hx)) HWK.out hpt HM.out;have hst:(st.1,qs.map dI.pc)=st:=by rw[HQS.out]
    rw[hst] at CM;obtain⟨res,hres⟩:∃res,dM M l f x (n::path.map Prod.fst) m st=res:=⟨_,rfl⟩;rw[hres] at CM;have aaw:Hid (g st x=res):=by
     have h2:g st x=dM M l f x (n::path.map Prod.fst) m st:=by rw[<- HG.out]
     exact h2.trans hres
    clear hres hst hpt hcnt hx;cases res with
    |error ft=>
     have CM':au 50 #[ay WB,aa x,ay q] wr fun e w'=>∃pb,e=.returned (.iface 90 (ay pb))/\Hid (VE E ft wr.heap.size (.iface 90 (ay pb)) w'/\Kw WB v' wr w'):=CM.mono fun e w' ⟨⟨u,h1,h2⟩,h3⟩=>by
      obtain⟨pb,h4,rfl,h5⟩:=h2;exact⟨pb,h1,⟨pb,h4,rfl,h5⟩,h3⟩
     clear CM;go_wp2_with(go_at_call 50;refine CM'.mono ?_;rintro e w2 ⟨pb,rfl,h2⟩);go_ret;obtain⟨h2,h3⟩:=h2.out;have h4:=YV g ks _ _ j x ft HFO.out HX.out aaw.out;rw[h4];have hs1:=bV1.size;have hs2:=HK.out.size;exact⟨⟨_,rfl,h2.low (by omega)⟩,(Kw.of_below bV1).trans (.inl rfl) (HK.out.trans HL.out h3)⟩
    |ok s2=>
     have CM':au 50 #[ay WB,aa x,ay q] wr fun e w'=>e=.returned .nilIface/\Hid ((∃ps2 v2,ps2.map dI.pc=s2.2/\Sc W0.heap.size WB DB (tV Bd Bl) s2.1 ps2 v2 w'/\(v2.ownBlock=v'.ownBlock\/∀b,v2.ownBlock=some b->wr.heap.size<=b))/\Kw WB v' wr w'):=CM.mono fun e w' ⟨⟨h1,h2⟩,h3⟩=>⟨h1,h2,h3⟩;clear CM;go_wp2_with(go_at_call 50;refine CM'.mono ?_;rintro e w2 ⟨rfl,h2⟩)
     go_roundw
     case rel=>
      obtain⟨⟨ps2,v2,h3,h4,h5⟩,h6⟩:=h2.out;exact⟨j+1,by omega,by go_num,s2,v2,UM g ks _ _ _ j x HFO.out HX.out aaw.out,ps2,h3,HWK.out.next h6 h4,HK.out.trans HL.out h6,xg HL.out h5 HK.out.size⟩
     case measure=>simp[intOf];omega
   ·obtain rfl:j=ks.length:=by omega
    have hge:¬(ks.length:Int)<(ks.length:Int):=by omega
    go_wp2_with fail;go_ret;have h1:=HFO.out;rw[List.take_length] at h1;rw[h1];exact⟨⟨rfl,qs,v',HQS.out,HWK.out.sc,xg (.inl rfl) HL.out bV1.size⟩,(Kw.of_below bV1).trans (.inl rfl) HK.out⟩
theorem Mm (h:En E B tg W0 DB MB p M nx c r l B0 rv)(f:Nat)(hC:COME E WB DB Bd Bl rv W0 M l f)(k:Nat)(ps:List dI)(v:ah)(V:ag)(n:Int)(m:Mv)(path:List (Int×Mv))(q:Nat)(hf:101<=f+k)(YX:ps.length<=k)(hn:dR n)(hw:xw WB DB Bd Bl rv W0 k ps v V)(hp:fO V (some q) ((n,m)::path))(hm:m.ok):
  au 145 #[ay WB,ay q] V fun e w'=>jo E W0.heap.size WB DB (tV Bd Bl) v V (match I6 M n with|none=>.error ⟨10,n⟩|some x=>dM M l f x (n::path.map Prod.fst) m (k,ps.map dI.pc)) e w'/\Kw WB v V w':=by
 have LD:=UG (h.ds.below hw.low) WB (aD hw.sc.wb 0 _ rfl) n hn;have q0:V.cell? (ak q 0)=some (aa n):=by
  obtain⟨b,q',h1,h2, -⟩:=hp;cases h1;exact aD h2 0 _ rfl
 have hwf:∀x,I6 M n=some x->dR x:=fun x hx=>by
  unfold I6 at hx;split at hx
  ·cases hx
  ·exact YJ h.ds x (List.mem_of_find?_eq_some hx)
 have e10:=(h.ne.below hw.low).c10;cases hl:I6 M n with
 |none=>
  rw[hl] at LD;have K10:∀V',Below V.heap.size V V'->V'.cell? (ak 9 0)=some (eV (E 10))/\V'.cell? (ak q 0)=some (aa n):=fun V' hb=>⟨(hb.cell (aF e10)).trans e10,(hb.cell (aF q0)).trans q0⟩;clear hC hf hw hp hm h hwf hl;go_enter func145,ntmps145;go_upto_region 3 with(go_at_call 197;refine LD.mono ?_;rintro e w1 ⟨he,hb1⟩;obtain rfl:e=.returned (.tuple #[aa 0,.bool false]):=he;obtain⟨k1,k2⟩:=K10 w1 hb1);go_region
  all_goals
   go_wp2;go_ret;exact⟨⟨_,rfl,w1.heap.size,hb1.size,rfl,dw _ _ _⟩,Kw.of_below (aH (hb1.trans (below_drewN (aG _ _) 1)) (bT _ _))⟩
 |some x=>
  rw[hl] at LD;have HC:Hid (∀w1,Below V.heap.size V w1->au 50 #[ay WB,aa x,ay q] w1 fun e w'=>jo E W0.heap.size WB DB (tV Bd Bl) v w1 (dM M l f x (n::path.map Prod.fst) m (k,ps.map dI.pc)) e w'/\Kw WB v w1 w'):=(fun w1 hb=>hC k ps v w1 x n m path q hf YX (hwf x hl) (hw.below hb) (hw.sc.path (Kw.of_below hb) hp) hm:∀w1,Below V.heap.size V w1->au 50 #[ay WB,aa x,ay q] w1 fun e w'=>jo E W0.heap.size WB DB (tV Bd Bl) v w1 (dM M l f x (n::path.map Prod.fst) m (k,ps.map dI.pc)) e w'/\Kw WB v w1 w');clear hC hf hw hp hm h hwf hl e10;simp only;generalize dM M l f x (n::path.map Prod.fst) m (k,ps.map dI.pc)=res at HC⊢;go_enter func145,ntmps145;go_wp2_with(first|(go_at_call 197;refine LD.mono ?_;rintro e w1 ⟨he,hb1⟩;obtain rfl:e=.returned (.tuple #[aa x,.bool true]):=he;have CM:=HC.out w1 hb1)|(go_at_call 50;refine CM.mono ?_;rintro e w2 ⟨h1,h2⟩;obtain⟨u,rfl⟩:∃u,e=.returned u:=(by cases res with|error ft=>(obtain⟨u,h3, -⟩:=h1;exact⟨u,h3⟩)|ok s2=>exact⟨_,h1.1⟩)));go_ret;refine⟨?_,(Kw.of_below hb1).trans (.inl rfl) h2⟩;cases res with
  |error ft=>obtain⟨u',h3,h4⟩:=h1;cases h3;exact⟨_,rfl,h4.low hb1.size⟩
  |ok s2=>
   obtain⟨h3,ps2,v2,h4,h5,h6⟩:=h1;exact⟨h3,ps2,v2,h4,h5,xg (.inl rfl) h6 hb1.size⟩
end
theorem a2y (d:Nat)(w:ag):(Op.equalIn (d+1) 174 .nilFunc .nilFunc).run prog w=.ok true w:=by simp[Op.equalIn,run_underlying underlying174]
theorem YY (d:Nat)(w:ag)(f:Fn)(a b:Array ah):(Op.equalIn (d+1) 174 (.func f a b) .nilFunc).run prog w=.ok false w:=by simp[Op.equalIn,run_underlying underlying174]
theorem a2z (w:ag):(binOp BinOp.eql 174 .nilFunc .nilFunc).run prog w=.ok (.bool true) w:=by
 have h:(Op.equal 174 .nilFunc .nilFunc).run prog w=.ok true w:=a2y 9999 w;simp[binOp,h]
theorem a2A (w:ag)(f:Fn)(a b:Array ah):(binOp BinOp.eql 174 (.func f a b) .nilFunc).run prog w=.ok (.bool false) w:=by
 have h:(Op.equal 174 (.func f a b) .nilFunc).run prog w=.ok false w:=YY 9999 w f a b;simp[binOp,h]
theorem xw.count {WB DB Bd Bl:Nat}{rv:ah}{W0:ag}{k:Nat}{ps:List dI}{v:ah}{V:ag}(h:xw WB DB Bd Bl rv W0 k ps v V):xw WB DB Bd Bl rv W0 (k+1) ps v (V.setCell ⟨WB,2,none⟩ (aa ((k:Int)+1)))/\Kw WB v V (V.setCell ⟨WB,2,none⟩ (aa ((k:Int)+1))):=by
 have far:∀b,b≠WB->(V.setCell ⟨WB,2,none⟩ (aa ((k:Int)+1))).heap[b]? =V.heap[b]? :=fun b hne=>aY _ _ _ b hne;have hK:Kw WB v V (V.setCell ⟨WB,2,none⟩ (aa ((k:Int)+1))):=⟨(Below.setCell (aG WB V) (p:=⟨WB,2,none⟩) ai _).os,(Below.setCell (aG WB V) (p:=⟨WB,2,none⟩) ai _).tape,(Below.setCell (aG WB V) (p:=⟨WB,2,none⟩) ai _).output,Nat.le_of_eq (World.size_setCell _ _ _).symm,fun b _ h1 _=>far b h1⟩;refine⟨h.next hK ⟨?_,?_,?_,h.sc.rt⟩,hK⟩
 ·have:=heap_setCell_same V WB 2 _ _ (aa ((k:Int)+1)) h.sc.wb;simpa using this
 ·exact bS h.sc.own fun g hg=>far g (fun e=>by
   obtain⟨cs,f,h1, -⟩:=dS h.sc.own g hg;rw[e,h.sc.wb] at h1;cases h1)
 ·intro x hx;exact bS (h.sc.pts x hx) fun g hg=>far g (fun e=>by
   obtain⟨cs,f,h1, -⟩:=dS (h.sc.pts x hx) g hg;rw[e,h.sc.wb] at h1;cases h1)
theorem jo.ret {E:Nat->Addr}{base WB DB:Nat}{sf v:ah}{V:ag}{x:Except Ft (Nat×List Pc)}{e:Ending}{w':ag}(h:jo E base WB DB sf v V x e w'):∃u,e=.returned u:=by
 cases x with
 |error f=>obtain⟨u,h1, -⟩:=h;exact⟨u,h1⟩
 |ok s=>exact⟨_,h.1⟩
theorem jo.low {E:Nat->Addr}{base WB DB:Nat}{sf v:ah}{V V':ag}{x:Except Ft (Nat×List Pc)}{e:Ending}{w':ag}(h:jo E base WB DB sf v V' x e w')(hs:V.heap.size<=V'.heap.size):jo E base WB DB sf v V x e w':=by
 cases x with
 |error f=>obtain⟨u,h1,h2⟩:=h;exact⟨u,h1,h2.low hs⟩
 |ok s=>obtain⟨h1,ps,v',h2,h3,h4⟩:=h;exact⟨h1,ps,v',h2,h3,xg (.inl rfl) h4 hs⟩
section
variable {E:Nat->Addr}{B:Nat}{tg:bP}{W0:ag}{DB MB:Nat}{p:Int->Option Nat}{M:Dm}{nx c:Nat}{r:Int->Nat}{l:List Rl}{B0:Nat}{rv:ah}{WB Bd Bl:Nat}
theorem UN (h:En E B tg W0 DB MB p M nx c r l B0 rv)(k:Nat)(ps:List dI)(v:ah)(V:ag)(n n0:Int)(m:Mv)(path:List (Int×Mv))(q:Nat)(hk:k<100)(hn:dR n)(hw:xw WB DB Bd Bl rv W0 k ps v V)(hp:fO V (some q) ((n0,m)::path))(hni:n ∉ n0::path.map Prod.fst)(hnm:pQ (Ev M n)=false):
  au 50 #[ay WB,aa n,ay q] V fun e w'=>jo E W0.heap.size WB DB (tV Bd Bl) v V (.ok (k+1,ps.map dI.pc)) e w'/\Kw WB v V w':=by
 have WI:=qb V (some q) ((n0,m)::path) n hp;have hdec:decide (n∈((n0,m)::path).map Prod.fst)=false:=decide_eq_false hni;unfold WiR at WI;rw[hdec] at WI;simp only[pV,Option.map_some] at WI;replace WI:au 89 #[ay q,aa n] V fun e w'=>e=.returned (.bool false)/\V=w':=WI.mono fun e w' h=>⟨h.1,h.2.symm⟩;obtain⟨hw1,hk1⟩:=hw.count;have NA:=oh (h.ds.below hw1.low).w n hn;have c2:=aD hw.sc.wb 2 _ rfl;have f2:=dz hw.sc.wb 2;have hkz:(k:Int)<100:=by omega
 obtain⟨V1,hV1⟩:∃X,V.setCell ⟨WB,2,none⟩ (aa ((k:Int)+1))=X:=⟨_,rfl⟩;have NA':au 84 #[ay DB,aa n] (V.setCell ⟨WB,2,none⟩ (aa ((k:Int)+1))) fun r w'=>r=.returned (bV (Ev M n))/\V1=w':=NA.mono fun e w' h=>⟨h.1,hV1.symm.trans h.2.symm⟩;have c0:=aD hw1.sc.wb 0 _ rfl;rw[hV1] at hw1 hk1;have c1:=aD hw1.sc.wb 1 _ rfl;have fnn:=a2z;have WY:=YU WB V1 (Ev M n) hnm;have HF:Hid (jo E W0.heap.size WB DB (tV Bd Bl) v V (.ok (k+1,ps.map dI.pc)) (.returned .nilIface) V1/\Kw WB v V V1):=⟨⟨rfl,ps,v,rfl,hw1.sc,.inl rfl⟩,hk1⟩;generalize Ev M n=nm at NA' WY;clear NA hw hp hni hw1 hk1 h hnm hdec hV1;go_enter func50,ntmps50;go_wp2_with(first|(go_at_call 89;refine WI.mono ?_;rintro e w1 ⟨rfl,rfl⟩)|(go_at_call 84;refine NA'.mono ?_;rintro e w1 ⟨rfl,rfl⟩)|(go_at_call 90;refine WY.mono ?_;rintro e w1 ⟨rfl,rfl⟩));go_ret;exact HF.out
def af8 (WB F:Nat)(a b:List ah):Prop:=(F=190/\a=[]/\∃x y,b=[x,y])\/(a=[ay WB]/\b=[]/\(F=144\/F=145))
def a6G (E:Nat->Addr)(W0:ag)(WB DB Bd Bl:Nat)(rv v:ah)(k:Nat)(ps:List dI)(n:Int)(path:List (Int×Mv))(res:Mv->Except Ft (Nat×List Pc))(V1:ag)(e:Ending)(w1:ag):Prop:=∃(F:Nat) (a b:List ah),e=.returned (.func (.func F) a.toArray b.toArray)/\Below V1.heap.size V1 w1/\af8 WB F a b/\∀(m':Mv) (V':ag) (PB:Nat),m'.ok->Below w1.heap.size w1 V'->xw WB DB Bd Bl rv W0 (k+1) ps v V'->fO V' (some PB) ((n,m')::path)->au F (a++[Value.pointer (some ⟨PB,0,none⟩)]++b).toArray V' fun e w'=>jo E W0.heap.size WB DB (tV Bd Bl) v V' (res m') e w'/\Kw WB v V' w'
theorem YZ (h:En E B tg W0 DB MB p M nx c r l B0 rv)(k:Nat)(ps:List dI)(v:ah)(V:ag)(n n0:Int)(m:Mv)(path:List (Int×Mv))(q:Nat)(hk:k<100)(hn:dR n)(hw:xw WB DB Bd Bl rv W0 k ps v V)(hp:fO V (some q) ((n0,m)::path))(hni:n ∉ n0::path.map Prod.fst)(hm:m.ok)(res:Mv->Except Ft (Nat×List Pc))(WY:∀V1,au 90 #[ay WB,bV (Ev M n)] V1 fun e w1=>a6G E W0 WB DB Bd Bl rv v k ps n ((n0,m)::path) res V1 e w1):
  au 50 #[ay WB,aa n,ay q] V fun e w'=>jo E W0.heap.size WB DB (tV Bd Bl) v V (if(ofM M l uj n==kNo)=true then .ok (k+1,ps.map dI.pc) else match uC M n m with| .error c=>.error ⟨rD c,n⟩| .ok m'=>res m') e w'/\Kw WB v V w':=by
 have WI:=qb V (some q) ((n0,m)::path) n hp;have hdec:decide (n∈((n0,m)::path).map Prod.fst)=false:=decide_eq_false hni;unfold WiR at WI;rw[hdec] at WI;simp only[pV,Option.map_some] at WI;replace WI:au 89 #[ay q,aa n] V fun e w'=>e=.returned (.bool false)/\V=w':=WI.mono fun e w' h=>⟨h.1,h.2.symm⟩;obtain⟨hw1,hk1⟩:=hw.count;have NA:=oh (h.ds.below hw1.low).w n hn;have c2:=aD hw.sc.wb 2 _ rfl;have f2:=dz hw.sc.wb 2;have hkz:(k:Int)<100:=by omega
 obtain⟨V1,hV1⟩:∃X,V.setCell ⟨WB,2,none⟩ (aa ((k:Int)+1))=X:=⟨_,rfl⟩;have NA':au 84 #[ay DB,aa n] (V.setCell ⟨WB,2,none⟩ (aa ((k:Int)+1))) fun r w'=>r=.returned (bV (Ev M n))/\V1=w':=NA.mono fun e w' h=>⟨h.1,hV1.symm.trans h.2.symm⟩;have c0:=aD hw1.sc.wb 0 _ rfl;rw[hV1] at hw1 hk1;have c1:=aD hw1.sc.wb 1 _ rfl;have fns:=a2A;have WY:=WY V1;have ST:=fun w1 (b1:Below V1.heap.size V1 w1)=>h.style (hw1.below b1) n hn uj;have HW1:=aj hw1;have HK1:=aj hk1;have C1:Hid (∀w1,Below V1.heap.size V1 w1->w1.cell? (ak WB 1)=some (tV Bd Bl)):=(fun w1 b1=>(b1.cell (aF c1)).trans c1:∀w1,Below V1.heap.size V1 w1->w1.cell? (ak WB 1)=some (tV Bd Bl));have HH:=aj h;have HP1:Hid (fO V1 (some q) ((n0,m)::path)):=(hw.sc.path hk1 hp:fO V1 (some q) ((n0,m)::path));have HM:Hid m.ok:=hm;have hq:=gD (ofM M l uj n) kNo;generalize Ev M n=nm at NA' WY;clear NA hw hp hni hw1 hk1 h hdec hm hV1;generalize ofM M l uj n=s at ST hq⊢;obtain⟨ans,oF⟩:∃x,(if(s==kNo)=true then(.ok (k+1,ps.map dI.pc):Except Ft (Nat×List Pc)) else match uC M n m with| .error c=>.error ⟨rD c,n⟩| .ok m'=>res m')=x:=⟨_,rfl⟩;rw[oF];have Pk:=aj oF;clear oF;have MO:∀w2,Below V1.heap.size V1 w2->au 91 #[ay WB,aa n,ay q] w2 fun e w'=>MvR E (uC M n m) e w'/\Below w2.heap.size w2 w':=fun w2 b2=>by
  obtain⟨b,q',h1,h2, -⟩:=HW1.out.sc.path (Kw.of_below b2) HP1.out;cases h1;exact P6 (HH.out.ne.below (HW1.out.below b2).low) (HH.out.ds.below (HW1.out.below b2).low).w HH.out.sz WB (aD (HW1.out.below b2).sc.wb 0 _ rfl) n hn q n0 (.pointer (q'.map fun x=>⟨x,0,none⟩)) m HM.out h2
 unfold uj at ST;go_enter func50,ntmps50;go_upto_region 7 with(first|(go_at_call 89;refine WI.mono ?_;rintro e w1 ⟨rfl,rfl⟩)|(go_at_call 84;refine NA'.mono ?_;rintro e w1 ⟨rfl,rfl⟩)|(go_at_call 90;refine WY.mono ?_;rintro e w1 ⟨F,a,b,rfl,b1,LF,SH⟩;have k1:=C1.out _ b1;have ST1:=ST _ b1));have HSH:Hid (∀(m':Mv) (V':ag) (PB:Nat),m'.ok->Below w1.heap.size w1 V'->xw WB DB Bd Bl rv W0 (k+1) ps v V'->fO V' (some PB) ((n,m')::(n0,m)::path)->au F (a++[Value.pointer (some ⟨PB,0,none⟩)]++b).toArray V' fun e w'=>∃u,e=.returned u/\Hid (jo E W0.heap.size WB DB (tV Bd Bl) v V' (res m') (.returned u) w'/\Kw WB v V' w')):=(fun m' V' PB g1 g2 g3 g4=>(SH m' V' PB g1 g2 g3 g4).mono fun e w' h=>by
  obtain⟨u,rfl⟩:=h.1.ret;exact⟨u,rfl,h⟩:∀(m':Mv) (V':ag) (PB:Nat),m'.ok->Below w1.heap.size w1 V'->xw WB DB Bd Bl rv W0 (k+1) ps v V'->fO V' (some PB) ((n,m')::(n0,m)::path)->au F (a++[Value.pointer (some ⟨PB,0,none⟩)]++b).toArray V' fun e w'=>∃u,e=.returned u/\Hid (jo E W0.heap.size WB DB (tV Bd Bl) v V' (res m') (.returned u) w'/\Kw WB v V' w'))
 have HLF:=aj LF;clear SH LF ST WY NA' WI;cases hs:(s==kNo) with
 |true=>
  rw[hs] at hq;have h1:=Pk.out;rw[hs,if_pos rfl] at h1;have H1:Hid _:=h1;unfold kNo at hq hs;clear h1 Pk;clear MO;go_wp2_with(go_at_call 48;refine ST1.mono ?_;rintro e w2 ⟨rfl,b2⟩);go_ret;have b12:=aH b1 b2;obtain rfl:=H1.out;exact⟨⟨rfl,ps,v,rfl,(HW1.out.below b12).sc,.inl rfl⟩,HK1.out.trans (.inl rfl) (Kw.of_below b12)⟩
 |false=>
  rw[hs] at hq;have h1:=Pk.out;rw[hs,if_neg (by simp)] at h1;unfold kNo at hq hs;obtain⟨mo,hmo⟩:∃x,uC M n m=x:=⟨_,rfl⟩;rw[hmo] at MO h1;cases mo with
  |error cd=>
   have FO:=fun w3 (hN:NE E w3) ev (hev:Nj E cd ev w3)=>rP hN hev n;have NN:Hid (∀w3,Below V1.heap.size V1 w3->NE E w3):=(fun w3 b3=>HH.out.ne.below (HW1.out.below b3).low:∀w3,Below V1.heap.size V1 w3->NE E w3);have H1:Hid _:=h1;clear hmo h1 Pk;go_upto_region 10 with(first|(go_at_call 48;refine ST1.mono ?_;rintro e w2 ⟨rfl,b2⟩;have b12:=aH b1 b2;have MO2:=MO w2 b12)|(go_at_call 91;refine MO2.mono ?_;rintro e w3 ⟨⟨ev,rfl,hev⟩,b3⟩));have Z0:=aH b12 b3;have HV:=hev;obtain⟨-, -,hv2⟩:=hev;rcases hv2 with rfl|⟨pb,po,rfl, -⟩<;>
   ·go_wp2_with(go_at_call 92;refine(FO _ ?_ _ ?_).mono ?_;exact NN.out _ (aH Z0 (bT _ _));exact HV.below (bT _ _);rintro e w5 ⟨u,rfl,hf,b5⟩);go_ret;have bb:=aH (aH Z0 (bT _ _)) b5;obtain rfl:=H1.out;exact⟨⟨u,rfl,hf.low (aJ HK1.out.size (aH Z0 (bT _ _)).size)⟩,HK1.out.trans (.inl rfl) (Kw.of_below bb)⟩
  |ok m'=>
   have hm':Hid m'.ok:=YW HM.out hmo;have H1:Hid _:=h1;clear hmo h1 Pk;go_upto_region 12 with(first|(go_at_call 48;refine ST1.mono ?_;rintro e w2 ⟨rfl,b2⟩;have b12:=aH b1 b2;have MO2:=MO w2 b12)|(go_at_call 91;refine MO2.mono ?_;rintro e w3 ⟨rfl,b3⟩));have Z0:=aH b12 b3;have bU:=bT w3 (.cells (mA m') 125);have KP:=dw (w3.alloc (.cells (mA m') 125)) (plA n (ay q) m') 128;have bX:=aH bU (bT (w3.alloc (.cells (mA m') 125)) (.cells (plA n (ay q) m') 128));have b5:=aH Z0 bX;have HWK:=HW1.out.below b5;have HPT:fO ((w3.alloc (.cells (mA m') 125)).alloc (.cells (plA n (ay q) m') 128)) (some (w3.alloc (.cells (mA m') 125)).heap.size) ((n,m')::(n0,m)::path):=⟨_,some q,rfl,KP,HW1.out.sc.path (Kw.of_below b5) HP1.out⟩;rw[dB] at HPT;have CALL:=HSH.out m' _ (w3.heap.size+1) hm'.out (aH (aH b2 b3) bX) HWK HPT;have HB5:=aj b5;have m0:=iJ w3 (mA m') 125;clear bU KP HWK HPT HSH b5 bX;rcases HLF.out with⟨rfl,rfl,x,y,rfl⟩|⟨rfl,rfl,rfl|rfl⟩<;>simp only[List.nil_append,List.cons_append,List.append_nil] at CALL<;>
   ·go_wp2_with(first|(go_at_call 190;refine CALL.mono ?_;rintro e w6 ⟨u,rfl,h6⟩)|(go_at_call 144;refine CALL.mono ?_;rintro e w6 ⟨u,rfl,h6⟩)|(go_at_call 145;refine CALL.mono ?_;rintro e w6 ⟨u,rfl,h6⟩));go_ret;obtain rfl:=H1.out;exact⟨h6.out.1.low (aJ HK1.out.size HB5.out.size),HK1.out.trans (.inl rfl) ((Kw.of_below HB5.out).trans (.inl rfl) h6.out.2)⟩
end
section
variable {E:Nat->Addr}{B:Nat}{tg:bP}{W0:ag}{DB MB:Nat}{p:Int->Option Nat}{M:Dm}{nx c:Nat}{r:Int->Nat}{l:List Rl}{B0:Nat}{rv:ah}{WB Bd Bl:Nat}
theorem Mo (n:Int)(m:Mv)(x:Except Nat (List Qt))(st:Nat×List Pc):vD n m x (ofM M l wz n) (ofM M l yX n) (ofM M l uV n) st=iF M l n m x st:=rfl
theorem Gn (h:En E B tg W0 DB MB p M nx c r l B0 rv){k:Nat}{ps:List dI}{v:ah}(hps:ps.length<=1000){n:Int}(hn:dR n){rest:List (Int×Mv)}{f:Nat}{x:Except Nat (List Qt)}(hcf:∀(av:Array ah) (w:ag),Sem.run prog (callFunc f av) w=.ok (.enter f av) w)
  (RD:∀U,xw WB DB Bd Bl rv W0 (k+1) ps v U->au f #[ay WB,aa n] U fun e w'=>mJ E x e w'/\Below U.heap.size U w') {V1:ag} {e:Ending} {w1:ag} (hy:ByR WB f V1 e w1):a6G E W0 WB DB Bd Bl rv v k ps n rest (fun m'=>iF M l n m' x (k+1,ps.map dI.pc)) V1 e w1:=by
 obtain⟨Br,Bw,h1,h2,h3,h4⟩:=hy;refine⟨_,_,_,h1,h4,.inl ⟨rfl,rfl,_,_,rfl⟩,fun m' V' PB hm hb hw hp=>?_⟩;obtain⟨b,q',g1,g2, -⟩:=hp;cases g1;have hl:=a6E h.sz (fun x hx=>(h.ok x hx).1) uV n;have q:=IQ (h.ne.below hw.low) Bd Bl hw.sc PB Br Bw _ hcf n _ m' hm g2 ((hb.cell (aF h2)).trans h2) ((hb.block _ (bu h3)).trans h3) x _ _ _ (by omega) hw.low.size hps (fun U hU=>RD U (hw.below hU)) (fun U hU=>h.style (hw.below hU) n hn wz) (fun U hU=>h.style (hw.below hU) n hn yX) (fun U hU=>h.style (hw.below hU) n hn uV);rw[Mo] at q;exact q
theorem Dr (h:En E B tg W0 DB MB p M nx c r l B0 rv)(k:Nat)(ps:List dI)(v:ah)(V:ag)(n n0:Int)(m:Mv)(path:List (Int×Mv))(q:Nat)(hw:xw WB DB Bd Bl rv W0 k ps v V)(hp:fO V (some q) ((n0,m)::path))(hni:n∈n0::path.map Prod.fst):
  au 50 #[ay WB,aa n,ay q] V fun e w'=>jo E W0.heap.size WB DB (tV Bd Bl) v V (.error ⟨9,n⟩) e w'/\Kw WB v V w':=by
 have WI:=qb V (some q) ((n0,m)::path) n hp;have hdec:decide (n∈((n0,m)::path).map Prod.fst)=true:=decide_eq_true hni;unfold WiR at WI;rw[hdec] at WI;simp only[pV,Option.map_some] at WI;have e9:=(h.ne.below hw.low).c9;clear h hw hp hni hdec;go_enter func50,ntmps50;go_wp2_with(go_at_call 89;refine WI.mono ?_;rintro e w1 ⟨rfl,rfl⟩);go_ret;exact⟨⟨_,rfl,_,Nat.le_refl _,rfl,dw _ _ _⟩,Kw.of_below (bT _ _)⟩
theorem Gp (h:En E B tg W0 DB MB p M nx c r l B0 rv)(k:Nat)(ps:List dI)(v:ah)(V:ag)(n n0:Int)(m:Mv)(path:List (Int×Mv))(q:Nat)(hk:100<=k)(hw:xw WB DB Bd Bl rv W0 k ps v V)(hp:fO V (some q) ((n0,m)::path))(hni:n ∉ n0::path.map Prod.fst):
  au 50 #[ay WB,aa n,ay q] V fun e w'=>jo E W0.heap.size WB DB (tV Bd Bl) v V (.error ⟨7,n⟩) e w'/\Kw WB v V w':=by
 have WI:=qb V (some q) ((n0,m)::path) n hp;have hdec:decide (n∈((n0,m)::path).map Prod.fst)=false:=decide_eq_false hni;unfold WiR at WI;rw[hdec] at WI;simp only[pV,Option.map_some] at WI;have e7:=(h.ne.below hw.low).c7;have c2:=aD hw.sc.wb 2 _ rfl;have hkz:(100:Int)<=(k:Int):=by omega
 clear h hw hp hni hdec;go_enter func50,ntmps50;go_wp2_with(go_at_call 89;refine WI.mono ?_;rintro e w1 ⟨rfl,rfl⟩);go_ret;exact⟨⟨_,rfl,_,Nat.le_refl _,rfl,dw _ _ _⟩,Kw.of_below (bT _ _)⟩
theorem Py (s:Bs):pQ s=false\/s=Eu\/s=uA\/s=nH\/s=Lr:=by
 unfold pQ;by_cases h1:s=Eu
 ·exact .inr (.inl h1)
 by_cases h2:s=uA
 ·exact .inr (.inr (.inl h2))
 by_cases h3:s=nH
 ·exact .inr (.inr (.inr (.inl h3)))
 by_cases h4:s=Lr
 ·exact .inr (.inr (.inr (.inr h4)))
 exact .inl (by simp[h1,h2,h3,h4])
theorem Pz {n:Int}(h:pQ (Ev M n)=true):(Cn M l n=false)↔(ofM M l uj n==kNo)=true:=by
 unfold Cn;rw[h];cases ofM M l uj n==kNo<;>simp
theorem Mq (h:En E B tg W0 DB MB p M nx c r l B0 rv):∀f,COME E WB DB Bd Bl rv W0 M l f
 |0=>fun k ps v V n n0 m path q hf YX hn hw hp hm=>by
  unfold dM;by_cases hni:n∈n0::path.map Prod.fst
  ·rw[if_pos hni];exact Dr h k ps v V n n0 m path q hw hp hni
  ·rw[if_neg hni];exact Gp h k ps v V n n0 m path q (by omega) hw hp hni
 |f+1=>fun k ps v V n n0 m path q hf YX hn hw hp hm=>by
  have IH:=Mq h f;unfold dM;by_cases hni:n∈n0::path.map Prod.fst
  ·rw[if_pos hni];exact Dr h k ps v V n n0 m path q hw hp hni
  rw[if_neg hni];by_cases hk:100<=k
  ·rw[if_pos hk];exact Gp h k ps v V n n0 m path q hk hw hp hni
  rw[if_neg hk];have hk':k<100:=by omega
  by_cases hf4:pQ (Ev M n)=false
  ·rw[if_pos (show Cn M l n=false by unfold Cn;rw[hf4];rfl)];exact UN h k ps v V n n0 m path q hk' hn hw hp hni hf4
  have nk:∀{a b:Bs},Ev M n=a->a≠b->¬Ev M n=b:=fun h1 h2 h3=>h2 (h1.symm.trans h3);obtain⟨res,WY,hr⟩:∃res:Mv->Except Ft (Nat×List Pc),(∀V1,au 90 #[ay WB,bV (Ev M n)] V1 fun e w1=>a6G E W0 WB DB Bd Bl rv v k ps n ((n0,m)::path) res V1 e w1)/\∀m',res m'=(if Ev M n=Eu then iF M l n m' (XP M n) (k+1,ps.map dI.pc) else if Ev M n=uA then iF M l n m' (FZ M n) (k+1,ps.map dI.pc) else if Ev M n=nH then(dM.QU M n).foldlM (fun s x=>dM M l f x (n::n0::path.map Prod.fst) m' s) (k+1,ps.map dI.pc) else match I6 M n with|none=>.error ⟨10,n⟩|some x=>dM M l f x (n::n0::path.map Prod.fst) m' (k+1,ps.map dI.pc)):=by
   rcases Py (Ev M n) with hb|hb|hb|hb|hb
   ·exact(hf4 hb).elim
   ·exact⟨_,fun V1=>by rw[hb];exact(a2v WB V1).mono fun e w1=>Gn h (by omega) hn (qR _ _ func142 (by kernel_rfl) (by kernel_rfl)) fun U hU=>UC (h.ne.below hU.low) (h.ds.below hU.low).w h.sz WB (aD hU.sc.wb 0 _ rfl) n hn,fun m'=>(if_pos hb).symm⟩
   ·exact⟨_,fun V1=>by rw[hb];exact(YT WB V1).mono fun e w1=>Gn h (by omega) hn (qR _ _ func143 (by kernel_rfl) (by kernel_rfl)) fun U hU=>Pg (h.ne.below hU.low) (h.ds.below hU.low).w h.sz WB (aD hU.sc.wb 0 _ rfl) n hn,fun m'=>((if_neg (nk hb (by decide))).trans (if_pos hb)).symm⟩
   ·exact⟨fun m'=>(dM.QU M n).foldlM (fun s x=>dM M l f x (n::n0::path.map Prod.fst) m' s) (k+1,ps.map dI.pc),fun V1=>by rw[hb];exact(UL WB V1).mono fun e w1 ⟨g1,g2⟩=>⟨_,_,_,g1,by rw[g2];exact aG _ _,.inr ⟨rfl,rfl,.inl rfl⟩,fun m' V' PB h1 _ h2 h3=>ET h f IH (k+1) ps v V' n m' ((n0,m)::path) PB (by omega) (by omega) hn h2 h3 h1⟩,fun m'=>((if_neg (nk hb (by decide))).trans ((if_neg (nk hb (by decide))).trans (if_pos hb))).symm⟩
   ·exact⟨fun m'=>match I6 M n with|none=>.error ⟨10,n⟩|some x=>dM M l f x (n::n0::path.map Prod.fst) m' (k+1,ps.map dI.pc),fun V1=>by rw[hb];exact(a2w WB V1).mono fun e w1 ⟨g1,g2⟩=>⟨_,_,_,g1,by rw[g2];exact aG _ _,.inr ⟨rfl,rfl,.inr rfl⟩,fun m' V' PB h1 _ h2 h3=>Mm h f IH (k+1) ps v V' n m' ((n0,m)::path) PB (by omega) (by omega) hn h2 h3 h1⟩,fun m'=>((if_neg (nk hb (by decide))).trans ((if_neg (nk hb (by decide))).trans (if_neg (nk hb (by decide))))).symm⟩
  refine(YZ h k ps v V n n0 m path q hk' hn hw hp hni hm res WY).mono fun e w' g=>?_;simp only[Pz (by simpa using hf4:pQ (Ev M n)=true)];cases hmv:uC M n m with
  |error cd=>rw[hmv] at g;exact g
  |ok m'=>rw[hmv] at g;simp only[hr] at g;exact g
end
end
end Go.Proofs.YtecneflbncjhpaaGreatDoor

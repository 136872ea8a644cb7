/- Parts of the proof. -/
import Derived.Test.YtjfiehbcamfdfaaGreatDoorQz25
namespace Go.Proofs.YtjfiehbcamfdfaaGreatDoor
open Go.Proofs.Tryz
set_option maxHeartbeats 8000000
section
open Go
section
variable {P:Program}{ops:Array Oper}{Q:Exit->Act->ag->Prop}{md:Region.Mode}{S:ag->Prop}{z:Nat}
def mF (P:Program)(md:Region.Mode)(ops:Array Oper)(Q:Exit->Act->ag->Prop)(S:ag->Prop)(z:Nat):Nat->Array Bool->Act->ag->Prop
 |0,listed,a,w=>Region.ready md ops listed=[]/\Q .normal a w
 |fuel+1,listed,a,w=>
  (Region.ready md ops listed=[]->Q .normal a w)/\
  ∀i∈Region.ready md ops listed,wpOp P ops Q i (fun a' w'=>(i≠z->S w')/\mF P md ops Q S z fuel (listed.setIfInBounds i true) a' w') a w
theorem Kk:∀(fuel:Nat) (listed:Array Bool) (a:Act) (w:ag),mF P md ops Q S z fuel listed a w->wpAny P md ops Q fuel listed a w
 |0,_,_,_,h=>h
 |fuel+1,_,_,_,h=>⟨h.1,fun i hi=>wpOp_mono (fun a' w' h'=>Kk fuel _ a' w' h'.2) (h.2 i hi)⟩
def Gx (md:Region.Mode)(ops:Array Oper)(z i:Nat):Bool:=match ops[z]? with
 |some o=>o.after.any fun e=>Region.binds md e && e.on==i
 |none=>false
theorem NK {i:Nat}{listed:Array Bool}(h:Gx md ops z i=true)(hi:listed.getD i true=false):z ∉ Region.ready md ops listed:=fun hz=>by
 obtain⟨-,o,ho,hall⟩:=mem_ready.1 hz;unfold Gx at h;rw[ho] at h;obtain⟨e,he,hb⟩:=Array.any_eq_true'.1 h;simp only[Bool.and_eq_true,beq_iff_eq] at hb;have h1:=hall e he hb.1;rw[hb.2] at h1;rcases Nat.lt_or_ge i listed.size with h'|h'
 ·simp[h'] at hi h1;rw[hi] at h1;cases h1
 ·simp[Array.getElem?_eq_none h'] at h1
theorem a0I {i:Nat}{oi:Oper}{v:ah}(hi:ops[i]? =some oi)(hsel:∀(j:Nat) (o:Oper) cs b,ops[j]? =some o->o.op≠.select cs b)(hz:Gx md ops z i=true)
  (hQ:∀c a w,Q (.panic c) (a.put oi.dst v) w->Q (.panic c) a w):
  ∀(fuel:Nat) (listed:Array Bool) (a:Act) (w:ag),
   (∀j oj,ops[j]? =some oj->j≠i->listed.getD j true=false->(∀e∈oj.after,Region.binds md e=true->e.on≠i)->oi.apart ops oj=true)->
   i∈Region.ready md ops listed->YieldsIf P ops S oi v a->S w->
   mF P md ops Q S z fuel (listed.setIfInBounds i true) (a.put oi.dst v) w->mF P md ops Q S z (fuel+1) listed a w:=by
 intro fuel
 induction fuel with
 |zero=>
  intro listed a w _ hr hy hS H;refine⟨fun h=>(by rw[h] at hr;cases hr),fun j hj=>?_⟩;by_cases hji:j=i
  ·subst hji;exact hy.wpOp hi hS ⟨fun _=>hS,H⟩
  ·have:=ready_mono hj hji;rw[H.1] at this;cases this
 |succ fuel ih=>
  intro listed a w hfree hr hy hS H;refine⟨fun h=>(by rw[h] at hr;cases hr),fun j hj=>?_⟩;by_cases hji:j=i
  ·subst hji;exact hy.wpOp hi hS ⟨fun _=>hS,H⟩
  ·have hun:=(mem_ready.1 hr).1;have hjz:j≠z:=fun e=>NK hz hun (e▸hj);have h1:=H.2 j (ready_mono hj hji);obtain⟨hjun,oj,hoj,hall⟩:=mem_ready.1 hj;have hnot:∀e∈oj.after,Region.binds md e=true->e.on≠i:=fun e he hb heq=>by
    have h1:=hall e he hb;rw[heq] at h1;rcases Nat.lt_or_ge i listed.size with h'|h'
    ·simp[h'] at hun h1;rw[hun] at h1;cases h1
    ·simp[Array.getElem?_eq_none h'] at h1
   have h2:=wpOp_putIf hoj (hfree j oj hoj hji hjun hnot) (fun cs b=>hsel i oi cs b hi) (fun cs b=>hsel j oj cs b hoj) hQ hy h1;refine wpOp_mono (fun a' w' h3=>⟨h3.2.1,ih (listed.setIfInBounds j true) a' w' (fun k ok hk hki a8x hno=>hfree k ok hk hki ?_ hno) (ready_mono hr (Ne.symm hji)) h3.1 (h3.2.1 hjz) ?_⟩) h2
   ·by_cases hjk:j=k
    ·subst hjk;exact hjun
    ·rw[getD_set_ne true hjk] at a8x;exact a8x
   ·rw[Array.setIfInBounds_comm _ _ hji];exact h3.2.2
theorem bH (i:Nat){oi:Oper}{v:ah}{fuel:Nat}{listed:Array Bool}{a:Act}{w:ag}(hi:ops[i]? =some oi)
  (hs:Region.noSelect ops=true) (hz:Gx md ops z i=true) (hf:Region.free md ops listed i=true) (hr:(Region.ready md ops listed).contains i=true)
  (hQ:∀c a w,Q (.panic c) (a.put oi.dst v) w->Q (.panic c) a w) (hS:S w) (hy:YieldsIf P ops S oi v a)
  (h:mF P md ops Q S z fuel (listed.setIfInBounds i true) (a.put oi.dst v) w):mF P md ops Q S z (fuel+1) listed a w:=
 a0I hi (Region.noSelect_spec hs) hz hQ fuel listed a w (Region.free_spec hi hf) (by simpa using hr) hy hS h
theorem nD (i:Nat){o:Oper}{fuel:Nat}{listed:Array Bool}{a:Act}{w:ag}(hr:Region.ready md ops listed=[i])(ho:ops[i]? =some o)
  (h:∀K':Act->ag->Prop,Shut (∀a w,(i≠z->S w)->mF P md ops Q S z fuel (listed.setIfInBounds i true) a w->K' a w)->if Region.wanted o (yielded ops a.tmps)=true then Oper.wp P o a w K' Q else K' (a.put o.dst undef) w):mF P md ops Q S z (fuel+1) listed a w:=by
 refine⟨fun h0=>(by rw[hr] at h0;cases h0),fun j hj=>?_⟩;rw[hr] at hj;have hji:j=i:=by simpa using hj
 subst hji;exact wpOp_step ho (fun K' hK=>h K' (fun a w hS hW=>hK a w ⟨hS,hW⟩))
theorem XD {listed:Array Bool}{a:Act}{w:ag}(hr:Region.ready md ops listed=[])(h:Q .normal a w):∀fuel,mF P md ops Q S z fuel listed a w
 |0=>⟨hr,h⟩
 |_+1=>⟨fun _=>h,by rw[hr];simp⟩
theorem Kl {id:Nat}{a:Act}{w:ag}(S:ag->Prop)(z:Nat)(hm:P.follows .mixedOrders=true)
  (h:mF P .any ops Q S z ops.size (Array.replicate ops.size false) a w.drew):(Code.region id ops true).wp P Q a w:=
 wp_region_any hm (Kk _ _ _ _ h)
end
end
section
open Go.RowKit Go.Shelf
set_option maxRecDepth 20000
def iP (E:Nat->Addr)(base WB DB:Nat)(sf:ah)(v:ah)(V:ag)(x:Except Ft (Nat×List Pc))(e:Ending)(w':ag):Prop:=match x with
  | .error f=>∃u,e=.returned u/\Un E f V.heap.size u w'
  | .ok st=>e=.returned .nilIface/\∃ps v',ps.map dm.pc=st.2/\Sc base WB DB sf st.1 ps v' w'/\(v'.ownBlock=v.ownBlock\/∀b,v'.ownBlock=some b->V.heap.size<=b)
def uy (n:Int)(m:Mv)(x:Except Nat (List Qt))(fill rule level:Bs)(st:Nat×List Pc):Except Ft (Nat×List Pc):=match x with
  | .error c=>.error ⟨yA c,n⟩
  | .ok q=>match Uk m q with
    |none=>.error ⟨2,n⟩
    |some q'=>if fill=sH then .ok st else .ok (st.1,st.2++[⟨n,q',fill,rule,EG level⟩])
theorem Lu.below {E:Nat->Addr}{c:Nat}{v:ah}{w w':ag}(h:Lu E c v w)(hb:Below w.heap.size w w'):Lu E c v w':=by
  obtain⟨h1,h2,h3⟩:=h;refine⟨h1,h2,?_⟩;rcases h3 with h3|⟨pb,po,h3,h4⟩
  · exact .inl h3
  · exact .inr ⟨pb,po,h3,(hb.cell (aC h4)).trans h4⟩
theorem lu.below {E:Nat->Addr}{x:Except Nat (List Qt)}{e:Ending}{w w':ag}(h:lu E x e w)(hb:Below w.heap.size w w'):lu E x e w':=by
  cases x with
  |error k=>
    obtain⟨v,h1,h2⟩:=h;exact⟨v,h1,h2.below hb⟩
  |ok l=>
    obtain⟨h0,h1,o,cap,h2,h3⟩:=h;exact⟨h0,h1,o,cap,h2,h3.below hb ai⟩
def a4a (E:Nat->Addr)(x:Except Nat (List Qt))(V:ag)(b rv:ah)(wx:ag):Prop:=∃BS ro rn rc,b=ay BS/\V.heap.size<=BS/\wx.heap[BS]? =some (.cells #[.slice ro rn rc] 136)/\lu E x (.returned (.tuple #[.agg #[.slice ro rn rc],rv])) wx/\Below V.heap.size V wx
theorem XE {E:Nat->Addr}{x:Except Nat (List Qt)}{V w1:ag}{ro:Option Addr}{rn rc:Nat}{rv:ah}(h:lu E x (.returned (.tuple #[.agg #[.slice ro rn rc],rv])) w1)(b:Below V.heap.size V w1):a4a E x V (ay w1.heap.size) rv (w1.alloc (.cells #[.slice ro rn rc] 136)):=
  ⟨_,ro,rn,rc,rfl,b.size,cZ w1 _ _,lu.below h (di w1 _),aG b (di w1 _)⟩
theorem XF {E:Nat->Addr}{x:Except Nat (List Qt)}{V w1:ag}{ro:Option Addr}{rn rc:Nat}{rv:ah}(h:lu E x (.returned (.tuple #[.agg #[.slice ro rn rc],rv])) w1)(b:Below (V.alloc (.cells #[.slice none 0 0] 136)).heap.size (V.alloc (.cells #[.slice none 0 0] 136)) w1):a4a E x V (ay V.heap.size) rv (w1.setCell ⟨V.heap.size,0,none⟩ (.slice ro rn rc)):=by
  have K:=cZ V #[.slice none 0 0] 136;have K1:=(b.block _ (aY K)).trans K;refine⟨_,ro,rn,rc,rfl,Nat.le_refl _,?_,h.far K1,(aG (di V _) b).setCell ai _⟩;have:=heap_setCell_same w1 V.heap.size 0 _ _ (.slice ro rn rc) K1;simpa using this
theorem Un.low {E:Nat->Addr}{f:Ft}{b b':Nat}{v:ah}{w:ag}(h:Un E f b v w)(hb:b'<=b):Un E f b' v w:=by
  obtain⟨pb,h1,h2,h3⟩:=h;exact⟨pb,Nat.le_trans hb h1,h2,h3⟩
def a8y (E:Nat->Addr)(m:Mv)(l:List Qt)(BS:Nat)(V:ag)(rv:ah)(wx:ag):Prop:=∃ro rn rc,wx.heap[BS]? =some (.cells #[.slice ro rn rc] 136)/\Ti E m l V.heap.size (.returned (.tuple #[.agg #[.slice ro rn rc],rv])) wx/\Below V.heap.size V wx
theorem Ti.is {E:Nat->Addr}{m:Mv}{l:List Qt}{b:Nat}{e:Ending}{w:ag}(h:Ti E m l b e w):∃o n c v,e=.returned (.tuple #[.agg #[.slice o n c],v]):=by
  unfold Ti at h;cases hg:Uk m l with
  |none=>rw[hg] at h;obtain⟨v,h1, -⟩:=h;exact⟨_,_,_,_,h1⟩
  |some l'=>
    rw[hg] at h;obtain⟨v,h1,h2⟩:=h;obtain⟨o,cap,rfl⟩:=aH h2;exact⟨_,_,_,_,h1⟩
theorem XG {E:Nat->Addr}{m:Mv}{l:List Qt}{BS:Nat}{V wc w2:ag}{x:ah}{ro:Option Addr}{rn rc:Nat}{rv:ah}(h:Ti E m l wc.heap.size (.returned (.tuple #[.agg #[.slice ro rn rc],rv])) w2)(KB:wc.heap[BS]? =some (.cells #[x] 136))(b1:Below V.heap.size V wc)(hBS:V.heap.size<=BS)(b2:Below wc.heap.size wc w2):a8y E m l BS V rv (w2.setCell ⟨BS,0,none⟩ (.slice ro rn rc)):=by
  have hlt:=aY KB;have K2:=(b2.block _ hlt).trans KB;refine⟨ro,rn,rc,?_,?_,(aG b1 b2).setCell hBS _⟩
  · have:=heap_setCell_same w2 BS 0 _ _ (.slice ro rn rc) K2
    simpa using this
  · unfold Ti at h⊢
    cases hg:Uk m l with
    |none=>
      rw[hg] at h;obtain⟨v,h1,h2⟩:=h;exact⟨v,h1,h2.far⟩
    |some l'=>
      rw[hg] at h;obtain⟨v,h1,h2⟩:=h;exact⟨v,h1,(gU.far h2 hlt).low b1.size⟩
theorem NL (ps:List dm)(x:dm):cellsS (ps++[x])=cellsS ps++[aa x.nd,BL x,bV x.fill,bV x.rule,aa x.lv]:=by rw[BV];rfl
theorem a0J {m:Mv}{l l':List Qt}(hm:m.ok)(hl:kR l)(h:Uk m l=some l'):∀a∈l',eY a=0:=by
  unfold Uk at h;split at h
  · next ha=>
    cases h;intro a hx;obtain⟨b,hb,rfl⟩:=List.mem_map.1 hx;exact BK hm (hl.2 b hb) (xD (List.all_eq_true.1 ha b hb))
  · cases h
theorem a0K:(prog.info? 138).map (fun i=>(i.zero,i.size,i.bytes))=some (some (.agg #[aa 0,.slice none 0 0,.string ⟨#[]⟩,.string ⟨#[]⟩,aa 0]),5,72):=by kernel_rfl
def S9 (Bw WB PB BS:Nat)(n:Int)(sf pv v:ah)(w:ag):Prop:=w.cell? (ak Bw 0)=some (ay WB)/\w.cell? (ak WB 1)=some sf/\w.cell? (ak PB 0)=some (aa n)/\w.cell? (ak BS 0)=some pv/\w.cell? (ak WB 3)=some v
theorem Sc.app {base WB DB:Nat}{sf:ah}{k:Nat}{ps:List dm}{v:ah}{V w6 w7:ag}{x:dm}{g cap:Nat}(h:Sc base WB DB sf k ps v V)(hb:Below V.heap.size V w6)(ho:gU w6 base (BL x) x.pts)(hrt:∀a∈x.pts,eY a=0)
    (ow:w7.ownsRow base 138 5 (.slice (some ⟨g,0,none⟩) (ps.length+1) cap) (ps.length+1) (cellsS ps++[aa x.nd,BL x,bV x.fill,bV x.rule,aa x.lv])) (gr:w6.grownBy w7 v.ownBlock) (hat:v.ownBlock=some g\/g=w6.heap.size):
    Sc base WB DB sf k (ps++[x]) (.slice (some ⟨g,0,none⟩) (ps.length+1) cap) (w7.setCell ⟨WB,3,none⟩ (.slice (some ⟨g,0,none⟩) (ps.length+1) cap))/\Kw WB v V (w7.setCell ⟨WB,3,none⟩ (.slice (some ⟨g,0,none⟩) (ps.length+1) cap))/\((Value.slice (some ⟨g,0,none⟩) (ps.length+1) cap).ownBlock=v.ownBlock\/∀b,(Value.slice (some ⟨g,0,none⟩) (ps.length+1) cap).ownBlock=some b->V.heap.size<=b):=by
  have wlt:=aY h.wb;have neW:v.ownBlock≠some WB:=fun e=>by
    obtain⟨cs,f,h1, -⟩:=fo h.own WB e;rw[h.wb] at h1;cases h1
  have gW:g≠WB:=fun e=>by
    rcases hat with h1|h1
    · exact neW (by rw[h1,e])
    · have:=hb.size;omega
  have acB:w7.heap[WB]? =some (.cells #[ay DB,sf,aa k,v] 123):=by
    rw[gr.block WB (Nat.lt_of_lt_of_le wlt hb.size) (fun e=>neW e.symm),hb.block WB wlt];exact h.wb
  have far:∀b,b≠WB->(w7.setCell ⟨WB,3,none⟩ (.slice (some ⟨g,0,none⟩) (ps.length+1) cap)).heap[b]? =w7.heap[b]? :=fun b hne=>Below.heap_setCell _ _ _ b hne;have ptk:∀y:dm,gU w6 base (BL y) y.pts->gU (w7.setCell ⟨WB,3,none⟩ (.slice (some ⟨g,0,none⟩) (ps.length+1) cap)) base (BL y) y.pts:=fun y hy=>by
    refine bT hy fun j hj=>?_;obtain⟨cs,f,h1, -⟩:=fo hy j hj;have hlt:=aY h1;have n1:j≠WB:=fun e=>by
      subst e;rw[hb.block j wlt,h.wb] at h1;cases h1
    have n2:some j≠v.ownBlock:=fun e=>by
      obtain⟨cs',f',h3, -⟩:=fo (aP h.own hb) j e.symm;rw[h1] at h3;cases h3
    rw[far j n1];exact gr.block j hlt n2
  have szs:(w7.setCell ⟨WB,3,none⟩ (.slice (some ⟨g,0,none⟩) (ps.length+1) cap)).heap.size=w7.heap.size:=World.size_setCell _ _ _;refine⟨⟨?_,?_,?_,?_⟩,⟨?_,?_,?_,?_,?_⟩,?_⟩
  · have:=heap_setCell_same w7 WB 3 _ _ (.slice (some ⟨g,0,none⟩) (ps.length+1) cap) acB
    simpa using this
  · rw[NL,List.length_append]
    exact bT ow fun j hj=>far j (fun e=>gW (by cases hj;exact e))
  · intro y hy
    rcases List.mem_append.1 hy with hy|hy
    · exact ptk y ((h.pts y hy).keep hb)
    · simp at hy;subst hy;exact ptk _ ho
  · intro y hy
    rcases List.mem_append.1 hy with hy|hy
    · exact h.rt y hy
    · simp at hy;subst hy;exact hrt
  · exact gr.os.trans hb.os
  · exact gr.tape.trans hb.tape
  · exact gr.output.trans hb.output
  · rw[szs];exact Nat.le_trans hb.size gr.size
  · intro b hlt h1 h2
    rw[far b h1,gr.block b (Nat.lt_of_lt_of_le hlt hb.size) (fun e=>h2 e.symm),hb.block b hlt]
  · rcases hat with h1|h1
    · exact .inl h1.symm
    · exact .inr fun b hb'=>by cases hb';rw[h1];exact hb.size
section
variable {E:Nat->Addr}{base WB DB:Nat}{k:Nat}{ps:List dm}{v:ah}{V:ag}
theorem Gy (hN:NE E V)(Bd Bl:Nat)(hS:Sc base WB DB (rR Bd Bl) k ps v V)(PB Br Bw fr:Nat)(hcf:∀(av:Array ah) (w:ag),Sem.run prog (callFunc fr av) w=.ok (.enter fr av) w)(n:Int)(q:ah)(m:Mv)(hm:m.ok)(hp:V.heap[PB]? =some (.cells (plA n q m) 132))
    (hr:V.cell? (ak Br 0)=some (.func (.func fr) #[ay WB] #[])) (hwB:V.heap[Bw]? =some (.cells #[ay WB] 119)) (x:Except Nat (List Qt)) (fill rule level:Bs) (hlv:level.length<=1000000) (hbase:base<=V.heap.size) (hps:ps.length<=1000)
    (RD:∀U,Below V.heap.size V U->ax fr #[ay WB,aa n] U fun e w'=>lu E x e w'/\Below U.heap.size U w')
    (SF:∀U,Below V.heap.size V U->ax 49 #[aa n,bV uS,ay Bd,ay Bl] U fun e w'=>e=.returned (bV fill)/\Below U.heap.size U w')
    (SR:∀U,Below V.heap.size V U->ax 49 #[aa n,bV yc,ay Bd,ay Bl] U fun e w'=>e=.returned (bV rule)/\Below U.heap.size U w')
    (SL:∀U,Below V.heap.size V U->ax 49 #[aa n,bV tL,ay Bd,ay Bl] U fun e w'=>e=.returned (bV level)/\Below U.heap.size U w'):
    ax 190 #[ay PB,ay Br,ay Bw] V fun e w'=>iP E base WB DB (rR Bd Bl) v V (uy n m x fill rule level (k,ps.map dm.pc)) e w'/\Kw WB v V w':=by
  have hw:=aF hwB 0 _ rfl;have HN:=aj hN;have HS:=aj hS;have HM:Hid m.ok:=hm;have p0:=aF hp 0 _ rfl;have R1:=RD V.drew (below_drewN (Below.refl _ _) 1);obtain⟨ans,ny⟩:∃a,uy n m x fill rule level (k,ps.map dm.pc)=a:=⟨_,rfl⟩;rw[ny];have HA:=aj ny;clear ny hN hS hm;go_enter func190,ntmps190;go_upto_region 1 with fail
  go_cut [5,6] from 8 to 87 (fun b rv wx=>a4a E x V b rv wx)
  case first=>
    have R2:=RD (V.alloc (.cells #[.slice none 0 0] 136)).drew (below_drewN (di V _) 1);have KK:∀w1,Below (V.alloc (.cells #[.slice none 0 0] 136)).drew.heap.size (V.alloc (.cells #[.slice none 0 0] 136)).drew w1->w1.cell? ⟨V.heap.size,0,none⟩=some (.slice none 0 0)/\w1.frozen? ⟨V.heap.size,0,none⟩=false:=fun w1 b1=>by
      have K:=cZ V #[.slice none 0 0] 136;have K1:=(b1.block V.heap.size (aY K)).trans K;exact⟨aF K1 0 _ rfl,cO K1 0⟩
    have Q1:ax fr #[ay WB,aa n] V.drew fun e w'=>∃ro rn rc rv,e=.returned (.tuple #[.agg #[.slice ro rn rc],rv])/\lu E x (.returned (.tuple #[.agg #[.slice ro rn rc],rv])) w'/\Below V.drew.heap.size V.drew w':=R1.mono fun e w' ⟨h1,b1⟩=>by
      obtain⟨ro,rn,rc,rv,rfl⟩:=h1.is;exact⟨ro,rn,rc,rv,rfl,h1,b1⟩
    have Q2:ax fr #[ay WB,aa n] (V.alloc (.cells #[.slice none 0 0] 136)).drew fun e w'=>∃ro rn rc rv,e=.returned (.tuple #[.agg #[.slice ro rn rc],rv])/\lu E x (.returned (.tuple #[.agg #[.slice ro rn rc],rv])) w'/\Below (V.alloc (.cells #[.slice none 0 0] 136)).drew.heap.size (V.alloc (.cells #[.slice none 0 0] 136)).drew w':=R2.mono fun e w' ⟨h1,b1⟩=>by
      obtain⟨ro,rn,rc,rv,rfl⟩:=h1.is;exact⟨ro,rn,rc,rv,rfl,h1,b1⟩
    have ba:=di V (.cells #[.slice none 0 0] 136);have p0a:=(ba.cell (aC p0)).trans p0;have hra:=(ba.cell (aC hr)).trans hr;clear R1 R2 RD SF SR SL hp ba hw
    go_region_with (first|(refine Q1.mono ?_;rintro e w1 ⟨ro,rn,rc,rv,rfl,h1,b1⟩)|(refine Q2.mono ?_;rintro e w1 ⟨ro,rn,rc,rv,rfl,h1,b1⟩;obtain⟨u0,uf⟩:=KK w1 b1))
    all_goals go_wp2_with fail
    all_goals go_meet
    all_goals first|(have hu:=u0;exact XF h1 ((below_drewN (Below.refl _ _) 1).trans b1))|exact XE h1 ((below_drewN (Below.refl _ _) 1).trans b1)
  case rest=>
    obtain⟨BS,ro,rn,rc,rfl,hBS,KB,h1,b1⟩:=hcut;have hpw:=(b1.block _ (aY hp)).trans hp;have pw0:=aF hpw 0 _ rfl;have NW:=HN.out.below b1;have HX:=aj h1;clear h1;cases x with
    |error cd=>
      obtain⟨ev,he,hev⟩:=HX.out;have N7:u6=ev:=by simp at he;exact he.2
      subst N7;have FO:=qJ NW hev n;have hne:u6≠.nilIface:=by
        rintro rfl;obtain⟨-, -,h|⟨pb,po,h, -⟩⟩:=hev<;>cases h
      have hpk:∀f:Except Ft (Nat×List Pc),ans=f->uy n m (.error cd) fill rule level (k,ps.map dm.pc)=f:=fun f hf=>by rw[<- hf];exact HA.out
      have ha:ans=.error ⟨yA cd,n⟩:=HA.out.symm;subst ha;obtain⟨-, -,hv2⟩:=hev;clear hpk he HX;rcases hv2 with rfl|⟨pb,po,rfl, -⟩
      · go_wp2_with(go_at_call 98;refine FO.mono ?_;rintro e w2 ⟨u,rfl,hf,b2⟩)
        go_ret;exact⟨⟨u,rfl,Un.low hf b1.size⟩,Kw.of_below (aG b1 b2)⟩
      · go_wp2_with(go_at_call 98;refine FO.mono ?_;rintro e w2 ⟨u,rfl,hf,b2⟩)
        go_ret;exact⟨⟨u,rfl,Un.low hf b1.size⟩,Kw.of_below (aG b1 b2)⟩
    |ok l=>
      obtain⟨hch,hok,o1,dR,he,hpt⟩:=HX.out;obtain⟨⟨rfl,rfl,rfl⟩,rfl⟩:(ro=o1/\rn=l.length/\rc=dR)/\u6=.nilIface:=by simp at he;exact⟨⟨he.1.1,he.1.2.1,he.1.2.2⟩,he.2⟩
      have bd:=below_drewN (Below.refl wc.heap.size wc) 1;have MV:=Tj m HM.out l ro rc wc.drew ((vS l).1 hok) (hpt.below bd ai) (NW.below bd);have s0:=aF KB 0 _ rfl;clear he HX;have HL:=aj hok;have HCH:=aj hch;clear hok hch hpt;have q2:=aF hpw 2 _ rfl;have q3:=aF hpw 3 _ rfl;have q4:=aF hpw 4 _ rfl;have q5:=aF hpw 5 _ rfl;have q6:=aF hpw 6 _ rfl;have q7:=aF hpw 7 _ rfl;have q8:=aF hpw 8 _ rfl;have q9:=aF hpw 9 _ rfl;have q10:=aF hpw 10 _ rfl;have q11:=aF hpw 11 _ rfl;have q12:=aF hpw 12 _ rfl;have q13:=aF hpw 13 _ rfl;go_upto_region 4 with fail
      go_cut [6] from 8 to 87 (fun rv wx=>a8y E m l BS V rv wx)
      case first=>
        have MQ:ax 191 #[.agg #[.slice ro l.length rc],mv m] wc.drew fun e w'=>∃o n c rv,e=.returned (.tuple #[.agg #[.slice o n c],rv])/\Ti E m l wc.heap.size (.returned (.tuple #[.agg #[.slice o n c],rv])) w'/\Below wc.heap.size wc w'/\w'.cell? (ak BS 0)=some (.slice ro l.length rc)/\w'.frozen? ⟨BS,0,none⟩=false:=MV.mono fun e w' ⟨h1,b2⟩=>by
          obtain⟨o,n,c,rv,rfl⟩:=h1.is;have bb:Below wc.heap.size wc w':=⟨b2.os,b2.tape,b2.output,b2.size,b2.block⟩;have K2:=(bb.block _ (aY KB)).trans KB;exact⟨o,n,c,rv,rfl,h1,bb,aF K2 0 _ rfl,cO K2 0⟩
        clear MV RD SF SR SL hpw hp
        go_region_with (go_at_call 191;refine MQ.mono ?_;rintro e w2 ⟨o2,n2,c2,rv2,rfl,h2,b2,k2,f2⟩)
        all_goals go_wp2_with fail
        all_goals go_meet
        all_goals exact XG h2 KB b1 hBS b2
      case rest=>
        obtain⟨zw,rn2,xx,KB2,h2,b2⟩:=hcut;have a8A:=(b2.block _ (aY hp)).trans hp;have pz0:=aF a8A 0 _ rfl;have NW2:=HN.out.below b2;unfold Ti at h2;cases hg:Uk m l with
        |none=>
          rw[hg] at h2;obtain⟨ev,he,hev⟩:=h2;have N7:u6=ev:=by simp at he;exact he.2
          subst N7;have FO:=qJ NW2 hev n;have ha:ans=.error ⟨2,n⟩:=by
            have:=HA.out;unfold uy at this;simp only[hg] at this;exact this.symm
          subst ha;obtain⟨-, -,hv2⟩:=hev;rcases hv2 with rfl|⟨pb,po,rfl, -⟩ -- agM
          · go_wp2_with(go_at_call 98;refine FO.mono ?_;rintro e w2 ⟨u,rfl,hf,b3⟩)
            go_ret;exact⟨⟨u,rfl,Un.low hf b2.size⟩,Kw.of_below (aG b2 b3)⟩
          · go_wp2_with(go_at_call 98;refine FO.mono ?_;rintro e w2 ⟨u,rfl,hf,b3⟩)
            go_ret;exact⟨⟨u,rfl,Un.low hf b2.size⟩,Kw.of_below (aG b2 b3)⟩
        |some l'=>
          rw[hg] at h2;obtain⟨v2,he,hown2⟩:=h2;obtain⟨hv2,rfl⟩:v2=.slice zw rn2 xx/\u6=.nilIface:=by simp at he;exact⟨he.1.symm,he.2⟩
          subst hv2;obtain⟨o9,c9,h9⟩:=aH hown2;obtain⟨rfl,rfl,rfl⟩:zw=o9/\rn2=l'.length/\xx=c9:=by simp at h9;exact h9
          have HOW:=aj hown2;have ny:Hid (uy n m (.ok l) fill rule level (k,ps.map dm.pc)=if fill=sH then .ok (k,ps.map dm.pc) else .ok (k,ps.map dm.pc++[⟨n,l',fill,rule,EG level⟩])):=by
            show _=_;unfold uy;simp only[hg]
          have HA2:Hid (ans=if fill=sH then .ok (k,ps.map dm.pc) else .ok (k,ps.map dm.pc++[⟨n,l',fill,rule,EG level⟩])):=HA.out.symm.trans ny.out;have HR:Hid (∀a∈l',eY a=0):=a0J HM.out ((vS l).1 HL.out) hg;have bw0:=(b2.cell (aC hw)).trans hw;have wbk:=(b2.block _ (aY HS.out.wb)).trans HS.out.wb;have wb1:=aF wbk 1 _ rfl;have wb3:=aF wbk 3 _ rfl;have bs0:=aF KB2 0 _ rfl;have SFd:=SF wc.drew (b2.trans (below_drewN (Below.refl _ _) 1));clear ny HA h9 he RD q2 q3 q4 q5 q6 q7 q8 q9 q10 q11 q12 q13 MV;go_upto_region 7 with fail
          go_region_held3 (fun w'=>w'.cell? (ak Bw 0)=some (ay WB)/\w'.cell? (ak WB 1)=some (rR Bd Bl)/\w'.cell? (ak PB 0)=some (aa n)) (go_keep) (first|(go_at_call 49;refine SFd.mono ?_;rintro e w3 ⟨rfl,b3⟩;have x1:=(b3.cell (aC (w:=wc.drew) bw0)).trans bw0;have x2:=(b3.cell (aC (w:=wc.drew) wb1)).trans wb1;have x3:=(b3.cell (aC (w:=wc.drew) pz0)).trans pz0))
          have rJ:Below V.heap.size V w3:=aG b2 ⟨b3.os,b3.tape,b3.output,b3.size,b3.block⟩;have hq:=fD fill sH;by_cases hf:fill=sH
          · have hqt:(fill==sH)=true:=by simp[hf]
            rw[hqt] at hq;unfold sH at hq hqt;have ha:ans=.ok (k,ps.map dm.pc):=by rw[HA2.out,if_pos hf]
            subst ha;clear HA2 hf;go_wp2_with fail;go_ret;exact⟨⟨rfl,ps,v,rfl,HS.out.below rJ,.inl rfl⟩,Kw.of_below rJ⟩
          · have hqt:(fill==sH)=false:=by simpa using hf
            rw[hqt] at hq;unfold sH at hq hqt;have ha:ans=.ok (k,ps.map dm.pc++[⟨n,l',fill,rule,EG level⟩]):=by rw[HA2.out,if_neg hf]
            subst ha;clear HA2 hf SFd;have hVs:=rJ.size;have y4:w3.cell? (ak BS 0)=some (.slice zw l'.length xx):=(b3.cell (aC (w:=wc.drew) bs0)).trans bs0;have y5:w3.cell? (ak WB 3)=some v:=(b3.cell (aC (w:=wc.drew) wb3)).trans wb3;obtain⟨ov,kv,JE⟩:=aH HS.out.own;subst JE;obtain⟨i0,hi,hz0,hz1,hz2⟩:=info_parts a0K;have SRd:=fun U (hU:Below w3.heap.size w3 U)=>SR U (aG rJ hU);have SLd:=fun U (hU:Below w3.heap.size w3 U)=>SL U (aG rJ hU);have RLd:=fun U (hU:Below w3.heap.size w3 U)=>Dt (HN.out.below (aG rJ hU)) level hlv;have KEEP:∀U,Below w3.heap.size w3 U->U.cell? (ak Bw 0)=some (ay WB)/\U.cell? (ak WB 1)=some (rR Bd Bl)/\U.cell? (ak PB 0)=some (aa n)/\U.cell? (ak BS 0)=some (.slice zw l'.length xx)/\U.cell? (ak WB 3)=some (.slice ov ps.length kv):=fun U hU=>⟨(hU.cell (aC x1)).trans x1,(hU.cell (aC x2)).trans x2,(hU.cell (aC x3)).trans x3,(hU.cell (aC y4)).trans y4,(hU.cell (aC y5)).trans y5⟩;have neW:(Value.slice ov ps.length kv).ownBlock≠some WB:=fun e1=>by
              obtain⟨cs,f,h1, -⟩:=fo HS.out.own WB e1;rw[HS.out.wb] at h1;cases h1
            have OW6:∀U,Below w3.heap.size w3 U->(U.alloc (.cells #[aa n,.slice zw l'.length xx,bV fill,bV rule,aa (EG level)] 138)).ownsRow base 138 5 (.slice ov ps.length kv) ps.length (cellsS ps):=fun U hU=>World.ownsRow.alloc (aP HS.out.own (aG rJ hU)) _;have kw3:=(rJ.block _ (aY hwB)).trans hwB;have kW3:=(rJ.block _ (aY HS.out.wb)).trans HS.out.wb;have kP3:=(rJ.block _ (aY hp)).trans hp;have kB3:w3.heap[BS]? =some (.cells #[.slice zw l'.length xx] 136):=(b3.block _ (aY (w:=wc.drew) KB2)).trans KB2;have ROW:∀U,Below w3.heap.size w3 U->∀w7,(U.alloc (.cells #[aa n,.slice zw l'.length xx,bV fill,bV rule,aa (EG level)] 138)).grownBy w7 (Value.slice ov ps.length kv).ownBlock->∀(b:Nat) (cs:Array ah) (t:TypeId),w3.heap[b]? =some (Obj.cells cs t)->t≠138->w7.heap[b]? =some (Obj.cells cs t):=fun U hU w7 gr b cs t hb ht=>by
              have b8:=aG hU (di U (.cells #[aa n,.slice zw l'.length xx,bV fill,bV rule,aa (EG level)] 138));refine(gr.block b (Nat.lt_of_lt_of_le (aY hb) b8.size) (fun e1=>?_)).trans ((b8.block b (aY hb)).trans hb);obtain⟨cs',f',h1, -⟩:=fo (aP HS.out.own rJ) b e1.symm;rw[hb] at h1;cases h1;exact ht rfl
            have A7:∀U,Below w3.heap.size w3 U->∀w7,(U.alloc (.cells #[aa n,.slice zw l'.length xx,bV fill,bV rule,aa (EG level)] 138)).grownBy w7 (Value.slice ov ps.length kv).ownBlock->S9 Bw WB PB BS n (rR Bd Bl) (.slice zw l'.length xx) (.slice ov ps.length kv) w7/\w7.frozen? ⟨WB,3,none⟩=false:=fun U hU w7 gr=>by
              have rW:=ROW U hU w7 gr WB _ _ kW3 (by decide);exact⟨⟨aF (ROW U hU w7 gr Bw _ _ kw3 (by decide)) 0 _ rfl,aF rW 1 _ rfl,aF (ROW U hU w7 gr PB _ _ kP3 (by decide)) 0 _ rfl,aF (ROW U hU w7 gr BS _ _ kB3 (by decide)) 0 _ rfl,aF rW 3 _ rfl⟩,cO rW 3⟩
            have HB3:Hid (gU w3 V.heap.size (.slice zw l'.length xx) l'):=(HOW.out.keep (⟨b3.os,b3.tape,b3.output,b3.size,b3.block⟩:Below wc.heap.size wc w3):gU w3 V.heap.size (.slice zw l'.length xx) l');have acI:=aj rJ;clear ROW kw3 kW3 kP3 kB3 hown2 HOW hwB NW2 NW b1 b2 b3 rJ hpw a8A KB KB2 wbk wb1 wb3 bs0 pz0 bw0 hr hw hp p0 pw0 SF SR SL;go_upto_region 9 with fail;refine Kl (S9 Bw WB PB BS n (rR Bd Bl) (.slice zw l'.length xx) (.slice ov ps.length kv)) 35 (by kernel_rfl) ?_;have hS:S9 Bw WB PB BS n (rR Bd Bl) (.slice zw l'.length xx) (.slice ov ps.length kv) w3.drew:=⟨x1,x2,x3,y4,y5⟩;refine bH (v:=?v0) 0 rfl (by kernel_rfl) (by kernel_rfl) (by kernel_rfl) (by kernel_rfl) (fun _ _ _ h=>h) hS (.inl ⟨rfl,fun w hw=>?hy0⟩) ?hr0
            case hy0=>obtain⟨g1,g2,g3,g4,g5⟩:=hw;go_simp;try with_reducible rfl
            simp only[Act.put,List.setIfInBounds_toArray];refine bH (v:=?v1) 1 rfl (by kernel_rfl) (by kernel_rfl) (by kernel_rfl) (by kernel_rfl) (fun _ _ _ h=>h) hS (.inl ⟨rfl,fun w hw=>?hy1⟩) ?hr1
            case hy1=>obtain⟨g1,g2,g3,g4,g5⟩:=hw;go_simp;try with_reducible rfl
            simp only[Act.put];refine bH (v:=?v2) 2 rfl (by kernel_rfl) (by kernel_rfl) (by kernel_rfl) (by kernel_rfl) (fun _ _ _ h=>h) hS (.inl ⟨rfl,fun w hw=>?hy2⟩) ?hr2
            case hy2=>obtain⟨g1,g2,g3,g4,g5⟩:=hw;go_simp;try with_reducible rfl
            simp only[Act.put];refine bH (v:=?v3) 3 rfl (by kernel_rfl) (by kernel_rfl) (by kernel_rfl) (by kernel_rfl) (fun _ _ _ h=>h) hS (.inl ⟨rfl,fun w hw=>?hy3⟩) ?hr3
            case hy3=>obtain⟨g1,g2,g3,g4,g5⟩:=hw;go_simp;try with_reducible rfl
            simp only[Act.put];refine bH (v:=?v4) 4 rfl (by kernel_rfl) (by kernel_rfl) (by kernel_rfl) (by kernel_rfl) (fun _ _ _ h=>h) hS (.inl ⟨rfl,fun w hw=>?hy4⟩) ?hr4
            case hy4=>obtain⟨g1,g2,g3,g4,g5⟩:=hw;go_simp;try with_reducible rfl
            simp only[Act.put];refine bH (v:=?v5) 5 rfl (by kernel_rfl) (by kernel_rfl) (by kernel_rfl) (by kernel_rfl) (fun _ _ _ h=>h) hS (.inl ⟨rfl,fun w hw=>?hy5⟩) ?hr5
            case hy5=>obtain⟨g1,g2,g3,g4,g5⟩:=hw;go_simp;try with_reducible rfl
            simp only[Act.put];refine bH (v:=?v6) 6 rfl (by kernel_rfl) (by kernel_rfl) (by kernel_rfl) (by kernel_rfl) (fun _ _ _ h=>h) hS (.inl ⟨rfl,fun w hw=>?hy6⟩) ?hr6
            case hy6=>obtain⟨g1,g2,g3,g4,g5⟩:=hw;go_simp;try with_reducible rfl
            simp only[Act.put];refine bH (v:=?v7) 7 rfl (by kernel_rfl) (by kernel_rfl) (by kernel_rfl) (by kernel_rfl) (fun _ _ _ h=>h) hS (.inl ⟨rfl,fun w hw=>?hy7⟩) ?hr7
            case hy7=>obtain⟨g1,g2,g3,g4,g5⟩:=hw;go_simp;try with_reducible rfl
            simp only[Act.put];refine bH (v:=?v8) 8 rfl (by kernel_rfl) (by kernel_rfl) (by kernel_rfl) (by kernel_rfl) (fun _ _ _ h=>h) hS (.inl ⟨rfl,fun w hw=>?hy8⟩) ?hr8
            case hy8=>obtain⟨g1,g2,g3,g4,g5⟩:=hw;go_simp;try with_reducible rfl
            simp only[Act.put];refine bH (v:=?v9) 9 rfl (by kernel_rfl) (by kernel_rfl) (by kernel_rfl) (by kernel_rfl) (fun _ _ _ h=>h) hS (.inl ⟨rfl,fun w hw=>?hy9⟩) ?hr9
            case hy9=>obtain⟨g1,g2,g3,g4,g5⟩:=hw;go_simp;try with_reducible rfl
            simp only[Act.put];refine bH (v:=?v10) 10 rfl (by kernel_rfl) (by kernel_rfl) (by kernel_rfl) (by kernel_rfl) (fun _ _ _ h=>h) hS (.inl ⟨rfl,fun w hw=>?a4c⟩) ?acN
            case a4c=>obtain⟨g1,g2,g3,g4,g5⟩:=hw;go_simp;try with_reducible rfl
            simp only[Act.put];refine bH (v:=?v11) 11 rfl (by kernel_rfl) (by kernel_rfl) (by kernel_rfl) (by kernel_rfl) (fun _ _ _ h=>h) hS (.inl ⟨rfl,fun w hw=>?a4d⟩) ?acO
            case a4d=>obtain⟨g1,g2,g3,g4,g5⟩:=hw;go_simp;try with_reducible rfl
            simp only[Act.put];refine bH (v:=?v12) 12 rfl (by kernel_rfl) (by kernel_rfl) (by kernel_rfl) (by kernel_rfl) (fun _ _ _ h=>h) hS (.inl ⟨rfl,fun w hw=>?a4e⟩) ?acP
            case a4e=>obtain⟨g1,g2,g3,g4,g5⟩:=hw;go_simp;try with_reducible rfl
            simp only[Act.put];refine bH (v:=?v13) 13 rfl (by kernel_rfl) (by kernel_rfl) (by kernel_rfl) (by kernel_rfl) (fun _ _ _ h=>h) hS (.inl ⟨rfl,fun w hw=>?acQ⟩) ?akG
            case acQ=>obtain⟨g1,g2,g3,g4,g5⟩:=hw;go_simp;try with_reducible rfl
            simp only[Act.put];refine bH (v:=?v14) 14 rfl (by kernel_rfl) (by kernel_rfl) (by kernel_rfl) (by kernel_rfl) (fun _ _ _ h=>h) hS (.inl ⟨rfl,fun w hw=>?a4f⟩) ?acR
            case a4f=>obtain⟨g1,g2,g3,g4,g5⟩:=hw;go_simp;try with_reducible rfl
            simp only[Act.put];refine bH (v:=?v15) 15 rfl (by kernel_rfl) (by kernel_rfl) (by kernel_rfl) (by kernel_rfl) (fun _ _ _ h=>h) hS (.inl ⟨rfl,fun w hw=>?a4g⟩) ?acS
            case a4g=>obtain⟨g1,g2,g3,g4,g5⟩:=hw;go_simp;try with_reducible rfl
            simp only[Act.put];refine bH (v:=?v16) 16 rfl (by kernel_rfl) (by kernel_rfl) (by kernel_rfl) (by kernel_rfl) (fun _ _ _ h=>h) hS (.inl ⟨rfl,fun w hw=>?a4h⟩) ?acT
            case a4h=>obtain⟨g1,g2,g3,g4,g5⟩:=hw;go_simp;try with_reducible rfl
            simp only[Act.put];refine bH (v:=?v17) 17 rfl (by kernel_rfl) (by kernel_rfl) (by kernel_rfl) (by kernel_rfl) (fun _ _ _ h=>h) hS (.inl ⟨rfl,fun w hw=>?a4i⟩) ?acU
            case a4i=>obtain⟨g1,g2,g3,g4,g5⟩:=hw;go_simp;try with_reducible rfl
            simp only[Act.put];refine bH (v:=?v18) 18 rfl (by kernel_rfl) (by kernel_rfl) (by kernel_rfl) (by kernel_rfl) (fun _ _ _ h=>h) hS (.inl ⟨rfl,fun w hw=>?a4j⟩) ?acV
            case a4j=>obtain⟨g1,g2,g3,g4,g5⟩:=hw;go_simp;try with_reducible rfl
            simp only[Act.put];refine bH (v:=?v20) 20 rfl (by kernel_rfl) (by kernel_rfl) (by kernel_rfl) (by kernel_rfl) (fun _ _ _ h=>h) hS (.inl ⟨rfl,fun w hw=>?a4k⟩) ?acW
            case a4k=>obtain⟨g1,g2,g3,g4,g5⟩:=hw;go_simp;try with_reducible rfl
            simp only[Act.put];refine bH (v:=?v21) 21 rfl (by kernel_rfl) (by kernel_rfl) (by kernel_rfl) (by kernel_rfl) (fun _ _ _ h=>h) hS (.inl ⟨rfl,fun w hw=>?a4l⟩) ?acX
            case a4l=>obtain⟨g1,g2,g3,g4,g5⟩:=hw;go_simp;try with_reducible rfl
            simp only[Act.put];refine bH (v:=?v22) 22 rfl (by kernel_rfl) (by kernel_rfl) (by kernel_rfl) (by kernel_rfl) (fun _ _ _ h=>h) hS (.inl ⟨rfl,fun w hw=>?acY⟩) ?akH
            case acY=>obtain⟨g1,g2,g3,g4,g5⟩:=hw;go_simp;try with_reducible rfl
            simp only[Act.put];refine bH (v:=?v23) 23 rfl (by kernel_rfl) (by kernel_rfl) (by kernel_rfl) (by kernel_rfl) (fun _ _ _ h=>h) hS (.inl ⟨rfl,fun w hw=>?acZ⟩) ?akI
            case acZ=>obtain⟨g1,g2,g3,g4,g5⟩:=hw;go_simp;try with_reducible rfl
            simp only[Act.put];refine bH (v:=?v24) 24 rfl (by kernel_rfl) (by kernel_rfl) (by kernel_rfl) (by kernel_rfl) (fun _ _ _ h=>h) hS (.inl ⟨rfl,fun w hw=>?hy24⟩) ?akJ
            case hy24=>obtain⟨g1,g2,g3,g4,g5⟩:=hw;go_simp;try with_reducible rfl
            simp only[Act.put];refine bH (v:=?v25) 25 rfl (by kernel_rfl) (by kernel_rfl) (by kernel_rfl) (by kernel_rfl) (fun _ _ _ h=>h) hS (.inl ⟨rfl,fun w hw=>?hy25⟩) ?akK
            case hy25=>obtain⟨g1,g2,g3,g4,g5⟩:=hw;go_simp;try with_reducible rfl
            simp only[Act.put];refine bH (v:=?v26) 26 rfl (by kernel_rfl) (by kernel_rfl) (by kernel_rfl) (by kernel_rfl) (fun _ _ _ h=>h) hS (.inl ⟨rfl,fun w hw=>?ad1⟩) ?akL
            case ad1=>obtain⟨g1,g2,g3,g4,g5⟩:=hw;go_simp;try with_reducible rfl
            simp only[Act.put];refine bH (v:=?v27) 27 rfl (by kernel_rfl) (by kernel_rfl) (by kernel_rfl) (by kernel_rfl) (fun _ _ _ h=>h) hS (.inl ⟨rfl,fun w hw=>?hy27⟩) ?akM
            case hy27=>obtain⟨g1,g2,g3,g4,g5⟩:=hw;go_simp;try with_reducible rfl
            simp only[Act.put];refine nD 19 (by kernel_rfl) rfl (fun K hK=>?_);go_simp;go_wp2_with(go_at_call 49;refine(SRd _ (below_drewN (Below.refl _ _) 1)).mono ?_;rintro e w4 ⟨rfl,b4⟩);have bb4:Below w3.heap.size w3 w4:=aG (below_drewN (Below.refl w3.heap.size w3) 1) b4;have hS4:S9 Bw WB PB BS n (rR Bd Bl) (.slice zw l'.length xx) (.slice ov ps.length kv) w4:=KEEP w4 bb4;refine hK.out _ _ (fun _=>hS4) ?_;clear hK;refine nD 28 (by kernel_rfl) rfl (fun K hK=>?_);go_simp;go_wp2_with(go_at_call 49;refine(SLd _ bb4).mono ?_;rintro e w5 ⟨rfl,b5⟩);have bb5:=aG bb4 b5;have hS5:S9 Bw WB PB BS n (rR Bd Bl) (.slice zw l'.length xx) (.slice ov ps.length kv) w5:=KEEP w5 bb5;refine hK.out _ _ (fun _=>hS5) ?_;clear hK;refine nD 29 (by kernel_rfl) rfl (fun K hK=>?_);go_simp;go_wp2_with(go_at_call 192;refine(RLd _ bb5).mono ?_;rintro e w6 ⟨rfl,b6⟩);have bb6:=aG bb5 b6;have hS6:S9 Bw WB PB BS n (rR Bd Bl) (.slice zw l'.length xx) (.slice ov ps.length kv) w6:=KEEP w6 bb6;refine hK.out _ _ (fun _=>hS6) ?_;clear hK;refine bH (v:=?v30) 30 rfl (by kernel_rfl) (by kernel_rfl) (by kernel_rfl) (by kernel_rfl) (fun _ _ _ h=>h) hS6 (.inl ⟨rfl,fun w hw=>?ad5⟩) ?akN
            case ad5=>obtain⟨g1,g2,g3,g4,g5⟩:=hw;go_simp;try with_reducible rfl
            simp only[Act.put];refine nD 31 (by kernel_rfl) rfl (fun K hK=>?_);go_simp;have hS7:S9 Bw WB PB BS n (rR Bd Bl) (.slice zw l'.length xx) (.slice ov ps.length kv) (w6.alloc (.cells #[aa n,.slice zw l'.length xx,bV fill,bV rule,aa (EG level)] 138)):=⟨dQ _ hS6.1,dQ _ hS6.2.1,dQ _ hS6.2.2.1,dQ _ hS6.2.2.2.1,dQ _ hS6.2.2.2.2⟩;have YK:=OW6 w6 bb6;have hs6:=bb6.size;have H0:=cZ w6 #[aa n,.slice zw l'.length xx,bV fill,bV rule,aa (EG level)] 138;refine hK.out _ _ (fun _=>hS7) ?_;clear hK;refine nD 32 (by kernel_rfl) rfl (fun K hK=>?_);refine step_append_lies _ rfl (.tmp 57) (.tmp 84) 73 rfl base 138 i0 (.agg #[aa 0,.slice none 0 0,.string ⟨#[]⟩,.string ⟨#[]⟩,aa 0]) 5 72 underlying73 hi hz0 hz1 hz2 rfl (by decide) (.slice ov ps.length kv) ps.length (cellsS ps) rfl YK ⟨w6.heap.size,0,none⟩ 1 1 [aa n,.slice zw l'.length xx,bV fill,bV rule,aa (EG level)] rfl rfl (World.news_of_block H0) (fun u hu=>by simp at hu;rcases hu with rfl|rfl|rfl|rfl|rfl<;>rfl) (by decide) (by simp only[maxLen];omega) (by omega) (by simp;omega) _ rfl ?_;intro g7 tK w7 kF lH Zb a6y;obtain⟨hS8,t6⟩:=A7 w6 bb6 w7 lH;have t5:=hS8.2.2.2.2;refine hK.out _ _ (fun _=>hS8) ?_;clear hK;simp only[Act.put];refine nD 33 (by kernel_rfl) rfl (fun K hK=>?_);go_simp;refine hK.out _ _ (fun _=>hS8) ?_;clear hK;refine nD 34 (by kernel_rfl) rfl (fun K hK=>?_);go_simp;refine hK.out _ _ (fun _=>hS8) ?_;clear hK;refine nD 35 (by kernel_rfl) rfl (fun K hK=>?_);go_simp;refine hK.out _ _ (fun h=>absurd rfl h) ?_;clear hK;refine XD (by kernel_rfl) ?_ _;go_wp2_with fail;go_ret;have b37:=aG acI.out (aG bb6 (di w6 (.cells #[aa n,.slice zw l'.length xx,bV fill,bV rule,aa (EG level)] 138)));obtain⟨r1,r2,r3⟩:=Sc.app (x:=⟨n,zw,xx,l',fill,rule,EG level⟩) HS.out b37 ((HB3.out.keep (aG bb6 (di w6 _))).low hbase) HR.out kF lH Zb;exact⟨⟨rfl,ps++[⟨n,zw,xx,l',fill,rule,EG level⟩],_,by rw[List.map_append];rfl,r1,r3⟩,r2⟩
end
end
section
open Go.RowKit Go.Shelf
abbrev fnV (f WB:Nat):ah:=.func (.func f) #[ay WB] #[]
abbrev shV (Br Bw:Nat):ah:=.func (.func 190) #[] #[ay Br,ay Bw]
def ByR (WB f:Nat)(W:ag)(e:Ending)(w':ag):Prop:=∃Br Bw,e=.returned (shV Br Bw)/\w'.cell? (ak Br 0)=some (fnV f WB)/\w'.heap[Bw]? =some (.cells #[ay WB] 119)/\Below W.heap.size W w'
theorem yM (WB f:Nat)(W:ag):ax 139 #[ay WB,fnV f WB] W fun e w'=>ByR WB f W e w':=by
 have b0:=di W (.cells #[ay WB] 119);have K0:=cZ W #[ay WB] 119;have b1:=di (W.alloc (.cells #[ay WB] 119)) (.cells #[fnV f WB] 224);have K1:=cZ (W.alloc (.cells #[ay WB] 119)) #[fnV f WB] 224;have K2:=(b1.block _ (aY K0)).trans K0;rw[World.size_alloc] at K1;have HH:Hid (ByR WB f W (.returned (shV (W.heap.size+1) W.heap.size)) ((W.alloc (.cells #[ay WB] 119)).alloc (.cells #[fnV f WB] 224))):=⟨_,_,rfl,aF K1 0 _ rfl,K2,aG b0 b1⟩;clear b0 K0 b1 K1 K2;go_enter func139,ntmps139;go_wp2;go_ret;exact HH.out
section
variable (WB:Nat)(W:ag)
theorem a0L:ax 96 #[ay WB,bV Df] W fun e w'=>ByR WB 140 W e w':=by
 have BY:=yM WB 140 W;unfold Df;go_enter func96,ntmps96;go_wp2_with(go_at_call 139;refine BY.mono ?_;rintro e w1 ⟨Br,Bw,rfl,h1,h2,h3⟩);go_ret;exact⟨Br,Bw,rfl,h1,h2,h3⟩
theorem XH:ax 96 #[ay WB,bV sG] W fun e w'=>ByR WB 141 W e w':=by
 have BY:=yM WB 141 W;unfold sG;go_enter func96,ntmps96;go_wp2_with(go_at_call 139;refine BY.mono ?_;rintro e w1 ⟨Br,Bw,rfl,h1,h2,h3⟩);go_ret;exact⟨Br,Bw,rfl,h1,h2,h3⟩
theorem Tp:ax 96 #[ay WB,bV mq] W fun e w'=>e=.returned (fnV 142 WB)/\w'=W:=by
 unfold mq;go_enter func96,ntmps96;go_wp2;go_ret;exact⟨rfl,rfl⟩
theorem a0M:ax 96 #[ay WB,bV JA] W fun e w'=>e=.returned (fnV 143 WB)/\w'=W:=by
 unfold JA;go_enter func96,ntmps96;go_wp2;go_ret;exact⟨rfl,rfl⟩
theorem XI (nm:Bs)(h:nT nm=false):ax 96 #[ay WB,bV nm] W fun e w'=>e=.returned .nilFunc/\w'=W:=by
 have h1:=fD nm Df;have h2:=fD nm sG;have h3:=fD nm mq;have h4:=fD nm JA;have hh:(nm==Df)=false/\(nm==sG)=false/\(nm==mq)=false/\(nm==JA)=false:=by
  unfold nT at h;simp only[Bool.or_eq_false_iff] at h;exact⟨h.1.1.1,h.1.1.2,h.1.2,h.2⟩
 obtain⟨q1,q2,q3,q4⟩:=hh;rw[q1] at h1;rw[q2] at h2;rw[q3] at h3;rw[q4] at h4;unfold Df at h1 q1;unfold sG at h2 q2;unfold mq at h3 q3;unfold JA at h4 q4;clear h;go_enter func96,ntmps96;go_wp2;go_ret;exact⟨rfl,rfl⟩
end
structure En (E:Nat->Addr)(B:Nat)(tg:bf)(W0:ag)(DB MB:Nat)(p:Int->Option Nat)(M:Dm)(nx c:Nat)(r:Int->Nat)(l:List Rl)(B0:Nat)(rv:ah):Prop where
 ds:dN B tg W0 DB MB p M nx c r
 ne:NE E W0
 fit:Dn M
 sz:SzD M
 ok:∀x∈l,YI x
 row:W0.ownsRow B0 110 3 rv l.length (dZ l)
structure wB (WB DB Bd Bl:Nat)(rv:ah)(W0:ag)(k:Nat)(ps:List dm)(v:ah)(V:ag):Prop where
 low:Below W0.heap.size W0 V
 wb:W0.heap.size<=WB
 bd:V.heap[Bd]? =some (.cells #[ay DB] 52)
 bl:V.heap[Bl]? =some (.cells #[rv] 68)
 sc:Sc W0.heap.size WB DB (rR Bd Bl) k ps v V
section
variable {WB DB Bd Bl:Nat}{rv:ah}{W0:ag}{k k':Nat}{ps ps':List dm}{v v':ah}{V V':ag}
theorem wB.next (h:wB WB DB Bd Bl rv W0 k ps v V)(hk:Kw WB v V V')(hs:Sc W0.heap.size WB DB (rR Bd Bl) k' ps' v' V'):wB WB DB Bd Bl rv W0 k' ps' v' V':=
 ⟨h.low.trans (Sc.low h.sc hk h.wb h.low.size),h.wb,h.sc.keep hk h.bd (by decide) (by decide),h.sc.keep hk h.bl (by decide) (by decide),hs⟩
theorem wB.below (h:wB WB DB Bd Bl rv W0 k ps v V)(hb:Below V.heap.size V V'):wB WB DB Bd Bl rv W0 k ps v V':=h.next (Kw.of_below hb) (h.sc.below hb)
theorem wB.ints (h:wB WB DB Bd Bl rv W0 k ps v V)(hk:Kw WB v V V'){b n:Nat}{u:ah}{xs:List ah}(ho:V.ownsRow b 3 1 u n xs):V'.ownsRow b 3 1 u n xs:=
 bT ho fun g hg=>by
  obtain⟨cs,f,h1, -⟩:=fo ho g hg;rw[h1];exact h.sc.keep hk h1 (by decide) (by decide)
end
theorem fold_at {α β ε:Type}(g:β->α->Except ε β)(l:List α)(s s':β)(j:Nat)(h:(l.take j).foldlM g s=.ok s'):l.foldlM g s=(l.drop j).foldlM g s':=by
 conv=>lhs;rw[<- List.take_append_drop j l]
 rw[List.foldlM_append,h];rfl
theorem Tq {α β ε:Type}(g:β->α->Except ε β)(l:List α)(s s' s'':β)(j:Nat)(x:α)(h:(l.take j).foldlM g s=.ok s')(hx:l[j]? =some x)(h2:g s' x=.ok s''):(l.take (j+1)).foldlM g s=.ok s'':=by
 rw[List.take_add_one,hx,List.foldlM_append,h];show([x].foldlM g s')=_;rw[List.foldlM_cons,h2];rfl
theorem XJ {α β ε:Type}(g:β->α->Except ε β)(l:List α)(s s':β)(j:Nat)(x:α)(e:ε)(h:(l.take j).foldlM g s=.ok s')(hx:l[j]? =some x)(h2:g s' x=.error e):l.foldlM g s=.error e:=by
 obtain⟨hj,hx'⟩:=List.getElem?_eq_some_iff.1 hx;rw[fold_at g l s s' j h,List.drop_eq_getElem_cons hj,List.foldlM_cons,hx',h2];rfl
theorem xH {α:Type}(g:Nat×List Pc->α->Except Ft (Nat×List Pc))(hg:∀s x s',g s x=.ok s'->s.1<=s'.1):∀(l:List α) (s s':Nat×List Pc),l.foldlM g s=.ok s'->s.1<=s'.1
 |[],s,s',h=>by cases h;exact Nat.le_refl _
 |x::l,s,s',h=>by
  rw[List.foldlM_cons] at h;cases hx:g s x with
  |error e=>rw[hx] at h;cases h
  |ok t=>
   rw[hx] at h;exact Nat.le_trans (hg s x t hx) (xH g hg l t s' h)
theorem xI (M:Dm)(l:List Rl):∀(f:Nat) (n:Int) (path:List Int) (m:Mv) (st s':Nat×List Pc),dF M l f n path m st=.ok s'->st.1<=s'.1
 |0,n,path,m,st,s',h=>by
  unfold dF at h;split at h<;>cases h
 |f+1,n,path,m,st,s',h=>by
  unfold dF at h;split at h
  ·cases h
  split at h
  ·cases h
  split at h
  ·cases h;exact Nat.le_succ _
  have PC:∀(m':Mv) (x:Except Nat (List Qt)),iH M l n m' x (st.1+1,st.2)=.ok s'->st.1<=s'.1:=fun m' x h=>by
   unfold iH at h;split at h
   ·cases h
   ·split at h
    ·cases h
    ·split at h<;>cases h<;>exact Nat.le_succ _
  split at h
  ·cases h
  ·split at h
   ·exact PC _ _ h
   ·split at h
    ·exact PC _ _ h
    ·split at h
     ·exact Nat.le_trans (Nat.le_succ _) (xH _ (fun s x s' h=>xI M l f x _ _ s s' h) _ (st.1+1,st.2) s' h)
     ·split at h
      ·cases h
      ·exact Nat.le_trans (Nat.le_succ _) (xI M l f _ _ _ (st.1+1,st.2) s' h)
theorem C9 {α:Type}(g:Nat×List Pc->α->Except Ft (Nat×List Pc))(hg:∀s x s',g s x=.ok s'->s.2.length<=s.1->s'.2.length<=s'.1):∀(l:List α) (s s':Nat×List Pc),l.foldlM g s=.ok s'->s.2.length<=s.1->s'.2.length<=s'.1
 |[],s,s',h,h0=>by cases h;exact h0
 |x::l,s,s',h,h0=>by
  rw[List.foldlM_cons] at h;cases hx:g s x with
  |error e=>rw[hx] at h;cases h
  |ok t=>
   rw[hx] at h;exact C9 g hg l t s' h (hg s x t hx h0)
theorem qM (M:Dm)(l:List Rl):∀(f:Nat) (n:Int) (path:List Int) (m:Mv) (st s':Nat×List Pc),dF M l f n path m st=.ok s'->st.2.length<=st.1->s'.2.length<=s'.1
 |0,n,path,m,st,s',h,_=>by
  unfold dF at h;split at h<;>cases h
 |f+1,n,path,m,st,s',h,h0=>by
  unfold dF at h;split at h
  ·cases h
  split at h
  ·cases h
  split at h
  ·cases h;exact Nat.le_succ_of_le h0
  have PC:∀(m':Mv) (x:Except Nat (List Qt)),iH M l n m' x (st.1+1,st.2)=.ok s'->s'.2.length<=s'.1:=fun m' x h=>by
   unfold iH at h;split at h
   ·cases h
   ·split at h
    ·cases h
    ·split at h
     ·cases h;exact Nat.le_succ_of_le h0
     ·cases h;rw[List.length_append];exact Nat.succ_le_succ h0
  split at h
  ·cases h
  ·split at h
   ·exact PC _ _ h
   ·split at h
    ·exact PC _ _ h
    ·split at h
     ·exact C9 _ (fun s x s' h=>qM M l f x _ _ s s' h) _ (st.1+1,st.2) s' h (Nat.le_succ_of_le h0)
     ·split at h
      ·cases h
      ·exact qM M l f _ _ _ (st.1+1,st.2) s' h (Nat.le_succ_of_le h0)
theorem XK {M:Dm}{n:Int}{m m':Mv}(hm:m.ok)(h:sI M n m=.ok m'):m'.ok:=by
 unfold sI at h;split at h
 ·cases h
 ·next h1=>
  split at h
  ·next h2=>
   cases h;exact((wQ (Ke (by omega)) hm).2 h2).1
  ·cases h
theorem a4o (p:Rl->Bool):∀(l:List Rl),(∀x∈l,Da x)->(Cy p l).1.length<=12:=fun l=>by
 have key:∀(l:List Rl) (a:Bs×Bool×Nat),(∀x∈l,Da x)->a.1.length<=12->(l.foldl (jl p) a).1.length<=12:=fun l=>by
  induction l with
  |nil=>intro a _ ha;exact ha
  |cons x l ih=>
   intro a hl ha;refine ih _ (fun y hy=>hl y (by simp[hy])) ?_;have hv:=(hl x (by simp)).2.2.1;unfold wM at hv;simp only[Bool.and_eq_true,decide_eq_true_eq] at hv;by_cases h1:a.2.2<=Yz x.wh
   ·cases h2:p x with
    |true=>rw[Af h1 h2];exact hv.1.2
    |false=>rw[Eh h2];exact ha
   ·rw[Ae h1];exact ha
 intro hl;exact key l _ hl (by simp)
theorem a4p {M:Dm}{l:List Rl}(hz:SzD M)(hl:∀x∈l,Da x)(nm:Bs)(n:Int):(ofM M l nm n).length<=200:=by
 have F:(firstM nm).length<=200:=by
  unfold firstM
  repeat' split
  all_goals decide
 have key:∀(f:Nat) (n:Int),(Ip M l nm f n).length<=200:=fun f=>by
  induction f with
  |zero=>intro n;exact F
  |succ f ih=>
   intro n;unfold Ip;split
   ·exact F
   ·split
    ·next v hv=>
     unfold uT at hv;split at hv
     ·next v' ha=>cases hv;exact Gt hz ha
     ·split at hv
      ·cases hv;exact Nat.le_trans (a4o _ l hl) (by omega)
      ·cases hv
    ·split
     ·exact ih _
     ·exact F
 unfold ofM;split
 ·exact key 12 n
 ·simp
section
variable {E:Nat->Addr}{B:Nat}{tg:bf}{W0:ag}{DB MB:Nat}{p:Int->Option Nat}{M:Dm}{nx c:Nat}{r:Int->Nat}{l:List Rl}{B0:Nat}{rv:ah}{WB Bd Bl:Nat}
theorem En.style (h:En E B tg W0 DB MB p M nx c r l B0 rv){k:Nat}{ps:List dm}{v:ah}{V:ag}(hw:wB WB DB Bd Bl rv W0 k ps v V)(n:Int)(hn:bA n)(nm:Bs):
  ax 49 #[aa n,bV nm,ay Bd,ay Bl] V fun e w'=>e=.returned (bV (ofM M l nm n))/\Below V.heap.size V w':=
 Tn (h.ds.below hw.low).w h.ds.d h.fit l h.ok B0 rv (aP h.row hw.low) Bd Bl (aF hw.bd 0 _ rfl) (aF hw.bl 0 _ rfl) n hn nm
def COME (E:Nat->Addr)(WB DB Bd Bl:Nat)(rv:ah)(W0:ag)(M:Dm)(l:List Rl)(f:Nat):Prop:=∀(k:Nat) (ps:List dm) (v:ah) (V:ag) (n n0:Int) (m:Mv) (path:List (Int×Mv)) (q:Nat),101<=f+k->ps.length<=k->bA n->wB WB DB Bd Bl rv W0 k ps v V->eT V (some q) ((n0,m)::path)->m.ok->
 ax 51 #[ay WB,aa n,ay q] V fun e w'=>iP E W0.heap.size WB DB (rR Bd Bl) v V (dF M l f n (n0::path.map Prod.fst) m (k,ps.map dm.pc)) e w'/\Kw WB v V w'
def GrL (WB DB Bd Bl:Nat)(rv:ah)(W0:ag)(V:ag)(v:ah)(g:Nat×List Pc->Int->Except Ft (Nat×List Pc))(ks:List Int)(s:Nat×List Pc)(j:Nat)(wr:ag):Prop:=∃ps' v',(ks.take j).foldlM g s=.ok ps'/\∃qs,qs.map dm.pc=ps'.2/\wB WB DB Bd Bl rv W0 ps'.1 qs v' wr/\Kw WB v V wr/\(v'.ownBlock=v.ownBlock\/∀b,v'.ownBlock=some b->V.heap.size<=b)
end
end
section
open Go.RowKit Go.Shelf
set_option maxRecDepth 20000
section
variable {E:Nat->Addr}{B:Nat}{tg:bf}{W0:ag}{DB MB:Nat}{p:Int->Option Nat}{M:Dm}{nx c:Nat}{r:Int->Nat}{l:List Rl}{B0:Nat}{rv:ah}{WB Bd Bl:Nat}
theorem a0N (h:En E B tg W0 DB MB p M nx c r l B0 rv)(n:Int):(∀x∈qH M n,bA x)/\(qH M n).length<=100:=by
 unfold qH;cases hm:M n with
 |none=>exact⟨fun x hx=>(by cases hx),Nat.zero_le _⟩
 |some e=>exact⟨(h.ds.w.wf n e hm).2,h.ds.few hm⟩
theorem vU {v v' v2:ah}{V wr:ag}(h:v'.ownBlock=v.ownBlock\/∀b,v'.ownBlock=some b->V.heap.size<=b)(h2:v2.ownBlock=v'.ownBlock\/∀b,v2.ownBlock=some b->wr.heap.size<=b)(hs:V.heap.size<=wr.heap.size):v2.ownBlock=v.ownBlock\/∀b,v2.ownBlock=some b->V.heap.size<=b:=by
 rcases h2 with e|e
 ·rw[e];exact h
 ·exact .inr fun b hb=>Nat.le_trans hs (e b hb)
theorem Dx (h:En E B tg W0 DB MB p M nx c r l B0 rv)(f:Nat)(hC:COME E WB DB Bd Bl rv W0 M l f)(k:Nat)(ps:List dm)(v:ah)(V:ag)(n:Int)(m:Mv)(path:List (Int×Mv))(q:Nat)(hf:101<=f+k)(Sz:ps.length<=k)(hn:bA n)(hw:wB WB DB Bd Bl rv W0 k ps v V)(hp:eT V (some q) ((n,m)::path))(hm:m.ok):
  ax 142 #[ay WB,ay q] V fun e w'=>iP E W0.heap.size WB DB (rR Bd Bl) v V ((dF.Pp M n).foldlM (fun s x=>dF M l f x (n::path.map Prod.fst) m s) (k,ps.map dm.pc)) e w'/\Kw WB v V w':=by
 obtain⟨hkw,hkl⟩:=a0N h n;have hwd:=hw.below (below_drewN (Below.refl V.heap.size V) 1);have KD:=WV (h.ds.below hwd.low).w n hn (by omega);have HC:=aj hC;have HW:=aj hw;have HP:=aj hp;have HM:Hid m.ok:=hm;have HKW:=aj hkw;have w0:=aF hw.sc.wb 0 _ rfl;have q0:V.cell? (ak q 0)=some (aa n):=by
  obtain⟨b,q',h1,h2, -⟩:=hp;cases h1;exact aF h2 0 _ rfl
 obtain⟨g,hg⟩:∃g:Nat×List Pc->Int->Except Ft (Nat×List Pc),(fun s x=>dF M l f x (n::path.map Prod.fst) m s)=g:=⟨_,rfl⟩;rw[hg];have HG:=aj hg;have hgr:Hid (∀(L:List Int) (s s':Nat×List Pc),L.foldlM g s=.ok s'->s.1<=s'.1):=(fun L s s' h=>xH g (fun s x s' hs=>xI M l f x _ m s s' (by rw[<- hg] at hs;exact hs)) L s s' h:∀(L:List Int) (s s':Nat×List Pc),L.foldlM g s=.ok s'->s.1<=s'.1);have hfw:Hid (∀(L:List Int) (s':Nat×List Pc),L.foldlM g (k,ps.map dm.pc)=.ok s'->s'.2.length<=s'.1):=(fun L s' h=>C9 g (fun s x s' hs=>qM M l f x _ m s s' (by rw[<- hg] at hs;exact hs)) L (k,ps.map dm.pc) s' h (by simpa using Sz):∀(L:List Int) (s':Nat×List Pc),L.foldlM g (k,ps.map dm.pc)=.ok s'->s'.2.length<=s'.1);show Calls _ _ _ _ fun e w'=>iP E W0.heap.size WB DB (rR Bd Bl) v V ((qH M n).foldlM g (k,ps.map dm.pc)) e w'/\Kw WB v V w';generalize qH M n=ks at KD HKW hkl⊢;clear hkw hw hp hm hC hg hwd;go_enter func142,ntmps142;go_upto_region 1 with fail
 go_region_held3 (fun w'=>w'.cell? (ak WB 0)=some (ay DB)/\w'.cell? (ak q 0)=some (aa n)) (first|exact⟨w0,q0⟩|exact⟨z1,z2⟩) (first|(go_at_call 196;refine KD.mono ?_;rintro e w1 ⟨ok,kk,rfl,hown,hb1⟩;have z1:=(hb1.cell (aC (w:=V.drew) w0)).trans w0;have z2:=(hb1.cell (aC (w:=V.drew) q0)).trans q0))
 all_goals
  have YJ:Below V.heap.size V w1:=⟨hb1.os,hb1.tape,hb1.output,hb1.size,hb1.block⟩;have W1:Hid (wB WB DB Bd Bl rv W0 k ps v w1):=(HW.out.below YJ:wB WB DB Bd Bl rv W0 k ps v w1);have HO:=aj hown;clear hown hb1 KD w0 q0;have hcap:(ks.length:Int)<=(kk:Int):=by
   obtain⟨o',c',h1,h2, -⟩:=bS HO.out;cases h1;omega
  clear z1 z2;go_wp2_with fail
  go_loopw [18] (fun y wr=>∃j:Nat,j<=ks.length/\y=aa j/\GrL WB DB Bd Bl rv W0 w1 v g ks (k,ps.map dm.pc) j wr) (fun y _=>ks.length-(intOf y).toNat)
  case atStart=>exact⟨0,Nat.zero_le _,rfl,(k,ps.map dm.pc),v,rfl,ps,rfl,W1.out,Kw.refl _ _ _,.inl rfl⟩
  case round=>
   obtain⟨j,hj,rfl,st,v',hfo,qs,hqs,hwk,hkw,hloc⟩:=hrel;have HFO:=aj hfo;have HQS:=aj hqs;have HWK:=aj hwk;have HK:=aj hkw;have HL:=aj hloc;clear hfo hqs hwk hkw hloc;by_cases hlt:j<ks.length
   ·have hlt':(j:Int)<(ks.length:Int):=by omega
    obtain⟨x,hx, -⟩:=drop_at hlt;have HX:=aj hx;have hOr:=W1.out.ints HK.out HO.out;obtain⟨gb,c0⟩:∃gb,ok=some ⟨gb,0,none⟩/\wr.cell? (ak gb j)=some (aa x):=by
     rcases ints_at hOr with⟨h1, -⟩|⟨gb,cap,h1, -,h3⟩
     ·rw[h1] at hlt;simp at hlt
     ·cases h1;exact⟨gb,rfl,h3 j x hx⟩
    obtain⟨rfl,c0⟩:=c0;clear hOr;have hcnt:=hgr.out _ _ _ HFO.out;have hqf:qs.length<=st.1:=by
     have:=hfw.out _ _ HFO.out;rw[<- HQS.out,List.length_map] at this;exact this
    have hpt:eT wr (some q) ((n,m)::path):=W1.out.sc.path HK.out (HW.out.sc.path (Kw.of_below YJ) HP.out);have CM:=HC.out st.1 qs v' wr x n m path q (by simp only at hcnt;omega) hqf (HKW.out x (List.mem_of_getElem? hx)) HWK.out hpt HM.out;have hst:(st.1,qs.map dm.pc)=st:=by rw[HQS.out]
    rw[hst] at CM;obtain⟨res,hres⟩:∃res,dF M l f x (n::path.map Prod.fst) m st=res:=⟨_,rfl⟩;rw[hres] at CM;have a8F:Hid (g st x=res):=by
     have h2:g st x=dF M l f x (n::path.map Prod.fst) m st:=by rw[<- HG.out]
     exact h2.trans hres
    clear hres hst hpt hcnt hx;cases res with
    |error ft=>
     have CM':ax 51 #[ay WB,aa x,ay q] wr fun e w'=>∃pb,e=.returned (.iface 113 (ay pb))/\Hid (Un E ft wr.heap.size (.iface 113 (ay pb)) w'/\Kw WB v' wr w'):=CM.mono fun e w' ⟨⟨u,h1,h2⟩,h3⟩=>by
      obtain⟨pb,h4,rfl,h5⟩:=h2;exact⟨pb,h1,⟨pb,h4,rfl,h5⟩,h3⟩
     clear CM;go_wp2_with(go_at_call 51;refine CM'.mono ?_;rintro e w2 ⟨pb,rfl,h2⟩);go_ret;obtain⟨h2,h3⟩:=h2.out;have h4:=XJ g ks _ _ j x ft HFO.out HX.out a8F.out;rw[h4];have hs1:=YJ.size;have hs2:=HK.out.size;exact⟨⟨_,rfl,h2.low (by omega)⟩,(Kw.of_below YJ).trans (.inl rfl) (HK.out.trans HL.out h3)⟩
    |ok s2=>
     have CM':ax 51 #[ay WB,aa x,ay q] wr fun e w'=>e=.returned .nilIface/\Hid ((∃ps2 v2,ps2.map dm.pc=s2.2/\Sc W0.heap.size WB DB (rR Bd Bl) s2.1 ps2 v2 w'/\(v2.ownBlock=v'.ownBlock\/∀b,v2.ownBlock=some b->wr.heap.size<=b))/\Kw WB v' wr w'):=CM.mono fun e w' ⟨⟨h1,h2⟩,h3⟩=>⟨h1,h2,h3⟩;clear CM;go_wp2_with(go_at_call 51;refine CM'.mono ?_;rintro e w2 ⟨rfl,h2⟩)
     go_roundw
     case rel=>
      obtain⟨⟨ps2,v2,h3,h4,h5⟩,h6⟩:=h2.out;exact⟨j+1,by omega,by go_num,s2,v2,Tq g ks _ _ _ j x HFO.out HX.out a8F.out,ps2,h3,HWK.out.next h6 h4,HK.out.trans HL.out h6,vU HL.out h5 HK.out.size⟩
     case measure=>simp[intOf];omega
   ·obtain rfl:j=ks.length:=by omega
    have hge:¬(ks.length:Int)<(ks.length:Int):=by omega
    go_wp2_with fail;go_ret;have h1:=HFO.out;rw[List.take_length] at h1;rw[h1];exact⟨⟨rfl,qs,v',HQS.out,HWK.out.sc,vU (.inl rfl) HL.out YJ.size⟩,(Kw.of_below YJ).trans (.inl rfl) HK.out⟩
theorem Km (h:En E B tg W0 DB MB p M nx c r l B0 rv)(f:Nat)(hC:COME E WB DB Bd Bl rv W0 M l f)(k:Nat)(ps:List dm)(v:ah)(V:ag)(n:Int)(m:Mv)(path:List (Int×Mv))(q:Nat)(hf:101<=f+k)(Sz:ps.length<=k)(hn:bA n)(hw:wB WB DB Bd Bl rv W0 k ps v V)(hp:eT V (some q) ((n,m)::path))(hm:m.ok):
  ax 143 #[ay WB,ay q] V fun e w'=>iP E W0.heap.size WB DB (rR Bd Bl) v V (match FW M n with|none=>.error ⟨10,n⟩|some x=>dF M l f x (n::path.map Prod.fst) m (k,ps.map dm.pc)) e w'/\Kw WB v V w':=by
 have LD:=Tm (h.ds.below hw.low) WB (aF hw.sc.wb 0 _ rfl) n hn;have q0:V.cell? (ak q 0)=some (aa n):=by
  obtain⟨b,q',h1,h2, -⟩:=hp;cases h1;exact aF h2 0 _ rfl
 have hwf:∀x,FW M n=some x->bA x:=fun x hx=>by
  unfold FW at hx;split at hx
  ·cases hx
  ·exact Xy h.ds x (List.mem_of_find?_eq_some hx)
 have e10:=(h.ne.below hw.low).c10;cases hl:FW M n with
 |none=>
  rw[hl] at LD;have K10:∀V',Below V.heap.size V V'->V'.cell? (ak 8 0)=some (eV (E 10))/\V'.cell? (ak q 0)=some (aa n):=fun V' hb=>⟨(hb.cell (aC e10)).trans e10,(hb.cell (aC q0)).trans q0⟩;clear hC hf hw hp hm h hwf hl;go_enter func143,ntmps143;go_upto_region 3 with(go_at_call 197;refine LD.mono ?_;rintro e w1 ⟨he,hb1⟩;obtain rfl:e=.returned (.tuple #[aa 0,.bool false]):=he;obtain⟨k1,k2⟩:=K10 w1 hb1);go_region
  all_goals
   go_wp2;go_ret;exact⟨⟨_,rfl,w1.heap.size,hb1.size,rfl,cZ _ _ _⟩,Kw.of_below (aG (hb1.trans (below_drewN (Below.refl _ _) 1)) (di _ _))⟩
 |some x=>
  rw[hl] at LD;have HC:Hid (∀w1,Below V.heap.size V w1->ax 51 #[ay WB,aa x,ay q] w1 fun e w'=>iP E W0.heap.size WB DB (rR Bd Bl) v w1 (dF M l f x (n::path.map Prod.fst) m (k,ps.map dm.pc)) e w'/\Kw WB v w1 w'):=(fun w1 hb=>hC k ps v w1 x n m path q hf Sz (hwf x hl) (hw.below hb) (hw.sc.path (Kw.of_below hb) hp) hm:∀w1,Below V.heap.size V w1->ax 51 #[ay WB,aa x,ay q] w1 fun e w'=>iP E W0.heap.size WB DB (rR Bd Bl) v w1 (dF M l f x (n::path.map Prod.fst) m (k,ps.map dm.pc)) e w'/\Kw WB v w1 w');clear hC hf hw hp hm h hwf hl e10;simp only;generalize dF M l f x (n::path.map Prod.fst) m (k,ps.map dm.pc)=res at HC⊢;go_enter func143,ntmps143;go_wp2_with(first|(go_at_call 197;refine LD.mono ?_;rintro e w1 ⟨he,hb1⟩;obtain rfl:e=.returned (.tuple #[aa x,.bool true]):=he;have CM:=HC.out w1 hb1)|(go_at_call 51;refine CM.mono ?_;rintro e w2 ⟨h1,h2⟩;obtain⟨u,rfl⟩:∃u,e=.returned u:=(by cases res with|error ft=>(obtain⟨u,h3, -⟩:=h1;exact⟨u,h3⟩)|ok s2=>exact⟨_,h1.1⟩)));go_ret;refine⟨?_,(Kw.of_below hb1).trans (.inl rfl) h2⟩;cases res with
  |error ft=>obtain⟨u',h3,h4⟩:=h1;cases h3;exact⟨_,rfl,h4.low hb1.size⟩
  |ok s2=>
   obtain⟨h3,ps2,v2,h4,h5,h6⟩:=h1;exact⟨h3,ps2,v2,h4,h5,vU (.inl rfl) h6 hb1.size⟩
end
theorem a0O (d:Nat)(w:ag):(Op.equalIn (d+1) 183 .nilFunc .nilFunc).run prog w=.ok true w:=by simp[Op.equalIn,run_underlying underlying183]
theorem XL (d:Nat)(w:ag)(f:Fn)(a b:Array ah):(Op.equalIn (d+1) 183 (.func f a b) .nilFunc).run prog w=.ok false w:=by simp[Op.equalIn,run_underlying underlying183]
theorem a0P (w:ag):(binOp BinOp.eql 183 .nilFunc .nilFunc).run prog w=.ok (.bool true) w:=by
 have h:(Op.equal 183 .nilFunc .nilFunc).run prog w=.ok true w:=a0O 9999 w;simp[binOp,h]
theorem a0Q (w:ag)(f:Fn)(a b:Array ah):(binOp BinOp.eql 183 (.func f a b) .nilFunc).run prog w=.ok (.bool false) w:=by
 have h:(Op.equal 183 (.func f a b) .nilFunc).run prog w=.ok false w:=XL 9999 w f a b;simp[binOp,h]
theorem wB.count {WB DB Bd Bl:Nat}{rv:ah}{W0:ag}{k:Nat}{ps:List dm}{v:ah}{V:ag}(h:wB WB DB Bd Bl rv W0 k ps v V):wB WB DB Bd Bl rv W0 (k+1) ps v (V.setCell ⟨WB,2,none⟩ (aa ((k:Int)+1)))/\Kw WB v V (V.setCell ⟨WB,2,none⟩ (aa ((k:Int)+1))):=by
 have far:∀b,b≠WB->(V.setCell ⟨WB,2,none⟩ (aa ((k:Int)+1))).heap[b]? =V.heap[b]? :=fun b hne=>Below.heap_setCell _ _ _ b hne;have hK:Kw WB v V (V.setCell ⟨WB,2,none⟩ (aa ((k:Int)+1))):=⟨(Below.setCell (Below.refl WB V) (p:=⟨WB,2,none⟩) ai _).os,(Below.setCell (Below.refl WB V) (p:=⟨WB,2,none⟩) ai _).tape,(Below.setCell (Below.refl WB V) (p:=⟨WB,2,none⟩) ai _).output,Nat.le_of_eq (World.size_setCell _ _ _).symm,fun b _ h1 _=>far b h1⟩;refine⟨h.next hK ⟨?_,?_,?_,h.sc.rt⟩,hK⟩
 ·have:=heap_setCell_same V WB 2 _ _ (aa ((k:Int)+1)) h.sc.wb;simpa using this
 ·exact bT h.sc.own fun g hg=>far g (fun e=>by
   obtain⟨cs,f,h1, -⟩:=fo h.sc.own g hg;rw[e,h.sc.wb] at h1;cases h1)
 ·intro x hx;exact bT (h.sc.pts x hx) fun g hg=>far g (fun e=>by
   obtain⟨cs,f,h1, -⟩:=fo (h.sc.pts x hx) g hg;rw[e,h.sc.wb] at h1;cases h1)
theorem iP.ret {E:Nat->Addr}{base WB DB:Nat}{sf v:ah}{V:ag}{x:Except Ft (Nat×List Pc)}{e:Ending}{w':ag}(h:iP E base WB DB sf v V x e w'):∃u,e=.returned u:=by
 cases x with
 |error f=>obtain⟨u,h1, -⟩:=h;exact⟨u,h1⟩
 |ok s=>exact⟨_,h.1⟩
theorem iP.low {E:Nat->Addr}{base WB DB:Nat}{sf v:ah}{V V':ag}{x:Except Ft (Nat×List Pc)}{e:Ending}{w':ag}(h:iP E base WB DB sf v V' x e w')(hs:V.heap.size<=V'.heap.size):iP E base WB DB sf v V x e w':=by
 cases x with
 |error f=>obtain⟨u,h1,h2⟩:=h;exact⟨u,h1,h2.low hs⟩
 |ok s=>obtain⟨h1,ps,v',h2,h3,h4⟩:=h;exact⟨h1,ps,v',h2,h3,vU (.inl rfl) h4 hs⟩
section
variable {E:Nat->Addr}{B:Nat}{tg:bf}{W0:ag}{DB MB:Nat}{p:Int->Option Nat}{M:Dm}{nx c:Nat}{r:Int->Nat}{l:List Rl}{B0:Nat}{rv:ah}{WB Bd Bl:Nat}
theorem Tt (h:En E B tg W0 DB MB p M nx c r l B0 rv)(k:Nat)(ps:List dm)(v:ah)(V:ag)(n n0:Int)(m:Mv)(path:List (Int×Mv))(q:Nat)(hk:k<100)(hn:bA n)(hw:wB WB DB Bd Bl rv W0 k ps v V)(hp:eT V (some q) ((n0,m)::path))(hni:n ∉ n0::path.map Prod.fst)(hnm:nT (Dg M n)=false):
  ax 51 #[ay WB,aa n,ay q] V fun e w'=>iP E W0.heap.size WB DB (rR Bd Bl) v V (.ok (k+1,ps.map dm.pc)) e w'/\Kw WB v V w':=by
 have WI:=ou V (some q) ((n0,m)::path) n hp;have hdec:decide (n∈((n0,m)::path).map Prod.fst)=false:=decide_eq_false hni;unfold WiR at WI;rw[hdec] at WI;simp only[pV,Option.map_some] at WI;replace WI:ax 95 #[ay q,aa n] V fun e w'=>e=.returned (.bool false)/\V=w':=WI.mono fun e w' h=>⟨h.1,h.2.symm⟩;obtain⟨hw1,hk1⟩:=hw.count;have NA:=ng (h.ds.below hw1.low).w n hn;have c2:=aF hw.sc.wb 2 _ rfl;have f2:=cO hw.sc.wb 2;have hkz:(k:Int)<100:=by omega
 obtain⟨V1,hV1⟩:∃X,V.setCell ⟨WB,2,none⟩ (aa ((k:Int)+1))=X:=⟨_,rfl⟩;have NA':ax 90 #[ay DB,aa n] (V.setCell ⟨WB,2,none⟩ (aa ((k:Int)+1))) fun r w'=>r=.returned (bV (Dg M n))/\V1=w':=NA.mono fun e w' h=>⟨h.1,hV1.symm.trans h.2.symm⟩;have c0:=aF hw1.sc.wb 0 _ rfl;rw[hV1] at hw1 hk1;have c1:=aF hw1.sc.wb 1 _ rfl;have fnn:=a0P;have WY:=XI WB V1 (Dg M n) hnm;have HF:Hid (iP E W0.heap.size WB DB (rR Bd Bl) v V (.ok (k+1,ps.map dm.pc)) (.returned .nilIface) V1/\Kw WB v V V1):=⟨⟨rfl,ps,v,rfl,hw1.sc,.inl rfl⟩,hk1⟩;generalize Dg M n=nm at NA' WY;clear NA hw hp hni hw1 hk1 h hnm hdec hV1;go_enter func51,ntmps51;go_wp2_with(first|(go_at_call 95;refine WI.mono ?_;rintro e w1 ⟨rfl,rfl⟩)|(go_at_call 90;refine NA'.mono ?_;rintro e w1 ⟨rfl,rfl⟩)|(go_at_call 96;refine WY.mono ?_;rintro e w1 ⟨rfl,rfl⟩));go_ret;exact HF.out
def ad7 (WB F:Nat)(a b:List ah):Prop:=(F=190/\a=[]/\∃x y,b=[x,y])\/(a=[ay WB]/\b=[]/\(F=142\/F=143))
def a4r (E:Nat->Addr)(W0:ag)(WB DB Bd Bl:Nat)(rv v:ah)(k:Nat)(ps:List dm)(n:Int)(path:List (Int×Mv))(res:Mv->Except Ft (Nat×List Pc))(V1:ag)(e:Ending)(w1:ag):Prop:=∃(F:Nat) (a b:List ah),e=.returned (.func (.func F) a.toArray b.toArray)/\Below V1.heap.size V1 w1/\ad7 WB F a b/\∀(m':Mv) (V':ag) (PB:Nat),m'.ok->Below w1.heap.size w1 V'->wB WB DB Bd Bl rv W0 (k+1) ps v V'->eT V' (some PB) ((n,m')::path)->ax F (a++[Value.pointer (some ⟨PB,0,none⟩)]++b).toArray V' fun e w'=>iP E W0.heap.size WB DB (rR Bd Bl) v V' (res m') e w'/\Kw WB v V' w'
theorem XM (h:En E B tg W0 DB MB p M nx c r l B0 rv)(k:Nat)(ps:List dm)(v:ah)(V:ag)(n n0:Int)(m:Mv)(path:List (Int×Mv))(q:Nat)(hk:k<100)(hn:bA n)(hw:wB WB DB Bd Bl rv W0 k ps v V)(hp:eT V (some q) ((n0,m)::path))(hni:n ∉ n0::path.map Prod.fst)(hm:m.ok)(res:Mv->Except Ft (Nat×List Pc))(WY:∀V1,ax 96 #[ay WB,bV (Dg M n)] V1 fun e w1=>a4r E W0 WB DB Bd Bl rv v k ps n ((n0,m)::path) res V1 e w1):
  ax 51 #[ay WB,aa n,ay q] V fun e w'=>iP E W0.heap.size WB DB (rR Bd Bl) v V (if(ofM M l rY n==ZZ)=true then .ok (k+1,ps.map dm.pc) else match sI M n m with| .error c=>.error ⟨yA c,n⟩| .ok m'=>res m') e w'/\Kw WB v V w':=by
 have WI:=ou V (some q) ((n0,m)::path) n hp;have hdec:decide (n∈((n0,m)::path).map Prod.fst)=false:=decide_eq_false hni;unfold WiR at WI;rw[hdec] at WI;simp only[pV,Option.map_some] at WI;replace WI:ax 95 #[ay q,aa n] V fun e w'=>e=.returned (.bool false)/\V=w':=WI.mono fun e w' h=>⟨h.1,h.2.symm⟩;obtain⟨hw1,hk1⟩:=hw.count;have NA:=ng (h.ds.below hw1.low).w n hn;have c2:=aF hw.sc.wb 2 _ rfl;have f2:=cO hw.sc.wb 2;have hkz:(k:Int)<100:=by omega
 obtain⟨V1,hV1⟩:∃X,V.setCell ⟨WB,2,none⟩ (aa ((k:Int)+1))=X:=⟨_,rfl⟩;have NA':ax 90 #[ay DB,aa n] (V.setCell ⟨WB,2,none⟩ (aa ((k:Int)+1))) fun r w'=>r=.returned (bV (Dg M n))/\V1=w':=NA.mono fun e w' h=>⟨h.1,hV1.symm.trans h.2.symm⟩;have c0:=aF hw1.sc.wb 0 _ rfl;rw[hV1] at hw1 hk1;have c1:=aF hw1.sc.wb 1 _ rfl;have fns:=a0Q;have WY:=WY V1;have ST:=fun w1 (b1:Below V1.heap.size V1 w1)=>h.style (hw1.below b1) n hn rY;have HW1:=aj hw1;have HK1:=aj hk1;have C1:Hid (∀w1,Below V1.heap.size V1 w1->w1.cell? (ak WB 1)=some (rR Bd Bl)):=(fun w1 b1=>(b1.cell (aC c1)).trans c1:∀w1,Below V1.heap.size V1 w1->w1.cell? (ak WB 1)=some (rR Bd Bl));have HH:=aj h;have HP1:Hid (eT V1 (some q) ((n0,m)::path)):=(hw.sc.path hk1 hp:eT V1 (some q) ((n0,m)::path));have HM:Hid m.ok:=hm;have hq:=fD (ofM M l rY n) ZZ;generalize Dg M n=nm at NA' WY;clear NA hw hp hni hw1 hk1 h hdec hm hV1;generalize ofM M l rY n=s at ST hq⊢;obtain⟨ans,ny⟩:∃x,(if(s==ZZ)=true then(.ok (k+1,ps.map dm.pc):Except Ft (Nat×List Pc)) else match sI M n m with| .error c=>.error ⟨yA c,n⟩| .ok m'=>res m')=x:=⟨_,rfl⟩;rw[ny];have NH:=aj ny;clear ny;have MO:∀w2,Below V1.heap.size V1 w2->ax 97 #[ay WB,aa n,ay q] w2 fun e w'=>MvR E (sI M n m) e w'/\Below w2.heap.size w2 w':=fun w2 b2=>by
  obtain⟨b,q',h1,h2, -⟩:=HW1.out.sc.path (Kw.of_below b2) HP1.out;cases h1;exact Nt (HH.out.ne.below (HW1.out.below b2).low) (HH.out.ds.below (HW1.out.below b2).low).w HH.out.sz WB (aF (HW1.out.below b2).sc.wb 0 _ rfl) n hn q n0 (.pointer (q'.map fun x=>⟨x,0,none⟩)) m HM.out h2
 unfold rY at ST;go_enter func51,ntmps51;go_upto_region 7 with(first|(go_at_call 95;refine WI.mono ?_;rintro e w1 ⟨rfl,rfl⟩)|(go_at_call 90;refine NA'.mono ?_;rintro e w1 ⟨rfl,rfl⟩)|(go_at_call 96;refine WY.mono ?_;rintro e w1 ⟨F,a,b,rfl,b1,LF,SH⟩;have k1:=C1.out _ b1;have ST1:=ST _ b1));have HSH:Hid (∀(m':Mv) (V':ag) (PB:Nat),m'.ok->Below w1.heap.size w1 V'->wB WB DB Bd Bl rv W0 (k+1) ps v V'->eT V' (some PB) ((n,m')::(n0,m)::path)->ax F (a++[Value.pointer (some ⟨PB,0,none⟩)]++b).toArray V' fun e w'=>∃u,e=.returned u/\Hid (iP E W0.heap.size WB DB (rR Bd Bl) v V' (res m') (.returned u) w'/\Kw WB v V' w')):=(fun m' V' PB g1 g2 g3 g4=>(SH m' V' PB g1 g2 g3 g4).mono fun e w' h=>by
  obtain⟨u,rfl⟩:=h.1.ret;exact⟨u,rfl,h⟩:∀(m':Mv) (V':ag) (PB:Nat),m'.ok->Below w1.heap.size w1 V'->wB WB DB Bd Bl rv W0 (k+1) ps v V'->eT V' (some PB) ((n,m')::(n0,m)::path)->ax F (a++[Value.pointer (some ⟨PB,0,none⟩)]++b).toArray V' fun e w'=>∃u,e=.returned u/\Hid (iP E W0.heap.size WB DB (rR Bd Bl) v V' (res m') (.returned u) w'/\Kw WB v V' w'))
 have HLF:=aj LF;clear SH LF ST WY NA' WI;cases hs:(s==ZZ) with
 |true=>
  rw[hs] at hq;have h1:=NH.out;rw[hs,if_pos rfl] at h1;have H1:Hid _:=h1;unfold ZZ at hq hs;clear h1 NH;clear MO;go_wp2_with(go_at_call 49;refine ST1.mono ?_;rintro e w2 ⟨rfl,b2⟩);go_ret;have b12:=aG b1 b2;obtain rfl:=H1.out;exact⟨⟨rfl,ps,v,rfl,(HW1.out.below b12).sc,.inl rfl⟩,HK1.out.trans (.inl rfl) (Kw.of_below b12)⟩
 |false=>
  rw[hs] at hq;have h1:=NH.out;rw[hs,if_neg (by simp)] at h1;unfold ZZ at hq hs;obtain⟨mo,hmo⟩:∃x,sI M n m=x:=⟨_,rfl⟩;rw[hmo] at MO h1;cases mo with
  |error cd=>
   have FO:=fun w3 (hN:NE E w3) ev (hev:Lu E cd ev w3)=>qJ hN hev n;have NN:Hid (∀w3,Below V1.heap.size V1 w3->NE E w3):=(fun w3 b3=>HH.out.ne.below (HW1.out.below b3).low:∀w3,Below V1.heap.size V1 w3->NE E w3);have H1:Hid _:=h1;clear hmo h1 NH;go_upto_region 10 with(first|(go_at_call 49;refine ST1.mono ?_;rintro e w2 ⟨rfl,b2⟩;have b12:=aG b1 b2;have MO2:=MO w2 b12)|(go_at_call 97;refine MO2.mono ?_;rintro e w3 ⟨⟨ev,rfl,hev⟩,b3⟩));have XN:=aG b12 b3;have HV:=hev;obtain⟨-, -,hv2⟩:=hev;rcases hv2 with rfl|⟨pb,po,rfl, -⟩<;>
   ·go_wp2_with(go_at_call 98;refine(FO _ ?_ _ ?_).mono ?_;exact NN.out _ (aG XN (di _ _));exact HV.below (di _ _);rintro e w5 ⟨u,rfl,hf,b5⟩);go_ret;have bb:=aG (aG XN (di _ _)) b5;obtain rfl:=H1.out;exact⟨⟨u,rfl,hf.low (Nat.le_trans HK1.out.size (aG XN (di _ _)).size)⟩,HK1.out.trans (.inl rfl) (Kw.of_below bb)⟩
  |ok m'=>
   have hm':Hid m'.ok:=XK HM.out hmo;have H1:Hid _:=h1;clear hmo h1 NH;go_upto_region 12 with(first|(go_at_call 49;refine ST1.mono ?_;rintro e w2 ⟨rfl,b2⟩;have b12:=aG b1 b2;have MO2:=MO w2 b12)|(go_at_call 97;refine MO2.mono ?_;rintro e w3 ⟨rfl,b3⟩));have XN:=aG b12 b3;have bU:=di w3 (.cells (mA m') 129);have KP:=cZ (w3.alloc (.cells (mA m') 129)) (plA n (ay q) m') 132;have bX:=aG bU (di (w3.alloc (.cells (mA m') 129)) (.cells (plA n (ay q) m') 132));have b5:=aG XN bX;have HWK:=HW1.out.below b5;have HPT:eT ((w3.alloc (.cells (mA m') 129)).alloc (.cells (plA n (ay q) m') 132)) (some (w3.alloc (.cells (mA m') 129)).heap.size) ((n,m')::(n0,m)::path):=⟨_,some q,rfl,KP,HW1.out.sc.path (Kw.of_below b5) HP1.out⟩;rw[World.size_alloc] at HPT;have CALL:=HSH.out m' _ (w3.heap.size+1) hm'.out (aG (aG b2 b3) bX) HWK HPT;have HB5:=aj b5;have m0:=gP w3 (mA m') 129;clear bU KP HWK HPT HSH b5 bX;rcases HLF.out with⟨rfl,rfl,x,y,rfl⟩|⟨rfl,rfl,rfl|rfl⟩<;>simp only[List.nil_append,List.cons_append,List.append_nil] at CALL<;>
   ·go_wp2_with(first|(go_at_call 190;refine CALL.mono ?_;rintro e w6 ⟨u,rfl,h6⟩)|(go_at_call 142;refine CALL.mono ?_;rintro e w6 ⟨u,rfl,h6⟩)|(go_at_call 143;refine CALL.mono ?_;rintro e w6 ⟨u,rfl,h6⟩));go_ret;obtain rfl:=H1.out;exact⟨h6.out.1.low (Nat.le_trans HK1.out.size HB5.out.size),HK1.out.trans (.inl rfl) ((Kw.of_below HB5.out).trans (.inl rfl) h6.out.2)⟩
end
section
variable {E:Nat->Addr}{B:Nat}{tg:bf}{W0:ag}{DB MB:Nat}{p:Int->Option Nat}{M:Dm}{nx c:Nat}{r:Int->Nat}{l:List Rl}{B0:Nat}{rv:ah}{WB Bd Bl:Nat}
theorem Kn (n:Int)(m:Mv)(x:Except Nat (List Qt))(st:Nat×List Pc):uy n m x (ofM M l uS n) (ofM M l yc n) (ofM M l tL n) st=iH M l n m x st:=rfl
theorem EY (h:En E B tg W0 DB MB p M nx c r l B0 rv){k:Nat}{ps:List dm}{v:ah}(hps:ps.length<=1000){n:Int}(hn:bA n){rest:List (Int×Mv)}{f:Nat}{x:Except Nat (List Qt)}(hcf:∀(av:Array ah) (w:ag),Sem.run prog (callFunc f av) w=.ok (.enter f av) w)
  (RD:∀U,wB WB DB Bd Bl rv W0 (k+1) ps v U->ax f #[ay WB,aa n] U fun e w'=>lu E x e w'/\Below U.heap.size U w') {V1:ag} {e:Ending} {w1:ag} (hy:ByR WB f V1 e w1):a4r E W0 WB DB Bd Bl rv v k ps n rest (fun m'=>iH M l n m' x (k+1,ps.map dm.pc)) V1 e w1:=by
 obtain⟨Br,Bw,h1,h2,h3,h4⟩:=hy;refine⟨_,_,_,h1,h4,.inl ⟨rfl,rfl,_,_,rfl⟩,fun m' V' PB hm hb hw hp=>?_⟩;obtain⟨b,q',g1,g2, -⟩:=hp;cases g1;have hl:=a4p h.sz (fun x hx=>(h.ok x hx).1) tL n;have q:=Gy (h.ne.below hw.low) Bd Bl hw.sc PB Br Bw _ hcf n _ m' hm g2 ((hb.cell (aC h2)).trans h2) ((hb.block _ (aY h3)).trans h3) x _ _ _ (by omega) hw.low.size hps (fun U hU=>RD U (hw.below hU)) (fun U hU=>h.style (hw.below hU) n hn uS) (fun U hU=>h.style (hw.below hU) n hn yc) (fun U hU=>h.style (hw.below hU) n hn tL);rw[Kn] at q;exact q
theorem Ca (h:En E B tg W0 DB MB p M nx c r l B0 rv)(k:Nat)(ps:List dm)(v:ah)(V:ag)(n n0:Int)(m:Mv)(path:List (Int×Mv))(q:Nat)(hw:wB WB DB Bd Bl rv W0 k ps v V)(hp:eT V (some q) ((n0,m)::path))(hni:n∈n0::path.map Prod.fst):
  ax 51 #[ay WB,aa n,ay q] V fun e w'=>iP E W0.heap.size WB DB (rR Bd Bl) v V (.error ⟨9,n⟩) e w'/\Kw WB v V w':=by
 have WI:=ou V (some q) ((n0,m)::path) n hp;have hdec:decide (n∈((n0,m)::path).map Prod.fst)=true:=decide_eq_true hni;unfold WiR at WI;rw[hdec] at WI;simp only[pV,Option.map_some] at WI;have e9:=(h.ne.below hw.low).c9;clear h hw hp hni hdec;go_enter func51,ntmps51;go_wp2_with(go_at_call 95;refine WI.mono ?_;rintro e w1 ⟨rfl,rfl⟩);go_ret;exact⟨⟨_,rfl,_,Nat.le_refl _,rfl,cZ _ _ _⟩,Kw.of_below (di _ _)⟩
theorem EZ (h:En E B tg W0 DB MB p M nx c r l B0 rv)(k:Nat)(ps:List dm)(v:ah)(V:ag)(n n0:Int)(m:Mv)(path:List (Int×Mv))(q:Nat)(hk:100<=k)(hw:wB WB DB Bd Bl rv W0 k ps v V)(hp:eT V (some q) ((n0,m)::path))(hni:n ∉ n0::path.map Prod.fst):
  ax 51 #[ay WB,aa n,ay q] V fun e w'=>iP E W0.heap.size WB DB (rR Bd Bl) v V (.error ⟨7,n⟩) e w'/\Kw WB v V w':=by
 have WI:=ou V (some q) ((n0,m)::path) n hp;have hdec:decide (n∈((n0,m)::path).map Prod.fst)=false:=decide_eq_false hni;unfold WiR at WI;rw[hdec] at WI;simp only[pV,Option.map_some] at WI;have e7:=(h.ne.below hw.low).c7;have c2:=aF hw.sc.wb 2 _ rfl;have hkz:(100:Int)<=(k:Int):=by omega
 clear h hw hp hni hdec;go_enter func51,ntmps51;go_wp2_with(go_at_call 95;refine WI.mono ?_;rintro e w1 ⟨rfl,rfl⟩);go_ret;exact⟨⟨_,rfl,_,Nat.le_refl _,rfl,cZ _ _ _⟩,Kw.of_below (di _ _)⟩
theorem NM (s:Bs):nT s=false\/s=Df\/s=sG\/s=mq\/s=JA:=by
 unfold nT;by_cases h1:s=Df
 ·exact .inr (.inl h1)
 by_cases h2:s=sG
 ·exact .inr (.inr (.inl h2))
 by_cases h3:s=mq
 ·exact .inr (.inr (.inr (.inl h3)))
 by_cases h4:s=JA
 ·exact .inr (.inr (.inr (.inr h4)))
 exact .inl (by simp[h1,h2,h3,h4])
theorem NP {n:Int}(h:nT (Dg M n)=true):(Ba M l n=false)↔(ofM M l rY n==ZZ)=true:=by
 unfold Ba;rw[h];cases ofM M l rY n==ZZ<;>simp
theorem Ko (h:En E B tg W0 DB MB p M nx c r l B0 rv):∀f,COME E WB DB Bd Bl rv W0 M l f
 |0=>fun k ps v V n n0 m path q hf Sz hn hw hp hm=>by
  unfold dF;by_cases hni:n∈n0::path.map Prod.fst
  ·rw[if_pos hni];exact Ca h k ps v V n n0 m path q hw hp hni
  ·rw[if_neg hni];exact EZ h k ps v V n n0 m path q (by omega) hw hp hni
 |f+1=>fun k ps v V n n0 m path q hf Sz hn hw hp hm=>by
  have IH:=Ko h f;unfold dF;by_cases hni:n∈n0::path.map Prod.fst
  ·rw[if_pos hni];exact Ca h k ps v V n n0 m path q hw hp hni
  rw[if_neg hni];by_cases hk:100<=k
  ·rw[if_pos hk];exact EZ h k ps v V n n0 m path q hk hw hp hni
  rw[if_neg hk];have hk':k<100:=by omega
  by_cases hf4:nT (Dg M n)=false
  ·rw[if_pos (show Ba M l n=false by unfold Ba;rw[hf4];rfl)];exact Tt h k ps v V n n0 m path q hk' hn hw hp hni hf4
  have nk:∀{a b:Bs},Dg M n=a->a≠b->¬Dg M n=b:=fun h1 h2 h3=>h2 (h1.symm.trans h3);obtain⟨res,WY,hr⟩:∃res:Mv->Except Ft (Nat×List Pc),(∀V1,ax 96 #[ay WB,bV (Dg M n)] V1 fun e w1=>a4r E W0 WB DB Bd Bl rv v k ps n ((n0,m)::path) res V1 e w1)/\∀m',res m'=(if Dg M n=Df then iH M l n m' (VZ M n) (k+1,ps.map dm.pc) else if Dg M n=sG then iH M l n m' (EE M n) (k+1,ps.map dm.pc) else if Dg M n=mq then(dF.Pp M n).foldlM (fun s x=>dF M l f x (n::n0::path.map Prod.fst) m' s) (k+1,ps.map dm.pc) else match FW M n with|none=>.error ⟨10,n⟩|some x=>dF M l f x (n::n0::path.map Prod.fst) m' (k+1,ps.map dm.pc)):=by
   rcases NM (Dg M n) with hb|hb|hb|hb|hb
   ·exact(hf4 hb).elim
   ·exact⟨_,fun V1=>by rw[hb];exact(a0L WB V1).mono fun e w1=>EY h (by omega) hn (oJ _ _ func140 (by kernel_rfl) (by kernel_rfl)) fun U hU=>Tf (h.ne.below hU.low) (h.ds.below hU.low).w h.sz WB (aF hU.sc.wb 0 _ rfl) n hn,fun m'=>(if_pos hb).symm⟩
   ·exact⟨_,fun V1=>by rw[hb];exact(XH WB V1).mono fun e w1=>EY h (by omega) hn (oJ _ _ func141 (by kernel_rfl) (by kernel_rfl)) fun U hU=>ND (h.ne.below hU.low) (h.ds.below hU.low).w h.sz WB (aF hU.sc.wb 0 _ rfl) n hn,fun m'=>((if_neg (nk hb (by decide))).trans (if_pos hb)).symm⟩
   ·exact⟨fun m'=>(dF.Pp M n).foldlM (fun s x=>dF M l f x (n::n0::path.map Prod.fst) m' s) (k+1,ps.map dm.pc),fun V1=>by rw[hb];exact(Tp WB V1).mono fun e w1 ⟨g1,g2⟩=>⟨_,_,_,g1,by rw[g2];exact Below.refl _ _,.inr ⟨rfl,rfl,.inl rfl⟩,fun m' V' PB h1 _ h2 h3=>Dx h f IH (k+1) ps v V' n m' ((n0,m)::path) PB (by omega) (by omega) hn h2 h3 h1⟩,fun m'=>((if_neg (nk hb (by decide))).trans ((if_neg (nk hb (by decide))).trans (if_pos hb))).symm⟩
   ·exact⟨fun m'=>match FW M n with|none=>.error ⟨10,n⟩|some x=>dF M l f x (n::n0::path.map Prod.fst) m' (k+1,ps.map dm.pc),fun V1=>by rw[hb];exact(a0M WB V1).mono fun e w1 ⟨g1,g2⟩=>⟨_,_,_,g1,by rw[g2];exact Below.refl _ _,.inr ⟨rfl,rfl,.inr rfl⟩,fun m' V' PB h1 _ h2 h3=>Km h f IH (k+1) ps v V' n m' ((n0,m)::path) PB (by omega) (by omega) hn h2 h3 h1⟩,fun m'=>((if_neg (nk hb (by decide))).trans ((if_neg (nk hb (by decide))).trans (if_neg (nk hb (by decide))))).symm⟩
  refine(XM h k ps v V n n0 m path q hk' hn hw hp hni hm res WY).mono fun e w' g=>?_;simp only[NP (by simpa using hf4:nT (Dg M n)=true)];cases hmv:sI M n m with
  |error cd=>rw[hmv] at g;exact g
  |ok m'=>rw[hmv] at g;simp only[hr] at g;exact g
end
end
section
open Go.Sort
def nG {α:Type}(key:α->Int)(l:List α):List α:=(List.range 1000).flatMap (fun(k:Nat)=>l.filter (fun x=>key x==(k:Int)))
theorem Tu {α β:Type}(key:β->Int)(g:α->β)(l:List α):(nG (fun x=>key (g x)) l).map g=nG key (l.map g):=by
 unfold nG;rw[List.map_flatMap];congr 1;funext k;rw[List.filter_map];rfl
theorem Kq {α:Type}{R:α->α->Prop}(ht:∀x y z,R x y->R y z->R x z)(hi:∀x,¬R x x):∀{l m:List α},l.Pairwise R->m.Pairwise R->(∀x,x∈l↔x∈m)->l=m
 |[],[],_,_,_=>rfl
 |[],y::m,_,_,h=>absurd ((h y).2 (by simp)) (by simp)
 |x::l,[],_,_,h=>absurd ((h x).1 (by simp)) (by simp)
 |x::l,y::m,h1,h2,h=>by
  rw[List.pairwise_cons] at h1 h2;have hxy:x=y:=by
   rcases List.mem_cons.1 ((h x).1 (by simp)) with e|e
   ·exact e
   ·rcases List.mem_cons.1 ((h y).2 (by simp)) with e'|e'
    ·exact e'.symm
    ·exact absurd (ht _ _ _ (h1.1 y e') (h2.1 x e)) (hi x)
  subst hxy;congr 1;refine Kq ht hi h1.2 h2.2 fun z=>⟨fun hz=>?_,fun hz=>?_⟩
  ·rcases List.mem_cons.1 ((h z).1 (by simp[hz])) with e|e
   ·subst e;exact absurd (h1.1 z hz) (hi z)
   ·exact e
  ·rcases List.mem_cons.1 ((h z).2 (by simp[hz])) with e|e
   ·subst e;exact absurd (h2.1 z hz) (hi z)
   ·exact e
section
variable {α:Type}[Inhabited α]{key:α->Int}{tag:α->Nat}
theorem rF {d:Array α}{x:α}:x∈d.toList↔InR d 0 d.size x:=by
 constructor
 ·intro h;obtain⟨i,hi,e⟩:=List.getElem_of_mem h;have hi':i<d.size:=by simpa using hi
  exact⟨i,Nat.zero_le _,hi',by rw[getElem!_pos d i hi'];simpa using e⟩
 ·rintro⟨i, -,hi,rfl⟩;rw[getElem!_pos d i hi];simp
theorem XO {R:α->α->Prop}{d:Array α}(h:∀i j,i<j->j<d.size->R d[i]! d[j]!):d.toList.Pairwise R:=by
 rw[List.pairwise_iff_getElem];intro i j hi hj hij;have hi':i<d.size:=by simpa using hi
 have hj':j<d.size:=by simpa using hj
 have:=h i j hij hj';rw[getElem!_pos d i hi',getElem!_pos d j hj'] at this;simpa using this
omit [Inhabited α] in
theorem XP {l:List α}(h:l.Pairwise (fun x y=>tag x<tag y)):(nG key l).Pairwise (xu key tag):=by
 unfold nG;rw[List.pairwise_flatMap];refine⟨fun k _=>?_,?_⟩
 ·have h1:=List.Pairwise.filter (fun x=>key x==(k:Int)) h;refine List.Pairwise.imp_of_mem (fun{a b} ha hb hr=>?_) h1;have e1:=(List.mem_filter.1 ha).2;have e2:=(List.mem_filter.1 hb).2;simp only[beq_iff_eq] at e1 e2;exact .inr ⟨e1.trans e2.symm,hr⟩
 ·refine List.Pairwise.imp (fun{a b} hab x hx y hy=>?_) List.pairwise_lt_range;have e1:=(List.mem_filter.1 hx).2;have e2:=(List.mem_filter.1 hy).2;simp only[beq_iff_eq] at e1 e2;exact .inl (by omega)
omit [Inhabited α] in
theorem Tv {l:List α}(h:∀x∈l,0<=key x/\key x<1000)(x:α):x∈nG key l↔x∈l:=by
 unfold nG;simp only[List.mem_flatMap,List.mem_range,List.mem_filter,beq_iff_eq];constructor
 ·rintro⟨k, -,h1, -⟩;exact h1
 ·intro hx;obtain⟨h1,h2⟩:=h x hx;exact⟨(key x).toNat,by omega,hx,by omega⟩
theorem Tw {d e:Array α}(hm:sM d e 0 d.size)(hs:JC key tag e 0 d.size)(ht:∀i,i<d.size->tag d[i]! =i)(hk:∀x∈d.toList,0<=key x/\key x<1000):e.toList=nG key d.toList:=by
 refine Kq (R:=xu key tag) (fun _ _ _ h h'=>h.trans h') (fun x h=>by unfold xu at h;omega) (XO fun i j h1 h2=>hs i j (Nat.zero_le _) h1 (by rw[<- hm.sz];exact h2)) (XP (XO fun i j h1 h2=>?_)) fun x=>?_
 ·rw[ht i (by omega),ht j h2];exact h1
 ·rw[Tv hk,rF,rF,hm.sz];exact hm.same x
end
end
section
open Go.RowKit Go.Shelf Go.Sort
theorem a4s (s:Bs):0<=EG s/\EG s<1000:=by
 unfold EG;split
 ·split
  ·next h=>omega
  ·omega
 ·omega
def Dy (l:List Pc):Prop:=∀x∈l,0<=x.lv/\x.lv<1000
theorem Qh {α:Type}(g:Nat×List Pc->α->Except Ft (Nat×List Pc))(hg:∀s x s',g s x=.ok s'->Dy s.2->Dy s'.2):∀(l:List α) (s s':Nat×List Pc),l.foldlM g s=.ok s'->Dy s.2->Dy s'.2
 |[],s,s',h,h0=>by cases h;exact h0
 |x::l,s,s',h,h0=>by
  rw[List.foldlM_cons] at h;cases hx:g s x with
  |error e=>rw[hx] at h;cases h
  |ok t=>
   rw[hx] at h;exact Qh g hg l t s' h (hg s x t hx h0)
theorem Gz (M:Dm)(l:List Rl):∀(f:Nat) (n:Int) (path:List Int) (m:Mv) (st s':Nat×List Pc),dF M l f n path m st=.ok s'->Dy st.2->Dy s'.2
 |0,n,path,m,st,s',h,_=>by
  unfold dF at h;split at h<;>cases h
 |f+1,n,path,m,st,s',h,h0=>by
  unfold dF at h;split at h
  ·cases h
  split at h
  ·cases h
  split at h
  ·cases h;exact h0
  have PC:∀(m':Mv) (x:Except Nat (List Qt)),iH M l n m' x (st.1+1,st.2)=.ok s'->Dy s'.2:=fun m' x h=>by
   unfold iH at h;split at h
   ·cases h
   ·split at h
    ·cases h
    ·split at h
     ·cases h;exact h0
     ·cases h;intro y hy;rcases List.mem_append.1 hy with hy|hy
      ·exact h0 y hy
      ·simp at hy;subst hy;exact a4s _
  split at h
  ·cases h
  ·split at h
   ·exact PC _ _ h
   ·split at h
    ·exact PC _ _ h
    ·split at h
     ·exact Qh _ (fun s x s' h=>Gz M l f x _ _ s s' h) _ (st.1+1,st.2) s' h h0
     ·split at h
      ·cases h
      ·exact Gz M l f _ _ _ (st.1+1,st.2) s' h h0
theorem Kr {α:Type}{k1 k2:α->Int}{l:List α}(h:∀x∈l,k1 x=k2 x):nG k1 l=nG k2 l:=by
 unfold nG;congr 1;funext k;exact List.filter_congr fun x hx=>by rw[h x hx]
instance:Inhabited dm:=⟨⟨0,none,0,[],[],[],0⟩⟩
def a0R (i:Nat)(x:dm):S5:=⟨x.nd,x.o,x.pts.length,x.cap,⟨x.fill.toArray⟩,⟨x.rule.toArray⟩,x.lv,i⟩
def d5 (ps:List dm):Array S5:=(ps.mapIdx a0R).toArray
theorem zx (ps:List dm):(d5 ps).size=ps.length:=by simp[d5]
theorem xJ (ps:List dm)(i:Nat)(hi:i<ps.length):(d5 ps)[i]! =a0R i ps[i]:=by
 rw[getElem!_pos _ i (by rw[zx];exact hi)];simp[d5]
theorem Cb:∀(ps:List dm) (i c:Nat) (hi:i<ps.length),c<5->(cellsS ps)[i*5+c]? =([aa ps[i].nd,BL ps[i],bV ps[i].fill,bV ps[i].rule,aa ps[i].lv]:List ah)[c]?
 |[],i,c,hi,_=>absurd hi (by simp)
 |x::ps,0,c,_,hc=>by
  rw[Nat.zero_mul,Nat.zero_add];unfold cellsS
  match c,hc with
  |0,_=>rfl
  |1,_=>rfl
  |2,_=>rfl
  |3,_=>rfl
  |4,_=>rfl
 |x::ps,i+1,c,hi,hc=>by
  have:=Cb ps i c (by simpa using hi) hc;rw[show(i+1)*5+c=i*5+c+1+1+1+1+1 from by omega];unfold cellsS;simpa using this
theorem Cc (d:Array S5)(ps:List dm)(hs:d.size=ps.length)(h:∀i (hi:i<ps.length),sN d[i]! =[aa ps[i].nd,BL ps[i],bV ps[i].fill,bV ps[i].rule,aa ps[i].lv]):(flatK sN 5 d).toList=cellsS ps:=by
 apply List.ext_getElem?;intro t;by_cases ht:t<ps.length*5
 ·have h1:t<(flatK sN 5 d).size:=by rw[size_flatK,hs];exact ht
  have hi:t/5<ps.length:=by omega
  have hc:t % 5<5:=Nat.mod_lt _ (by omega);have h2:=get_flatK sN 5 d t (by rw[hs];exact ht);rw[getElem!_pos _ t h1,h (t/5) hi] at h2;have h3:=Cb ps (t/5) (t % 5) hi hc;rw[show t/5*5+t % 5=t from by omega] at h3;rw[h3,Array.getElem?_toList,Array.getElem?_eq_getElem h1,h2];rw[getElem!_pos _ (t % 5) (by simpa using hc)];exact(List.getElem?_eq_getElem _).symm
 ·rw[List.getElem?_eq_none (by simp[hs];omega),List.getElem?_eq_none (by rw[uu];omega)]
theorem XQ (F cur:Array ah)(h:F.size<=cur.size):(putCells id 0 F cur).toList.take F.size=F.toList:=by
 apply List.ext_getElem?;intro k;rw[List.getElem?_take];split
 ·next hk=>
  have hkc:k<cur.size:=by omega
  unfold putCells;rw[Array.getElem?_toList,Array.getElem?_mapIdx,Array.getElem?_eq_getElem hkc,Array.getElem?_toList,Array.getElem?_eq_getElem hk];simp only[Option.map_some,Nat.zero_le,true_and,Nat.zero_add,Nat.sub_zero,id_eq,if_pos hk];rw[getElem!_pos _ k hk]
 ·next hk=>rw[List.getElem?_eq_none (by simp;omega)]
theorem GA {base:Nat}{W:ag}{g cap:Nat}{cur:Array ah}(ps:List dm)(hl:ps.length<=1000)(hlv:∀x∈ps,0<=x.lv/\x.lv<1000)(hb:base<=g)(hc:W.heap[g]? =some (.cells cur 138))(h6:ps.length<=cap)(h7:cap<=maxLen)(h8:cur.size=cap*5)(h9:cur.toList.take (ps.length*5)=cellsS ps):
  ax 53 #[.slice (some ⟨g,0,none⟩) ps.length cap,nV] W fun e w'=>e=.returned (.tuple #[])/\∃qs:List dm,qs.map dm.pc=sJ (ps.map dm.pc)/\qs.length=ps.length/\(∀x∈qs,x∈ps)/\w'.ownsRow base 138 5 (.slice (some ⟨g,0,none⟩) ps.length cap) qs.length (cellsS qs)/\W.grownBy w' (some g):=by
 have hfl:(flatK sN 5 (d5 ps)).toList=cellsS ps:=Cc _ ps (zx ps) (fun i hi=>by rw[xJ ps i hi];rfl);have hH:HoldsK sN 5 W g 0 (d5 ps):=fun j hj=>by
  refine⟨?_,aR hc _⟩;rw[Nat.zero_add];refine aF hc j _ ?_;have hj':j<ps.length*5:=by rw[size_flatK,zx] at hj;exact hj
  have h1:(cur.toList.take (ps.length*5))[j]? =(flatK sN 5 (d5 ps)).toList[j]? :=by rw[h9,hfl]
  rw[List.getElem?_take,if_pos hj',Array.getElem?_toList,Array.getElem?_toList,Array.getElem?_eq_getElem hj] at h1;rw[h1,getElem!_pos _ j hj];rfl
 have hsz:=zx ps;have SS:=Bh (aY hc) hH (by rw[hsz];exact hl) (fun i hi=>by rw[xJ ps i (by rw[<- hsz];exact hi)];rfl) cap;rw[hsz] at SS;refine SS.mono fun e w' hr=>?_;obtain⟨he,d',hp,m,os,hw⟩:=hr;refine⟨he,?_⟩;have hz':d'.size=ps.length:=hp.mv.sz.trans hsz;have hmem:∀x,InR d' 0 ps.length x->∃(j:Nat) (hj:j<ps.length),x=a0R j ps[j]:=fun x hx=>by
  obtain⟨j, -,hj,hjx⟩:=(hp.mv.same x).1 hx;exact⟨j,hj,by rw[<- hjx,xJ ps j hj]⟩
 have hback:∀x∈d'.toList,∃(hj:x.tag<ps.length),x=a0R x.tag ps[x.tag]:=fun x hx=>by
  have h1:=rF.1 hx;rw[hz'] at h1;obtain⟨j,hj,rfl⟩:=hmem x h1;exact⟨hj,rfl⟩
 have hqs:(d'.toList.map fun x=>ps[x.tag]!).length=ps.length:=by rw[List.length_map,Array.length_toList,hz']
 refine⟨d'.toList.map fun x=>ps[x.tag]!,?_,hqs,?_,?_,?_⟩
 ·have hm:=hp.mv;have hs:=hp.s;rw[<- hsz] at hm hs;have hst:=Tw hm hs (fun i hi=>by rw[xJ ps i (by rw[<- hsz];exact hi)];rfl) (fun x hx=>by
   obtain⟨j, -,hj,rfl⟩:=rF.1 hx;rw[hsz] at hj;rw[xJ ps j hj];exact hlv _ (List.getElem_mem hj))
  rw[hst,List.map_map];have hk:∀x∈(d5 ps).toList,S5.lv x=Pc.lv ((dm.pc∘fun x:S5=>ps[x.tag]!) x):=fun x hx=>by
   obtain⟨j, -,hj,rfl⟩:=rF.1 hx;rw[hsz] at hj;rw[xJ ps j hj];show ps[j].lv=(ps[j]!).lv;rw[getElem!_pos ps j hj]
  rw[Kr hk,Tu Pc.lv];show nG Pc.lv _=nG Pc.lv _;congr 1;apply List.ext_getElem?;intro i;rw[List.getElem?_map,List.getElem?_map];unfold d5;rw[List.toList_toArray,List.getElem?_mapIdx];cases hx:ps[i]? with
  |none=>rfl
  |some x=>
   obtain⟨hi,rfl⟩:=List.getElem?_eq_some_iff.1 hx;show some (dm.pc ps[i]!)=some (dm.pc ps[i]);rw[getElem!_pos ps i hi]
 ·intro x hx;obtain⟨y,hy,rfl⟩:=List.mem_map.1 hx;obtain⟨hj, -⟩:=hback y hy;show ps[y.tag]!∈ps;rw[getElem!_pos ps _ hj];exact List.getElem_mem hj
 ·have ad9:(flatK sN 5 d').toList=cellsS (d'.toList.map fun x=>ps[x.tag]!):=Cc d' _ (by rw[hqs,hz']) (fun i hi=>by
   have hi':i<d'.size:=by rw[hqs] at hi;rw[hz'];exact hi
   obtain⟨hj,hx⟩:=hback d'[i]! (rF.2 ⟨i,Nat.zero_le _,hi',rfl⟩);have hg:(d'.toList.map fun x=>ps[x.tag]!)[i]=ps[d'[i]!.tag]:=by
    rw[List.getElem_map];have h2:d'.toList[i]'(by simpa using hi')=d'[i]! :=by rw[getElem!_pos d' i hi'];simp
    rw[h2];exact getElem!_pos ps _ hj
   rw[hg]
   conv=>lhs;rw[hx]
   rfl)
  have hgr:W.heap.size=(putRowK sN 5 (Sort.ahead W m) g 0 d').heap.size:=by
   unfold putRowK;rw[size_putRow];rfl
  have hat:w'.heap[g]? =some (.cells (putCells id 0 (flatK sN 5 d') cur) 138):=by
   rw[hw];unfold sortWorldK grow;rw[Array.getElem?_append_left (by rw[<- hgr];exact aY hc)];unfold putRowK putRow mapBlock;rw[Array.getElem?_modify,if_pos rfl];show Option.map _ (W.heap[g]?)=_;rw[hc];rfl
  have hF:(flatK sN 5 d').size=ps.length*5:=by rw[size_flatK,hz']
  rw[hqs];refine⟨by rw[uu,hqs],.inr ⟨g,cap,_,rfl,hb,hat,h6,h7,?_,?_⟩⟩
  ·unfold putCells;rw[Array.size_mapIdx];exact h8
  ·rw[<- ad9,<- hF];exact XQ _ cur (by rw[hF,h8];omega)
 ·have hgr:W.heap.size=(putRowK sN 5 (Sort.ahead W m) g 0 d').heap.size:=by
   unfold putRowK;rw[size_putRow];rfl
  rw[hw];refine⟨rfl,rfl,rfl,?_,fun x hx hne=>?_⟩
  ·unfold sortWorldK grow;show W.heap.size<=((putRowK sN 5 (Sort.ahead W m) g 0 d').heap++os).size;rw[Array.size_append,<- hgr];omega
  ·unfold sortWorldK grow;show((putRowK sN 5 (Sort.ahead W m) g 0 d').heap++os)[x]? =_;rw[Array.getElem?_append_left (by rw[<- hgr];exact hx)];unfold putRowK putRow mapBlock;show(W.heap.modify g _)[x]? =_;rw[Array.getElem?_modify,if_neg (fun e1=>hne (by rw[e1]))]
theorem a0S (W:ag):ax 147 #[.slice none 0 0,aa 0,aa 0,nV] W fun e w'=>e=.returned (.tuple #[])/\w'=W:=by
 go_enter func147,ntmps147;go_wp2_with fail
 go_loopw [8] (fun y wr=>y=aa 1/\wr=W) (fun _ _=>0)
 case atStart=>exact⟨rfl,rfl⟩
 case round=>
  obtain⟨rfl,rfl⟩:=hrel;go_wp2_with fail
  go_end0
  exact⟨rfl,rfl⟩
theorem NS (W:ag):ax 100 #[.slice none 0 0,aa 0,nV] W fun e w'=>e=.returned (.tuple #[])/\w'=W:=by
 have IN:ax 147 #[.slice none 0 0,aa 0,aa 0,nV] W fun e w'=>e=.returned (.tuple #[])/\W=w':=(a0S W).mono fun _ _ h=>⟨h.1,h.2.symm⟩;go_enter func100,ntmps100;go_upto_region 2 with fail
 go_loopw [7,8] (fun x y wr=>x=aa 0/\y=aa 20/\wr=W) (fun _ _ _=>0)
 case atStart=>exact⟨rfl,rfl,rfl⟩
 case round=>
  obtain⟨rfl,rfl,rfl⟩:=hrel;go_wp2_with(go_at_call 147;refine IN.mono ?_;rintro e w1 ⟨rfl,rfl⟩)
  go_loopw [6] (fun x w2=>x=aa 20/\w2=wr) (fun _ _=>0)
  case atStart=>exact⟨rfl,rfl⟩
  case round=>
   obtain⟨rfl,rfl⟩:=hrel;go_wp2_with fail
   go_end0
   exact⟨rfl,rfl⟩
theorem XR (W:ag):ax 53 #[.slice none 0 0,nV] W fun e w'=>e=.returned (.tuple #[])/\w'=W:=by
 have SA:=NS W;go_enter func53,ntmps53;go_wp2_with(go_at_call 100;refine SA.mono ?_;rintro e w1 ⟨rfl,rfl⟩)
 go_end0
 exact⟨rfl,rfl⟩
theorem a0T {base:Nat}{W:ag}{v:ah}(ps:List dm)(hl:ps.length<=1000)(hlv:∀x∈ps,0<=x.lv/\x.lv<1000)(ho:W.ownsRow base 138 5 v ps.length (cellsS ps)):
  ax 53 #[v,nV] W fun e w'=>e=.returned (.tuple #[])/\∃qs:List dm,qs.map dm.pc=sJ (ps.map dm.pc)/\qs.length=ps.length/\(∀x∈qs,x∈ps)/\w'.ownsRow base 138 5 v qs.length (cellsS qs)/\W.grownBy w' v.ownBlock:=by
 obtain⟨h1,h2⟩:=id ho;rcases h2 with⟨rfl,h3⟩|⟨g,cap,cur,rfl,h3,h4,h5,h6,h7,h8⟩
 ·obtain rfl:ps=[]:=List.length_eq_zero_iff.1 h3;refine(XR W).mono fun e w' ⟨h4,h5⟩=>⟨h4,[],by simp[sJ],rfl,fun x hx=>hx,by rw[h5];exact ho,?_⟩;rw[h5];exact⟨rfl,rfl,rfl,Nat.le_refl _,fun _ _ _=>rfl⟩
 ·exact GA ps hl hlv h3 h4 h5 h6 h7 h8
def a0U (E:Nat->Addr)(W:ag)(x:Except Ft (List Pc))(e:Ending)(w':ag):Prop:=match x with
 | .error f=>∃u,e=.returned (.tuple #[.slice none 0 0,u])/\Un E f W.heap.size u w'
 | .ok l=>∃qs v,qs.map dm.pc=l/\e=.returned (.tuple #[v,.nilIface])/\w'.ownsRow W.heap.size 138 5 v qs.length (cellsS qs)/\(∀x∈qs,gU w' W.heap.size (BL x) x.pts)/\∀x∈qs,∀a∈x.pts,eY a=0
end
section
open Go.RowKit Go.Shelf Go.Sort
set_option maxRecDepth 20000
theorem Kt {α:Type}(g:Nat×List Pc->α->Except Ft (Nat×List Pc))(hg:∀s x s',g s x=.ok s'->s.1<=100->s'.1<=100):∀(l:List α) (s s':Nat×List Pc),l.foldlM g s=.ok s'->s.1<=100->s'.1<=100
 |[],s,s',h,h0=>by cases h;exact h0
 |x::l,s,s',h,h0=>by
  rw[List.foldlM_cons] at h;cases hx:g s x with
  |error e=>rw[hx] at h;cases h
  |ok t=>
   rw[hx] at h;exact Kt g hg l t s' h (hg s x t hx h0)
theorem vV (M:Dm)(l:List Rl):∀(f:Nat) (n:Int) (path:List Int) (m:Mv) (st s':Nat×List Pc),dF M l f n path m st=.ok s'->st.1<=100->s'.1<=100
 |0,n,path,m,st,s',h,_=>by
  unfold dF at h;split at h<;>cases h
 |f+1,n,path,m,st,s',h,_=>by
  unfold dF at h;split at h
  ·cases h
  split at h
  ·cases h
  next _ hc=>
  have h1:st.1+1<=100:=by omega
  split at h
  ·cases h;exact h1
  have PC:∀(m':Mv) (x:Except Nat (List Qt)),iH M l n m' x (st.1+1,st.2)=.ok s'->s'.1<=100:=fun m' x h=>by
   unfold iH at h;split at h
   ·cases h
   ·split at h
    ·cases h
    ·split at h<;>cases h<;>exact h1
  split at h
  ·cases h
  ·split at h
   ·exact PC _ _ h
   ·split at h
    ·exact PC _ _ h
    ·split at h
     ·exact Kt _ (fun s x s' h=>vV M l f x _ _ s s' h) _ (st.1+1,st.2) s' h h1
     ·split at h
      ·cases h
      ·exact vV M l f _ _ _ (st.1+1,st.2) s' h h1
theorem XT {E:Nat->Addr}{W w2:ag}{WB DB:Nat}{sf:ah}{k:Nat}{ps:List dm}{v:ah}(hb:Below W.heap.size W w2)(hs:Sc W.heap.size WB DB sf k ps v w2)(hl:ps.length<=1000)(hlv:Dy (ps.map dm.pc)):
  ax 53 #[v,nV] w2 fun e w3=>e=.returned (.tuple #[])/\w3.cell? (ak WB 3)=some v/\Hid (a0U E W (.ok (sJ (ps.map dm.pc))) (.returned (.tuple #[v,.nilIface])) w3/\Below W.heap.size W w3):=by
 refine(a0T ps hl (fun x hx=>hlv x.pc (List.mem_map_of_mem hx)) hs.own).mono fun e w3 ⟨h1,qs,h2,h3,h4,h5,gr⟩=>?_;have neW:v.ownBlock≠some WB:=fun e1=>by
  obtain⟨cs,f,h6, -⟩:=fo hs.own WB e1;rw[hs.wb] at h6;cases h6
 have kW:=(gr.block WB (aY hs.wb) (fun e1=>neW e1.symm)).trans hs.wb;refine⟨h1,aF kW 3 _ rfl,⟨qs,v,h2,rfl,h5,fun x hx=>?_,fun x hx=>hs.rt x (h4 x hx)⟩,hb.grown gr hb.size (fun j hj=>?_)⟩
 ·have ho:=hs.pts x (h4 x hx);refine bT ho fun g hg=>?_;obtain⟨cs,f,h6, -⟩:=fo ho g hg;refine gr.block g (aY h6) (fun e1=>?_);obtain⟨cs',f',h7, -⟩:=fo hs.own g e1.symm;rw[h6] at h7;cases h7
 ·obtain⟨-, -, -,h6⟩:=fo hs.own j hj;exact h6
section
variable {E:Nat->Addr}{B:Nat}{tg:bf}{W:ag}{DB MB:Nat}{p:Int->Option Nat}{M:Dm}{nx c:Nat}{r:Int->Nat}{l:List Rl}{B0:Nat}{rv:ah}
abbrev oD (DB:Nat):Obj:=.cells #[ay DB] 52
abbrev Ku (rv:ah):Obj:=.cells #[rv] 68
abbrev oW (DB H:Nat):Obj:=.cells #[ay DB,rR H (H+1),aa 0,.slice none 0 0] 123
abbrev oP:Obj:=.cells (plA (-1) (.pointer none) .one) 132
theorem Qi (W w1:ag)(hb:Below (((W.alloc (oD DB)).alloc (Ku rv)).alloc (oW DB W.heap.size)).heap.size (((W.alloc (oD DB)).alloc (Ku rv)).alloc (oW DB W.heap.size)) w1):wB (W.heap.size+2) DB W.heap.size (W.heap.size+1) rv W 0 [] (.slice none 0 0) w1:=by
 have b1:=di W (oD DB);have b2:=di (W.alloc (oD DB)) (Ku rv);have b3:=di ((W.alloc (oD DB)).alloc (Ku rv)) (oW DB W.heap.size);have k1:=cZ W #[ay DB] 52;have k2:=cZ (W.alloc (oD DB)) #[rv] 68;have k3:=cZ ((W.alloc (oD DB)).alloc (Ku rv)) #[ay DB,rR W.heap.size (W.heap.size+1),aa 0,.slice none 0 0] 123;have z1:(W.alloc (oD DB)).heap.size=W.heap.size+1:=World.size_alloc _ _;have z2:((W.alloc (oD DB)).alloc (Ku rv)).heap.size=W.heap.size+2:=by rw[World.size_alloc,z1]
 have rJ:=aG b2 (aG b3 hb);refine⟨aG b1 rJ,Nat.le_add_right _ _,(rJ.block _ (aY k1)).trans k1,?_,⟨?_,World.ownsRow_nil _ _ _ _,fun x hx=>(by cases hx),fun x hx=>(by cases hx)⟩⟩
 ·rw[z1] at k2;have:=((aG b3 hb).block _ (aY k2)).trans k2;exact this
 ·rw[z2] at k3;exact(hb.block _ (aY k3)).trans k3
theorem Ce (h:En E B tg W DB MB p M nx c r l B0 rv):
  ax 26 #[ay DB,rv] W fun e w'=>a0U E W (eF M l) e w'/\Below W.heap.size W w':=by
 have ON:=nO (((W.alloc (oD DB)).alloc (Ku rv)).alloc (oW DB W.heap.size));obtain⟨Lv,Lx,N7⟩:=aH h.row;subst N7;have CM:∀w1,Below (((W.alloc (oD DB)).alloc (Ku (.slice Lv l.length Lx))).alloc (oW DB W.heap.size)).heap.size (((W.alloc (oD DB)).alloc (Ku (.slice Lv l.length Lx))).alloc (oW DB W.heap.size)) w1->ax 51 #[.pointer (some ⟨W.heap.size+2,0,none⟩),aa 0,ay w1.heap.size] (w1.alloc oP) fun e w'=>iP E W.heap.size (W.heap.size+2) DB (rR W.heap.size (W.heap.size+1)) (.slice none 0 0) (w1.alloc oP) (dF M l 101 0 [-1] .one (0,[])) e w'/\Kw (W.heap.size+2) (.slice none 0 0) (w1.alloc oP) w':=fun w1 hb=>
  Ko h 101 0 [] (.slice none 0 0) (w1.alloc oP) 0 (-1) .one [] w1.heap.size (by omega) ai (by decide) (Qi W _ (aG hb (di _ _))) ⟨_,none,rfl,cZ _ _ _,rfl⟩ Au
 have WK:∀w1,Below (((W.alloc (oD DB)).alloc (Ku (.slice Lv l.length Lx))).alloc (oW DB W.heap.size)).heap.size (((W.alloc (oD DB)).alloc (Ku (.slice Lv l.length Lx))).alloc (oW DB W.heap.size)) w1->wB (W.heap.size+2) DB W.heap.size (W.heap.size+1) (.slice Lv l.length Lx) W 0 [] (.slice none 0 0) (w1.alloc oP):=fun w1 hb=>Qi W _ (aG hb (di _ _));have a4t:Hid (∀st,dF M l 101 0 [-1] .one (0,[])=.ok st->st.2.length<=1000/\Dy st.2/\eF M l=.ok (sJ st.2)):=(fun st hst=>by
  have h1:=qM M l 101 0 [-1] .one (0,[]) st hst ai;have h2:=vV M l 101 0 [-1] .one (0,[]) st hst (Nat.zero_le _);refine⟨by omega,Gz M l 101 0 [-1] .one (0,[]) st hst (fun x hx=>(by cases hx)),?_⟩;unfold eF;rw[hst]:∀st,dF M l 101 0 [-1] .one (0,[])=.ok st->st.2.length<=1000/\Dy st.2/\eF M l=.ok (sJ st.2))
 have a4u:Hid (∀ft,dF M l 101 0 [-1] .one (0,[])=.error ft->eF M l=.error ft):=(fun ft hst=>by unfold eF;rw[hst]:∀ft,dF M l 101 0 [-1] .one (0,[])=.error ft->eF M l=.error ft);have k1:=dQ (Ku (.slice Lv l.length Lx)) (gP W #[ay DB] 52 0 _ rfl);have hW0:Hid (Below W.heap.size W (((W.alloc (oD DB)).alloc (Ku (.slice Lv l.length Lx))).alloc (oW DB W.heap.size))):=aG (di _ _) (aG (di _ _) (di _ _));clear h;obtain⟨res,hres⟩:∃x,dF M l 101 0 [-1] .one (0,[])=x:=⟨_,rfl⟩;rw[hres] at CM;cases res with
 |error ft=>
  have HP:=a4u.out ft hres;rw[HP];have CM':∀w1,Below (((W.alloc (oD DB)).alloc (Ku (.slice Lv l.length Lx))).alloc (oW DB W.heap.size)).heap.size (((W.alloc (oD DB)).alloc (Ku (.slice Lv l.length Lx))).alloc (oW DB W.heap.size)) w1->ax 51 #[.pointer (some ⟨W.heap.size+2,0,none⟩),aa 0,ay w1.heap.size] (w1.alloc oP) fun e w'=>∃pb,e=.returned (.iface 113 (ay pb))/\Hid (Un E ft (w1.alloc oP).heap.size (.iface 113 (ay pb)) w'/\Below W.heap.size W w'):=fun w1 hb=>(CM w1 hb).mono fun e w' ⟨⟨u,h1,h2⟩,h3⟩=>by
   obtain⟨pb,h4,rfl,h5⟩:=h2;exact⟨pb,h1,⟨pb,h4,rfl,h5⟩,(WK w1 hb).low.trans ((WK w1 hb).sc.low h3 (WK w1 hb).wb (WK w1 hb).low.size)⟩
  clear CM WK a4t a4u hres HP;go_enter func26,ntmps26;go_wp2_with(first|(go_at_call 52;refine ON.mono ?_;rintro e w1 ⟨rfl,b1⟩;have C1:=CM' w1 b1)|(go_at_call 51;refine C1.mono ?_;rintro e w2 ⟨pb,rfl,h2⟩))
  go_ret2
  obtain⟨h3,h4⟩:=h2.out;have hs:=(aG (aG hW0.out b1) (di w1 oP)).size;exact⟨⟨_,rfl,h3.low hs⟩,h4⟩
 |ok st=>
  obtain⟨hlen,hlv,HP⟩:=a4t.out st hres;rw[HP];have CM':∀w1,Below (((W.alloc (oD DB)).alloc (Ku (.slice Lv l.length Lx))).alloc (oW DB W.heap.size)).heap.size (((W.alloc (oD DB)).alloc (Ku (.slice Lv l.length Lx))).alloc (oW DB W.heap.size)) w1->ax 51 #[.pointer (some ⟨W.heap.size+2,0,none⟩),aa 0,ay w1.heap.size] (w1.alloc oP) fun e w'=>e=.returned .nilIface/\∃o n cp,w'.cell? ⟨W.heap.size+2,3,none⟩=some (.slice o n cp)/\ax 53 #[.slice o n cp,nV] w' fun e w3=>e=.returned (.tuple #[])/\w3.cell? ⟨W.heap.size+2,3,none⟩=some (.slice o n cp)/\Hid (a0U E W (.ok (sJ st.2)) (.returned (.tuple #[.slice o n cp,.nilIface])) w3/\Below W.heap.size W w3):=fun w1 hb=>(CM w1 hb).mono fun e w' ⟨⟨h1,ps2,v2,h2,h3,h4⟩,h5⟩=>by
   obtain⟨o,cp,hv⟩:=aH h3.own;subst hv;have hlow:Below W.heap.size W w':=(WK w1 hb).low.trans ((WK w1 hb).sc.low h5 (WK w1 hb).wb (WK w1 hb).low.size);have SE:=XT (E:=E) hlow h3 (by have h6:=congrArg List.length h2;rw[List.length_map] at h6;omega) (by rw[h2];exact hlv);rw[h2] at SE;exact⟨h1,o,_,cp,aF h3.wb 3 _ rfl,SE⟩
  clear CM WK a4t a4u hres HP;go_enter func26,ntmps26;go_wp2_with(first|(go_at_call 52;refine ON.mono ?_;rintro e w1 ⟨rfl,b1⟩;have C1:=CM' w1 b1)|(go_at_call 51;refine C1.mono ?_;rintro e w2 ⟨rfl,o,nn,cp,c3,S3⟩)|(go_at_call 53;refine S3.mono ?_;rintro e w3 ⟨rfl,c4,h2⟩))
  go_ret2
  exact h2.out
end
end
end Go.Proofs.YtjfiehbcamfdfaaGreatDoor

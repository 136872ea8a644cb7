/-
  Parts of the proof.
-/
import Derived.Test.YtjfiehbcamfdfaaGreatDoorQy27
namespace Go.Proofs.YtjfiehbcamfdfaaGreatDoor
open Go.Proofs.Tryz
section
open Go
section
variable {P:Program}{ops:Array Oper}{Q:Exit->Act->World->Prop}{md:Region.Mode}{S:World->Prop}{z:Nat}
def mM (P:Program)(md:Region.Mode)(ops:Array Oper)(Q:Exit->Act->World->Prop)(S:World->Prop)(z:Nat):Nat->Array Bool->Act->World->Prop
 |0,listed,a,w=>Region.ready md ops listed=[]/\Q .normal a w
 |fuel+1,listed,a,w=>
  (Region.ready md ops listed=[]->Q .normal a w)/\
  ∀i∈Region.ready md ops listed,wpOp P ops Q i (fun a' w'=>(i≠z->S w')/\mM P md ops Q S z fuel (listed.setIfInBounds i true) a' w') a w
theorem JZ:∀(fuel:Nat) (listed:Array Bool) (a:Act) (w:World),mM P md ops Q S z fuel listed a w->wpAny P md ops Q fuel listed a w
 |0,_,_,_,h=>h
 |fuel+1,_,_,_,h=>⟨h.1,fun i hi=>wpOp_mono (fun a' w' h'=>JZ fuel _ a' w' h'.2) (h.2 i hi)⟩
def Gl (md:Region.Mode)(ops:Array Oper)(z i:Nat):Bool:=match ops[z]? with
 |some o=>o.after.any fun e=>Region.binds md e && e.on==i
 |none=>false
theorem Nk {i:Nat}{listed:Array Bool}(h:Gl md ops z i=true)(hi:listed.getD i true=false):z ∉ Region.ready md ops listed:=fun hz=>by
 obtain⟨-,o,ho,hall⟩:=mem_ready.1 hz;unfold Gl at h;rw[ho] at h;obtain⟨e,he,hb⟩:=Array.any_eq_true'.1 h;simp only[Bool.and_eq_true,beq_iff_eq] at hb;have h1:=hall e he hb.1;rw[hb.2] at h1;rcases Nat.lt_or_ge i listed.size with h'|h'
 ·simp[h'] at hi h1;rw[hi] at h1;cases h1
 ·simp[Array.getElem?_eq_none h'] at h1
theorem a0o {i:Nat}{oi:Oper}{v:Value}(hi:ops[i]? =some oi)(hsel:∀(j:Nat) (o:Oper) cs b,ops[j]? =some o->o.op≠.select cs b)(hz:Gl md ops z i=true)
  (hQ:∀c a w,Q (.panic c) (a.put oi.dst v) w->Q (.panic c) a w):
  ∀(fuel:Nat) (listed:Array Bool) (a:Act) (w:World),
   (∀j oj,ops[j]? =some oj->j≠i->listed.getD j true=false->(∀e∈oj.after,Region.binds md e=true->e.on≠i)->oi.apart ops oj=true)->
   i∈Region.ready md ops listed->YieldsIf P ops S oi v a->S w->
   mM P md ops Q S z fuel (listed.setIfInBounds i true) (a.put oi.dst v) w->mM P md ops Q S z (fuel+1) listed a w:=by
 intro fuel
 induction fuel with
 |zero=>
  intro listed a w _ hr hy hS H;refine⟨fun h=>(by rw[h] at hr;cases hr),fun j hj=>?_⟩;by_cases hji:j=i
  ·subst hji;exact hy.wpOp hi hS ⟨fun _=>hS,H⟩
  ·have:=ready_mono hj hji;rw[H.1] at this;cases this
 |succ fuel ih=>
  intro listed a w hfree hr hy hS H;refine⟨fun h=>(by rw[h] at hr;cases hr),fun j hj=>?_⟩;by_cases hji:j=i
  ·subst hji;exact hy.wpOp hi hS ⟨fun _=>hS,H⟩
  ·have hun:=(mem_ready.1 hr).1;have hjz:j≠z:=fun e=>Nk hz hun (e▸hj);have h1:=H.2 j (ready_mono hj hji);obtain⟨hjun,oj,hoj,hall⟩:=mem_ready.1 hj;have hnot:∀e∈oj.after,Region.binds md e=true->e.on≠i:=fun e he hb heq=>by
    have h1:=hall e he hb;rw[heq] at h1;rcases Nat.lt_or_ge i listed.size with h'|h'
    ·simp[h'] at hun h1;rw[hun] at h1;cases h1
    ·simp[Array.getElem?_eq_none h'] at h1
   have h2:=wpOp_putIf hoj (hfree j oj hoj hji hjun hnot) (fun cs b=>hsel i oi cs b hi) (fun cs b=>hsel j oj cs b hoj) hQ hy h1;refine wpOp_mono (fun a' w' h3=>⟨h3.2.1,ih (listed.setIfInBounds j true) a' w' (fun k ok hk hki a8k hno=>hfree k ok hk hki ?_ hno) (ready_mono hr (Ne.symm hji)) h3.1 (h3.2.1 hjz) ?_⟩) h2
   ·by_cases hjk:j=k
    ·subst hjk;exact hjun
    ·rw[getD_set_ne true hjk] at a8k;exact a8k
   ·rw[Array.setIfInBounds_comm _ _ hji];exact h3.2.2
theorem aR (i:Nat){oi:Oper}{v:Value}{fuel:Nat}{listed:Array Bool}{a:Act}{w:World}(hi:ops[i]? =some oi)
  (hs:Region.noSelect ops=true) (hz:Gl md ops z i=true) (hf:Region.free md ops listed i=true) (hr:(Region.ready md ops listed).contains i=true)
  (hQ:∀c a w,Q (.panic c) (a.put oi.dst v) w->Q (.panic c) a w) (hS:S w) (hy:YieldsIf P ops S oi v a)
  (h:mM P md ops Q S z fuel (listed.setIfInBounds i true) (a.put oi.dst v) w):mM P md ops Q S z (fuel+1) listed a w:=
 a0o hi (Region.noSelect_spec hs) hz hQ fuel listed a w (Region.free_spec hi hf) (by simpa using hr) hy hS h
theorem jv (i:Nat){o:Oper}{fuel:Nat}{listed:Array Bool}{a:Act}{w:World}(hr:Region.ready md ops listed=[i])(ho:ops[i]? =some o)
  (h:∀K':Act->World->Prop,Shut (∀a w,(i≠z->S w)->mM P md ops Q S z fuel (listed.setIfInBounds i true) a w->K' a w)->if Region.wanted o (yielded ops a.tmps)=true then Oper.wp P o a w K' Q else K' (a.put o.dst undef) w):mM P md ops Q S z (fuel+1) listed a w:=by
 refine⟨fun h0=>(by rw[hr] at h0;cases h0),fun j hj=>?_⟩;rw[hr] at hj;have hji:j=i:=by simpa using hj
 subst hji;exact wpOp_step ho (fun K' hK=>h K' (fun a w hS hW=>hK a w ⟨hS,hW⟩))
theorem Nl {listed:Array Bool}{a:Act}{w:World}(hr:Region.ready md ops listed=[])(h:Q .normal a w):∀fuel,mM P md ops Q S z fuel listed a w
 |0=>⟨hr,h⟩
 |_+1=>⟨fun _=>h,by rw[hr];simp⟩
theorem BL {id:Nat}{a:Act}{w:World}(S:World->Prop)(z:Nat)(hm:P.follows .mixedOrders=true)
  (h:mM P .any ops Q S z ops.size (Array.replicate ops.size false) a w.drew):(Code.region id ops true).wp P Q a w:=
 wp_region_any hm (JZ _ _ _ _ h)
end
end
section
open Go.RowKit Go.Shelf
set_option maxHeartbeats 8000000
set_option maxRecDepth 20000
def dK (E:Nat->Addr)(base WB DB:Nat)(sf:Value)(v:Value)(V:World)(x:Except Ft (Nat×List Pc))(e:Ending)(w':World):Prop:=match x with
  | .error f=>∃u,e=.returned u/\Tz E f V.heap.size u w'
  | .ok st=>e=.returned .nilIface/\∃ps v',ps.map bZ.pc=st.2/\Sc base WB DB sf st.1 ps v' w'/\(v'.ownBlock=v.ownBlock\/∀b,v'.ownBlock=some b->V.heap.size<=b)
def qX (n:Int)(m:Mv)(x:Except Nat (List Qt))(fill rule level:Bs)(st:Nat×List Pc):Except Ft (Nat×List Pc):=match x with
  | .error c=>.error ⟨tF c,n⟩
  | .ok q=>match Tv m q with
    |none=>.error ⟨2,n⟩
    |some q'=>if fill=tC then .ok st else .ok (st.1,st.2++[⟨n,q',fill,rule,Em level⟩])
theorem BB.below {E:Nat->Addr}{c:Nat}{v:Value}{w w':World}(h:BB E c v w)(hb:Below w.heap.size w w'):BB E c v w':=by
  obtain⟨h1,h2,h3⟩:=h;refine⟨h1,h2,?_⟩;rcases h3 with h3|⟨pb,po,h3,h4⟩
  · exact .inl h3
  · exact .inr ⟨pb,po,h3,(hb.cell (ay h4)).trans h4⟩
theorem lu.below {E:Nat->Addr}{x:Except Nat (List Qt)}{e:Ending}{w w':World}(h:lu E x e w)(hb:Below w.heap.size w w'):lu E x e w':=by
  cases x with
  |error k=>
    obtain⟨v,h1,h2⟩:=h;exact⟨v,h1,h2.below hb⟩
  |ok l=>
    obtain⟨h0,h1,o,cap,h2,h3⟩:=h;exact⟨h0,h1,o,cap,h2,h3.below hb eU⟩
def a4b (E:Nat->Addr)(x:Except Nat (List Qt))(V:World)(b rv:Value)(wx:World):Prop:=∃BS ro rn rc,b=aj BS/\V.heap.size<=BS/\wx.heap[BS]? =some (.cells #[.slice ro rn rc] 136)/\lu E x (.returned (.tuple #[.agg #[.slice ro rn rc],rv])) wx/\Below V.heap.size V wx
theorem WN {E:Nat->Addr}{x:Except Nat (List Qt)}{V w1:World}{ro:Option Addr}{rn rc:Nat}{rv:Value}(h:lu E x (.returned (.tuple #[.agg #[.slice ro rn rc],rv])) w1)(b:Below V.heap.size V w1):a4b E x V (aj w1.heap.size) rv (w1.alloc (.cells #[.slice ro rn rc] 136)):=
  ⟨_,ro,rn,rc,rfl,b.size,dh w1 _ _,lu.below h (aW w1 _),az b (aW w1 _)⟩
theorem WQ {E:Nat->Addr}{x:Except Nat (List Qt)}{V w1:World}{ro:Option Addr}{rn rc:Nat}{rv:Value}(h:lu E x (.returned (.tuple #[.agg #[.slice ro rn rc],rv])) w1)(b:Below (V.alloc (.cells #[.slice none 0 0] 136)).heap.size (V.alloc (.cells #[.slice none 0 0] 136)) w1):a4b E x V (aj V.heap.size) rv (w1.setCell ⟨V.heap.size,0,none⟩ (.slice ro rn rc)):=by
  have K:=dh V #[.slice none 0 0] 136;have K1:=(b.block _ (aN K)).trans K;refine⟨_,ro,rn,rc,rfl,Nat.le_refl _,?_,h.far K1,(az (aW V _) b).setCell eU _⟩;have:=heap_setCell_same w1 V.heap.size 0 _ _ (.slice ro rn rc) K1;simpa using this
theorem Tz.low {E:Nat->Addr}{f:Ft}{b b':Nat}{v:Value}{w:World}(h:Tz E f b v w)(hb:b'<=b):Tz E f b' v w:=by
  obtain⟨pb,h1,h2,h3⟩:=h;exact⟨pb,Nat.le_trans hb h1,h2,h3⟩
def a8l (E:Nat->Addr)(m:Mv)(l:List Qt)(BS:Nat)(V:World)(rv:Value)(wx:World):Prop:=∃ro rn rc,wx.heap[BS]? =some (.cells #[.slice ro rn rc] 136)/\Rx E m l V.heap.size (.returned (.tuple #[.agg #[.slice ro rn rc],rv])) wx/\Below V.heap.size V wx
theorem Rx.is {E:Nat->Addr}{m:Mv}{l:List Qt}{b:Nat}{e:Ending}{w:World}(h:Rx E m l b e w):∃o n c v,e=.returned (.tuple #[.agg #[.slice o n c],v]):=by
  unfold Rx at h;cases hg:Tv m l with
  |none=>rw[hg] at h;obtain⟨v,h1, -⟩:=h;exact⟨_,_,_,_,h1⟩
  |some l'=>
    rw[hg] at h;obtain⟨v,h1,h2⟩:=h;obtain⟨o,cap,rfl⟩:=aI h2;exact⟨_,_,_,_,h1⟩
theorem WR {E:Nat->Addr}{m:Mv}{l:List Qt}{BS:Nat}{V wc w2:World}{x:Value}{ro:Option Addr}{rn rc:Nat}{rv:Value}(h:Rx E m l wc.heap.size (.returned (.tuple #[.agg #[.slice ro rn rc],rv])) w2)(KB:wc.heap[BS]? =some (.cells #[x] 136))(b1:Below V.heap.size V wc)(hBS:V.heap.size<=BS)(b2:Below wc.heap.size wc w2):a8l E m l BS V rv (w2.setCell ⟨BS,0,none⟩ (.slice ro rn rc)):=by
  have hlt:=aN KB;have K2:=(b2.block _ hlt).trans KB;refine⟨ro,rn,rc,?_,?_,(az b1 b2).setCell hBS _⟩
  · have:=heap_setCell_same w2 BS 0 _ _ (.slice ro rn rc) K2
    simpa using this
  · unfold Rx at h⊢
    cases hg:Tv m l with
    |none=>
      rw[hg] at h;obtain⟨v,h1,h2⟩:=h;exact⟨v,h1,h2.far⟩
    |some l'=>
      rw[hg] at h;obtain⟨v,h1,h2⟩:=h;exact⟨v,h1,(fV.far h2 hlt).low b1.size⟩
theorem Nn (ps:List bZ)(x:bZ):cellsS (ps++[x])=cellsS ps++[aa x.nd,BH x,bV x.fill,bV x.rule,aa x.lv]:=by rw[BI];rfl
theorem a0p {m:Mv}{l l':List Qt}(hm:m.ok)(hl:jS l)(h:Tv m l=some l'):∀a∈l',dD a=0:=by
  unfold Tv at h;split at h
  · next ha=>
    cases h;intro a hx;obtain⟨b,hb,rfl⟩:=List.mem_map.1 hx;exact BG hm (hl.2 b hb) (xy (List.all_eq_true.1 ha b hb))
  · cases h
theorem a0q:(prog.info? 138).map (fun i=>(i.zero,i.size,i.bytes))=some (some (.agg #[aa 0,.slice none 0 0,.string ⟨#[]⟩,.string ⟨#[]⟩,aa 0]),5,72):=by kernel_rfl
def S9 (Bw WB PB BS:Nat)(n:Int)(sf pv v:Value)(w:World):Prop:=w.cell? (ag Bw 0)=some (aj WB)/\w.cell? (ag WB 1)=some sf/\w.cell? (ag PB 0)=some (aa n)/\w.cell? (ag BS 0)=some pv/\w.cell? (ag WB 3)=some v
theorem Sc.app {base WB DB:Nat}{sf:Value}{k:Nat}{ps:List bZ}{v:Value}{V w6 w7:World}{x:bZ}{g cap:Nat}(h:Sc base WB DB sf k ps v V)(hb:Below V.heap.size V w6)(ho:fV w6 base (BH x) x.pts)(hrt:∀a∈x.pts,dD a=0)
    (ow:w7.ownsRow base 138 5 (.slice (some ⟨g,0,none⟩) (ps.length+1) cap) (ps.length+1) (cellsS ps++[aa x.nd,BH x,bV x.fill,bV x.rule,aa x.lv])) (gr:w6.grownBy w7 v.ownBlock) (hat:v.ownBlock=some g\/g=w6.heap.size):
    Sc base WB DB sf k (ps++[x]) (.slice (some ⟨g,0,none⟩) (ps.length+1) cap) (w7.setCell ⟨WB,3,none⟩ (.slice (some ⟨g,0,none⟩) (ps.length+1) cap))/\Kw WB v V (w7.setCell ⟨WB,3,none⟩ (.slice (some ⟨g,0,none⟩) (ps.length+1) cap))/\((Value.slice (some ⟨g,0,none⟩) (ps.length+1) cap).ownBlock=v.ownBlock\/∀b,(Value.slice (some ⟨g,0,none⟩) (ps.length+1) cap).ownBlock=some b->V.heap.size<=b):=by
  have wlt:=aN h.wb;have neW:v.ownBlock≠some WB:=fun e=>by
    obtain⟨cs,f,h1, -⟩:=dJ h.own WB e;rw[h.wb] at h1;cases h1
  have gW:g≠WB:=fun e=>by
    rcases hat with h1|h1
    · exact neW (by rw[h1,e])
    · have:=hb.size;omega
  have acf:w7.heap[WB]? =some (.cells #[aj DB,sf,aa k,v] 123):=by
    rw[gr.block WB (Nat.lt_of_lt_of_le wlt hb.size) (fun e=>neW e.symm),hb.block WB wlt];exact h.wb
  have far:∀b,b≠WB->(w7.setCell ⟨WB,3,none⟩ (.slice (some ⟨g,0,none⟩) (ps.length+1) cap)).heap[b]? =w7.heap[b]? :=fun b hne=>Below.heap_setCell _ _ _ b hne;have ptk:∀y:bZ,fV w6 base (BH y) y.pts->fV (w7.setCell ⟨WB,3,none⟩ (.slice (some ⟨g,0,none⟩) (ps.length+1) cap)) base (BH y) y.pts:=fun y hy=>by
    refine bS hy fun j hj=>?_;obtain⟨cs,f,h1, -⟩:=dJ hy j hj;have hlt:=aN h1;have n1:j≠WB:=fun e=>by
      subst e;rw[hb.block j wlt,h.wb] at h1;cases h1
    have n2:some j≠v.ownBlock:=fun e=>by
      obtain⟨cs',f',h3, -⟩:=dJ (aK h.own hb) j e.symm;rw[h1] at h3;cases h3
    rw[far j n1];exact gr.block j hlt n2
  have szs:(w7.setCell ⟨WB,3,none⟩ (.slice (some ⟨g,0,none⟩) (ps.length+1) cap)).heap.size=w7.heap.size:=World.size_setCell _ _ _;refine⟨⟨?_,?_,?_,?_⟩,⟨?_,?_,?_,?_,?_⟩,?_⟩
  · have:=heap_setCell_same w7 WB 3 _ _ (.slice (some ⟨g,0,none⟩) (ps.length+1) cap) acf
    simpa using this
  · rw[Nn,List.length_append]
    exact bS ow fun j hj=>far j (fun e=>gW (by cases hj;exact e))
  · intro y hy
    rcases List.mem_append.1 hy with hy|hy
    · exact ptk y ((h.pts y hy).keep hb)
    · simp at hy;subst hy;exact ptk _ ho
  · intro y hy
    rcases List.mem_append.1 hy with hy|hy
    · exact h.rt y hy
    · simp at hy;subst hy;exact hrt
  · exact gr.os.trans hb.os
  · exact gr.tape.trans hb.tape
  · exact gr.output.trans hb.output
  · rw[szs];exact Nat.le_trans hb.size gr.size
  · intro b hlt h1 h2
    rw[far b h1,gr.block b (Nat.lt_of_lt_of_le hlt hb.size) (fun e=>h2 e.symm),hb.block b hlt]
  · rcases hat with h1|h1
    · exact .inl h1.symm
    · exact .inr fun b hb'=>by cases hb';rw[h1];exact hb.size
section
variable {E:Nat->Addr}{base WB DB:Nat}{k:Nat}{ps:List bZ}{v:Value}{V:World}
theorem vQ (hN:NE E V)(Bd Bl:Nat)(hS:Sc base WB DB (jJ Bd Bl) k ps v V)(PB Br Bw fr:Nat)(hcf:∀(av:Array Value) (w:World),Sem.run prog (callFunc fr av) w=.ok (.enter fr av) w)(n:Int)(q:Value)(m:Mv)(hm:m.ok)(hp:V.heap[PB]? =some (.cells (Gi n q m) 132))
    (hr:V.cell? (ag Br 0)=some (.func (.func fr) #[aj WB] #[])) (hwB:V.heap[Bw]? =some (.cells #[aj WB] 119)) (x:Except Nat (List Qt)) (fill rule level:Bs) (hlv:level.length<=1000000) (hbase:base<=V.heap.size) (hps:ps.length<=1000)
    (RD:∀U,Below V.heap.size V U->ak fr #[aj WB,aa n] U fun e w'=>lu E x e w'/\Below U.heap.size U w')
    (SF:∀U,Below V.heap.size V U->ak 49 #[aa n,bV sJ,aj Bd,aj Bl] U fun e w'=>e=.returned (bV fill)/\Below U.heap.size U w')
    (SR:∀U,Below V.heap.size V U->ak 49 #[aa n,bV uQ,aj Bd,aj Bl] U fun e w'=>e=.returned (bV rule)/\Below U.heap.size U w')
    (SL:∀U,Below V.heap.size V U->ak 49 #[aa n,bV oC,aj Bd,aj Bl] U fun e w'=>e=.returned (bV level)/\Below U.heap.size U w'):
    ak 190 #[aj PB,aj Br,aj Bw] V fun e w'=>dK E base WB DB (jJ Bd Bl) v V (qX n m x fill rule level (k,ps.map bZ.pc)) e w'/\Kw WB v V w':=by
  have hw:=aA hwB 0 _ rfl;have HN:Hid (NE E V):=hN;have HS:Hid (Sc base WB DB (jJ Bd Bl) k ps v V):=hS;have HM:Hid m.ok:=hm;have p0:=aA hp 0 _ rfl;have R1:=RD V.drew (below_drewN (Below.refl _ _) 1);obtain⟨ans,su⟩:∃a,qX n m x fill rule level (k,ps.map bZ.pc)=a:=⟨_,rfl⟩;rw[su];have HA:Hid (qX n m x fill rule level (k,ps.map bZ.pc)=ans):=su;clear su hN hS hm;go_enter func190,ntmps190;go_upto_region 1 with fail
  go_cut [5,6] from 8 to 87 (fun b rv wx=>a4b E x V b rv wx)
  case first=>
    have R2:=RD (V.alloc (.cells #[.slice none 0 0] 136)).drew (below_drewN (aW V _) 1);have KK:∀w1,Below (V.alloc (.cells #[.slice none 0 0] 136)).drew.heap.size (V.alloc (.cells #[.slice none 0 0] 136)).drew w1->w1.cell? ⟨V.heap.size,0,none⟩=some (.slice none 0 0)/\w1.frozen? ⟨V.heap.size,0,none⟩=false:=fun w1 b1=>by
      have K:=dh V #[.slice none 0 0] 136;have K1:=(b1.block V.heap.size (aN K)).trans K;exact⟨aA K1 0 _ rfl,cO K1 0⟩
    have Q1:ak fr #[aj WB,aa n] V.drew fun e w'=>∃ro rn rc rv,e=.returned (.tuple #[.agg #[.slice ro rn rc],rv])/\lu E x (.returned (.tuple #[.agg #[.slice ro rn rc],rv])) w'/\Below V.drew.heap.size V.drew w':=R1.mono fun e w' ⟨h1,b1⟩=>by
      obtain⟨ro,rn,rc,rv,rfl⟩:=h1.is;exact⟨ro,rn,rc,rv,rfl,h1,b1⟩
    have Q2:ak fr #[aj WB,aa n] (V.alloc (.cells #[.slice none 0 0] 136)).drew fun e w'=>∃ro rn rc rv,e=.returned (.tuple #[.agg #[.slice ro rn rc],rv])/\lu E x (.returned (.tuple #[.agg #[.slice ro rn rc],rv])) w'/\Below (V.alloc (.cells #[.slice none 0 0] 136)).drew.heap.size (V.alloc (.cells #[.slice none 0 0] 136)).drew w':=R2.mono fun e w' ⟨h1,b1⟩=>by
      obtain⟨ro,rn,rc,rv,rfl⟩:=h1.is;exact⟨ro,rn,rc,rv,rfl,h1,b1⟩
    have ba:=aW V (.cells #[.slice none 0 0] 136);have p0a:=(ba.cell (ay p0)).trans p0;have hra:=(ba.cell (ay hr)).trans hr;clear R1 R2 RD SF SR SL hp ba hw
    go_region_with (first|(refine Q1.mono ?_;rintro e w1 ⟨ro,rn,rc,rv,rfl,h1,b1⟩)|(refine Q2.mono ?_;rintro e w1 ⟨ro,rn,rc,rv,rfl,h1,b1⟩;obtain⟨u0,uf⟩:=KK w1 b1))
    all_goals go_wp2_with fail
    all_goals go_meet
    all_goals first|(have hu:=u0;exact WQ h1 ((below_drewN (Below.refl _ _) 1).trans b1))|exact WN h1 ((below_drewN (Below.refl _ _) 1).trans b1)
  case rest=>
    obtain⟨BS,ro,rn,rc,rfl,hBS,KB,h1,b1⟩:=hcut;have hpw:=(b1.block _ (aN hp)).trans hp;have pw0:=aA hpw 0 _ rfl;have NW:=HN.out.below b1;have HX:Hid (lu E x (.returned (.tuple #[.agg #[.slice ro rn rc],u6])) wc):=h1;clear h1;cases x with
    |error cd=>
      obtain⟨ev,he,hev⟩:=HX.out;have Wj:u6=ev:=by simp at he;exact he.2
      subst Wj;have FO:=iV NW hev n;have hne:u6≠.nilIface:=by
        rintro rfl;obtain⟨-, -,h|⟨pb,po,h, -⟩⟩:=hev<;>cases h
      have hpk:∀f:Except Ft (Nat×List Pc),ans=f->qX n m (.error cd) fill rule level (k,ps.map bZ.pc)=f:=fun f hf=>by rw[<- hf];exact HA.out
      have ha:ans=.error ⟨tF cd,n⟩:=HA.out.symm;subst ha;obtain⟨-, -,hv2⟩:=hev;clear hpk he HX;rcases hv2 with rfl|⟨pb,po,rfl, -⟩
      · go_wp2_with(go_at_call 98;refine FO.mono ?_;rintro e w2 ⟨u,rfl,hf,b2⟩)
        go_ret;exact⟨⟨u,rfl,Tz.low hf b1.size⟩,Kw.of_below (az b1 b2)⟩
      · go_wp2_with(go_at_call 98;refine FO.mono ?_;rintro e w2 ⟨u,rfl,hf,b2⟩)
        go_ret;exact⟨⟨u,rfl,Tz.low hf b1.size⟩,Kw.of_below (az b1 b2)⟩
    |ok l=>
      obtain⟨hch,hok,o1,dz,he,hpt⟩:=HX.out;obtain⟨⟨rfl,rfl,rfl⟩,rfl⟩:(ro=o1/\rn=l.length/\rc=dz)/\u6=.nilIface:=by simp at he;exact⟨⟨he.1.1,he.1.2.1,he.1.2.2⟩,he.2⟩
      have bd:=below_drewN (Below.refl wc.heap.size wc) 1;have MV:=Ry m HM.out l ro rc wc.drew ((vO l).1 hok) (hpt.below bd eU) (NW.below bd);have s0:=aA KB 0 _ rfl;clear he HX;have HL:Hid (okB l=true):=hok;have HCH:Hid (∀a∈l,dD a=0):=hch;clear hok hch hpt;have q2:=aA hpw 2 _ rfl;have q3:=aA hpw 3 _ rfl;have q4:=aA hpw 4 _ rfl;have q5:=aA hpw 5 _ rfl;have q6:=aA hpw 6 _ rfl;have q7:=aA hpw 7 _ rfl;have q8:=aA hpw 8 _ rfl;have q9:=aA hpw 9 _ rfl;have q10:=aA hpw 10 _ rfl;have q11:=aA hpw 11 _ rfl;have q12:=aA hpw 12 _ rfl;have q13:=aA hpw 13 _ rfl;go_upto_region 4 with fail
      go_cut [6] from 8 to 87 (fun rv wx=>a8l E m l BS V rv wx)
      case first=>
        have MQ:ak 191 #[.agg #[.slice ro l.length rc],mv m] wc.drew fun e w'=>∃o n c rv,e=.returned (.tuple #[.agg #[.slice o n c],rv])/\Rx E m l wc.heap.size (.returned (.tuple #[.agg #[.slice o n c],rv])) w'/\Below wc.heap.size wc w'/\w'.cell? (ag BS 0)=some (.slice ro l.length rc)/\w'.frozen? ⟨BS,0,none⟩=false:=MV.mono fun e w' ⟨h1,b2⟩=>by
          obtain⟨o,n,c,rv,rfl⟩:=h1.is;have bb:Below wc.heap.size wc w':=⟨b2.os,b2.tape,b2.output,b2.size,b2.block⟩;have K2:=(bb.block _ (aN KB)).trans KB;exact⟨o,n,c,rv,rfl,h1,bb,aA K2 0 _ rfl,cO K2 0⟩
        clear MV RD SF SR SL hpw hp
        go_region_with (go_at_call 191;refine MQ.mono ?_;rintro e w2 ⟨o2,n2,c2,rv2,rfl,h2,b2,k2,f2⟩)
        all_goals go_wp2_with fail
        all_goals go_meet
        all_goals exact WR h2 KB b1 hBS b2
      case rest=>
        obtain⟨yO,rn2,wu,KB2,h2,b2⟩:=hcut;have a8n:=(b2.block _ (aN hp)).trans hp;have pz0:=aA a8n 0 _ rfl;have NW2:=HN.out.below b2;unfold Rx at h2;cases hg:Tv m l with
        |none=>
          rw[hg] at h2;obtain⟨ev,he,hev⟩:=h2;have Wj:u6=ev:=by simp at he;exact he.2
          subst Wj;have FO:=iV NW2 hev n;have ha:ans=.error ⟨2,n⟩:=by
            have:=HA.out;unfold qX at this;simp only[hg] at this;exact this.symm
          subst ha;obtain⟨-, -,hv2⟩:=hev;rcases hv2 with rfl|⟨pb,po,rfl, -⟩ -- afN
          · go_wp2_with(go_at_call 98;refine FO.mono ?_;rintro e w2 ⟨u,rfl,hf,b3⟩)
            go_ret;exact⟨⟨u,rfl,Tz.low hf b2.size⟩,Kw.of_below (az b2 b3)⟩
          · go_wp2_with(go_at_call 98;refine FO.mono ?_;rintro e w2 ⟨u,rfl,hf,b3⟩)
            go_ret;exact⟨⟨u,rfl,Tz.low hf b2.size⟩,Kw.of_below (az b2 b3)⟩
        |some l'=>
          rw[hg] at h2;obtain⟨v2,he,hown2⟩:=h2;obtain⟨hv2,rfl⟩:v2=.slice yO rn2 wu/\u6=.nilIface:=by simp at he;exact⟨he.1.symm,he.2⟩
          subst hv2;obtain⟨o9,c9,h9⟩:=aI hown2;obtain⟨rfl,rfl,rfl⟩:yO=o9/\rn2=l'.length/\wu=c9:=by simp at h9;exact h9
          have HOW:Hid (fV wc V.heap.size (.slice yO l'.length wu) l'):=hown2;have su:Hid (qX n m (.ok l) fill rule level (k,ps.map bZ.pc)=if fill=tC then .ok (k,ps.map bZ.pc) else .ok (k,ps.map bZ.pc++[⟨n,l',fill,rule,Em level⟩])):=by
            show _=_;unfold qX;simp only[hg]
          have HA2:Hid (ans=if fill=tC then .ok (k,ps.map bZ.pc) else .ok (k,ps.map bZ.pc++[⟨n,l',fill,rule,Em level⟩])):=HA.out.symm.trans su.out;have HR:Hid (∀a∈l',dD a=0):=a0p HM.out ((vO l).1 HL.out) hg;have bw0:=(b2.cell (ay hw)).trans hw;have wbk:=(b2.block _ (aN HS.out.wb)).trans HS.out.wb;have wb1:=aA wbk 1 _ rfl;have wb3:=aA wbk 3 _ rfl;have bs0:=aA KB2 0 _ rfl;have SFd:=SF wc.drew (b2.trans (below_drewN (Below.refl _ _) 1));clear su HA h9 he RD q2 q3 q4 q5 q6 q7 q8 q9 q10 q11 q12 q13 MV;go_upto_region 7 with fail
          go_region_held3 (fun w'=>w'.cell? (ag Bw 0)=some (aj WB)/\w'.cell? (ag WB 1)=some (jJ Bd Bl)/\w'.cell? (ag PB 0)=some (aa n)) (go_keep) (first|(go_at_call 49;refine SFd.mono ?_;rintro e w3 ⟨rfl,b3⟩;have x1:=(b3.cell (ay (w:=wc.drew) bw0)).trans bw0;have x2:=(b3.cell (ay (w:=wc.drew) wb1)).trans wb1;have x3:=(b3.cell (ay (w:=wc.drew) pz0)).trans pz0))
          have sj:Below V.heap.size V w3:=az b2 ⟨b3.os,b3.tape,b3.output,b3.size,b3.block⟩;have hq:=eH fill tC;by_cases hf:fill=tC
          · have hqt:(fill==tC)=true:=by simp[hf]
            rw[hqt] at hq;unfold tC at hq hqt;have ha:ans=.ok (k,ps.map bZ.pc):=by rw[HA2.out,if_pos hf]
            subst ha;clear HA2 hf;go_wp2_with fail;go_ret;exact⟨⟨rfl,ps,v,rfl,HS.out.below sj,.inl rfl⟩,Kw.of_below sj⟩
          · have hqt:(fill==tC)=false:=by simpa using hf
            rw[hqt] at hq;unfold tC at hq hqt;have ha:ans=.ok (k,ps.map bZ.pc++[⟨n,l',fill,rule,Em level⟩]):=by rw[HA2.out,if_neg hf]
            subst ha;clear HA2 hf SFd;have YF:=sj.size;have y4:w3.cell? (ag BS 0)=some (.slice yO l'.length wu):=(b3.cell (ay (w:=wc.drew) bs0)).trans bs0;have y5:w3.cell? (ag WB 3)=some v:=(b3.cell (ay (w:=wc.drew) wb3)).trans wb3;obtain⟨ov,kv,Js⟩:=aI HS.out.own;subst Js;obtain⟨i0,hi,hz0,hz1,hz2⟩:=info_parts a0q;have SRd:=fun U (hU:Below w3.heap.size w3 U)=>SR U (az sj hU);have SLd:=fun U (hU:Below w3.heap.size w3 U)=>SL U (az sj hU);have RLd:=fun U (hU:Below w3.heap.size w3 U)=>De (HN.out.below (az sj hU)) level hlv;have KEEP:∀U,Below w3.heap.size w3 U->U.cell? (ag Bw 0)=some (aj WB)/\U.cell? (ag WB 1)=some (jJ Bd Bl)/\U.cell? (ag PB 0)=some (aa n)/\U.cell? (ag BS 0)=some (.slice yO l'.length wu)/\U.cell? (ag WB 3)=some (.slice ov ps.length kv):=fun U hU=>⟨(hU.cell (ay x1)).trans x1,(hU.cell (ay x2)).trans x2,(hU.cell (ay x3)).trans x3,(hU.cell (ay y4)).trans y4,(hU.cell (ay y5)).trans y5⟩;have neW:(Value.slice ov ps.length kv).ownBlock≠some WB:=fun e1=>by
              obtain⟨cs,f,h1, -⟩:=dJ HS.out.own WB e1;rw[HS.out.wb] at h1;cases h1
            have OW6:∀U,Below w3.heap.size w3 U->(U.alloc (.cells #[aa n,.slice yO l'.length wu,bV fill,bV rule,aa (Em level)] 138)).ownsRow base 138 5 (.slice ov ps.length kv) ps.length (cellsS ps):=fun U hU=>World.ownsRow.alloc (aK HS.out.own (az sj hU)) _;have kw3:=(sj.block _ (aN hwB)).trans hwB;have kW3:=(sj.block _ (aN HS.out.wb)).trans HS.out.wb;have kP3:=(sj.block _ (aN hp)).trans hp;have kB3:w3.heap[BS]? =some (.cells #[.slice yO l'.length wu] 136):=(b3.block _ (aN (w:=wc.drew) KB2)).trans KB2;have ROW:∀U,Below w3.heap.size w3 U->∀w7,(U.alloc (.cells #[aa n,.slice yO l'.length wu,bV fill,bV rule,aa (Em level)] 138)).grownBy w7 (Value.slice ov ps.length kv).ownBlock->∀(b:Nat) (cs:Array Value) (t:TypeId),w3.heap[b]? =some (Obj.cells cs t)->t≠138->w7.heap[b]? =some (Obj.cells cs t):=fun U hU w7 gr b cs t hb ht=>by
              have b8:=az hU (aW U (.cells #[aa n,.slice yO l'.length wu,bV fill,bV rule,aa (Em level)] 138));refine(gr.block b (Nat.lt_of_lt_of_le (aN hb) b8.size) (fun e1=>?_)).trans ((b8.block b (aN hb)).trans hb);obtain⟨cs',f',h1, -⟩:=dJ (aK HS.out.own sj) b e1.symm;rw[hb] at h1;cases h1;exact ht rfl
            have A7:∀U,Below w3.heap.size w3 U->∀w7,(U.alloc (.cells #[aa n,.slice yO l'.length wu,bV fill,bV rule,aa (Em level)] 138)).grownBy w7 (Value.slice ov ps.length kv).ownBlock->S9 Bw WB PB BS n (jJ Bd Bl) (.slice yO l'.length wu) (.slice ov ps.length kv) w7/\w7.frozen? ⟨WB,3,none⟩=false:=fun U hU w7 gr=>by
              have rW:=ROW U hU w7 gr WB _ _ kW3 (by decide);exact⟨⟨aA (ROW U hU w7 gr Bw _ _ kw3 (by decide)) 0 _ rfl,aA rW 1 _ rfl,aA (ROW U hU w7 gr PB _ _ kP3 (by decide)) 0 _ rfl,aA (ROW U hU w7 gr BS _ _ kB3 (by decide)) 0 _ rfl,aA rW 3 _ rfl⟩,cO rW 3⟩
            have HB3:Hid (fV w3 V.heap.size (.slice yO l'.length wu) l'):=(HOW.out.keep (⟨b3.os,b3.tape,b3.output,b3.size,b3.block⟩:Below wc.heap.size wc w3):fV w3 V.heap.size (.slice yO l'.length wu) l');have acn:Hid (Below V.heap.size V w3):=sj;clear ROW kw3 kW3 kP3 kB3 hown2 HOW hwB NW2 NW b1 b2 b3 sj hpw a8n KB KB2 wbk wb1 wb3 bs0 pz0 bw0 hr hw hp p0 pw0 SF SR SL;go_upto_region 9 with fail;refine BL (S9 Bw WB PB BS n (jJ Bd Bl) (.slice yO l'.length wu) (.slice ov ps.length kv)) 35 (by kernel_rfl) ?_;have hS:S9 Bw WB PB BS n (jJ Bd Bl) (.slice yO l'.length wu) (.slice ov ps.length kv) w3.drew:=⟨x1,x2,x3,y4,y5⟩;refine aR (v:=?v0) 0 rfl (by kernel_rfl) (by kernel_rfl) (by kernel_rfl) (by kernel_rfl) (fun _ _ _ h=>h) hS (.inl ⟨rfl,fun w hw=>?hy0⟩) ?hr0
            case hy0=>obtain⟨g1,g2,g3,g4,g5⟩:=hw;go_simp;try with_reducible rfl
            simp only[Act.put,List.setIfInBounds_toArray];refine aR (v:=?v1) 1 rfl (by kernel_rfl) (by kernel_rfl) (by kernel_rfl) (by kernel_rfl) (fun _ _ _ h=>h) hS (.inl ⟨rfl,fun w hw=>?hy1⟩) ?hr1
            case hy1=>obtain⟨g1,g2,g3,g4,g5⟩:=hw;go_simp;try with_reducible rfl
            simp only[Act.put];refine aR (v:=?v2) 2 rfl (by kernel_rfl) (by kernel_rfl) (by kernel_rfl) (by kernel_rfl) (fun _ _ _ h=>h) hS (.inl ⟨rfl,fun w hw=>?hy2⟩) ?hr2
            case hy2=>obtain⟨g1,g2,g3,g4,g5⟩:=hw;go_simp;try with_reducible rfl
            simp only[Act.put];refine aR (v:=?v3) 3 rfl (by kernel_rfl) (by kernel_rfl) (by kernel_rfl) (by kernel_rfl) (fun _ _ _ h=>h) hS (.inl ⟨rfl,fun w hw=>?hy3⟩) ?hr3
            case hy3=>obtain⟨g1,g2,g3,g4,g5⟩:=hw;go_simp;try with_reducible rfl
            simp only[Act.put];refine aR (v:=?v4) 4 rfl (by kernel_rfl) (by kernel_rfl) (by kernel_rfl) (by kernel_rfl) (fun _ _ _ h=>h) hS (.inl ⟨rfl,fun w hw=>?hy4⟩) ?hr4
            case hy4=>obtain⟨g1,g2,g3,g4,g5⟩:=hw;go_simp;try with_reducible rfl
            simp only[Act.put];refine aR (v:=?v5) 5 rfl (by kernel_rfl) (by kernel_rfl) (by kernel_rfl) (by kernel_rfl) (fun _ _ _ h=>h) hS (.inl ⟨rfl,fun w hw=>?hy5⟩) ?hr5
            case hy5=>obtain⟨g1,g2,g3,g4,g5⟩:=hw;go_simp;try with_reducible rfl
            simp only[Act.put];refine aR (v:=?v6) 6 rfl (by kernel_rfl) (by kernel_rfl) (by kernel_rfl) (by kernel_rfl) (fun _ _ _ h=>h) hS (.inl ⟨rfl,fun w hw=>?hy6⟩) ?hr6
            case hy6=>obtain⟨g1,g2,g3,g4,g5⟩:=hw;go_simp;try with_reducible rfl
            simp only[Act.put];refine aR (v:=?v7) 7 rfl (by kernel_rfl) (by kernel_rfl) (by kernel_rfl) (by kernel_rfl) (fun _ _ _ h=>h) hS (.inl ⟨rfl,fun w hw=>?hy7⟩) ?hr7
            case hy7=>obtain⟨g1,g2,g3,g4,g5⟩:=hw;go_simp;try with_reducible rfl
            simp only[Act.put];refine aR (v:=?v8) 8 rfl (by kernel_rfl) (by kernel_rfl) (by kernel_rfl) (by kernel_rfl) (fun _ _ _ h=>h) hS (.inl ⟨rfl,fun w hw=>?hy8⟩) ?hr8
            case hy8=>obtain⟨g1,g2,g3,g4,g5⟩:=hw;go_simp;try with_reducible rfl
            simp only[Act.put];refine aR (v:=?v9) 9 rfl (by kernel_rfl) (by kernel_rfl) (by kernel_rfl) (by kernel_rfl) (fun _ _ _ h=>h) hS (.inl ⟨rfl,fun w hw=>?hy9⟩) ?hr9
            case hy9=>obtain⟨g1,g2,g3,g4,g5⟩:=hw;go_simp;try with_reducible rfl
            simp only[Act.put];refine aR (v:=?v10) 10 rfl (by kernel_rfl) (by kernel_rfl) (by kernel_rfl) (by kernel_rfl) (fun _ _ _ h=>h) hS (.inl ⟨rfl,fun w hw=>?a4c⟩) ?acu
            case a4c=>obtain⟨g1,g2,g3,g4,g5⟩:=hw;go_simp;try with_reducible rfl
            simp only[Act.put];refine aR (v:=?v11) 11 rfl (by kernel_rfl) (by kernel_rfl) (by kernel_rfl) (by kernel_rfl) (fun _ _ _ h=>h) hS (.inl ⟨rfl,fun w hw=>?a4d⟩) ?acv
            case a4d=>obtain⟨g1,g2,g3,g4,g5⟩:=hw;go_simp;try with_reducible rfl
            simp only[Act.put];refine aR (v:=?v12) 12 rfl (by kernel_rfl) (by kernel_rfl) (by kernel_rfl) (by kernel_rfl) (fun _ _ _ h=>h) hS (.inl ⟨rfl,fun w hw=>?a4e⟩) ?acw
            case a4e=>obtain⟨g1,g2,g3,g4,g5⟩:=hw;go_simp;try with_reducible rfl
            simp only[Act.put];refine aR (v:=?v13) 13 rfl (by kernel_rfl) (by kernel_rfl) (by kernel_rfl) (by kernel_rfl) (fun _ _ _ h=>h) hS (.inl ⟨rfl,fun w hw=>?acy⟩) ?aiV
            case acy=>obtain⟨g1,g2,g3,g4,g5⟩:=hw;go_simp;try with_reducible rfl
            simp only[Act.put];refine aR (v:=?v14) 14 rfl (by kernel_rfl) (by kernel_rfl) (by kernel_rfl) (by kernel_rfl) (fun _ _ _ h=>h) hS (.inl ⟨rfl,fun w hw=>?a4f⟩) ?acz
            case a4f=>obtain⟨g1,g2,g3,g4,g5⟩:=hw;go_simp;try with_reducible rfl
            simp only[Act.put];refine aR (v:=?v15) 15 rfl (by kernel_rfl) (by kernel_rfl) (by kernel_rfl) (by kernel_rfl) (fun _ _ _ h=>h) hS (.inl ⟨rfl,fun w hw=>?a4g⟩) ?acA
            case a4g=>obtain⟨g1,g2,g3,g4,g5⟩:=hw;go_simp;try with_reducible rfl
            simp only[Act.put];refine aR (v:=?v16) 16 rfl (by kernel_rfl) (by kernel_rfl) (by kernel_rfl) (by kernel_rfl) (fun _ _ _ h=>h) hS (.inl ⟨rfl,fun w hw=>?a4h⟩) ?acB
            case a4h=>obtain⟨g1,g2,g3,g4,g5⟩:=hw;go_simp;try with_reducible rfl
            simp only[Act.put];refine aR (v:=?v17) 17 rfl (by kernel_rfl) (by kernel_rfl) (by kernel_rfl) (by kernel_rfl) (fun _ _ _ h=>h) hS (.inl ⟨rfl,fun w hw=>?a4i⟩) ?acC
            case a4i=>obtain⟨g1,g2,g3,g4,g5⟩:=hw;go_simp;try with_reducible rfl
            simp only[Act.put];refine aR (v:=?v18) 18 rfl (by kernel_rfl) (by kernel_rfl) (by kernel_rfl) (by kernel_rfl) (fun _ _ _ h=>h) hS (.inl ⟨rfl,fun w hw=>?a4j⟩) ?acD
            case a4j=>obtain⟨g1,g2,g3,g4,g5⟩:=hw;go_simp;try with_reducible rfl
            simp only[Act.put];refine aR (v:=?v20) 20 rfl (by kernel_rfl) (by kernel_rfl) (by kernel_rfl) (by kernel_rfl) (fun _ _ _ h=>h) hS (.inl ⟨rfl,fun w hw=>?a4k⟩) ?acE
            case a4k=>obtain⟨g1,g2,g3,g4,g5⟩:=hw;go_simp;try with_reducible rfl
            simp only[Act.put];refine aR (v:=?v21) 21 rfl (by kernel_rfl) (by kernel_rfl) (by kernel_rfl) (by kernel_rfl) (fun _ _ _ h=>h) hS (.inl ⟨rfl,fun w hw=>?a4l⟩) ?acF
            case a4l=>obtain⟨g1,g2,g3,g4,g5⟩:=hw;go_simp;try with_reducible rfl
            simp only[Act.put];refine aR (v:=?v22) 22 rfl (by kernel_rfl) (by kernel_rfl) (by kernel_rfl) (by kernel_rfl) (fun _ _ _ h=>h) hS (.inl ⟨rfl,fun w hw=>?acG⟩) ?aiW
            case acG=>obtain⟨g1,g2,g3,g4,g5⟩:=hw;go_simp;try with_reducible rfl
            simp only[Act.put];refine aR (v:=?v23) 23 rfl (by kernel_rfl) (by kernel_rfl) (by kernel_rfl) (by kernel_rfl) (fun _ _ _ h=>h) hS (.inl ⟨rfl,fun w hw=>?acH⟩) ?aiX
            case acH=>obtain⟨g1,g2,g3,g4,g5⟩:=hw;go_simp;try with_reducible rfl
            simp only[Act.put];refine aR (v:=?v24) 24 rfl (by kernel_rfl) (by kernel_rfl) (by kernel_rfl) (by kernel_rfl) (fun _ _ _ h=>h) hS (.inl ⟨rfl,fun w hw=>?hy24⟩) ?aiY
            case hy24=>obtain⟨g1,g2,g3,g4,g5⟩:=hw;go_simp;try with_reducible rfl
            simp only[Act.put];refine aR (v:=?v25) 25 rfl (by kernel_rfl) (by kernel_rfl) (by kernel_rfl) (by kernel_rfl) (fun _ _ _ h=>h) hS (.inl ⟨rfl,fun w hw=>?hy25⟩) ?aiZ
            case hy25=>obtain⟨g1,g2,g3,g4,g5⟩:=hw;go_simp;try with_reducible rfl
            simp only[Act.put];refine aR (v:=?v26) 26 rfl (by kernel_rfl) (by kernel_rfl) (by kernel_rfl) (by kernel_rfl) (fun _ _ _ h=>h) hS (.inl ⟨rfl,fun w hw=>?acI⟩) ?aj0
            case acI=>obtain⟨g1,g2,g3,g4,g5⟩:=hw;go_simp;try with_reducible rfl
            simp only[Act.put];refine aR (v:=?v27) 27 rfl (by kernel_rfl) (by kernel_rfl) (by kernel_rfl) (by kernel_rfl) (fun _ _ _ h=>h) hS (.inl ⟨rfl,fun w hw=>?hy27⟩) ?aj1
            case hy27=>obtain⟨g1,g2,g3,g4,g5⟩:=hw;go_simp;try with_reducible rfl
            simp only[Act.put];refine jv 19 (by kernel_rfl) rfl (fun K hK=>?_);go_simp;go_wp2_with(go_at_call 49;refine(SRd _ (below_drewN (Below.refl _ _) 1)).mono ?_;rintro e w4 ⟨rfl,b4⟩);have bb4:Below w3.heap.size w3 w4:=az (below_drewN (Below.refl w3.heap.size w3) 1) b4;have hS4:S9 Bw WB PB BS n (jJ Bd Bl) (.slice yO l'.length wu) (.slice ov ps.length kv) w4:=KEEP w4 bb4;refine hK.out _ _ (fun _=>hS4) ?_;clear hK;refine jv 28 (by kernel_rfl) rfl (fun K hK=>?_);go_simp;go_wp2_with(go_at_call 49;refine(SLd _ bb4).mono ?_;rintro e w5 ⟨rfl,b5⟩);have bb5:=az bb4 b5;have hS5:S9 Bw WB PB BS n (jJ Bd Bl) (.slice yO l'.length wu) (.slice ov ps.length kv) w5:=KEEP w5 bb5;refine hK.out _ _ (fun _=>hS5) ?_;clear hK;refine jv 29 (by kernel_rfl) rfl (fun K hK=>?_);go_simp;go_wp2_with(go_at_call 192;refine(RLd _ bb5).mono ?_;rintro e w6 ⟨rfl,b6⟩);have bb6:=az bb5 b6;have hS6:S9 Bw WB PB BS n (jJ Bd Bl) (.slice yO l'.length wu) (.slice ov ps.length kv) w6:=KEEP w6 bb6;refine hK.out _ _ (fun _=>hS6) ?_;clear hK;refine aR (v:=?v30) 30 rfl (by kernel_rfl) (by kernel_rfl) (by kernel_rfl) (by kernel_rfl) (fun _ _ _ h=>h) hS6 (.inl ⟨rfl,fun w hw=>?acM⟩) ?aj2
            case acM=>obtain⟨g1,g2,g3,g4,g5⟩:=hw;go_simp;try with_reducible rfl
            simp only[Act.put];refine jv 31 (by kernel_rfl) rfl (fun K hK=>?_);go_simp;have hS7:S9 Bw WB PB BS n (jJ Bd Bl) (.slice yO l'.length wu) (.slice ov ps.length kv) (w6.alloc (.cells #[aa n,.slice yO l'.length wu,bV fill,bV rule,aa (Em level)] 138)):=⟨bO _ hS6.1,bO _ hS6.2.1,bO _ hS6.2.2.1,bO _ hS6.2.2.2.1,bO _ hS6.2.2.2.2⟩;have Le:=OW6 w6 bb6;have hs6:=bb6.size;have H0:=dh w6 #[aa n,.slice yO l'.length wu,bV fill,bV rule,aa (Em level)] 138;refine hK.out _ _ (fun _=>hS7) ?_;clear hK;refine jv 32 (by kernel_rfl) rfl (fun K hK=>?_);refine step_append_lies _ rfl (.tmp 57) (.tmp 84) 73 rfl base 138 i0 (.agg #[aa 0,.slice none 0 0,.string ⟨#[]⟩,.string ⟨#[]⟩,aa 0]) 5 72 underlying73 hi hz0 hz1 hz2 rfl (by decide) (.slice ov ps.length kv) ps.length (cellsS ps) rfl Le ⟨w6.heap.size,0,none⟩ 1 1 [aa n,.slice yO l'.length wu,bV fill,bV rule,aa (Em level)] rfl rfl (World.news_of_block H0) (fun u hu=>by simp at hu;rcases hu with rfl|rfl|rfl|rfl|rfl<;>rfl) (by decide) (by simp only[maxLen];omega) (by omega) (by simp;omega) _ rfl ?_;intro g7 nH w7 jQ lU Mm a2W;obtain⟨hS8,t6⟩:=A7 w6 bb6 w7 lU;have t5:=hS8.2.2.2.2;refine hK.out _ _ (fun _=>hS8) ?_;clear hK;simp only[Act.put];refine jv 33 (by kernel_rfl) rfl (fun K hK=>?_);go_simp;refine hK.out _ _ (fun _=>hS8) ?_;clear hK;refine jv 34 (by kernel_rfl) rfl (fun K hK=>?_);go_simp;refine hK.out _ _ (fun _=>hS8) ?_;clear hK;refine jv 35 (by kernel_rfl) rfl (fun K hK=>?_);go_simp;refine hK.out _ _ (fun h=>absurd rfl h) ?_;clear hK;refine Nl (by kernel_rfl) ?_ _;go_wp2_with fail;go_ret;have b37:=az acn.out (az bb6 (aW w6 (.cells #[aa n,.slice yO l'.length wu,bV fill,bV rule,aa (Em level)] 138)));obtain⟨r1,r2,r3⟩:=Sc.app (x:=⟨n,yO,wu,l',fill,rule,Em level⟩) HS.out b37 ((HB3.out.keep (az bb6 (aW w6 _))).low hbase) HR.out jQ lU Mm;exact⟨⟨rfl,ps++[⟨n,yO,wu,l',fill,rule,Em level⟩],_,by rw[List.map_append];rfl,r1,r3⟩,r2⟩
end
end
section
open Go.RowKit Go.Shelf
set_option maxHeartbeats 1000000
abbrev Np (f WB:Nat):Value:=.func (.func f) #[aj WB] #[]
abbrev shV (Br Bw:Nat):Value:=.func (.func 190) #[] #[aj Br,aj Bw]
def ByR (WB f:Nat)(W:World)(e:Ending)(w':World):Prop:=∃Br Bw,e=.returned (shV Br Bw)/\w'.cell? (ag Br 0)=some (Np f WB)/\w'.heap[Bw]? =some (.cells #[aj WB] 119)/\Below W.heap.size W w'
theorem yw (WB f:Nat)(W:World):ak 139 #[aj WB,Np f WB] W fun e w'=>ByR WB f W e w':=by
 have b0:=aW W (.cells #[aj WB] 119);have K0:=dh W #[aj WB] 119;have b1:=aW (W.alloc (.cells #[aj WB] 119)) (.cells #[Np f WB] 224);have K1:=dh (W.alloc (.cells #[aj WB] 119)) #[Np f WB] 224;have K2:=(b1.block _ (aN K0)).trans K0;rw[World.size_alloc] at K1;have HH:Hid (ByR WB f W (.returned (shV (W.heap.size+1) W.heap.size)) ((W.alloc (.cells #[aj WB] 119)).alloc (.cells #[Np f WB] 224))):=⟨_,_,rfl,aA K1 0 _ rfl,K2,az b0 b1⟩;clear b0 K0 b1 K1 K2;go_enter func139,ntmps139;go_wp2;go_ret;exact HH.out
section
variable (WB:Nat)(W:World)
theorem a0r:ak 96 #[aj WB,bV vB] W fun e w'=>ByR WB 140 W e w':=by
 have BY:=yw WB 140 W;unfold vB;go_enter func96,ntmps96;go_wp2_with(go_at_call 139;refine BY.mono ?_;rintro e w1 ⟨Br,Bw,rfl,h1,h2,h3⟩);go_ret;exact⟨Br,Bw,rfl,h1,h2,h3⟩
theorem WS:ak 96 #[aj WB,bV lZ] W fun e w'=>ByR WB 141 W e w':=by
 have BY:=yw WB 141 W;unfold lZ;go_enter func96,ntmps96;go_wp2_with(go_at_call 139;refine BY.mono ?_;rintro e w1 ⟨Br,Bw,rfl,h1,h2,h3⟩);go_ret;exact⟨Br,Bw,rfl,h1,h2,h3⟩
theorem RU:ak 96 #[aj WB,bV jf] W fun e w'=>e=.returned (Np 142 WB)/\w'=W:=by
 unfold jf;go_enter func96,ntmps96;go_wp2;go_ret;exact⟨rfl,rfl⟩
theorem a0s:ak 96 #[aj WB,bV wY] W fun e w'=>e=.returned (Np 143 WB)/\w'=W:=by
 unfold wY;go_enter func96,ntmps96;go_wp2;go_ret;exact⟨rfl,rfl⟩
theorem WU (nm:Bs)(h:l6 nm=false):ak 96 #[aj WB,bV nm] W fun e w'=>e=.returned .nilFunc/\w'=W:=by
 have h1:=eH nm vB;have h2:=eH nm lZ;have h3:=eH nm jf;have h4:=eH nm wY;have hh:(nm==vB)=false/\(nm==lZ)=false/\(nm==jf)=false/\(nm==wY)=false:=by
  unfold l6 at h;simp only[Bool.or_eq_false_iff] at h;exact⟨h.1.1.1,h.1.1.2,h.1.2,h.2⟩
 obtain⟨q1,q2,q3,q4⟩:=hh;rw[q1] at h1;rw[q2] at h2;rw[q3] at h3;rw[q4] at h4;unfold vB at h1 q1;unfold lZ at h2 q2;unfold jf at h3 q3;unfold wY at h4 q4;clear h;go_enter func96,ntmps96;go_wp2;go_ret;exact⟨rfl,rfl⟩
end
end
section
open Go.RowKit Go.Shelf
structure En (E:Nat->Addr)(B:Nat)(tg:kE)(W0:World)(DB MB:Nat)(p:Int->Option Nat)(M:Dm)(nx c:Nat)(r:Int->Nat)(l:List Rl)(B0:Nat)(rv:Value):Prop where
 ds:gN B tg W0 DB MB p M nx c r
 ne:NE E W0
 fit:MW M
 sz:SzD M
 ok:∀x∈l,RlG x
 row:W0.ownsRow B0 110 3 rv l.length (fH l)
structure lC (WB DB Bd Bl:Nat)(rv:Value)(W0:World)(k:Nat)(ps:List bZ)(v:Value)(V:World):Prop where
 low:Below W0.heap.size W0 V
 wb:W0.heap.size<=WB
 bd:V.heap[Bd]? =some (.cells #[aj DB] 52)
 bl:V.heap[Bl]? =some (.cells #[rv] 68)
 sc:Sc W0.heap.size WB DB (jJ Bd Bl) k ps v V
section
variable {WB DB Bd Bl:Nat}{rv:Value}{W0:World}{k k':Nat}{ps ps':List bZ}{v v':Value}{V V':World}
theorem lC.next (h:lC WB DB Bd Bl rv W0 k ps v V)(hk:Kw WB v V V')(hs:Sc W0.heap.size WB DB (jJ Bd Bl) k' ps' v' V'):lC WB DB Bd Bl rv W0 k' ps' v' V':=
 ⟨h.low.trans (Sc.low h.sc hk h.wb h.low.size),h.wb,h.sc.keep hk h.bd (by decide) (by decide),h.sc.keep hk h.bl (by decide) (by decide),hs⟩
theorem lC.below (h:lC WB DB Bd Bl rv W0 k ps v V)(hb:Below V.heap.size V V'):lC WB DB Bd Bl rv W0 k ps v V':=h.next (Kw.of_below hb) (h.sc.below hb)
theorem lC.ints (h:lC WB DB Bd Bl rv W0 k ps v V)(hk:Kw WB v V V'){b n:Nat}{u:Value}{xs:List Value}(ho:V.ownsRow b 3 1 u n xs):V'.ownsRow b 3 1 u n xs:=
 bS ho fun g hg=>by
  obtain⟨cs,f,h1, -⟩:=dJ ho g hg;rw[h1];exact h.sc.keep hk h1 (by decide) (by decide)
end
theorem fold_at {α β ε:Type}(g:β->α->Except ε β)(l:List α)(s s':β)(j:Nat)(h:(l.take j).foldlM g s=.ok s'):l.foldlM g s=(l.drop j).foldlM g s':=by
 conv=>lhs;rw[<- List.take_append_drop j l]
 rw[List.foldlM_append,h];rfl
theorem RV {α β ε:Type}(g:β->α->Except ε β)(l:List α)(s s' s'':β)(j:Nat)(x:α)(h:(l.take j).foldlM g s=.ok s')(hx:l[j]? =some x)(h2:g s' x=.ok s''):(l.take (j+1)).foldlM g s=.ok s'':=by
 rw[List.take_add_one,hx,List.foldlM_append,h];show([x].foldlM g s')=_;rw[List.foldlM_cons,h2];rfl
theorem WV {α β ε:Type}(g:β->α->Except ε β)(l:List α)(s s':β)(j:Nat)(x:α)(e:ε)(h:(l.take j).foldlM g s=.ok s')(hx:l[j]? =some x)(h2:g s' x=.error e):l.foldlM g s=.error e:=by
 obtain⟨hj,hx'⟩:=List.getElem?_eq_some_iff.1 hx;rw[fold_at g l s s' j h,List.drop_eq_getElem_cons hj,List.foldlM_cons,hx',h2];rfl
theorem xz {α:Type}(g:Nat×List Pc->α->Except Ft (Nat×List Pc))(hg:∀s x s',g s x=.ok s'->s.1<=s'.1):∀(l:List α) (s s':Nat×List Pc),l.foldlM g s=.ok s'->s.1<=s'.1
 |[],s,s',h=>by cases h;exact Nat.le_refl _
 |x::l,s,s',h=>by
  rw[List.foldlM_cons] at h;cases hx:g s x with
  |error e=>rw[hx] at h;cases h
  |ok t=>
   rw[hx] at h;exact Nat.le_trans (hg s x t hx) (xz g hg l t s' h)
theorem xA (M:Dm)(l:List Rl):∀(f:Nat) (n:Int) (path:List Int) (m:Mv) (st s':Nat×List Pc),dm M l f n path m st=.ok s'->st.1<=s'.1
 |0,n,path,m,st,s',h=>by
  unfold dm at h;split at h<;>cases h
 |f+1,n,path,m,st,s',h=>by
  unfold dm at h;split at h
  ·cases h
  split at h
  ·cases h
  split at h
  ·cases h;exact Nat.le_succ _
  have PC:∀(m':Mv) (x:Except Nat (List Qt)),gK M l n m' x (st.1+1,st.2)=.ok s'->st.1<=s'.1:=fun m' x h=>by
   unfold gK at h;split at h
   ·cases h
   ·split at h
    ·cases h
    ·split at h<;>cases h<;>exact Nat.le_succ _
  split at h
  ·cases h
  ·split at h
   ·exact PC _ _ h
   ·split at h
    ·exact PC _ _ h
    ·split at h
     ·exact Nat.le_trans (Nat.le_succ _) (xz _ (fun s x s' h=>xA M l f x _ _ s s' h) _ (st.1+1,st.2) s' h)
     ·split at h
      ·cases h
      ·exact Nat.le_trans (Nat.le_succ _) (xA M l f _ _ _ (st.1+1,st.2) s' h)
theorem BV {α:Type}(g:Nat×List Pc->α->Except Ft (Nat×List Pc))(hg:∀s x s',g s x=.ok s'->s.2.length<=s.1->s'.2.length<=s'.1):∀(l:List α) (s s':Nat×List Pc),l.foldlM g s=.ok s'->s.2.length<=s.1->s'.2.length<=s'.1
 |[],s,s',h,h0=>by cases h;exact h0
 |x::l,s,s',h,h0=>by
  rw[List.foldlM_cons] at h;cases hx:g s x with
  |error e=>rw[hx] at h;cases h
  |ok t=>
   rw[hx] at h;exact BV g hg l t s' h (hg s x t hx h0)
theorem qY (M:Dm)(l:List Rl):∀(f:Nat) (n:Int) (path:List Int) (m:Mv) (st s':Nat×List Pc),dm M l f n path m st=.ok s'->st.2.length<=st.1->s'.2.length<=s'.1
 |0,n,path,m,st,s',h,_=>by
  unfold dm at h;split at h<;>cases h
 |f+1,n,path,m,st,s',h,h0=>by
  unfold dm at h;split at h
  ·cases h
  split at h
  ·cases h
  split at h
  ·cases h;exact Nat.le_succ_of_le h0
  have PC:∀(m':Mv) (x:Except Nat (List Qt)),gK M l n m' x (st.1+1,st.2)=.ok s'->s'.2.length<=s'.1:=fun m' x h=>by
   unfold gK at h;split at h
   ·cases h
   ·split at h
    ·cases h
    ·split at h
     ·cases h;exact Nat.le_succ_of_le h0
     ·cases h;rw[List.length_append];exact Nat.succ_le_succ h0
  split at h
  ·cases h
  ·split at h
   ·exact PC _ _ h
   ·split at h
    ·exact PC _ _ h
    ·split at h
     ·exact BV _ (fun s x s' h=>qY M l f x _ _ s s' h) _ (st.1+1,st.2) s' h (Nat.le_succ_of_le h0)
     ·split at h
      ·cases h
      ·exact qY M l f _ _ _ (st.1+1,st.2) s' h (Nat.le_succ_of_le h0)
theorem vR {M:Dm}{n:Int}{m m':Mv}(hm:m.ok)(h:iG M n m=.ok m'):m'.ok:=by
 unfold iG at h;split at h
 ·cases h
 ·next h1=>
  split at h
  ·next h2=>
   cases h;exact((wM (JQ (by omega)) hm).2 h2).1
  ·cases h
theorem a4n (p:Rl->Bool):∀(l:List Rl),(∀x∈l,LM x)->(yH p l).1.length<=12:=fun l=>by
 have key:∀(l:List Rl) (a:Bs×Bool×Nat),(∀x∈l,LM x)->a.1.length<=12->(l.foldl (j5 p) a).1.length<=12:=fun l=>by
  induction l with
  |nil=>intro a _ ha;exact ha
  |cons x l ih=>
   intro a hl ha;refine ih _ (fun y hy=>hl y (by simp[hy])) ?_;have hv:=(hl x (by simp)).2.2.1;unfold Ue at hv;simp only[Bool.and_eq_true,decide_eq_true_eq] at hv;by_cases h1:a.2.2<=Ye x.wh
   ·cases h2:p x with
    |true=>rw[zY h1 h2];exact hv.1.2
    |false=>rw[DJ h2];exact ha
   ·rw[zX h1];exact ha
 intro hl;exact key l _ hl (by simp)
theorem WW {M:Dm}{l:List Rl}(hz:SzD M)(hl:∀x∈l,LM x)(nm:Bs)(n:Int):(ofM M l nm n).length<=200:=by
 have F:(firstM nm).length<=200:=by
  unfold firstM
  repeat' split
  all_goals decide
 have key:∀(f:Nat) (n:Int),(DR M l nm f n).length<=200:=fun f=>by
  induction f with
  |zero=>intro n;exact F
  |succ f ih=>
   intro n;unfold DR;split
   ·exact F
   ·split
    ·next v hv=>
     unfold sM at hv;split at hv
     ·next v' ha=>cases hv;exact Gh hz ha
     ·split at hv
      ·cases hv;exact Nat.le_trans (a4n _ l hl) (by omega)
      ·cases hv
    ·split
     ·exact ih _
     ·exact F
 unfold ofM;split
 ·exact key 12 n
 ·simp
section
variable {E:Nat->Addr}{B:Nat}{tg:kE}{W0:World}{DB MB:Nat}{p:Int->Option Nat}{M:Dm}{nx c:Nat}{r:Int->Nat}{l:List Rl}{B0:Nat}{rv:Value}{WB Bd Bl:Nat}
theorem En.style (h:En E B tg W0 DB MB p M nx c r l B0 rv){k:Nat}{ps:List bZ}{v:Value}{V:World}(hw:lC WB DB Bd Bl rv W0 k ps v V)(n:Int)(hn:dH n)(nm:Bs):
  ak 49 #[aa n,bV nm,aj Bd,aj Bl] V fun e w'=>e=.returned (bV (ofM M l nm n))/\Below V.heap.size V w':=
 RI (h.ds.below hw.low).w h.ds.d h.fit l h.ok B0 rv (aK h.row hw.low) Bd Bl (aA hw.bd 0 _ rfl) (aA hw.bl 0 _ rfl) n hn nm
def COME (E:Nat->Addr)(WB DB Bd Bl:Nat)(rv:Value)(W0:World)(M:Dm)(l:List Rl)(f:Nat):Prop:=∀(k:Nat) (ps:List bZ) (v:Value) (V:World) (n n0:Int) (m:Mv) (path:List (Int×Mv)) (q:Nat),101<=f+k->ps.length<=k->dH n->lC WB DB Bd Bl rv W0 k ps v V->aU V (some q) ((n0,m)::path)->m.ok->
 ak 51 #[aj WB,aa n,aj q] V fun e w'=>dK E W0.heap.size WB DB (jJ Bd Bl) v V (dm M l f n (n0::path.map Prod.fst) m (k,ps.map bZ.pc)) e w'/\Kw WB v V w'
def GrL (WB DB Bd Bl:Nat)(rv:Value)(W0:World)(V:World)(v:Value)(g:Nat×List Pc->Int->Except Ft (Nat×List Pc))(ks:List Int)(s:Nat×List Pc)(j:Nat)(wr:World):Prop:=∃ps' v',(ks.take j).foldlM g s=.ok ps'/\∃qs,qs.map bZ.pc=ps'.2/\lC WB DB Bd Bl rv W0 ps'.1 qs v' wr/\Kw WB v V wr/\(v'.ownBlock=v.ownBlock\/∀b,v'.ownBlock=some b->V.heap.size<=b)
end
end
section
open Go.RowKit Go.Shelf
set_option maxHeartbeats 4000000
set_option maxRecDepth 20000
section
variable {E:Nat->Addr}{B:Nat}{tg:kE}{W0:World}{DB MB:Nat}{p:Int->Option Nat}{M:Dm}{nx c:Nat}{r:Int->Nat}{l:List Rl}{B0:Nat}{rv:Value}{WB Bd Bl:Nat}
theorem a0t (h:En E B tg W0 DB MB p M nx c r l B0 rv)(n:Int):(∀x∈pO M n,dH x)/\(pO M n).length<=100:=by
 unfold pO;cases hm:M n with
 |none=>exact⟨fun x hx=>(by cases hx),Nat.zero_le _⟩
 |some e=>exact⟨(h.ds.w.wf n e hm).2,h.ds.few hm⟩
theorem vS {v v' v2:Value}{V wr:World}(h:v'.ownBlock=v.ownBlock\/∀b,v'.ownBlock=some b->V.heap.size<=b)(h2:v2.ownBlock=v'.ownBlock\/∀b,v2.ownBlock=some b->wr.heap.size<=b)(hs:V.heap.size<=wr.heap.size):v2.ownBlock=v.ownBlock\/∀b,v2.ownBlock=some b->V.heap.size<=b:=by
 rcases h2 with e|e
 ·rw[e];exact h
 ·exact .inr fun b hb=>Nat.le_trans hs (e b hb)
theorem Di (h:En E B tg W0 DB MB p M nx c r l B0 rv)(f:Nat)(hC:COME E WB DB Bd Bl rv W0 M l f)(k:Nat)(ps:List bZ)(v:Value)(V:World)(n:Int)(m:Mv)(path:List (Int×Mv))(q:Nat)(hf:101<=f+k)(RZ:ps.length<=k)(hn:dH n)(hw:lC WB DB Bd Bl rv W0 k ps v V)(hp:aU V (some q) ((n,m)::path))(hm:m.ok):
  ak 142 #[aj WB,aj q] V fun e w'=>dK E W0.heap.size WB DB (jJ Bd Bl) v V ((dm.Vo M n).foldlM (fun s x=>dm M l f x (n::path.map Prod.fst) m s) (k,ps.map bZ.pc)) e w'/\Kw WB v V w':=by
 obtain⟨hkw,hkl⟩:=a0t h n;have hwd:=hw.below (below_drewN (Below.refl V.heap.size V) 1);have KD:=VX (h.ds.below hwd.low).w n hn (by omega);have HC:Hid (COME E WB DB Bd Bl rv W0 M l f):=hC;have HW:Hid (lC WB DB Bd Bl rv W0 k ps v V):=hw;have HP:Hid (aU V (some q) ((n,m)::path)):=hp;have HM:Hid m.ok:=hm;have HKW:Hid (∀x∈pO M n,dH x):=hkw;have w0:=aA hw.sc.wb 0 _ rfl;have q0:V.cell? (ag q 0)=some (aa n):=by
  obtain⟨b,q',h1,h2, -⟩:=hp;cases h1;exact aA h2 0 _ rfl
 obtain⟨g,hg⟩:∃g:Nat×List Pc->Int->Except Ft (Nat×List Pc),(fun s x=>dm M l f x (n::path.map Prod.fst) m s)=g:=⟨_,rfl⟩;rw[hg];have HG:Hid ((fun s x=>dm M l f x (n::path.map Prod.fst) m s)=g):=hg;have hgr:Hid (∀(L:List Int) (s s':Nat×List Pc),L.foldlM g s=.ok s'->s.1<=s'.1):=(fun L s s' h=>xz g (fun s x s' hs=>xA M l f x _ m s s' (by rw[<- hg] at hs;exact hs)) L s s' h:∀(L:List Int) (s s':Nat×List Pc),L.foldlM g s=.ok s'->s.1<=s'.1);have hfw:Hid (∀(L:List Int) (s':Nat×List Pc),L.foldlM g (k,ps.map bZ.pc)=.ok s'->s'.2.length<=s'.1):=(fun L s' h=>BV g (fun s x s' hs=>qY M l f x _ m s s' (by rw[<- hg] at hs;exact hs)) L (k,ps.map bZ.pc) s' h (by simpa using RZ):∀(L:List Int) (s':Nat×List Pc),L.foldlM g (k,ps.map bZ.pc)=.ok s'->s'.2.length<=s'.1);show Calls _ _ _ _ fun e w'=>dK E W0.heap.size WB DB (jJ Bd Bl) v V ((pO M n).foldlM g (k,ps.map bZ.pc)) e w'/\Kw WB v V w';generalize pO M n=ks at KD HKW hkl⊢;clear hkw hw hp hm hC hg hwd;go_enter func142,ntmps142;go_upto_region 1 with fail
 go_region_held3 (fun w'=>w'.cell? (ag WB 0)=some (aj DB)/\w'.cell? (ag q 0)=some (aa n)) (first|exact⟨w0,q0⟩|exact⟨z1,z2⟩) (first|(go_at_call 196;refine KD.mono ?_;rintro e w1 ⟨ok,kk,rfl,hown,hb1⟩;have z1:=(hb1.cell (ay (w:=V.drew) w0)).trans w0;have z2:=(hb1.cell (ay (w:=V.drew) q0)).trans q0))
 all_goals
  have Yt:Below V.heap.size V w1:=⟨hb1.os,hb1.tape,hb1.output,hb1.size,hb1.block⟩;have W1:Hid (lC WB DB Bd Bl rv W0 k ps v w1):=(HW.out.below Yt:lC WB DB Bd Bl rv W0 k ps v w1);have HO:Hid (w1.ownsRow V.drew.heap.size 3 1 (.slice ok ks.length kk) ks.length (bY ks)):=hown;clear hown hb1 KD w0 q0;have hcap:(ks.length:Int)<=(kk:Int):=by
   obtain⟨o',c',h1,h2, -⟩:=bA HO.out;cases h1;omega
  clear z1 z2;go_wp2_with fail
  go_loopw [18] (fun y wr=>∃j:Nat,j<=ks.length/\y=aa j/\GrL WB DB Bd Bl rv W0 w1 v g ks (k,ps.map bZ.pc) j wr) (fun y _=>ks.length-(intOf y).toNat)
  case atStart=>exact⟨0,Nat.zero_le _,rfl,(k,ps.map bZ.pc),v,rfl,ps,rfl,W1.out,Kw.refl _ _ _,.inl rfl⟩
  case round=>
   obtain⟨j,hj,rfl,st,v',hfo,qs,hqs,hwk,hkw,hloc⟩:=hrel;have HFO:Hid ((ks.take j).foldlM g (k,ps.map bZ.pc)=.ok st):=hfo;have HQS:Hid (qs.map bZ.pc=st.2):=hqs;have Nq:Hid (lC WB DB Bd Bl rv W0 st.1 qs v' wr):=hwk;have HK:Hid (Kw WB v w1 wr):=hkw;have HL:Hid (v'.ownBlock=v.ownBlock\/∀b,v'.ownBlock=some b->w1.heap.size<=b):=hloc;clear hfo hqs hwk hkw hloc;by_cases hlt:j<ks.length
   ·have hlt':(j:Int)<(ks.length:Int):=by omega
    obtain⟨x,hx, -⟩:=drop_at hlt;have HX:Hid (ks[j]? =some x):=hx;have hOr:=W1.out.ints HK.out HO.out;obtain⟨gb,c0⟩:∃gb,ok=some ⟨gb,0,none⟩/\wr.cell? (ag gb j)=some (aa x):=by
     rcases ints_at hOr with⟨h1, -⟩|⟨gb,cap,h1, -,h3⟩
     ·rw[h1] at hlt;simp at hlt
     ·cases h1;exact⟨gb,rfl,h3 j x hx⟩
    obtain⟨rfl,c0⟩:=c0;clear hOr;have hcnt:=hgr.out _ _ _ HFO.out;have hqf:qs.length<=st.1:=by
     have:=hfw.out _ _ HFO.out;rw[<- HQS.out,List.length_map] at this;exact this
    have hpt:aU wr (some q) ((n,m)::path):=W1.out.sc.path HK.out (HW.out.sc.path (Kw.of_below Yt) HP.out);have CM:=HC.out st.1 qs v' wr x n m path q (by simp only at hcnt;omega) hqf (HKW.out x (List.mem_of_getElem? hx)) Nq.out hpt HM.out;have hst:(st.1,qs.map bZ.pc)=st:=by rw[HQS.out]
    rw[hst] at CM;obtain⟨res,hres⟩:∃res,dm M l f x (n::path.map Prod.fst) m st=res:=⟨_,rfl⟩;rw[hres] at CM;have a8q:Hid (g st x=res):=by
     have h2:g st x=dm M l f x (n::path.map Prod.fst) m st:=by rw[<- HG.out]
     exact h2.trans hres
    clear hres hst hpt hcnt hx;cases res with
    |error ft=>
     have CM':ak 51 #[aj WB,aa x,aj q] wr fun e w'=>∃pb,e=.returned (.iface 113 (aj pb))/\Hid (Tz E ft wr.heap.size (.iface 113 (aj pb)) w'/\Kw WB v' wr w'):=CM.mono fun e w' ⟨⟨u,h1,h2⟩,h3⟩=>by
      obtain⟨pb,h4,rfl,h5⟩:=h2;exact⟨pb,h1,⟨pb,h4,rfl,h5⟩,h3⟩
     clear CM;go_wp2_with(go_at_call 51;refine CM'.mono ?_;rintro e w2 ⟨pb,rfl,h2⟩);go_ret;obtain⟨h2,h3⟩:=h2.out;have h4:=WV g ks _ _ j x ft HFO.out HX.out a8q.out;rw[h4];have hs1:=Yt.size;have hs2:=HK.out.size;exact⟨⟨_,rfl,h2.low (by omega)⟩,(Kw.of_below Yt).trans (.inl rfl) (HK.out.trans HL.out h3)⟩
    |ok s2=>
     have CM':ak 51 #[aj WB,aa x,aj q] wr fun e w'=>e=.returned .nilIface/\Hid ((∃ps2 v2,ps2.map bZ.pc=s2.2/\Sc W0.heap.size WB DB (jJ Bd Bl) s2.1 ps2 v2 w'/\(v2.ownBlock=v'.ownBlock\/∀b,v2.ownBlock=some b->wr.heap.size<=b))/\Kw WB v' wr w'):=CM.mono fun e w' ⟨⟨h1,h2⟩,h3⟩=>⟨h1,h2,h3⟩;clear CM;go_wp2_with(go_at_call 51;refine CM'.mono ?_;rintro e w2 ⟨rfl,h2⟩)
     go_roundw
     case rel=>
      obtain⟨⟨ps2,v2,h3,h4,h5⟩,h6⟩:=h2.out;exact⟨j+1,by omega,by go_num,s2,v2,RV g ks _ _ _ j x HFO.out HX.out a8q.out,ps2,h3,Nq.out.next h6 h4,HK.out.trans HL.out h6,vS HL.out h5 HK.out.size⟩
     case measure=>simp[intOf];omega
   ·obtain rfl:j=ks.length:=by omega
    have hge:¬(ks.length:Int)<(ks.length:Int):=by omega
    go_wp2_with fail;go_ret;have h1:=HFO.out;rw[List.take_length] at h1;rw[h1];exact⟨⟨rfl,qs,v',HQS.out,Nq.out.sc,vS (.inl rfl) HL.out Yt.size⟩,(Kw.of_below Yt).trans (.inl rfl) HK.out⟩
theorem Ka (h:En E B tg W0 DB MB p M nx c r l B0 rv)(f:Nat)(hC:COME E WB DB Bd Bl rv W0 M l f)(k:Nat)(ps:List bZ)(v:Value)(V:World)(n:Int)(m:Mv)(path:List (Int×Mv))(q:Nat)(hf:101<=f+k)(RZ:ps.length<=k)(hn:dH n)(hw:lC WB DB Bd Bl rv W0 k ps v V)(hp:aU V (some q) ((n,m)::path))(hm:m.ok):
  ak 143 #[aj WB,aj q] V fun e w'=>dK E W0.heap.size WB DB (jJ Bd Bl) v V (match Jo M n with|none=>.error ⟨10,n⟩|some x=>dm M l f x (n::path.map Prod.fst) m (k,ps.map bZ.pc)) e w'/\Kw WB v V w':=by
 have LD:=RH (h.ds.below hw.low) WB (aA hw.sc.wb 0 _ rfl) n hn;have q0:V.cell? (ag q 0)=some (aa n):=by
  obtain⟨b,q',h1,h2, -⟩:=hp;cases h1;exact aA h2 0 _ rfl
 have hwf:∀x,Jo M n=some x->dH x:=fun x hx=>by
  unfold Jo at hx;split at hx
  ·cases hx
  ·exact WL h.ds x (List.mem_of_find?_eq_some hx)
 have e10:=(h.ne.below hw.low).c10;cases hl:Jo M n with
 |none=>
  rw[hl] at LD;have K10:∀V',Below V.heap.size V V'->V'.cell? (ag 8 0)=some (eV (E 10))/\V'.cell? (ag q 0)=some (aa n):=fun V' hb=>⟨(hb.cell (ay e10)).trans e10,(hb.cell (ay q0)).trans q0⟩;clear hC hf hw hp hm h hwf hl;go_enter func143,ntmps143;go_upto_region 3 with(go_at_call 197;refine LD.mono ?_;rintro e w1 ⟨he,hb1⟩;obtain rfl:e=.returned (.tuple #[aa 0,.bool false]):=he;obtain⟨k1,k2⟩:=K10 w1 hb1);go_region
  all_goals
   go_wp2;go_ret;exact⟨⟨_,rfl,w1.heap.size,hb1.size,rfl,dh _ _ _⟩,Kw.of_below (az (hb1.trans (below_drewN (Below.refl _ _) 1)) (aW _ _))⟩
 |some x=>
  rw[hl] at LD;have HC:Hid (∀w1,Below V.heap.size V w1->ak 51 #[aj WB,aa x,aj q] w1 fun e w'=>dK E W0.heap.size WB DB (jJ Bd Bl) v w1 (dm M l f x (n::path.map Prod.fst) m (k,ps.map bZ.pc)) e w'/\Kw WB v w1 w'):=(fun w1 hb=>hC k ps v w1 x n m path q hf RZ (hwf x hl) (hw.below hb) (hw.sc.path (Kw.of_below hb) hp) hm:∀w1,Below V.heap.size V w1->ak 51 #[aj WB,aa x,aj q] w1 fun e w'=>dK E W0.heap.size WB DB (jJ Bd Bl) v w1 (dm M l f x (n::path.map Prod.fst) m (k,ps.map bZ.pc)) e w'/\Kw WB v w1 w');clear hC hf hw hp hm h hwf hl e10;simp only;generalize dm M l f x (n::path.map Prod.fst) m (k,ps.map bZ.pc)=res at HC⊢;go_enter func143,ntmps143;go_wp2_with(first|(go_at_call 197;refine LD.mono ?_;rintro e w1 ⟨he,hb1⟩;obtain rfl:e=.returned (.tuple #[aa x,.bool true]):=he;have CM:=HC.out w1 hb1)|(go_at_call 51;refine CM.mono ?_;rintro e w2 ⟨h1,h2⟩;obtain⟨u,rfl⟩:∃u,e=.returned u:=(by cases res with|error ft=>(obtain⟨u,h3, -⟩:=h1;exact⟨u,h3⟩)|ok s2=>exact⟨_,h1.1⟩)));go_ret;refine⟨?_,(Kw.of_below hb1).trans (.inl rfl) h2⟩;cases res with
  |error ft=>obtain⟨u',h3,h4⟩:=h1;cases h3;exact⟨_,rfl,h4.low hb1.size⟩
  |ok s2=>
   obtain⟨h3,ps2,v2,h4,h5,h6⟩:=h1;exact⟨h3,ps2,v2,h4,h5,vS (.inl rfl) h6 hb1.size⟩
end
end
end Go.Proofs.YtjfiehbcamfdfaaGreatDoor
